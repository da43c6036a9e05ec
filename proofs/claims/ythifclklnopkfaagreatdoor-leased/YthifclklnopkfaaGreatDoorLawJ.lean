import Derived.Test.YthifclklnopkfaaGreatDoorLawD
import Derived.Test.YthifclklnopkfaaGreatDoorLawE
import Derived.Test.YthifclklnopkfaaGreatDoorLawF
import Derived.Test.YthifclklnopkfaaGreatDoorLawG
import Derived.Test.YthifclklnopkfaaGreatDoorPair
/-
  What holds ahead of and behind each step; a request keeps it.
-/
namespace Go.Proofs
open Go.RowKit Go.Sort Go.Lib Go.Shelf Go.Maps

structure Tryz.Inv (w0 : World) (B N wb hb : Nat) (W : World) : Prop where
  bel : Below B w0 W
  hB : B ≤ W.heap.size
  b6 : 6 ≤ B
  bw : B ≤ wb
  ex : ∃ db rb vb mt ml ra g cap vx tn ln tks lks L, Tryz.Sys W hb db rb vb mt ml vx 7 tn ln tks lks ∧ Tryz.RVAt B W ra g cap L 7 ((tn + 1 : Nat) : Int) ((ln + 1 : Nat) : Int) ∧ Rel tks lks L ∧ BoxN W wb 48 #[.pointer (some ⟨hb, 0, none⟩), .pointer (some ⟨ra, 0, none⟩), .pointer none, .bool false, .bool false] ∧
    (tks.length ≤ 10 ∧ lks.length ≤ 14 ∧ tn ≤ N ∧ ln ≤ N ∧ 0 < tks.length) ∧ (B ≤ db ∧ B ≤ vb ∧ B ≤ mt ∧ B ≤ ml ∧ ∀ l ∈ lks, B ≤ l.blk)
theorem Tryz.Inv.below {w0 : World} {B N wb hb : Nat} {W W' : World} (h : Tryz.Inv w0 B N wb hb W) (hb' : Below W.heap.size W W') : Tryz.Inv w0 B N wb hb W' := by
  obtain ⟨db, rb, vb, mt, ml, ra, g, cap, vx, tn, ln, tks, lks, L, h1, h2, h3, h4, h5, h6⟩ := h.ex
  exact ⟨h.bel.trans (hb'.mono h.hB), Nat.le_trans h.hB hb'.size, h.b6, h.bw, ⟨db, rb, vb, mt, ml, ra, g, cap, vx, tn, ln, tks, lks, L, h1.below hb', h2.below hb', h3, h4.below hb' h4.lt, h5, h6⟩⟩
theorem Tryz.Inv.more {w0 : World} {B N wb hb : Nat} {W : World} (h : Tryz.Inv w0 B N wb hb W) {M : Nat} (hM : N ≤ M) : Tryz.Inv w0 B M wb hb W := by
  obtain ⟨db, rb, vb, mt, ml, ra, g, cap, vx, tn, ln, tks, lks, L, h1, h2, h3, h4, ⟨a, b, c, d, e⟩, h6⟩ := h.ex
  exact ⟨h.bel, h.hB, h.b6, h.bw, ⟨db, rb, vb, mt, ml, ra, g, cap, vx, tn, ln, tks, lks, L, h1, h2, h3, h4, ⟨a, b, by omega, by omega, e⟩, h6⟩⟩

/-- Told of no error, of one. -/
theorem Tryz.toldK (k : Int) (hk : k = 0 ∨ ErrK k) (W : World) (h : Tryz.ErrT W) : Calls Tryz.prog 29 #[Tryz.errV k] W fun e w' => e = .returned (.int .i64 k) ∧ Below W.heap.size W w' := by
  rcases hk with rfl | hk
  · exact Tryz.told_nil W
  · have hz : k ≠ 0 := by rcases hk with rfl | rfl | rfl | rfl | rfl <;> decide
    rw [Tryz.errV_nz hz]
    exact Tryz.told k hk W h

theorem Tryz.After.inv {w0 w w' : World} {B N wb hb db rb vb mt ml : Nat} {vx : VX} {Q : Nat → Nat → List TokE → List LeaE → Prop} {Q2 : List ThingD → Int → Int → Prop} {bs : List Nat} (hA : Tryz.After w B wb hb db rb vb mt ml vx 7 Q Q2 bs w') (hbel : Below B w0 w) (hB : B ≤ w.heap.size) (b6 : 6 ≤ B) (bw : B ≤ wb) (hbs : ∀ x ∈ bs, B ≤ x) (hlow : B ≤ db ∧ B ≤ vb ∧ B ≤ mt ∧ B ≤ ml)
    (hQ : ∀ tn ln tks lks L tr lr, Q tn ln tks lks → Q2 L tr lr → Rel tks lks L ∧ tr = ((tn + 1 : Nat) : Int) ∧ lr = ((ln + 1 : Nat) : Int) ∧ (tks.length ≤ 10 ∧ lks.length ≤ 14 ∧ tn ≤ N ∧ ln ≤ N ∧ 0 < tks.length) ∧ ∀ l ∈ lks, B ≤ l.blk) : Tryz.Inv w0 B N wb hb w' := by
  obtain ⟨tn, ln, tks, lks, L, tr, lr, nb, g, cap, q1, q2, hS, hR, hW⟩ := hA.ex
  obtain ⟨r1, rfl, rfl, r4, r5⟩ := hQ _ _ _ _ _ _ _ q1 q2
  have hbl : Below B w w' := hA.sp.below hB (fun b hb => by
    rcases List.mem_cons.1 hb with rfl | hb
    · exact bw
    · rcases List.mem_cons.1 hb with rfl | hb
      · exact hlow.1
      · exact hbs b hb)
  exact ⟨hbel.trans hbl, Nat.le_trans hB hbl.size, b6, bw, ⟨db, rb, vb, mt, ml, nb, g, cap, vx, tn, ln, tks, lks, L, hS, hR, r1, hW, r4, ⟨hlow.1, hlow.2.1, hlow.2.2.1, hlow.2.2.2, r5⟩⟩⟩

set_option maxHeartbeats 1000000 in
theorem Tryz.okToken {w0 : World} {B N wb hb : Nat} (w : World) (hI : Tryz.Inv w0 B N wb hb w) (hN : N < 1000000) (ss tt : List UInt8) (hss : ss.length ≤ 1000000) (aa bb ff fl fu ke pa : Int) :
    Calls Tryz.prog 40 #[.pointer (some ⟨wb, 0, none⟩), .agg (StepD.cells ⟨1, ss, tt, aa, bb, ff, fl, fu, ke, pa⟩)] w fun e w' => e = .returned (.bool true) ∧ Tryz.Inv w0 B (N + 1) wb hb w' := by
  obtain ⟨db, rb, vb, mt, ml, ra, g, cap, vx, tn, ln, tks, lks, L, hS, hR, hl, hW, ⟨hn1, hn2, hn3, hn4, hn5⟩, hlow, hlb1, hlb2, hlb3, hlb4⟩ := hI.ex
  have hpos : 0 < L.length := by rw [hl.len]; omega
  have b6 := hI.b6
  have bw := hI.bw
  rcases liveI_cases 7 ss true L with ⟨i, t, ht, hid, htk, hst, hli⟩ | hli
  · have hm := List.mem_of_getElem? ht
    obtain ⟨a, ha, hat⟩ := hl.tok_mem hm htk
    have hp := liveI_hit (L := L) hid htk (hl.num hS.v.va.ok hm) hli
    have hFt : ∀ W, Tryz.VFull W vb mt ml vx 7 tn ln tks lks → ∀ W', Below W.heap.size W W' → Calls Tryz.prog 90 #[.pointer (some ⟨vb, 0, none⟩), nmV (parseN ss)] W' fun e w' => e = .returned (.bool true) ∧ Below W'.heap.size W' w' := fun W hV W' hb' => by
      have h := Tryz.tokLive W' (hV.va.below hb') hl ss
      rw [hli] at h
      simpa using h
    by_cases h10 : tks.length = 10
    · have hA := Tryz.askToken B wb hb db rb vb mt ml ra g cap vx 7 tn ln tks lks L _ _ w hS hR hpos hW hI.hB (by omega) ss tt aa bb ff fl fu ke pa 4 [] (fun _ => rfl) [] (by simp) (fun a b c d => a = tn ∧ b = ln ∧ c = tks ∧ d = lks) (fun a b c => a = L ∧ b = ((tn + 1 : Nat) : Int) ∧ c = ((ln + 1 : Nat) : Int))
        (fun W _ hS' => Tryz.hCreate hb db rb vb mt ml vx 7 tn ln tks lks W hS' ss fl fu ke pa (.string ⟨#[]⟩) (Tryz.errV 4) 4 (Tryz.toldK 4 (.inr (by simp [ErrK]))) [] (by simp) _ (fun W' _ hV => (Tryz.vCreate_many vb mt ml vx 7 tn ln tks lks W' hV.va ss hss (hFt W' hV) (by omega)).mono (by rintro e w' ⟨rfl, hb'⟩; exact ⟨tn, ln, tks, lks, ⟨rfl, rfl, rfl, rfl⟩, rfl, hV.below hb', Spares.of_below hb'⟩)))
        (fun B' W nb g' cap' _ _ hR' => (Tryz.rCreate_many B' nb g' cap' L 7 _ _ ss W hR' i hli (by rw [hl.countT]; exact h10)).mono (by rintro e w' ⟨rfl, hb'⟩; exact ⟨g', cap', L, _, _, ⟨rfl, rfl, rfl⟩, rfl, hR'.below hb', Spares.of_below hb'⟩))
      refine hA.mono ?_
      rintro e w' ⟨rfl, hA'⟩
      exact ⟨rfl, hA'.inv hI.bel hI.hB b6 bw (by simp) ⟨hlow, hlb1, hlb2, hlb3⟩ (by rintro _ _ _ _ _ _ _ ⟨rfl, rfl, rfl, rfl⟩ ⟨rfl, rfl, rfl⟩; exact ⟨hl, rfl, rfl, ⟨hn1, hn2, by omega, by omega, hn5⟩, hlb4⟩)⟩
    · have hA := Tryz.askToken B wb hb db rb vb mt ml ra g cap vx 7 tn ln tks lks L _ _ w hS hR hpos hW hI.hB (by omega) ss tt aa bb ff fl fu ke pa 0 (nmStr 1 (tn + 1)) (fun h => absurd rfl h) [vb, mt] (fun x hx => by
          have hv := hS.v.va.v
          obtain ⟨n0, -, hm0⟩ := hS.v.va.held.mapT
          obtain ⟨cur, hcur⟩ := hR.gbox
          rcases List.mem_cons.1 hx with rfl | hx
          · exact ⟨hS.v.v6, hv.ne hW (by decide), hv.ne hR.v (by decide), hv.ne hcur (by decide), hv.lt⟩
          · rw [List.mem_singleton.1 hx]
            exact ⟨hS.v.m6, fun e => hW.ne_map hm0 e, fun e => hR.v.ne_map hm0 e, fun e => hcur.ne_map hm0 e, hm0.lt⟩)
        (fun a' b c d => a' = tn + 1 ∧ b = ln ∧ (∃ nb, c = tks ++ [⟨tn + 1, 1, t.n, 18446744073709551615, 0, false, nb⟩]) ∧ d = lks) (fun a b c => a = L ++ [newTok (tn + 1) t.n] ∧ b = ((tn + 1 + 1 : Nat) : Int) ∧ c = ((ln + 1 : Nat) : Int))
        (fun W hsz hS' => Tryz.hCreate hb db rb vb mt ml vx 7 tn ln tks lks W hS' ss fl fu ke pa (.string ⟨(nmStr 1 (tn + 1)).toArray⟩) (Tryz.errV 0) 0 (Tryz.toldK 0 (.inl rfl)) [vb, mt] (fun x hx => by
            obtain ⟨m1, m2, p, hD⟩ := hS'.disk
            have hv := hS'.v.va.v
            obtain ⟨n0, -, hm0⟩ := hS'.v.va.held.mapT
            rcases List.mem_cons.1 hx with rfl | hx
            · exact ⟨hS.v.v6, hv.ne hS'.host (by decide), hv.ne hD (by decide), hv.lt⟩
            · rw [List.mem_singleton.1 hx]
              exact ⟨hS.v.m6, fun e => hS'.host.ne_map hm0 e, fun e => hD.ne_map hm0 e, hm0.lt⟩) _ (fun W' _ hV => (Tryz.vCreate_ok vb mt ml vx 7 tn ln tks lks W' hV ss hss t.n (hl.num hS.v.va.ok hm) hp (hFt W' hV) (by omega) (by omega)).mono (by rintro e w' ⟨nb, rfl, hV', hs'⟩; exact ⟨tn + 1, ln, _, lks, ⟨rfl, rfl, ⟨nb, rfl⟩, rfl⟩, rfl, hV', hs'⟩)))
        (fun B' W nb g' cap' hBW hBn hR' => (Tryz.rCreate_ok B' nb g' cap' L 7 _ (tn + 1) ss W hR' hBn hR'.ne hBW (by omega) (by rw [hl.len]; omega) i t ht hli (by rw [hl.countT]; exact h10)).mono (by
          rintro e w' ⟨g2, cap2, rfl, hR2, -, -, hs2⟩
          refine ⟨g2, cap2, _, _, _, ⟨rfl, rfl, rfl⟩, ?_, hR2, hs2⟩
          have : (newTok (tn + 1) t.n).id = nmStr 1 (tn + 1) := ThingD.id_nm _
          rw [this]))
      refine hA.mono ?_
      rintro e w' ⟨rfl, hA'⟩
      refine ⟨rfl, hA'.inv hI.bel hI.hB b6 bw (fun x hx => ?_) ⟨hlow, hlb1, hlb2, hlb3⟩ ?_⟩
      · rcases List.mem_cons.1 hx with rfl | hx
        · exact hlb1
        · rw [List.mem_singleton.1 hx]; exact hlb2
      · rintro _ _ _ _ _ _ _ ⟨rfl, rfl, ⟨nb, rfl⟩, rfl⟩ ⟨rfl, rfl, rfl⟩
        refine ⟨?_, rfl, rfl, ⟨by simp; omega, hn2, by omega, by omega, by simp⟩, hlb4⟩
        have := hl.snocT ⟨tn + 1, 1, t.n, 18446744073709551615, 0, false, nb⟩ rfl
        exact this
  · have hFt : ∀ W, Tryz.VFull W vb mt ml vx 7 tn ln tks lks → ∀ W', Below W.heap.size W W' → Calls Tryz.prog 90 #[.pointer (some ⟨vb, 0, none⟩), nmV (parseN ss)] W' fun e w' => e = .returned (.bool false) ∧ Below W'.heap.size W' w' := fun W hV W' hb' => by
      have h := Tryz.tokLive W' (hV.va.below hb') hl ss
      rw [hli] at h
      simpa using h
    have hA := Tryz.askToken B wb hb db rb vb mt ml ra g cap vx 7 tn ln tks lks L _ _ w hS hR hpos hW hI.hB (by omega) ss tt aa bb ff fl fu ke pa 1 [] (fun _ => rfl) [] (by simp) (fun a b c d => a = tn ∧ b = ln ∧ c = tks ∧ d = lks) (fun a b c => a = L ∧ b = ((tn + 1 : Nat) : Int) ∧ c = ((ln + 1 : Nat) : Int))
      (fun W _ hS' => Tryz.hCreate hb db rb vb mt ml vx 7 tn ln tks lks W hS' ss fl fu ke pa (.string ⟨#[]⟩) (Tryz.errV 1) 1 (Tryz.toldK 1 (.inr (by simp [ErrK]))) [] (by simp) _ (fun W' _ hV => (Tryz.vCreate_miss vb mt ml vx 7 tn ln tks lks W' hV.va ss hss (hFt W' hV)).mono (by rintro e w' ⟨rfl, hb'⟩; exact ⟨tn, ln, tks, lks, ⟨rfl, rfl, rfl, rfl⟩, rfl, hV.below hb', Spares.of_below hb'⟩)))
      (fun B' W nb g' cap' _ _ hR' => (Tryz.rCreate_miss B' nb g' cap' L 7 _ _ ss W hR' hli).mono (by rintro e w' ⟨rfl, hb'⟩; exact ⟨g', cap', L, _, _, ⟨rfl, rfl, rfl⟩, rfl, hR'.below hb', Spares.of_below hb'⟩))
    refine hA.mono ?_
    rintro e w' ⟨rfl, hA'⟩
    exact ⟨rfl, hA'.inv hI.bel hI.hB b6 bw (by simp) ⟨hlow, hlb1, hlb2, hlb3⟩ (by rintro _ _ _ _ _ _ _ ⟨rfl, rfl, rfl, rfl⟩ ⟨rfl, rfl, rfl⟩; exact ⟨hl, rfl, rfl, ⟨hn1, hn2, by omega, by omega, hn5⟩, hlb4⟩)⟩
end Go.Proofs

/-
  A request keeps what holds: Issue, Renew, Authorize.
-/
namespace Go.Proofs
open Go.RowKit Go.Sort Go.Lib Go.Shelf Go.Maps

theorem mayE_eq {ss tt : List UInt8} {aa bb : Int} {tks : List TokE} {lks : List LeaE} {L : List ThingD} (hl : Rel tks lks L) (h14 : lks.length ≤ 14) :
    mayE (decide (0 ≤ liveI 7 ss true L)) (pathI tt) aa bb lks.length 7 = issueE 7 ss tt aa bb L := by
  unfold mayE issueE
  rw [hl.countL]
  by_cases h1 : liveI 7 ss true L < 0
  · rw [if_pos (by simp; omega), if_pos h1]
  · rw [if_neg (by simp; omega), if_neg h1]
    by_cases h2 : pathI tt = false
    · rw [if_pos h2, if_pos h2]
    · rw [if_neg h2, if_neg h2]
      by_cases h3 : aa = 0 ∨ bb < aa
      · rw [if_pos h3, if_pos h3]
      · rw [if_neg h3, if_neg h3]
        by_cases h4 : lks.length = 14
        · rw [if_pos (by omega), if_pos h4]
        · rw [if_neg (by omega), if_neg h4, if_neg (by decide)]
theorem issueE_range (tm : Int) (ss tt : List UInt8) (aa bb : Int) (L : List ThingD) : issueE tm ss tt aa bb L = 0 ∨ ErrK (issueE tm ss tt aa bb L) := by
  unfold issueE ErrK
  split
  · simp
  · split
    · simp
    · split
      · simp
      · split <;> simp

set_option maxHeartbeats 1000000 in
theorem Tryz.okIssue {w0 : World} {B N wb hb : Nat} (w : World) (hI : Tryz.Inv w0 B N wb hb w) (hN : N < 1000000) (ss tt : List UInt8) (hss : ss.length ≤ 1000000) (htt : tt.length ≤ 1000000) (aa bb ff fl fu ke pa : Int) (ha0 : 0 ≤ aa) (ha1 : aa ≤ 18446744073709551615) (hb0 : 0 ≤ bb) (hb1 : bb ≤ 18446744073709551615) :
    Calls Tryz.prog 40 #[.pointer (some ⟨wb, 0, none⟩), .agg (StepD.cells ⟨2, ss, tt, aa, bb, ff, fl, fu, ke, pa⟩)] w fun e w' => e = .returned (.bool true) ∧ Tryz.Inv w0 B (N + 1) wb hb w' := by
  obtain ⟨db, rb, vb, mt, ml, ra, g, cap, vx, tn, ln, tks, lks, L, hS, hR, hl, hW, ⟨hn1, hn2, hn3, hn4, hn5⟩, hlow, hlb1, hlb2, hlb3, hlb4⟩ := hI.ex
  have hpos : 0 < L.length := by rw [hl.len]; omega
  have b6 := hI.b6
  have bw := hI.bw
  have hMay : ∀ W, Tryz.VFull W vb mt ml vx 7 tn ln tks lks → ∀ W', Below W.heap.size W W' → Calls Tryz.prog 46 #[.pointer (some ⟨vb, 0, none⟩), nmV (parseN ss), .string ⟨tt.toArray⟩, .int .u64 aa, .int .u64 bb] W' fun e w' => e = .returned (Tryz.errV (issueE 7 ss tt aa bb L)) ∧ Below W'.heap.size W' w' := fun W hV W' hb' => by
    have h := Tryz.mayIssue vb mt ml vx 7 tn ln tks lks W' (hV.va.below hb') (parseN ss) (decide (0 ≤ liveI 7 ss true L)) tt htt aa bb (fun W2 hb2 => Tryz.tokLive W2 ((hV.va.below hb').below hb2) hl ss)
    rw [mayE_eq hl hn2] at h
    exact h
  by_cases hk : issueE 7 ss tt aa bb L = 0
  · rw [hk] at hMay
    have hE := hk
    unfold issueE at hE
    have hnl : ¬ liveI 7 ss true L < 0 := fun h => by rw [if_pos h] at hE; omega
    rw [if_neg hnl] at hE
    have hnp : ¬ pathI tt = false := fun h => by rw [if_pos h] at hE; omega
    rw [if_neg hnp] at hE
    have hnt : ¬ (aa = 0 ∨ bb < aa) := fun h => by rw [if_pos h] at hE; omega
    rw [if_neg hnt] at hE
    have hnc : ¬ countI false L = 14 := fun h => by rw [if_pos h] at hE; omega
    rw [hl.countL] at hnc
    rcases liveI_cases 7 ss true L with ⟨i, t, ht, hid, htk, hst, hli⟩ | hli
    · have hm := List.mem_of_getElem? ht
      have hp := liveI_hit (L := L) hid htk (hl.num hS.v.va.ok hm) hli
      have hat : (7 : Int) < plusI 7 aa := by unfold plusI; split <;> omega
      have hA := Tryz.askIssue B wb hb db rb vb mt ml ra g cap vx 7 tn ln tks lks L _ _ w hS hR hpos hW hI.hB (by omega) ss tt aa bb ff fl fu ke pa 0 (nmStr 2 (ln + 1)) (fun h => absurd rfl h) [vb, ml] (fun x hx => by
          have hv := hS.v.va.v
          obtain ⟨n0, -, hm0⟩ := hS.v.va.held.mapL
          obtain ⟨cur, hcur⟩ := hR.gbox
          rcases List.mem_cons.1 hx with rfl | hx
          · exact ⟨hS.v.v6, hv.ne hW (by decide), hv.ne hR.v (by decide), hv.ne hcur (by decide), hv.lt⟩
          · rw [List.mem_singleton.1 hx]
            exact ⟨hS.v.l6, fun e => hW.ne_map hm0 e, fun e => hR.v.ne_map hm0 e, fun e => hcur.ne_map hm0 e, hm0.lt⟩)
        (fun a' b c d => a' = tn ∧ b = ln + 1 ∧ c = tks ∧ ∃ nb, B ≤ nb ∧ d = lks ++ [⟨ln + 1, 1, t.n, plusI 7 aa, 0, false, tt, plusI 7 bb, nb⟩]) (fun a b c => a = L ++ [newLea (ln + 1) t.n tt (plusI 7 aa) (plusI 7 bb)] ∧ b = ((tn + 1 : Nat) : Int) ∧ c = ((ln + 1 + 1 : Nat) : Int))
        (fun W hsz hS' => Tryz.hIssue hb db rb vb mt ml vx 7 tn ln tks lks W hS' ss tt aa bb fl fu ke pa (.string ⟨(nmStr 2 (ln + 1)).toArray⟩) (Tryz.errV 0) 0 (Tryz.toldK 0 (.inl rfl)) [vb, ml] (fun x hx => by
            obtain ⟨m1, m2, p, hD⟩ := hS'.disk
            have hv := hS'.v.va.v
            obtain ⟨n0, -, hm0⟩ := hS'.v.va.held.mapL
            rcases List.mem_cons.1 hx with rfl | hx
            · exact ⟨hS.v.v6, hv.ne hS'.host (by decide), hv.ne hD (by decide), hv.lt⟩
            · rw [List.mem_singleton.1 hx]
              exact ⟨hS.v.l6, fun e => hS'.host.ne_map hm0 e, fun e => hD.ne_map hm0 e, hm0.lt⟩) _ (fun W' hsz' hV => (Tryz.vIssue_ok vb mt ml vx 7 tn ln tks lks W' hV ss tt hss aa bb ha0 ha1 hb0 hb1 t.n (hl.num hS.v.va.ok hm) hp (hMay W' hV) (by omega) (by omega)).mono (by rintro e w' ⟨nb, hnb, rfl, hV', hs'⟩; exact ⟨tn, ln + 1, tks, _, ⟨rfl, rfl, rfl, ⟨nb, by have := hI.hB; omega, rfl⟩⟩, rfl, hV', hs'⟩)))
        (fun B' W nb g' cap' hBW hBn hR' => (Tryz.rIssue_ok B' nb g' cap' L 7 _ (ln + 1) ss tt aa bb W hR' hBn hR'.ne hBW (by omega) (by rw [hl.len]; omega) (by omega) (by decide) ha0 ha1 hb1 i t ht hli hk hat).mono (by
          rintro e w' ⟨g2, cap2, rfl, hR2, -, -, hs2⟩
          refine ⟨g2, cap2, _, _, _, ⟨rfl, rfl, rfl⟩, ?_, hR2, hs2⟩
          have : (newLea (ln + 1) t.n tt (plusI 7 aa) (plusI 7 bb)).id = nmStr 2 (ln + 1) := ThingD.id_nm _
          rw [this]))
      refine hA.mono ?_
      rintro e w' ⟨rfl, hA'⟩
      refine ⟨rfl, hA'.inv hI.bel hI.hB b6 bw (fun x hx => ?_) ⟨hlow, hlb1, hlb2, hlb3⟩ ?_⟩
      · rcases List.mem_cons.1 hx with rfl | hx
        · exact hlb1
        · rw [List.mem_singleton.1 hx]; exact hlb3
      · rintro _ _ _ _ _ _ _ ⟨rfl, rfl, rfl, ⟨nb, hnb, rfl⟩⟩ ⟨rfl, rfl, rfl⟩
        refine ⟨?_, rfl, rfl, ⟨hn1, by simp; omega, by omega, by omega, hn5⟩, fun l hlm => ?_⟩
        · have := hl.snocL ⟨ln + 1, 1, t.n, plusI 7 aa, 0, false, tt, plusI 7 bb, nb⟩ rfl
          exact this
        · rcases List.mem_append.1 hlm with hlm | hlm
          · exact hlb4 l hlm
          · rw [List.mem_singleton.1 hlm]; exact hnb
    · omega
  · have hrg := (issueE_range 7 ss tt aa bb L).resolve_left hk
    have hA := Tryz.askIssue B wb hb db rb vb mt ml ra g cap vx 7 tn ln tks lks L _ _ w hS hR hpos hW hI.hB (by omega) ss tt aa bb ff fl fu ke pa (issueE 7 ss tt aa bb L) [] (fun _ => rfl) [] (by simp) (fun a b c d => a = tn ∧ b = ln ∧ c = tks ∧ d = lks) (fun a b c => a = L ∧ b = ((tn + 1 : Nat) : Int) ∧ c = ((ln + 1 : Nat) : Int))
      (fun W _ hS' => Tryz.hIssue hb db rb vb mt ml vx 7 tn ln tks lks W hS' ss tt aa bb fl fu ke pa (.string ⟨#[]⟩) (Tryz.errV (issueE 7 ss tt aa bb L)) (issueE 7 ss tt aa bb L) (Tryz.toldK _ (.inr hrg)) [] (by simp) _ (fun W' _ hV => (Tryz.vIssue_err vb mt ml vx 7 tn ln tks lks W' hV.va ss tt hss aa bb _ hk (hMay W' hV)).mono (by rintro e w' ⟨rfl, hb'⟩; exact ⟨tn, ln, tks, lks, ⟨rfl, rfl, rfl, rfl⟩, by rw [Tryz.errV_nz hk], hV.below hb', Spares.of_below hb'⟩)))
      (fun B' W nb g' cap' _ _ hR' => (Tryz.rIssue_err B' nb g' cap' L 7 _ _ ss tt aa bb W hR' (by omega) hk).mono (by rintro e w' ⟨rfl, hb'⟩; exact ⟨g', cap', L, _, _, ⟨rfl, rfl, rfl⟩, rfl, hR'.below hb', Spares.of_below hb'⟩))
    refine hA.mono ?_
    rintro e w' ⟨rfl, hA'⟩
    exact ⟨rfl, hA'.inv hI.bel hI.hB b6 bw (by simp) ⟨hlow, hlb1, hlb2, hlb3⟩ (by rintro _ _ _ _ _ _ _ ⟨rfl, rfl, rfl, rfl⟩ ⟨rfl, rfl, rfl⟩; exact ⟨hl, rfl, rfl, ⟨hn1, hn2, by omega, by omega, hn5⟩, hlb4⟩)⟩

set_option maxHeartbeats 1000000 in
theorem Tryz.okRenew {w0 : World} {B N wb hb : Nat} (w : World) (hI : Tryz.Inv w0 B N wb hb w) (ss tt : List UInt8) (hss : ss.length ≤ 1000000) (aa bb ff fl fu ke pa : Int) (ha0 : 0 ≤ aa) (ha1 : aa ≤ 18446744073709551615) :
    Calls Tryz.prog 40 #[.pointer (some ⟨wb, 0, none⟩), .agg (StepD.cells ⟨3, ss, tt, aa, bb, ff, fl, fu, ke, pa⟩)] w fun e w' => e = .returned (.bool true) ∧ Tryz.Inv w0 B (N + 1) wb hb w' := by
  obtain ⟨db, rb, vb, mt, ml, ra, g, cap, vx, tn, ln, tks, lks, L, hS, hR, hl, hW, ⟨hn1, hn2, hn3, hn4, hn5⟩, hlow, hlb1, hlb2, hlb3, hlb4⟩ := hI.ex
  have hpos : 0 < L.length := by rw [hl.len]; omega
  have b6 := hI.b6
  have bw := hI.bw
  rcases liveI_cases 7 ss false L with ⟨i, t, ht, hid, htk, hst, hli⟩ | hli
  · obtain ⟨k, l, hk, rfl, hp, hlv, hrel⟩ := leaLive_hit hS.v.va.ok hl ht hid htk hst hli
    have hlm := List.mem_of_getElem? hk
    have hA := Tryz.askRenew B wb hb db rb vb mt ml ra g cap vx 7 tn ln tks lks L _ _ w hS hR hpos hW hI.hB (by omega) ss tt aa bb ff fl fu ke pa 0 (renewL 7 aa l) (fun h => absurd rfl h) [l.blk] (fun x hx => by
          have hv := hS.v.va.held.lea l hlm
          obtain ⟨cur, hcur⟩ := hR.gbox
          rw [List.mem_singleton.1 hx]
          exact ⟨hS.v.lb6 l hlm, hv.ne hW (by decide), hv.ne hR.v (by decide), hv.ne hcur (by decide), hv.lt⟩)
        (fun a' b c d => a' = tn ∧ b = ln ∧ c = tks ∧ d = lks.set k { l with at_ := renewL 7 aa l }) (fun a b c => a = L.set i { (thL l) with at_ := renewL 7 aa l } ∧ b = ((tn + 1 : Nat) : Int) ∧ c = ((ln + 1 : Nat) : Int))
        (fun W hsz hS' => Tryz.hRenew hb db rb vb mt ml vx 7 tn ln tks lks W hS' ss aa fl fu ke pa (.int .u64 (renewL 7 aa l)) (Tryz.errV 0) 0 (Tryz.toldK 0 (.inl rfl)) [l.blk] (fun x hx => by
            obtain ⟨m1, m2, p, hD⟩ := hS'.disk
            have hv := hS'.v.va.held.lea l hlm
            rw [List.mem_singleton.1 hx]
            exact ⟨hS.v.lb6 l hlm, hv.ne hS'.host (by decide), hv.ne hD (by decide), hv.lt⟩) _ (fun W' hsz' hV => (Tryz.vRenew_hit vb mt ml vx 7 tn ln tks lks W' hV ss hss k l hk hp hlv aa ha0 ha1).mono (by rintro e w' ⟨rfl, hV', hg'⟩; exact ⟨tn, ln, tks, _, ⟨rfl, rfl, rfl, rfl⟩, rfl, hV', Spares.of_grown hg' (by simp)⟩)))
        (fun B' W nb g' cap' hBW hBn hR' => (Tryz.rRenew_hit B' nb g' cap' L 7 _ _ ss aa W hR' hBW hR'.ne (by decide) ha0 ha1 i _ ht hli).mono (by
          rintro e w' ⟨rfl, hR2, -, hs2⟩
          exact ⟨g', cap', _, _, _, ⟨rfl, rfl, rfl⟩, rfl, hR2, hs2⟩))
    refine hA.mono ?_
    rintro e w' ⟨rfl, hA'⟩
    refine ⟨rfl, hA'.inv hI.bel hI.hB b6 bw (fun x hx => ?_) ⟨hlow, hlb1, hlb2, hlb3⟩ ?_⟩
    · rw [List.mem_singleton.1 hx]; exact hlb4 l hlm
    · rintro _ _ _ _ _ _ _ ⟨rfl, rfl, rfl, rfl⟩ ⟨rfl, rfl, rfl⟩
      refine ⟨hrel _, rfl, rfl, ⟨hn1, by simpa using hn2, by omega, by omega, hn5⟩, fun x hx => ?_⟩
      rcases List.mem_or_eq_of_mem_set hx with hx | rfl
      · exact hlb4 x hx
      · exact hlb4 l hlm
  · have hA := Tryz.askRenew B wb hb db rb vb mt ml ra g cap vx 7 tn ln tks lks L _ _ w hS hR hpos hW hI.hB (by omega) ss tt aa bb ff fl fu ke pa 5 0 (fun _ => rfl) [] (by simp) (fun a b c d => a = tn ∧ b = ln ∧ c = tks ∧ d = lks) (fun a b c => a = L ∧ b = ((tn + 1 : Nat) : Int) ∧ c = ((ln + 1 : Nat) : Int))
      (fun W _ hS' => Tryz.hRenew hb db rb vb mt ml vx 7 tn ln tks lks W hS' ss aa fl fu ke pa (.int .u64 0) (Tryz.errV 5) 5 (Tryz.toldK 5 (.inr (by simp [ErrK]))) [] (by simp) _ (fun W' _ hV => (Tryz.vRenew_miss vb W' ss aa (Tryz.leaLive_miss W' hV.va hl ss hss hli)).mono (by rintro e w' ⟨rfl, hb'⟩; exact ⟨tn, ln, tks, lks, ⟨rfl, rfl, rfl, rfl⟩, rfl, hV.below hb', Spares.of_below hb'⟩)))
      (fun B' W nb g' cap' _ _ hR' => (Tryz.rRenew_miss B' nb g' cap' L 7 _ _ ss aa W hR' hli).mono (by rintro e w' ⟨rfl, hb'⟩; exact ⟨g', cap', L, _, _, ⟨rfl, rfl, rfl⟩, rfl, hR'.below hb', Spares.of_below hb'⟩))
    refine hA.mono ?_
    rintro e w' ⟨rfl, hA'⟩
    exact ⟨rfl, hA'.inv hI.bel hI.hB b6 bw (by simp) ⟨hlow, hlb1, hlb2, hlb3⟩ (by rintro _ _ _ _ _ _ _ ⟨rfl, rfl, rfl, rfl⟩ ⟨rfl, rfl, rfl⟩; exact ⟨hl, rfl, rfl, ⟨hn1, hn2, by omega, by omega, hn5⟩, hlb4⟩)⟩

set_option maxHeartbeats 1000000 in
theorem Tryz.okAuth {w0 : World} {B N wb hb : Nat} (w : World) (hI : Tryz.Inv w0 B N wb hb w) (ss tt : List UInt8) (hss : ss.length ≤ 1000000) (aa bb ff fl fu ke pa : Int) :
    Calls Tryz.prog 40 #[.pointer (some ⟨wb, 0, none⟩), .agg (StepD.cells ⟨4, ss, tt, aa, bb, ff, fl, fu, ke, pa⟩)] w fun e w' => e = .returned (.bool true) ∧ Tryz.Inv w0 B (N + 1) wb hb w' := by
  have hI' := hI
  obtain ⟨db, rb, vb, mt, ml, ra, g, cap, vx, tn, ln, tks, lks, L, hS, hR, hl, hW, ⟨hn1, hn2, hn3, hn4, hn5⟩, -⟩ := hI.ex
  have hpos : 0 < L.length := by rw [hl.len]; omega
  have hC := fun W (b : Below w.heap.size w W) => Tryz.rAuth B ra g cap L 7 _ _ ss tt W (hR.below b)
  have hH : ∀ W, Below w.heap.size w W → Calls Tryz.prog 22 #[.pointer (some ⟨hb, 0, none⟩), .string ⟨ss.toArray⟩, .string ⟨tt.toArray⟩] W fun e w' => e = .returned (.bool (authI 7 ss tt L)) ∧ Below W.heap.size W w' := fun W b => by
    refine Tryz.hAuth hb db rb vb W (hS.host.below b hS.host.lt) ss tt _ ?_
    rcases liveI_cases 7 ss false L with ⟨i, t, ht, hid, htk, hst, hli⟩ | hli
    · obtain ⟨k, l, hk, rfl, hp, hlv, -⟩ := leaLive_hit hS.v.va.ok hl ht hid htk hst hli
      rw [authI_hit ht hli]
      exact Tryz.vAuth_hit vb mt ml vx 7 tn ln tks lks W (hS.v.va.below b) ss tt hss l (List.mem_of_getElem? hk) hp hlv
    · rw [authI_miss hli]
      exact Tryz.vAuth_miss vb W ss tt (Tryz.leaLive_miss W (hS.v.va.below b) hl ss hss hli)
  refine (Tryz.askAuth B wb hb ra g cap 7 L _ _ w hR hpos hW ss tt aa bb ff fl fu ke pa _ hH hC).mono ?_
  rintro e w' ⟨rfl, hb'⟩
  exact ⟨rfl, (hI'.below hb').more (by omega)⟩
end Go.Proofs

/-
  A step.
-/
namespace Go.Proofs
open Go.RowKit Go.Sort Go.Lib Go.Shelf Go.Maps

theorem Tryz.Inv.sick {w0 : World} {B N wb hb : Nat} {W : World} (h : Tryz.Inv w0 B N wb hb W) : Tryz.Inv w0 B N wb hb (W.setCell ⟨wb, 3, none⟩ (.bool false)) := by
  obtain ⟨db, rb, vb, mt, ml, ra, g, cap, vx, tn, ln, tks, lks, L, h1, h2, h3, h4, h5, h6⟩ := h.ex
  have hsp : Spares [wb] W (W.setCell ⟨wb, 3, none⟩ (.bool false)) := (Spares.of_below (Below.refl _ _)).set (by simp) _ _
  have b6 := h.b6
  have bw := h.bw
  refine ⟨h.bel.setCell (p := ⟨wb, 3, none⟩) h.bw _, by simpa using h.hB, h.b6, h.bw, ⟨db, rb, vb, mt, ml, ra, g, cap, vx, tn, ln, tks, lks, L, h1.other hsp (fun b hb => by rw [List.mem_singleton.1 hb]; exact ⟨by omega, _, _, h4, by decide, by decide, by decide, by decide, by decide⟩), h2.spares hsp (fun hx => h2.v.ne h4 (by decide) (List.mem_singleton.1 hx)) (fun hx => ?_), h3, h4.set 3 _, h5, h6⟩⟩
  obtain ⟨c, hc⟩ := h2.gbox
  exact hc.ne h4 (by decide) (List.mem_singleton.1 hx)

set_option maxRecDepth 100000 in
set_option maxHeartbeats 4000000 in
theorem Tryz.step {w0 : World} {B N wb hb : Nat} (w : World) (hI : Tryz.Inv w0 B N wb hb w) (kind : Int) (hk8 : (kind == 8) = false) (hk10 : (kind == 10) = false) (ss tt : List UInt8) (aa bb ff fl fu ke pa : Int)
    (hA : ∀ W, Tryz.Inv w0 B N wb hb W → Calls Tryz.prog 40 #[.pointer (some ⟨wb, 0, none⟩), .agg (StepD.cells ⟨kind, ss, tt, aa, bb, ff, -1, -1, 0, 0⟩)] W fun e w' => e = .returned (.bool true) ∧ Tryz.Inv w0 B (N + 1) wb hb w') :
    Calls Tryz.prog 21 #[.pointer (some ⟨wb, 0, none⟩), .agg (StepD.cells ⟨kind, ss, tt, aa, bb, ff, fl, fu, ke, pa⟩), .bool false] w fun e w' => e = .returned (.bool true) ∧ Tryz.Inv w0 B (N + 1) wb hb w' := by
  obtain ⟨db, rb, vb, mt, ml, ra, g, cap, vx, tn, ln, tks, lks, L, -, -, -, hW, -⟩ := hI.ex
  have lW := hW.lt
  have c3 := hW.cell 3 (v := .bool false) rfl
  have f3 := hW.frozen 3
  have hI3 := fun W (b : Below w.heap.size w W) => (hI.below b).sick
  have hWl := fun W => Tryz.well W
  unfold fallV at hWl
  have hb0 : Below w.heap.size w (w.alloc (.cells (StepD.cells ⟨kind, ss, tt, aa, bb, ff, fl, fu, ke, pa⟩) 51)) := (Below.refl _ w).alloc (Nat.le_refl _) _
  have bS := BoxN.new w 51 (StepD.cells ⟨kind, ss, tt, aa, bb, ff, fl, fu, ke, pa⟩)
  simp only [StepD.cells] at *
  go_enter Tryz.func21, Tryz.ntmps21
  go_wp2_with (first
    | (go_at_call 11; refine (hWl _).mono ?_; rintro e w1 ⟨rfl, hb1⟩; have bS1 := bS.below hb1 (by simp); have y0 := bS1.cell 0 (v := .int .i64 kind) rfl; have y1 := bS1.cell 1 (v := .string ⟨ss.toArray⟩) rfl; have y2 := bS1.cell 2 (v := .string ⟨tt.toArray⟩) rfl; have y3 := bS1.cell 3 (v := .int .u64 aa) rfl; have y4 := bS1.cell 4 (v := .int .u64 bb) rfl; have y5 := bS1.cell 5 (v := .int .u64 ff) rfl; have y6 := bS1.cell 6 (v := .int .i64 fl) rfl; have y7 := bS1.cell 7 (v := .int .i64 fu) rfl; have y8 := bS1.cell 8 (v := .int .i64 ke) rfl; have y9 := bS1.cell 9 (v := .int .i64 pa) rfl; have z6 := bS1.frozen 6; have z7 := bS1.frozen 7; have z8 := bS1.frozen 8; have z9 := bS1.frozen 9; have bW1 := (hW.alloc (.cells #[.int .i64 kind, .string ⟨ss.toArray⟩, .string ⟨tt.toArray⟩, .int .u64 aa, .int .u64 bb, .int .u64 ff, .int .i64 fl, .int .i64 fu, .int .i64 ke, .int .i64 pa] 51)).below hb1 (by simp; omega); have x3 := bW1.cell 3 (v := .bool false) rfl; have x3f := bW1.frozen 3)
    | (go_at_call 40; refine (hA _ (hI3 _ (((((hb0.trans (hb1.mono (by simp))).setCell (p := ⟨w.heap.size, 6, none⟩) (Nat.le_refl _) _).setCell (p := ⟨w.heap.size, 7, none⟩) (Nat.le_refl _) _).setCell (p := ⟨w.heap.size, 8, none⟩) (Nat.le_refl _) _).setCell (p := ⟨w.heap.size, 9, none⟩) (Nat.le_refl _) _))).mono ?_; rintro e w2 ⟨rfl, hI2⟩; obtain ⟨db2, rb2, vb2, mt2, ml2, ra2, g2, cap2, vx2, tn2, ln2, tks2, lks2, L2, hS2, hR2, hl2, hW2, -⟩ := hI2.ex; have q0 := hW2.cell 0 (v := .pointer (some ⟨hb, 0, none⟩)) rfl; have q1 := hW2.cell 1 (v := .pointer (some ⟨ra2, 0, none⟩)) rfl)
    | (go_at_call 18; refine (Tryz.hIs hb _ _ _ w2 hS2.host).mono ?_; rintro e w3 ⟨rfl, rfl⟩)
    | (go_at_call 20; refine (Tryz.looks B wb hb ra2 g2 cap2 vb2 mt2 ml2 vx2 7 tn2 ln2 _ _ tks2 lks2 L2 _ _ _ _ _ _ _ hW2 hS2.host hS2.v.va hR2 hl2).mono ?_; rintro e w4 ⟨rfl, hb4⟩))
  go_ret
  exact ⟨rfl, hI2.below hb4⟩
end Go.Proofs
