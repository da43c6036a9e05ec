import Derived.Test.YtjbekgjdempbiaaGreatDoorJInv
/-
  A request that turns something: Issue.
-/
namespace Go.Proofs
open Go.RowKit Go.Sort Go.Lib Go.Shelf Go.Maps

set_option maxRecDepth 100000 in
set_option maxHeartbeats 4000000 in
theorem Tryz.askIssue (B wb hb ra g cap : Nat) (tm : Int) (L : List ThingD) (tr lr : Int) (w : World) (HP HP' : World → Prop) (lo1 : Tryz.Lone HP) (lo2 : Tryz.Lone HP') (hP : HP w) (hR : Tryz.RVAt B w ra g cap L tm tr lr) (hpos : 0 < L.length) (hW : BoxN w wb 69 #[.pointer (some ⟨hb, 0, none⟩), .pointer (some ⟨ra, 0, none⟩), .pointer none, .bool false, .bool false]) (hB : B ≤ w.heap.size) (hB9 : 9 ≤ B) (hwb : B ≤ wb) (hra : B ≤ ra)
    (ss tt : List UInt8) (aa bb ff fl fu ke pa : Int) (k : Int) (rs : List UInt8) (hkr : k ≠ 0 → rs = []) (Q2 : List ThingD → Int → Int → Prop)
    (hH : ∀ W, w.heap.size ≤ W.heap.size → HP W → Calls Tryz.prog 18 #[.pointer (some ⟨hb, 0, none⟩), .string ⟨ss.toArray⟩, .string ⟨tt.toArray⟩, .int .u64 aa, .int .u64 bb, .agg #[.int .i64 fl, .int .i64 fu, .int .i64 ke, .int .i64 pa]] W fun e w' => e = .returned (.tuple #[.string ⟨rs.toArray⟩, .int .i64 k]) ∧ HP' w' ∧ Tryz.HostSp B W w')
    (hC : ∀ B' W nb g' cap', B' ≤ W.heap.size → B' ≤ nb → Tryz.RVAt B' W nb g' cap' L tm tr lr → Calls Tryz.prog 111 #[.pointer (some ⟨nb, 0, none⟩), .string ⟨ss.toArray⟩, .string ⟨tt.toArray⟩, .int .u64 aa, .int .u64 bb] W fun e w' => ∃ g2 cap2 L2 tr2 lr2, Q2 L2 tr2 lr2 ∧ e = .returned (.tuple #[.string ⟨rs.toArray⟩, .int .i64 k]) ∧ Tryz.RVAt B' w' nb g2 cap2 L2 tm tr2 lr2 ∧ Spares [nb, g'] W w') :
    Calls Tryz.prog 62 #[.pointer (some ⟨wb, 0, none⟩), .agg (StepD.cells ⟨2, ss, tt, aa, bb, ff, fl, fu, ke, pa⟩)] w fun e w' => e = .returned (.bool true) ∧ Tryz.After w B wb hb tm HP' Q2 w' := by
  have lW := hW.lt
  have hb0 : Below w.heap.size w (w.alloc (.cells (StepD.cells ⟨2, ss, tt, aa, bb, ff, fl, fu, ke, pa⟩) 72)) := (Below.refl _ w).alloc (Nat.le_refl _) _
  have bS := BoxN.new w 72 (StepD.cells ⟨2, ss, tt, aa, bb, ff, fl, fu, ke, pa⟩)
  have bW0 := hW.alloc (.cells (StepD.cells ⟨2, ss, tt, aa, bb, ff, fl, fu, ke, pa⟩) 72)
  have hCp := Tryz.rCopy B ra g cap L tm tr lr _ (hR.below hb0) hpos
  rw [World.size_alloc] at hCp
  have w1c := bW0.cell 1 (v := .pointer (some ⟨ra, 0, none⟩)) rfl
  have s0c := bS.cell 0 (v := .int .i64 2) rfl
  obtain ⟨kz, hkz⟩ : ∃ kz : Bool, (k != 0) = kz := ⟨_, rfl⟩
  have hkz' : (k == 0) = !kz := by rw [← hkz]; simp [bne]
  have Hkz : Hid (kz = true → rs = []) := hid_intro (fun e => hkr (by rw [e] at hkz; simpa using hkz))
  clear hkr
  simp only [StepD.cells] at *
  cases kz
  all_goals
    try (have hzz := hid_elim Hkz rfl)
    try subst hzz
    go_enter Tryz.func62, Tryz.ntmps62
    go_wp2_with (first
      | (go_at_call 106; refine hCp.mono ?_; rintro e w1 ⟨g', cap', rfl, hR1, hb1⟩; have bS1 := bS.below hb1 (by simp); have s01 := bS1.cell 0 (v := .int .i64 2) rfl))
    have hb1' : Below w.heap.size w w1 := hb0.trans (hb1.mono (by omega))
    have bW1 := bW0.below hb1 (by omega)
    have hP1 : AskP wb hb w.heap.size ⟨2, ss, tt, aa, bb, ff, fl, fu, ke, pa⟩ w1 := AskP.mk' bW1 bS1
    have hh1 : HP w1.drew := lo1.below hP hb1'.drew
    have hg'l := hR1.glt
    have hg'b : w.heap.size + 1 ≤ g' := (hR1.row.lt g' rfl).1
    have hH1 := hH w1.drew (by have := hb1'.size; exact this) hh1
    have hRo1 : Tryz.RVAt B w1.drew ra g cap L tm tr lr := hR.below hb1'.drew
    have hRn1 : Tryz.RVAt (w.heap.size + 1) w1.drew (w.heap.size + 1) g' cap' L tm tr lr := hR1.below (Below.refl _ _).drew
    have fW : Tryz.Foreign w1.drew wb := ⟨by omega, _, _, bW1, by decide⟩
    have fS : Tryz.Foreign w1.drew w.heap.size := ⟨by omega, _, _, bS1, by decide⟩
    obtain ⟨fA, fG⟩ := hRo1.foreign hB9 (by omega)
    obtain ⟨fN, fH⟩ := hRn1.foreign (by omega) (by omega)
    simp only [AskP] at hP1
    go_region_held3 (AskP wb hb w.heap.size ⟨2, ss, tt, aa, bb, ff, fl, fu, ke, pa⟩) (first
      | with_reducible exact AskP.drew hP1
      | with_reducible assumption) (first | (go_at_call 18; refine hH1.mono ?_; rintro e w2 ⟨rfl, hp2, hs, hsp2, hso⟩; have bW2 := Spares.box (W := w1.drew) hsp2 bW1 (fun hx => (hso _ hx).2 fW); have bS2 := Spares.box (W := w1.drew) hsp2 bS1 (fun hx => (hso _ hx).2 fS); have hP2 := AskP.mk' (st := ⟨2, ss, tt, aa, bb, ff, fl, fu, ke, pa⟩) bW2 bS2))
    have hRn2 : Tryz.RVAt (w.heap.size + 1) w2 (w.heap.size + 1) g' cap' L tm tr lr := hRn1.spares hsp2 (fun hx => (hso _ hx).2 fN) (fun hx => (hso _ hx).2 fH)
    have hC2 := hC (w.heap.size + 1) w2 (w.heap.size + 1) g' cap' (by have := hRn2.v.lt; omega) (Nat.le_refl _) hRn2
    obtain ⟨⟨q0, q1, q2, q3, q4⟩, q6, q7, q8, q9⟩ := hP2
    have hgd := hRn2.gbox
    have lra := hR.v.lt
    have lgg := hR.glt
    have hRo2 : Tryz.RVAt B w2 ra g cap L tm tr lr := hRo1.spares hsp2 (fun hx => (hso _ hx).2 fA) (fun hx => (hso _ hx).2 fG)
    have hbB2 : Below B w w2 := (hb1'.mono hB).drew.trans (hsp2.below (by have := hb1'.size; exact Nat.le_trans hB this) (fun b hb => (hso b hb).1))
    have HBB := hid_intro hbB2
    clear hP1 hCp hH hC hH1 w1c s0c s01 hsp2 hso hbB2
    go_wp2_with (first
      | (go_at_call 111; refine hC2.mono ?_; rintro e w3 ⟨g2, cap2, L2, tr2, lr2, hQ2, rfl, hR3, hsp3⟩; have bW3 := hsp3.box bW2 (fun hx => by rcases List.mem_cons.1 hx with e | e; omega; have := List.mem_singleton.1 e; omega); have hTu := Tryz.turned wb (w.heap.size + 1) k true _ _ _ _ w3 bW3)
      | (go_at_call 110; refine hTu.mono ?_; rintro e w4 ⟨rfl, rfl⟩))
    go_ret
    refine ⟨by first | rfl | simp, ?_⟩
    obtain ⟨cur, hcur⟩ := hgd
    have hp3 : HP' w3 := lo2.other hp2 hsp3 (fun b hb => by
      rcases List.mem_cons.1 hb with rfl | hb
      · exact Tryz.Foreign.of hRn2.v (by omega) (by decide)
      · rw [List.mem_singleton.1 hb]; exact Tryz.Foreign.of hcur (by omega) (by decide))
    have hsp4 : Spares [wb] w3 (w3.setCell ⟨wb, 1, none⟩ (.pointer (some ⟨w.heap.size + 1, 0, none⟩))) := (Spares.of_below (Below.refl _ _)).set (by simp) _ _
    have nW : wb ≠ g2 := fun e => by obtain ⟨c, hc⟩ := hR3.gbox; exact bW3.ne hc (by decide) e
    have hp4 : HP' (w3.setCell ⟨wb, 1, none⟩ (.pointer (some ⟨w.heap.size + 1, 0, none⟩))) := lo2.other hp3 hsp4 (fun b hb => by rw [List.mem_singleton.1 hb]; exact Tryz.Foreign.of bW3 (by omega) (by decide))
    have hR4 := (Tryz.RVAt.spares hR3 hsp4 (by simp; omega) (by simpa using Ne.symm nW)).lower (B' := B) (by omega)
    have hB3 : Below B w w3 := (hid_elim HBB).trans (hsp3.below (by have := hRn2.v.lt; omega) (fun b hb => by
      rcases List.mem_cons.1 hb with rfl | hb
      · omega
      · rw [List.mem_singleton.1 hb]; omega))
    exact ⟨hp4, ⟨L2, tr2, lr2, _, g2, cap2, hQ2, hR4, by omega, bW3.set 1 _⟩, hB3.setCell (p := ⟨wb, 1, none⟩) hwb _⟩
end Go.Proofs

/-
  A request keeps what holds: Issue.
-/
namespace Go.Proofs
open Go.RowKit Go.Sort Go.Lib Go.Shelf Go.Maps

/-- what Issue is answered by. -/
def issueF (tm : Int) (ss tt : List UInt8) (aa bb : Int) (L : List ThingD) : Int := if issueE tm ss tt aa bb L ≠ 0 then issueE tm ss tt aa bb L else if tm = 18446744073709551615 then 3 else 0
theorem mayE_eq {ss tt : List UInt8} {tm aa bb : Int} {tks : List TokE} {lks : List LeaE} {L : List ThingD} (hl : Rel tks lks L) (h14 : lks.length ≤ 14) :
    mayE (decide (0 ≤ liveI tm ss true L)) (pathI tt) aa bb lks.length tm = issueF tm ss tt aa bb L := by
  unfold mayE issueF issueE
  rw [hl.countL]
  by_cases h1 : liveI tm ss true L < 0
  · rw [if_pos (by simp; omega), if_pos h1]; simp
  · rw [if_neg (by simp; omega), if_neg h1]
    by_cases h2 : pathI tt = false
    · rw [if_pos h2, if_pos h2]; simp
    · rw [if_neg h2, if_neg h2]
      by_cases h3 : aa = 0 ∨ bb < aa
      · rw [if_pos h3, if_pos h3]; simp
      · rw [if_neg h3, if_neg h3]
        by_cases h4 : lks.length = 14
        · rw [if_pos (by omega), if_pos h4]; simp
        · rw [if_neg (by omega), if_neg h4]; simp
theorem issueE_range (tm : Int) (ss tt : List UInt8) (aa bb : Int) (L : List ThingD) : issueE tm ss tt aa bb L = 0 ∨ ErrK (issueE tm ss tt aa bb L) := by
  unfold issueE ErrK
  split
  · simp
  · split
    · simp
    · split
      · simp
      · split <;> simp
theorem issueF_range (tm : Int) (ss tt : List UInt8) (aa bb : Int) (L : List ThingD) : issueF tm ss tt aa bb L = 0 ∨ ErrK (issueF tm ss tt aa bb L) := by
  unfold issueF
  split
  · exact issueE_range tm ss tt aa bb L
  · split
    · exact .inr (by simp [ErrK])
    · exact .inl rfl

set_option maxHeartbeats 1000000 in
theorem Tryz.okIssue {w0 : World} {B N wb hb : Nat} (w : World) (hI : Tryz.Inv w0 B N wb hb w) (hN : N < 20000) (ss tt : List UInt8) (hss : ss.length ≤ 1000000) (htt : tt.length ≤ 1000000) (aa bb ff ke pa : Int) (ha0 : 0 ≤ aa) (ha1 : aa ≤ 18446744073709551615) (hb0 : 0 ≤ bb) (hb1 : bb ≤ 18446744073709551615) :
    Calls Tryz.prog 62 #[.pointer (some ⟨wb, 0, none⟩), .agg (StepD.cells ⟨2, ss, tt, aa, bb, ff, -1, -1, ke, pa⟩)] w fun e w' => e = .returned (.bool true) ∧ Tryz.Inv w0 B (N + 1) wb hb w' := by
  obtain ⟨rb, σ, ra, g, cap, L, hS, hR, hl, hW, hn, hra⟩ := hI.ex
  have hok := hS.wh.v.va.ok
  have hpos : 0 < L.length := by rw [hl.len]; have := hn.pos; omega
  have hlen : L.length < 100 := by rw [hl.len]; have := hn.nt; have := hn.nl; omega
  have b9 := hS.b9
  have hcs := hn.small hN
  have hnm := hn.more (Nat.le_succ N)
  have t0 := hS.wh.v.t0
  have t1 := hS.wh.v.t1
  have hMay : ∀ W, Tryz.Whole W σ.k σ.vx σ.tm σ.s σ.c (-1) (-1) → ∀ W', Below W.heap.size W W' → Calls Tryz.prog 64 #[.pointer (some ⟨σ.k.vb, 0, none⟩), nmV (parseN ss), .string ⟨tt.toArray⟩, .int .u64 aa, .int .u64 bb] W' fun e w' => e = .returned (Tryz.errV (issueF σ.tm ss tt aa bb L)) ∧ Below W'.heap.size W' w' := fun W hV W' hb' => by
    have h := Tryz.mayIssue σ.k.vb σ.k.mt σ.k.ml σ.vx σ.tm σ.s.tn σ.s.ln σ.s.tks σ.s.lks W' (hV.v.va.below hb') (parseN ss) (decide (0 ≤ liveI σ.tm ss true L)) tt htt aa bb (fun W2 hb2 => Tryz.tokLive W2 ((hV.v.va.below hb').below hb2) hl ss)
    rw [mayE_eq hl hn.nl] at h
    exact h
  by_cases hk : issueF σ.tm ss tt aa bb L = 0
  · rw [hk] at hMay
    have hE0 : issueE σ.tm ss tt aa bb L = 0 := by
      by_cases h : issueE σ.tm ss tt aa bb L = 0
      · exact h
      · unfold issueF at hk; rw [if_pos h] at hk; exact absurd hk h
    have hnev : σ.tm ≠ 18446744073709551615 := fun h => by
      unfold issueF at hk
      rw [if_neg (by simp [hE0]), if_pos h] at hk
      cases hk
    have hE := hE0
    unfold issueE at hE
    have hnl : ¬ liveI σ.tm ss true L < 0 := fun h => by rw [if_pos h] at hE; omega
    rw [if_neg hnl] at hE
    have hnp : ¬ pathI tt = false := fun h => by rw [if_pos h] at hE; omega
    rw [if_neg hnp] at hE
    have hnt : ¬ (aa = 0 ∨ bb < aa) := fun h => by rw [if_pos h] at hE; omega
    rw [if_neg hnt] at hE
    have hnc : ¬ countI false L = 14 := fun h => by rw [if_pos h] at hE; omega
    rw [hl.countL] at hnc
    obtain ⟨hp24, hpa⟩ := path_ok (by simpa using hnp)
    have hl14 : σ.s.lks.length < 14 := by have := hn.nl; omega
    have hln := hn.ln
    rcases liveI_cases σ.tm ss true L with ⟨i, t, ht, hid, htk, hst, hli⟩ | hli
    · have hm := List.mem_of_getElem? ht
      have hp := liveI_hit (L := L) hid htk (hl.num hok hm) hli
      have hat : σ.tm < plusI σ.tm aa := by unfold plusI; split <;> omega
      have r1 := plusI_range σ.tm aa t0 t1 ha0 ha1
      have r2 := plusI_range σ.tm bb t0 t1 hb0 hb1
      have hkl : (keepLine σ.tm [.lea (newL (σ.s.ln + 1) t.n (plusI σ.tm aa) (plusI σ.tm bb) tt)]).length ≤ 1300000 := keepLine_len t0 t1 (s := σ.s) ⟨⟨⟨r1.1, r1.2, show (-9223372036854775808 : Int) ≤ 0 by decide, show (0 : Int) ≤ 9223372036854775807 by decide, r2.1, r2.2, hp24, hpa⟩, .inr (fun x hx => by have := hS.wh.v.nl x hx; show x.n < σ.s.ln + 1; omega), by omega, show σ.s.ln + 1 < u64lim by unfold u64lim; omega, hl.num hok hm⟩, trivial⟩ (by simp)
      have hA := Tryz.askIssue B wb hb ra g cap σ.tm L _ _ w _ _ (Tryz.loneSys B hb rb σ) (Tryz.loneEx B hb rb (fun σ' => σ' = ⟨σ.k, σ.vx, σ.tm, ⟨σ.s.tn, σ.s.ln + 1, σ.s.tks, σ.s.lks ++ [newL (σ.s.ln + 1) t.n (plusI σ.tm aa) (plusI σ.tm bb) tt]⟩, σ.c ++ keepLine σ.tm [.lea (newL (σ.s.ln + 1) t.n (plusI σ.tm aa) (plusI σ.tm bb) tt)]⟩)) hS hR hpos hW hI.hB b9 hI.bw hra ss tt aa bb ff (-1) (-1) ke pa 0 (nmStr 2 (σ.s.ln + 1)) (fun h => absurd rfl h) (fun a b c => a = L ++ [newLea (σ.s.ln + 1) t.n tt (plusI σ.tm aa) (plusI σ.tm bb)] ∧ b = ((σ.s.tn + 1 : Nat) : Int) ∧ c = ((σ.s.ln + 1 + 1 : Nat) : Int))
        (fun W _ hS' => (Tryz.hIssue B hb rb σ W hS' ss tt aa bb ke pa (.string ⟨(nmStr 2 (σ.s.ln + 1)).toArray⟩) (Tryz.errV 0) 0 (Tryz.toldK 0 (.inl rfl)) _ (fun W' _ hV => (Tryz.vIssue_ok σ.k σ.vx σ.tm σ.s σ.c (-1) (-1) W' hV (by decide) (by decide) (by decide) (by decide) hcs ss tt hss aa bb ha0 ha1 hb0 hb1 hp24 hpa t.n (hl.num hok hm) hp (hMay W' hV) hl14 (by omega)).mono (by rintro e w' ⟨rfl, hV', hs'⟩; exact ⟨rfl, ⟨_, _, _, ⟨rfl, rfl, rfl⟩, hV'⟩, hs'⟩))).mono (fun _ _ h => Tryz.hostSame hS' h))
        (fun B' W nb g' cap' hBW hBn hR' => (Tryz.rIssue_ok B' nb g' cap' L σ.tm _ (σ.s.ln + 1) ss tt aa bb W hR' hBn hR'.ne hBW (by omega) hlen (by omega) t0 ha0 ha1 hb1 i t ht hli hE0 hat).mono (by
          rintro e w' ⟨g2, cap2, rfl, hR2, -, -, hs2⟩
          refine ⟨g2, cap2, _, _, _, ⟨rfl, rfl, rfl⟩, ?_, hR2, hs2⟩
          have : (newLea (σ.s.ln + 1) t.n tt (plusI σ.tm aa) (plusI σ.tm bb)).id = nmStr 2 (σ.s.ln + 1) := ThingD.id_nm _
          rw [this]))
      refine hA.mono ?_
      rintro e w' ⟨rfl, hA'⟩
      refine ⟨rfl, hA'.inv hI ?_⟩
      rintro _ _ _ _ rfl ⟨rfl, rfl, rfl⟩
      refine ⟨rfl, hl.snocL (newL (σ.s.ln + 1) t.n (plusI σ.tm aa) (plusI σ.tm bb) tt) rfl, rfl, rfl, ⟨hn.nt, ?_, hn.pos, ?_, ?_, ?_⟩⟩
      · simp; omega
      · have := hn.tn; show σ.s.tn ≤ N + 1; omega
      · show σ.s.ln + 1 ≤ N + 1; omega
      · have := hn.c; simp only [List.length_append]; omega
    · omega
  · have hrg := (issueF_range σ.tm ss tt aa bb L).resolve_left hk
    have hRef : ∀ B' W nb g' cap', Tryz.RVAt B' W nb g' cap' L σ.tm ((σ.s.tn + 1 : Nat) : Int) ((σ.s.ln + 1 : Nat) : Int) → Calls Tryz.prog 111 #[.pointer (some ⟨nb, 0, none⟩), .string ⟨ss.toArray⟩, .string ⟨tt.toArray⟩, .int .u64 aa, .int .u64 bb] W fun e w' => e = .returned (.tuple #[.string ⟨#[]⟩, .int .i64 (issueF σ.tm ss tt aa bb L)]) ∧ Below W.heap.size W w' := fun B' W nb g' cap' hR' => by
      by_cases hE0 : issueE σ.tm ss tt aa bb L = 0
      · have hnev : σ.tm = 18446744073709551615 := by
          by_cases h : σ.tm = 18446744073709551615
          · exact h
          · unfold issueF at hk
            rw [if_neg (by simp [hE0]), if_neg h] at hk
            exact absurd rfl hk
        have hF : issueF σ.tm ss tt aa bb L = 3 := by
          unfold issueF
          rw [if_neg (by simp [hE0]), if_pos hnev]
        have hE := hE0
        unfold issueE at hE
        rcases liveI_cases σ.tm ss true L with ⟨i, t, ht, hid, htk, hst, hli⟩ | hli
        · rw [hF]
          exact Tryz.rIssue_late B' nb g' cap' L σ.tm _ (σ.s.ln + 1) ss tt aa bb W hR' (by omega) t0 ha0 ha1 hb1 i t ht hli hE0 (by rw [hnev]; unfold plusI; split <;> omega)
        · rw [if_pos (by omega)] at hE
          cases hE
      · have hF : issueF σ.tm ss tt aa bb L = issueE σ.tm ss tt aa bb L := by
          unfold issueF
          rw [if_pos hE0]
        rw [hF]
        exact Tryz.rIssue_err B' nb g' cap' L σ.tm _ _ ss tt aa bb W hR' (by omega) hE0
    have hA := Tryz.askIssue B wb hb ra g cap σ.tm L _ _ w _ _ (Tryz.loneSys B hb rb σ) (Tryz.loneEx B hb rb (fun σ' => σ' = σ)) hS hR hpos hW hI.hB b9 hI.bw hra ss tt aa bb ff (-1) (-1) ke pa (issueF σ.tm ss tt aa bb L) [] (fun _ => rfl) (fun a b c => a = L ∧ b = ((σ.s.tn + 1 : Nat) : Int) ∧ c = ((σ.s.ln + 1 : Nat) : Int))
      (fun W _ hS' => (Tryz.hIssue B hb rb σ W hS' ss tt aa bb ke pa (.string ⟨#[]⟩) (Tryz.errV (issueF σ.tm ss tt aa bb L)) (issueF σ.tm ss tt aa bb L) (Tryz.toldK _ (.inr hrg)) _ (fun W' _ hV => (Tryz.vIssue_err σ.k.vb σ.k.mt σ.k.ml σ.vx σ.tm σ.s.tn σ.s.ln σ.s.tks σ.s.lks W' hV.v.va ss tt hss aa bb _ hk (hMay W' hV)).mono (fun _ _ h => Tryz.vSame hV (by rw [Tryz.errV_nz hk]; exact h)))).mono (fun _ _ h => Tryz.hostSame hS' h))
      (fun B' W nb g' cap' _ _ hR' => (hRef B' W nb g' cap' hR').mono (by rintro e w' ⟨rfl, hb'⟩; exact ⟨g', cap', L, _, _, ⟨rfl, rfl, rfl⟩, rfl, hR'.below hb', Spares.of_below hb'⟩))
    refine hA.mono ?_
    rintro e w' ⟨rfl, hA'⟩
    exact ⟨rfl, hA'.inv hI (by rintro _ _ _ _ rfl ⟨rfl, rfl, rfl⟩; exact ⟨rfl, hl, rfl, rfl, hnm⟩)⟩
end Go.Proofs

/-
  A request that turns something: Renew.
-/
namespace Go.Proofs
open Go.RowKit Go.Sort Go.Lib Go.Shelf Go.Maps

set_option maxRecDepth 100000 in
set_option maxHeartbeats 4000000 in
theorem Tryz.askRenew (B wb hb ra g cap : Nat) (tm : Int) (L : List ThingD) (tr lr : Int) (w : World) (HP HP' : World → Prop) (lo1 : Tryz.Lone HP) (lo2 : Tryz.Lone HP') (hP : HP w) (hR : Tryz.RVAt B w ra g cap L tm tr lr) (hpos : 0 < L.length) (hW : BoxN w wb 69 #[.pointer (some ⟨hb, 0, none⟩), .pointer (some ⟨ra, 0, none⟩), .pointer none, .bool false, .bool false]) (hB : B ≤ w.heap.size) (hB9 : 9 ≤ B) (hwb : B ≤ wb) (hra : B ≤ ra)
    (ss tt : List UInt8) (aa bb ff fl fu ke pa : Int) (k : Int) (rs : Int) (hkr : k ≠ 0 → rs = 0) (Q2 : List ThingD → Int → Int → Prop)
    (hH : ∀ W, w.heap.size ≤ W.heap.size → HP W → Calls Tryz.prog 20 #[.pointer (some ⟨hb, 0, none⟩), .string ⟨ss.toArray⟩, .int .u64 aa, .agg #[.int .i64 fl, .int .i64 fu, .int .i64 ke, .int .i64 pa]] W fun e w' => e = .returned (.tuple #[.int .u64 rs, .int .i64 k]) ∧ HP' w' ∧ Tryz.HostSp B W w')
    (hC : ∀ B' W nb g' cap', B' ≤ W.heap.size → B' ≤ nb → Tryz.RVAt B' W nb g' cap' L tm tr lr → Calls Tryz.prog 112 #[.pointer (some ⟨nb, 0, none⟩), .string ⟨ss.toArray⟩, .int .u64 aa] W fun e w' => ∃ g2 cap2 L2 tr2 lr2, Q2 L2 tr2 lr2 ∧ e = .returned (.tuple #[.int .u64 rs, .int .i64 k]) ∧ Tryz.RVAt B' w' nb g2 cap2 L2 tm tr2 lr2 ∧ Spares [nb, g'] W w') :
    Calls Tryz.prog 62 #[.pointer (some ⟨wb, 0, none⟩), .agg (StepD.cells ⟨3, ss, tt, aa, bb, ff, fl, fu, ke, pa⟩)] w fun e w' => e = .returned (.bool true) ∧ Tryz.After w B wb hb tm HP' Q2 w' := by
  have lW := hW.lt
  have hb0 : Below w.heap.size w (w.alloc (.cells (StepD.cells ⟨3, ss, tt, aa, bb, ff, fl, fu, ke, pa⟩) 72)) := (Below.refl _ w).alloc (Nat.le_refl _) _
  have bS := BoxN.new w 72 (StepD.cells ⟨3, ss, tt, aa, bb, ff, fl, fu, ke, pa⟩)
  have bW0 := hW.alloc (.cells (StepD.cells ⟨3, ss, tt, aa, bb, ff, fl, fu, ke, pa⟩) 72)
  have hCp := Tryz.rCopy B ra g cap L tm tr lr _ (hR.below hb0) hpos
  rw [World.size_alloc] at hCp
  have w1c := bW0.cell 1 (v := .pointer (some ⟨ra, 0, none⟩)) rfl
  have s0c := bS.cell 0 (v := .int .i64 3) rfl
  obtain ⟨kz, hkz⟩ : ∃ kz : Bool, (k != 0) = kz := ⟨_, rfl⟩
  have hkz' : (k == 0) = !kz := by rw [← hkz]; simp [bne]
  have Hkz : Hid (kz = true → rs = 0) := hid_intro (fun e => hkr (by rw [e] at hkz; simpa using hkz))
  clear hkr
  simp only [StepD.cells] at *
  cases kz
  all_goals
    try (have hzz := hid_elim Hkz rfl)
    try subst hzz
    go_enter Tryz.func62, Tryz.ntmps62
    go_wp2_with (first
      | (go_at_call 106; refine hCp.mono ?_; rintro e w1 ⟨g', cap', rfl, hR1, hb1⟩; have bS1 := bS.below hb1 (by simp); have s01 := bS1.cell 0 (v := .int .i64 3) rfl))
    have hb1' : Below w.heap.size w w1 := hb0.trans (hb1.mono (by omega))
    have bW1 := bW0.below hb1 (by omega)
    have hP1 : AskP wb hb w.heap.size ⟨3, ss, tt, aa, bb, ff, fl, fu, ke, pa⟩ w1 := AskP.mk' bW1 bS1
    have hh1 : HP w1.drew := lo1.below hP hb1'.drew
    have hg'l := hR1.glt
    have hg'b : w.heap.size + 1 ≤ g' := (hR1.row.lt g' rfl).1
    have hH1 := hH w1.drew (by have := hb1'.size; exact this) hh1
    have hRo1 : Tryz.RVAt B w1.drew ra g cap L tm tr lr := hR.below hb1'.drew
    have hRn1 : Tryz.RVAt (w.heap.size + 1) w1.drew (w.heap.size + 1) g' cap' L tm tr lr := hR1.below (Below.refl _ _).drew
    have fW : Tryz.Foreign w1.drew wb := ⟨by omega, _, _, bW1, by decide⟩
    have fS : Tryz.Foreign w1.drew w.heap.size := ⟨by omega, _, _, bS1, by decide⟩
    obtain ⟨fA, fG⟩ := hRo1.foreign hB9 (by omega)
    obtain ⟨fN, fH⟩ := hRn1.foreign (by omega) (by omega)
    simp only [AskP] at hP1
    go_region_held3 (AskP wb hb w.heap.size ⟨3, ss, tt, aa, bb, ff, fl, fu, ke, pa⟩) (first
      | with_reducible exact AskP.drew hP1
      | with_reducible assumption) (first | (go_at_call 20; refine hH1.mono ?_; rintro e w2 ⟨rfl, hp2, hs, hsp2, hso⟩; have bW2 := Spares.box (W := w1.drew) hsp2 bW1 (fun hx => (hso _ hx).2 fW); have bS2 := Spares.box (W := w1.drew) hsp2 bS1 (fun hx => (hso _ hx).2 fS); have hP2 := AskP.mk' (st := ⟨3, ss, tt, aa, bb, ff, fl, fu, ke, pa⟩) bW2 bS2))
    have hRn2 : Tryz.RVAt (w.heap.size + 1) w2 (w.heap.size + 1) g' cap' L tm tr lr := hRn1.spares hsp2 (fun hx => (hso _ hx).2 fN) (fun hx => (hso _ hx).2 fH)
    have hC2 := hC (w.heap.size + 1) w2 (w.heap.size + 1) g' cap' (by have := hRn2.v.lt; omega) (Nat.le_refl _) hRn2
    obtain ⟨⟨q0, q1, q2, q3, q4⟩, q6, q7, q8, q9⟩ := hP2
    have hgd := hRn2.gbox
    have lra := hR.v.lt
    have lgg := hR.glt
    have hRo2 : Tryz.RVAt B w2 ra g cap L tm tr lr := hRo1.spares hsp2 (fun hx => (hso _ hx).2 fA) (fun hx => (hso _ hx).2 fG)
    have hbB2 : Below B w w2 := (hb1'.mono hB).drew.trans (hsp2.below (by have := hb1'.size; exact Nat.le_trans hB this) (fun b hb => (hso b hb).1))
    have HBB := hid_intro hbB2
    clear hP1 hCp hH hC hH1 w1c s0c s01 hsp2 hso hbB2
    go_wp2_with (first
      | (go_at_call 112; refine hC2.mono ?_; rintro e w3 ⟨g2, cap2, L2, tr2, lr2, hQ2, rfl, hR3, hsp3⟩; have bW3 := hsp3.box bW2 (fun hx => by rcases List.mem_cons.1 hx with e | e; omega; have := List.mem_singleton.1 e; omega); have c13 := bW3.cell 1 (v := .pointer (some ⟨ra, 0, none⟩)) rfl; have hRo3 : Tryz.RVAt B w3 ra g cap L tm tr lr := hRo2.spares hsp3 (fun hx => by rcases List.mem_cons.1 hx with e | e; omega; have := List.mem_singleton.1 e; omega) (fun hx => by rcases List.mem_cons.1 hx with e | e; omega; have := List.mem_singleton.1 e; omega))
      | (go_at_call 113; refine (Tryz.changes _ _ _ _ _ _ _ _ _ _ _ _ _ _ _ _ w3 hR3 hRo3).mono ?_; rintro e w5 ⟨tb, rfl, hb5⟩; have bW5 := bW3.below hb5 bW3.lt; have hTu := Tryz.turned wb (w.heap.size + 1) k tb _ _ _ _ w5 bW5)
      | (go_at_call 110; refine hTu.mono ?_; rintro e w4 ⟨rfl, rfl⟩))
    go_ret
    refine ⟨by first | rfl | simp, ?_⟩
    obtain ⟨cur, hcur⟩ := hgd
    have hp3 : HP' w3 := lo2.other hp2 hsp3 (fun b hb => by
      rcases List.mem_cons.1 hb with rfl | hb
      · exact Tryz.Foreign.of hRn2.v (by omega) (by decide)
      · rw [List.mem_singleton.1 hb]; exact Tryz.Foreign.of hcur (by omega) (by decide))
    have hp5 : HP' w5 := lo2.below hp3 hb5
    have hR5 := hR3.below hb5
    have hsp4 : Spares [wb] w5 (w5.setCell ⟨wb, 1, none⟩ (.pointer (some ⟨w.heap.size + 1, 0, none⟩))) := (Spares.of_below (Below.refl _ _)).set (by simp) _ _
    have nW : wb ≠ g2 := fun e => by obtain ⟨c, hc⟩ := hR5.gbox; exact bW5.ne hc (by decide) e
    have hp4 : HP' (w5.setCell ⟨wb, 1, none⟩ (.pointer (some ⟨w.heap.size + 1, 0, none⟩))) := lo2.other hp5 hsp4 (fun b hb => by rw [List.mem_singleton.1 hb]; exact Tryz.Foreign.of bW5 (by omega) (by decide))
    have hR4 := (Tryz.RVAt.spares hR5 hsp4 (by simp; omega) (by simpa using Ne.symm nW)).lower (B' := B) (by omega)
    have hB3 : Below B w w3 := (hid_elim HBB).trans (hsp3.below (by have := hRn2.v.lt; omega) (fun b hb => by
      rcases List.mem_cons.1 hb with rfl | hb
      · omega
      · rw [List.mem_singleton.1 hb]; omega))
    exact ⟨hp4, ⟨L2, tr2, lr2, _, g2, cap2, hQ2, hR4, by omega, bW5.set 1 _⟩, (hB3.trans (hb5.mono (by have := hR3.v.lt; omega))).setCell (p := ⟨wb, 1, none⟩) hwb _⟩
end Go.Proofs
