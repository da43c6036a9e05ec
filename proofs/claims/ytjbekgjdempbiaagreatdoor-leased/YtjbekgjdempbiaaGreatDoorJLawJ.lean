import Derived.Test.YtjbekgjdempbiaaGreatDoorJInv
import Derived.Test.YtjbekgjdempbiaaGreatDoorJAskRenew
import Derived.Test.YtjbekgjdempbiaaGreatDoorJSpare
import Derived.Test.YtjbekgjdempbiaaGreatDoorJRangeO
import Derived.Test.YtjbekgjdempbiaaGreatDoorJDiskC
import Derived.Carry
import Derived.Maps.RangeWalk
/-
  A request that turns nothing: Authorize.
-/
namespace Go.Proofs
open Go.RowKit Go.Sort Go.Lib Go.Shelf Go.Maps

abbrev AutP (wb hb ra sb : Nat) (ss tt : List UInt8) (W : World) : Prop :=
  W.cell? ⟨wb, 0, none⟩ = some (.pointer (some ⟨hb, 0, none⟩)) ∧ W.cell? ⟨wb, 1, none⟩ = some (.pointer (some ⟨ra, 0, none⟩)) ∧ W.cell? ⟨sb, 1, none⟩ = some (.string ⟨ss.toArray⟩) ∧ W.cell? ⟨sb, 2, none⟩ = some (.string ⟨tt.toArray⟩)
theorem AutP.drew {wb hb ra sb : Nat} {ss tt : List UInt8} {W : World} (h : AutP wb hb ra sb ss tt W) : AutP wb hb ra sb ss tt W.drew := h
theorem AutP.mk' {wb hb ra sb : Nat} {st : StepD} {W : World} {t t' : TypeId} {c2 c3 c4 : Value} (hW : BoxN W wb t #[.pointer (some ⟨hb, 0, none⟩), .pointer (some ⟨ra, 0, none⟩), c2, c3, c4]) (hS : BoxN W sb t' st.cells) : AutP wb hb ra sb st.s st.t W :=
  ⟨hW.cell 0 rfl, hW.cell 1 rfl, hS.cell 1 rfl, hS.cell 2 rfl⟩

set_option maxRecDepth 100000 in
set_option maxHeartbeats 4000000 in
theorem Tryz.askAuth (B wb hb ra g cap : Nat) (tm : Int) (L : List ThingD) (tr lr : Int) (w : World) (hR : Tryz.RVAt B w ra g cap L tm tr lr) (hpos : 0 < L.length) (hW : BoxN w wb 69 #[.pointer (some ⟨hb, 0, none⟩), .pointer (some ⟨ra, 0, none⟩), .pointer none, .bool false, .bool false])
    (ss tt : List UInt8) (aa bb ff fl fu ke pa : Int) (r : Bool)
    (hH : ∀ W, Below w.heap.size w W → Calls Tryz.prog 23 #[.pointer (some ⟨hb, 0, none⟩), .string ⟨ss.toArray⟩, .string ⟨tt.toArray⟩] W fun e w' => e = .returned (.bool r) ∧ Below W.heap.size W w')
    (hC : ∀ W, Below w.heap.size w W → Calls Tryz.prog 117 #[.pointer (some ⟨ra, 0, none⟩), .string ⟨ss.toArray⟩, .string ⟨tt.toArray⟩] W fun e w' => e = .returned (.bool r) ∧ Below W.heap.size W w') :
    Calls Tryz.prog 62 #[.pointer (some ⟨wb, 0, none⟩), .agg (StepD.cells ⟨4, ss, tt, aa, bb, ff, fl, fu, ke, pa⟩)] w fun e w' => e = .returned (.bool true) ∧ Below w.heap.size w w' := by
  have lW := hW.lt
  have hb0 : Below w.heap.size w (w.alloc (.cells (StepD.cells ⟨4, ss, tt, aa, bb, ff, fl, fu, ke, pa⟩) 72)) := (Below.refl _ w).alloc (Nat.le_refl _) _
  have bS := BoxN.new w 72 (StepD.cells ⟨4, ss, tt, aa, bb, ff, fl, fu, ke, pa⟩)
  have bW0 := hW.alloc (.cells (StepD.cells ⟨4, ss, tt, aa, bb, ff, fl, fu, ke, pa⟩) 72)
  have hCp := Tryz.rCopy B ra g cap L tm tr lr _ (hR.below hb0) hpos
  rw [World.size_alloc] at hCp
  have w1c := bW0.cell 1 (v := .pointer (some ⟨ra, 0, none⟩)) rfl
  have s0c := bS.cell 0 (v := .int .i64 4) rfl
  simp only [StepD.cells] at *
  go_enter Tryz.func62, Tryz.ntmps62
  go_wp2_with (first
    | (go_at_call 106; refine hCp.mono ?_; rintro e w1 ⟨g', cap', rfl, hR1, hb1⟩; have bS1 := bS.below hb1 (by simp); have s01 := bS1.cell 0 (v := .int .i64 4) rfl))
  have hb1' : Below w.heap.size w w1 := hb0.trans (hb1.mono (by omega))
  have bW1 := bW0.below hb1 (by omega)
  have hP1 : AutP wb hb ra w.heap.size ss tt w1 := AutP.mk' (st := ⟨4, ss, tt, aa, bb, ff, fl, fu, ke, pa⟩) bW1 bS1
  have hH1 := hH w1.drew hb1'.drew
  simp only [AutP] at hP1
  go_region_held3 (AutP wb hb ra w.heap.size ss tt) (first
    | with_reducible exact AutP.drew hP1
    | with_reducible assumption) (first | (go_at_call 23; refine hH1.mono ?_; rintro e w2 ⟨rfl, hb2⟩; have bW2 := BoxN.below (W := w1.drew) bW1 hb2 bW1.lt; have bS2 := BoxN.below (W := w1.drew) bS1 hb2 bS1.lt; have hP2 := AutP.mk' (st := ⟨4, ss, tt, aa, bb, ff, fl, fu, ke, pa⟩) bW2 bS2))
  have hb2' : Below w.heap.size w w2 := hb1'.drew.trans (hb2.mono (by have := hb1'.size; exact this))
  have hC2 := hC w2.drew hb2'.drew
  go_wp2_with fail
  simp only [AutP] at hP2
  go_region_held3 (AutP wb hb ra w.heap.size ss tt) (first
    | with_reducible exact AutP.drew hP2
    | with_reducible assumption) (first | (go_at_call 117; refine hC2.mono ?_; rintro e w3 ⟨rfl, hb3⟩; have bW3 := BoxN.below (W := w2.drew) bW2 hb3 bW2.lt; have bS3 := BoxN.below (W := w2.drew) bS2 hb3 bS2.lt; have hP3 := AutP.mk' (st := ⟨4, ss, tt, aa, bb, ff, fl, fu, ke, pa⟩) bW3 bS3))
  go_wp2
  go_ret
  exact ⟨by first | rfl | simp, hb2'.drew.trans (hb3.mono (by have := hb2'.size; exact this))⟩
end Go.Proofs

/-
  A request keeps what holds: Renew, Authorize.
-/
namespace Go.Proofs
open Go.RowKit Go.Sort Go.Lib Go.Shelf Go.Maps

set_option maxHeartbeats 1000000 in
theorem Tryz.okRenew {w0 : World} {B N wb hb : Nat} (w : World) (hI : Tryz.Inv w0 B N wb hb w) (hN : N < 20000) (ss tt : List UInt8) (hss : ss.length ≤ 1000000) (aa bb ff ke pa : Int) (ha0 : 0 ≤ aa) (ha1 : aa ≤ 18446744073709551615) :
    Calls Tryz.prog 62 #[.pointer (some ⟨wb, 0, none⟩), .agg (StepD.cells ⟨3, ss, tt, aa, bb, ff, -1, -1, ke, pa⟩)] w fun e w' => e = .returned (.bool true) ∧ Tryz.Inv w0 B (N + 1) wb hb w' := by
  obtain ⟨rb, σ, ra, g, cap, L, hS, hR, hl, hW, hn, hra⟩ := hI.ex
  have hok := hS.wh.v.va.ok
  have hpos : 0 < L.length := by rw [hl.len]; have := hn.pos; omega
  have b9 := hS.b9
  have hcs := hn.small hN
  have hnm := hn.more (Nat.le_succ N)
  rcases liveI_cases σ.tm ss false L with ⟨i, t, ht, hid, htk, hst, hli⟩ | hli
  · obtain ⟨k, l, hk, rfl, hp, hlv, hrel⟩ := leaLive_hit hok hl ht hid htk hst hli
    have hA := Tryz.askRenew B wb hb ra g cap σ.tm L _ _ w _ _ (Tryz.loneSys B hb rb σ) (Tryz.loneEx B hb rb (fun σ' => σ'.tm = σ.tm ∧ σ'.s = ⟨σ.s.tn, σ.s.ln, σ.s.tks, σ.s.lks.set k { l with at_ := renewL σ.tm aa l }⟩ ∧ σ'.c.length ≤ σ.c.length + 1300000)) hS hR hpos hW hI.hB b9 hI.bw hra ss tt aa bb ff (-1) (-1) ke pa 0 (renewL σ.tm aa l) (fun h => absurd rfl h) (fun a b c => a = L.set i { (thL l) with at_ := renewL σ.tm aa l } ∧ b = ((σ.s.tn + 1 : Nat) : Int) ∧ c = ((σ.s.ln + 1 : Nat) : Int))
        (fun W _ hS' => (Tryz.hRenew B hb rb σ W hS' ss aa ke pa (.int .u64 (renewL σ.tm aa l)) (Tryz.errV 0) 0 (Tryz.toldK 0 (.inl rfl)) (fun σ' => σ'.tm = σ.tm ∧ σ'.s = ⟨σ.s.tn, σ.s.ln, σ.s.tks, σ.s.lks.set k { l with at_ := renewL σ.tm aa l }⟩ ∧ σ'.c.length ≤ σ.c.length + 1300000) (fun W' _ hV => (Tryz.vRenew_hit σ.k σ.vx σ.tm σ.s σ.c (-1) (-1) W' hV (by decide) (by decide) (by decide) (by decide) hcs ss hss k l hk hp hlv aa ha0 ha1 (by have := hn.nl; omega)).mono (by rintro e w' ⟨rfl, ⟨c', l', f', hc', -, -, -, -, hV'⟩, hs'⟩; exact ⟨rfl, ⟨⟨σ.k, σ.vx, σ.tm, _, c'⟩, l', f', ⟨⟨rfl, rfl, hc'⟩, rfl, rfl⟩, hV'⟩, hs'⟩))).mono (fun _ _ h => Tryz.hostSame hS' h))
        (fun B' W nb g' cap' hBW _ hR' => (Tryz.rRenew_hit B' nb g' cap' L σ.tm _ _ ss aa W hR' hBW hR'.ne hS.wh.v.t0 ha0 ha1 i _ ht hli).mono (by
          rintro e w' ⟨rfl, hR2, -, hs2⟩
          exact ⟨g', cap', _, _, _, ⟨rfl, rfl, rfl⟩, rfl, hR2, hs2⟩))
    refine hA.mono ?_
    rintro e w' ⟨rfl, hA'⟩
    refine ⟨rfl, hA'.inv hI ?_⟩
    rintro σ' _ _ _ ⟨h1, h2, h3⟩ ⟨rfl, rfl, rfl⟩
    obtain ⟨k', vx', tm', s', c'⟩ := σ'
    simp only at h1 h2 h3
    subst h1 h2
    refine ⟨rfl, hrel _, rfl, rfl, ⟨hn.nt, ?_, hn.pos, ?_, ?_, ?_⟩⟩
    · simpa using hn.nl
    · have := hn.tn; show σ.s.tn ≤ N + 1; omega
    · have := hn.ln; show σ.s.ln ≤ N + 1; omega
    · have := hn.c; show c'.length ≤ (N + 1) * 40000000; omega
  · obtain ⟨ak, au, at_, tr, pd, lp, la, hF⟩ := Tryz.leaLive_miss (vb := σ.k.vb) (mt := σ.k.mt) (ml := σ.k.ml) (vx := σ.vx) (tn := σ.s.tn) (ln := σ.s.ln) hok hl ss hli
    have hA := Tryz.askRenew B wb hb ra g cap σ.tm L _ _ w _ _ (Tryz.loneSys B hb rb σ) (Tryz.loneEx B hb rb (fun σ' => σ' = σ)) hS hR hpos hW hI.hB b9 hI.bw hra ss tt aa bb ff (-1) (-1) ke pa 5 0 (fun _ => rfl) (fun a b c => a = L ∧ b = ((σ.s.tn + 1 : Nat) : Int) ∧ c = ((σ.s.ln + 1 : Nat) : Int))
      (fun W _ hS' => (Tryz.hRenew B hb rb σ W hS' ss aa ke pa (.int .u64 0) (Tryz.errV 5) 5 (Tryz.toldK 5 (.inr (by simp [ErrK]))) _ (fun W' _ hV => (Tryz.vRenew_miss σ.k.vb W' ss aa _ ak au at_ tr pd lp la (Tryz.parse ⟨ss.toArray⟩ (by simpa [ByteArray.size] using hss) W' hV.v.va.env hV.v.va.six) (fun W2 hb2 => hF W2 (hV.v.va.below hb2))).mono (fun _ _ h => Tryz.vSame hV h))).mono (fun _ _ h => Tryz.hostSame hS' h))
      (fun B' W nb g' cap' _ _ hR' => (Tryz.rRenew_miss B' nb g' cap' L σ.tm _ _ ss aa W hR' hli).mono (by rintro e w' ⟨rfl, hb'⟩; exact ⟨g', cap', L, _, _, ⟨rfl, rfl, rfl⟩, rfl, hR'.below hb', Spares.of_below hb'⟩))
    refine hA.mono ?_
    rintro e w' ⟨rfl, hA'⟩
    exact ⟨rfl, hA'.inv hI (by rintro _ _ _ _ rfl ⟨rfl, rfl, rfl⟩; exact ⟨rfl, hl, rfl, rfl, hnm⟩)⟩

/-- Authorize on both sides. -/
theorem Tryz.vAuthRel {B : Nat} {hb rb : Nat} {σ : SS} {L : List ThingD} (W : World) (hS : Tryz.Sys B W hb rb σ) (hl : Rel σ.s.tks σ.s.lks L) (ss tt : List UInt8) (hss : ss.length ≤ 1000000) :
    Calls Tryz.prog 47 #[.pointer (some ⟨σ.k.vb, 0, none⟩), .string ⟨ss.toArray⟩, .string ⟨tt.toArray⟩] W fun e w' => e = .returned (.bool (authI σ.tm ss tt L)) ∧ Below W.heap.size W w' := by
  have hok := hS.wh.v.va.ok
  have hP := Tryz.parse ⟨ss.toArray⟩ (by simpa [ByteArray.size] using hss) W hS.wh.v.va.env hS.wh.v.va.six
  rcases liveI_cases σ.tm ss false L with ⟨i, t, ht, hid, htk, hst, hli⟩ | hli
  · obtain ⟨k, l, hk, rfl, hp, hlv, -⟩ := leaLive_hit hok hl ht hid htk hst hli
    rw [authI_hit ht hli]
    simp only [hp] at hP
    have h := Tryz.vAuth_any σ.k.vb W ss tt _ l.ak l.au l.at_ l.tr l.pd l.pth l.last true hP (fun W2 hb2 => by
      have h := Tryz.liveLease_hit σ.k.vb σ.k.mt σ.k.ml σ.vx σ.tm σ.s.tn σ.s.ln σ.s.tks σ.s.lks W2 (hS.wh.v.va.below hb2) l (List.mem_of_getElem? hk)
      rw [hlv] at h
      exact h)
    rw [Bool.true_and] at h
    exact h
  · obtain ⟨ak, au, at_, tr, pd, lp, la, hF⟩ := Tryz.leaLive_miss (vb := σ.k.vb) (mt := σ.k.mt) (ml := σ.k.ml) (vx := σ.vx) (tn := σ.s.tn) (ln := σ.s.ln) hok hl ss hli
    rw [authI_miss hli]
    exact Tryz.vAuth_any σ.k.vb W ss tt _ ak au at_ tr pd lp la false hP (fun W2 hb2 => hF W2 (hS.wh.v.va.below hb2))

set_option maxHeartbeats 1000000 in
theorem Tryz.okAuth {w0 : World} {B N wb hb : Nat} (w : World) (hI : Tryz.Inv w0 B N wb hb w) (ss tt : List UInt8) (hss : ss.length ≤ 1000000) (aa bb ff fl fu ke pa : Int) :
    Calls Tryz.prog 62 #[.pointer (some ⟨wb, 0, none⟩), .agg (StepD.cells ⟨4, ss, tt, aa, bb, ff, fl, fu, ke, pa⟩)] w fun e w' => e = .returned (.bool true) ∧ Tryz.Inv w0 B (N + 1) wb hb w' := by
  have hI' := hI
  obtain ⟨rb, σ, ra, g, cap, L, hS, hR, hl, hW, hn, hra⟩ := hI.ex
  have hpos : 0 < L.length := by rw [hl.len]; have := hn.pos; omega
  have hC := fun W (b : Below w.heap.size w W) => Tryz.rAuth B ra g cap L σ.tm _ _ ss tt W (hR.below b)
  have hH := fun W (b : Below w.heap.size w W) => Tryz.hAuth hb σ.k.db rb σ.k.vb W (hS.below b).host ss tt _ (Tryz.vAuthRel W (hS.below b) hl ss tt hss)
  refine (Tryz.askAuth B wb hb ra g cap σ.tm L _ _ w hR hpos hW ss tt aa bb ff fl fu ke pa _ hH hC).mono ?_
  rintro e w' ⟨rfl, hb'⟩
  exact ⟨rfl, (hI'.below hb').more (by omega)⟩
end Go.Proofs

/-
  Package plain: a new host; names.Root; leasekeeper.Open.
-/
namespace Go.Proofs
open Go.RowKit Go.Sort Go.Maps

set_option maxHeartbeats 1000000 in
theorem Tryz.root (w : World) : Calls Tryz.prog 85 #[] w fun e w' => e = .returned (nmV (1, 0)) ∧ Below w.heap.size w w' := by
  unfold nmV
  go_enter Tryz.func85, Tryz.ntmps85
  go_wp2
  exact bodyPost_ret (v := .agg #[.int .i64 1, .int .u64 0]) (by simp [results, Tryz.results85, go_sem]) rfl ⟨rfl, (Below.refl _ _).alloc (Nat.le_refl _) _⟩

set_option maxHeartbeats 1000000 in
theorem Tryz.hIs (hb : Nat) (c0 c1 : Value) (p : Addr) (w : World) (hH : BoxN w hb 78 #[c0, c1, .pointer (some p)]) :
    Calls Tryz.prog 36 #[.pointer (some ⟨hb, 0, none⟩)] w fun e w' => e = .returned (.bool true) ∧ w' = w := by
  have h2 := hH.cell 2 (v := .pointer (some p)) rfl
  go_enter Tryz.func36, Tryz.ntmps36
  go_wp2
  go_ret
  exact ⟨rfl, rfl⟩

theorem grown_sets (w : World) (db i i' : Nat) (v v' : Value) : w.grownBy ((w.setCell ⟨db, i, none⟩ v).setCell ⟨db, i', none⟩ v') (some db) :=
  ⟨rfl, rfl, rfl, by simp, fun k _ hne => by
    have hd : k ≠ db := fun e => hne (by rw [e])
    rw [set_other _ _ _ _ _ hd, set_other _ _ _ _ _ hd]⟩
theorem BoxN.ne_map {H : Type} {P : Program} {k : TypeId} {R : Value → Option (DataW H × List MemPlace)} {D : DataW H} {W : World} {B b n : Nat} {t : TypeId} {cs : Array Value} (h : BoxN W B t cs) (hm : W.ownsMap P k R b n D) : b ≠ B := by
  rintro rfl
  obtain ⟨es, clock, hb, _⟩ := hm
  have e := hb.symm.trans h
  cases e

set_option maxRecDepth 100000 in
set_option maxHeartbeats 1000000 in
theorem Tryz.up (db b : Nat) (m2 p l f dn : Value) (w : World) (hD : BoxN w db 100 #[.map (some b), m2, p, l, f, dn]) (hown : w.ownsMap Tryz.prog 9 valR b 0 (.map [])) :
    Calls Tryz.prog 56 #[.pointer (some ⟨db, 0, none⟩)] w fun e w' => e = .returned (.tuple #[]) ∧ (∃ b2, w.heap.size ≤ b2 ∧ w'.ownsMap Tryz.prog 9 valR b2 0 (.map []) ∧ BoxN w' db 100 #[.map (some b), .map (some b2), .slice none 0 0, l, f, .bool false]) ∧ w.grownBy w' (some db) := by
  have hmk : ∀ W, (Instr.makeMap 97 none).run Tryz.prog W = .ok (.map (some W.heap.size)) (W.alloc (.map #[] 0)) := fun W => run_makeMap _ W
  have d0 := hD.cell 0 (v := .map (some b)) rfl
  have d1 := hD.cell 1 (v := m2) rfl
  have d2 := hD.cell 2 (v := p) rfl
  have d5 := hD.cell 5 (v := dn) rfl
  have f1 := hD.frozen 1
  have f2 := hD.frozen 2
  have f5 := hD.frozen 5
  have lD := hD.lt
  go_enter Tryz.func56, Tryz.ntmps56
  have hne := hD.ne_map hown
  have hown1 := (hown.setCell (a := ⟨db, 1, none⟩) hne (.map (some w.heap.size))).alloc (.map #[] 0)
  go_wp2_with (first
    | (at_range; refine wpList_range_own _ rfl _ 97 rfl 9 101 (string_keyed Tryz.underlying9) Tryz.underlying97 _ b 0 _ rfl hown1 ?_; intro w1 hrg hg1 hs1)
    | go_in)
  have bD1 : BoxN w1 db 100 #[.map (some b), .map (some w.heap.size), p, l, f, dn] := ((hD.set 1 (.map (some w.heap.size))).alloc (.map #[] 0)).kept hg1 (by simp)
  have hMn0 := World.ownsMap_made (w.setCell ⟨db, 1, none⟩ (.map (some w.heap.size))) Tryz.prog 9 valR
  have hMn1 := hMn0.kept hg1 (by simp)
  rw [World.size_setCell] at hMn1
  have hgr : w.grownBy w1 (some db) := ⟨hg1.os, hg1.tape, hg1.output, by rw [hs1]; simp; omega, fun k hk hnk => by
    have hd : k ≠ db := fun e => hnk (by rw [e])
    rw [hg1.block k (by simp; omega) (by simp)]
    show (((w.setCell ⟨db, 1, none⟩ (.map (some w.heap.size))).heap.push _)[k]?) = _
    rw [Array.getElem?_push_lt (by simpa using hk), ← Array.getElem?_eq_getElem, set_other _ _ _ _ _ hd]⟩
  have HG := hid_intro hgr
  clear hgr hg1 hs1 hown1 hown d0 d1 d2 d5 f1 f2 f5
  have d2 := bD1.cell 2 (v := p) rfl
  have d5 := bD1.cell 5 (v := dn) rfl
  have f2 := bD1.frozen 2
  have f5 := bD1.frozen 5
  refine wp_loop_rounds 1 ?_
  rw [rounds_succ]
  go_wp2_with (first
    | (at_next; refine wpList_next_ranges _ rfl _ rfl 9 (string_keyed Tryz.underlying9) valR (fun v : Value => v) (fun v : Value => v) (fun v _ _ => ⟨v, rfl⟩) (fun v _ _ => ⟨v, rfl⟩) b _ 0 _ _ _ rfl hrg ?_ ?_)
    | go_in)
  · intro _ _
    clear hrg
    go_wp2
    go_end0
    have hnn := bD1.ne_map hMn1
    exact ⟨rfl, ⟨_, Nat.le_refl _, (hMn1.setCell (a := ⟨db, 2, none⟩) hnn _).setCell (a := ⟨db, 5, none⟩) hnn _, (bD1.set 2 _).set 5 _⟩, (hid_elim HG).andThen (grown_sets w1 db 2 5 _ _) (fun j e => .inr e)⟩
  · intro x c kl y yp w' cnt' _ h2
    have h3 : false = true := h2
    cases h3

set_option maxHeartbeats 1000000 in
theorem Tryz.newHost (w : World) : Calls Tryz.prog 35 #[] w fun e w' => ∃ hb db rb md mn, e = .returned (.pointer (some ⟨hb, 0, none⟩)) ∧ BoxN w' hb 78 #[.pointer (some ⟨db, 0, none⟩), .pointer (some ⟨rb, 0, none⟩), .pointer none] ∧ Tryz.DiskAt w' db md mn none none (.slice none 0 0) (-1) (-1) ∧ BoxN w' rb 88 #[.slice none 0 0, .int .u64 0] ∧ (w.heap.size ≤ hb ∧ w.heap.size ≤ db ∧ w.heap.size ≤ rb ∧ w.heap.size ≤ md ∧ w.heap.size ≤ mn) ∧ Below w.heap.size w w' := by
  have hmk : ∀ W, (Instr.makeMap 97 none).run Tryz.prog W = .ok (.map (some W.heap.size)) (W.alloc (.map #[] 0)) := fun W => run_makeMap _ W
  have bD := ((BoxN.new (w.alloc (.map #[] 0)) 100 #[.map (some w.heap.size), .map none, .slice none 0 0, .int .i64 (-1), .int .i64 (-1), .bool false]).alloc (.cells #[.slice none 0 0, .int .u64 0] 88)).alloc (.cells #[.pointer (some ⟨w.heap.size + 1, 0, none⟩), .pointer (some ⟨w.heap.size + 1 + 1, 0, none⟩), .pointer none] 78)
  have bR := (BoxN.new ((w.alloc (.map #[] 0)).alloc (.cells #[.map (some w.heap.size), .map none, .slice none 0 0, .int .i64 (-1), .int .i64 (-1), .bool false] 100)) 88 #[.slice none 0 0, .int .u64 0]).alloc (.cells #[.pointer (some ⟨w.heap.size + 1, 0, none⟩), .pointer (some ⟨w.heap.size + 1 + 1, 0, none⟩), .pointer none] 78)
  have bH := BoxN.new (((w.alloc (.map #[] 0)).alloc (.cells #[.map (some w.heap.size), .map none, .slice none 0 0, .int .i64 (-1), .int .i64 (-1), .bool false] 100)).alloc (.cells #[.slice none 0 0, .int .u64 0] 88)) 78 #[.pointer (some ⟨w.heap.size + 1, 0, none⟩), .pointer (some ⟨w.heap.size + 1 + 1, 0, none⟩), .pointer none]
  have hM : ((((w.alloc (.map #[] 0)).alloc (.cells #[.map (some w.heap.size), .map none, .slice none 0 0, .int .i64 (-1), .int .i64 (-1), .bool false] 100)).alloc (.cells #[.slice none 0 0, .int .u64 0] 88)).alloc (.cells #[.pointer (some ⟨w.heap.size + 1, 0, none⟩), .pointer (some ⟨w.heap.size + 1 + 1, 0, none⟩), .pointer none] 78)).ownsMap Tryz.prog 9 valR w.heap.size 0 (.map []) := (((World.ownsMap_made w Tryz.prog 9 valR).alloc _).alloc _).alloc _
  have hB : Below w.heap.size w ((((w.alloc (.map #[] 0)).alloc (.cells #[.map (some w.heap.size), .map none, .slice none 0 0, .int .i64 (-1), .int .i64 (-1), .bool false] 100)).alloc (.cells #[.slice none 0 0, .int .u64 0] 88)).alloc (.cells #[.pointer (some ⟨w.heap.size + 1, 0, none⟩), .pointer (some ⟨w.heap.size + 1 + 1, 0, none⟩), .pointer none] 78)) := ((((Below.refl _ w).alloc (Nat.le_refl _) _).alloc (by simp) _).alloc (by simp; omega) _).alloc (by simp; omega) _
  simp only [World.size_alloc] at bD bR bH
  have hU := Tryz.up _ _ _ _ _ _ _ _ bD hM
  go_enter Tryz.func35, Tryz.ntmps35
  go_wp2_with (go_at_call 56; refine hU.mono ?_; rintro e w1 ⟨rfl, ⟨b2, hb2, hM2, bD1⟩, hg1⟩)
  go_ret
  have hM1 := hM.kept hg1 (by intro e; injection e with e; omega)
  simp only [World.size_alloc] at hb2
  exact ⟨_, _, _, w.heap.size, b2, rfl, bH.kept hg1 (by intro e; injection e with e; omega), ⟨bD1, ⟨0, by omega, hM1⟩, ⟨0, by omega, hM2⟩, by simp, by simp, by omega⟩, bR.kept hg1 (by intro e; injection e with e; omega), ⟨by omega, by omega, by omega, by omega, by omega⟩, hB.grown hg1 (by simp; omega) (fun q hq => by cases hq; omega)⟩
end Go.Proofs

/-
  A step.
-/
namespace Go.Proofs
open Go.RowKit Go.Sort Go.Lib Go.Shelf Go.Maps

theorem Tryz.Inv.sick {w0 : World} {B N wb hb : Nat} {W : World} (h : Tryz.Inv w0 B N wb hb W) : Tryz.Inv w0 B N wb hb (W.setCell ⟨wb, 3, none⟩ (.bool false)) := by
  obtain ⟨rb, σ, ra, g, cap, L, h1, h2, h3, h4, h5, h6⟩ := h.ex
  have hsp : Spares [wb] W (W.setCell ⟨wb, 3, none⟩ (.bool false)) := (Spares.of_below (Below.refl _ _)).set (by simp) _ _
  have b9 := h.nine
  have bw := h.bw
  refine ⟨h.bel.setCell (p := ⟨wb, 3, none⟩) h.bw _, by simpa using h.hB, h.bw, ⟨rb, σ, ra, g, cap, L, h1.other hsp (fun b hb => by rw [List.mem_singleton.1 hb]; exact Tryz.Foreign.of h4 (by omega) (by decide)), h2.spares hsp (fun hx => h2.v.ne h4 (by decide) (List.mem_singleton.1 hx)) (fun hx => ?_), h3, h4.set 3 _, h5, h6⟩⟩
  obtain ⟨c, hc⟩ := h2.gbox
  exact hc.ne h4 (by decide) (List.mem_singleton.1 hx)

set_option maxRecDepth 100000 in
set_option maxHeartbeats 4000000 in
theorem Tryz.step {w0 : World} {B N M wb hb : Nat} (w : World) (hI : Tryz.Inv w0 B N wb hb w) (kind : Int) (hk8 : (kind == 8) = false) (hk10 : (kind == 10) = false) (ss tt : List UInt8) (aa bb ff fl fu ke pa : Int)
    (hA : ∀ W, Tryz.Inv w0 B N wb hb W → Calls Tryz.prog 62 #[.pointer (some ⟨wb, 0, none⟩), .agg (StepD.cells ⟨kind, ss, tt, aa, bb, ff, -1, -1, 0, 0⟩)] W fun e w' => e = .returned (.bool true) ∧ Tryz.Inv w0 B M wb hb w') :
    Calls Tryz.prog 39 #[.pointer (some ⟨wb, 0, none⟩), .agg (StepD.cells ⟨kind, ss, tt, aa, bb, ff, fl, fu, ke, pa⟩), .bool false] w fun e w' => e = .returned (.bool true) ∧ Tryz.Inv w0 B M wb hb w' := by
  obtain ⟨rb, σ, ra, g, cap, L, -, -, -, hW, -⟩ := hI.ex
  have lW := hW.lt
  have c3 := hW.cell 3 (v := .bool false) rfl
  have f3 := hW.frozen 3
  have hI3 := fun W (b : Below w.heap.size w W) => (hI.below b).sick
  have hWl := fun W => Tryz.well W
  unfold fallV at hWl
  have hb0 : Below w.heap.size w (w.alloc (.cells (StepD.cells ⟨kind, ss, tt, aa, bb, ff, fl, fu, ke, pa⟩) 72)) := (Below.refl _ w).alloc (Nat.le_refl _) _
  have bS := BoxN.new w 72 (StepD.cells ⟨kind, ss, tt, aa, bb, ff, fl, fu, ke, pa⟩)
  simp only [StepD.cells] at *
  go_enter Tryz.func39, Tryz.ntmps39
  go_wp2_with (first
    | (go_at_call 16; refine (hWl _).mono ?_; rintro e w1 ⟨rfl, hb1⟩; have bS1 := bS.below hb1 (by simp); have y0 := bS1.cell 0 (v := .int .i64 kind) rfl; have y1 := bS1.cell 1 (v := .string ⟨ss.toArray⟩) rfl; have y2 := bS1.cell 2 (v := .string ⟨tt.toArray⟩) rfl; have y3 := bS1.cell 3 (v := .int .u64 aa) rfl; have y4 := bS1.cell 4 (v := .int .u64 bb) rfl; have y5 := bS1.cell 5 (v := .int .u64 ff) rfl; have y6 := bS1.cell 6 (v := .int .i64 fl) rfl; have y7 := bS1.cell 7 (v := .int .i64 fu) rfl; have y8 := bS1.cell 8 (v := .int .i64 ke) rfl; have y9 := bS1.cell 9 (v := .int .i64 pa) rfl; have z6 := bS1.frozen 6; have z7 := bS1.frozen 7; have z8 := bS1.frozen 8; have z9 := bS1.frozen 9; have bW1 := (hW.alloc (.cells #[.int .i64 kind, .string ⟨ss.toArray⟩, .string ⟨tt.toArray⟩, .int .u64 aa, .int .u64 bb, .int .u64 ff, .int .i64 fl, .int .i64 fu, .int .i64 ke, .int .i64 pa] 72)).below hb1 (by simp; omega); have x3 := bW1.cell 3 (v := .bool false) rfl; have x3f := bW1.frozen 3)
    | (go_at_call 62; refine (hA _ (hI3 _ (((((hb0.trans (hb1.mono (by simp))).setCell (p := ⟨w.heap.size, 6, none⟩) (Nat.le_refl _) _).setCell (p := ⟨w.heap.size, 7, none⟩) (Nat.le_refl _) _).setCell (p := ⟨w.heap.size, 8, none⟩) (Nat.le_refl _) _).setCell (p := ⟨w.heap.size, 9, none⟩) (Nat.le_refl _) _))).mono ?_; rintro e w2 ⟨rfl, hI2⟩; obtain ⟨rb2, σ2, ra2, g2, cap2, L2, hS2, hR2, hl2, hW2, -⟩ := hI2.ex; have q0 := hW2.cell 0 (v := .pointer (some ⟨hb, 0, none⟩)) rfl; have q1 := hW2.cell 1 (v := .pointer (some ⟨ra2, 0, none⟩)) rfl)
    | (go_at_call 36; refine (Tryz.hIs hb _ _ _ w2 hS2.host).mono ?_; rintro e w3 ⟨rfl, rfl⟩)
    | (go_at_call 38; refine (Tryz.looks B wb hb ra2 g2 cap2 σ2.k.vb σ2.k.mt σ2.k.ml σ2.vx σ2.tm σ2.s.tn σ2.s.ln _ _ σ2.s.tks σ2.s.lks L2 _ _ _ _ _ _ _ hW2 hS2.host hS2.wh.v.va hR2 hl2).mono ?_; rintro e w4 ⟨rfl, hb4⟩))
  go_ret
  exact ⟨rfl, hI2.below hb4⟩
end Go.Proofs
