import Derived.Test.YthifclklnopkfaaGreatDoorCodeC
import Derived.Test.YthifclklnopkfaaGreatDoorQueD
import Derived.Test.YthifclklnopkfaaGreatDoorHostK
/-
  The code: Revoke of a lease that is live.
-/
namespace Go.Proofs
open Go.RowKit Go.Sort Go.Lib Go.Shelf Go.Maps

/-- the vault behind a turn of one lease's own cells. -/
theorem Tryz.VFull.setL {W W' : World} {vb mt ml : Nat} {vx : VX} {tm : Int} {tn ln : Nat} {tks : List TokE} {lks : List LeaE} (h : Tryz.VFull W vb mt ml vx tm tn ln tks lks) {k : Nat} {l : LeaE} (hl : lks[k]? = some l) (l' : LeaE) (hn : l'.n = l.n) (hb : l'.blk = l.blk) (hau : l'.au = l.au) (hg : W.grownBy W' (some l.blk)) (hbox : BoxN W' l.blk 114 l'.cells) :
    Tryz.VFull W' vb mt ml vx tm tn ln tks (lks.set k l') := by
  have hmem : l ∈ lks := List.mem_of_getElem? hl
  have h6 : 6 ≤ l.blk := h.lb6 l hmem
  have hL := h.va.held.lea l hmem
  have hkey : (lks.set k l').map LeaE.key = lks.map LeaE.key := by
    rw [List.map_set]
    exact set_same (by rw [List.getElem?_map, hl]; simp [LeaE.key, hn, hb])
  have hblk : (lks.set k l').map LeaE.blk = lks.map LeaE.blk := by
    rw [List.map_set]
    exact set_same (by rw [List.getElem?_map, hl]; simp [hb])
  have hnn : (lks.set k l').map LeaE.n = lks.map LeaE.n := by
    rw [List.map_set]
    exact set_same (by rw [List.getElem?_map, hl]; simp [hn])
  have hb6 : Below 6 W W' := ⟨hg.os, hg.tape, hg.output, hg.size, fun j hj => hg.block j (by have := h.va.six; omega) (by intro e; injection e with e; omega)⟩
  have hok : ListsOk tks (lks.set k l') := by
    refine ⟨h.va.ok.lenT, by simpa using h.va.ok.lenL, h.va.ok.incT, ?_, h.va.ok.limT, ?_⟩
    · have : (lks.map LeaE.n).Pairwise (fun a b => a < b) := List.pairwise_map.2 h.va.ok.incL
      rw [← hnn] at this
      exact List.pairwise_map.1 this
    · intro x hx
      rcases List.mem_or_eq_of_mem_set hx with hx | rfl
      · exact h.va.ok.limL x hx
      · rw [hn, hau]; exact h.va.ok.limL l hmem
  obtain ⟨⟨n, hn1, hm⟩, ⟨n', hn', hm'⟩, ht, hle⟩ := h.va.held
  refine ⟨⟨h.va.v.kept hg (by intro e; injection e with e; exact h.va.v.ne hL (by decide) e), ⟨⟨n, hn1, hm.kept hg (by intro e; injection e with e; exact hL.ne_map hm e)⟩, ⟨n', hn', by rw [hkey]; exact hm'.kept hg (by intro e; injection e with e; exact hL.ne_map hm' e)⟩, fun t htm => (ht t htm).kept hg (by intro e; injection e with e; exact (ht t htm).ne hL (by decide) e), fun x hx => ?_⟩, hok, h.va.env.below hb6 (Nat.le_refl _), Nat.le_trans h.va.six hg.size⟩, h.bt, by rw [hblk]; exact h.bl, h.nt, fun x hx => ?_, h.t0, h.t1, h.mne, h.v6, h.m6, h.l6, h.tb6, fun x hx => ?_⟩
  · obtain ⟨j, hj, hjx⟩ := List.mem_iff_getElem.1 hx
    have hj' : j < lks.length := by simpa using hj
    obtain ⟨hk, hke⟩ := List.getElem?_eq_some_iff.1 hl
    by_cases hjk : j = k
    · subst hjk
      rw [List.getElem_set_self] at hjx
      rw [← hjx, hb]
      exact hbox
    · rw [List.getElem_set_ne (fun e => hjk e.symm)] at hjx
      have hxm : x ∈ lks := hjx ▸ List.getElem_mem hj'
      refine (hle x hxm).kept hg (by
        intro e
        injection e with e
        have h1 : (lks.map LeaE.blk)[j]'(by simpa using hj') = x.blk := by rw [List.getElem_map, hjx]
        have h2 : (lks.map LeaE.blk)[k]'(by simpa using hk) = l.blk := by rw [List.getElem_map, hke]
        have hpw := List.pairwise_iff_getElem.1 h.bl
        rcases Nat.lt_trichotomy j k with hlt | heq | hgt
        · exact absurd (by rw [h1, h2, e]) (hpw j k (by simpa using hj') (by simpa using hk) hlt)
        · exact hjk heq
        · exact absurd (by rw [h1, h2, e]) (hpw k j (by simpa using hk) (by simpa using hj') hgt))
  · rcases List.mem_or_eq_of_mem_set hx with hx | rfl
    · exact h.nl x hx
    · rw [hn]; exact h.nl l hmem
  · rcases List.mem_or_eq_of_mem_set hx with hx | rfl
    · exact h.lb6 x hx
    · rw [hb]; exact h6

set_option maxHeartbeats 1000000 in
theorem Tryz.eRevoke (b : Nat) (p a : Value) (tm : Int) (w : World) (c4 : w.cell? ⟨b, 4, none⟩ = some p) (f4 : w.frozen? ⟨b, 4, none⟩ = false) (c2 : w.cell? ⟨b, 2, none⟩ = some a) (f2 : w.frozen? ⟨b, 2, none⟩ = false) :
    Calls Tryz.prog 82 #[.pointer (some ⟨b, 0, none⟩), .int .u64 tm] w fun e w' => e = .returned (.tuple #[]) ∧ w' = (w.setCell ⟨b, 4, none⟩ (.bool true)).setCell ⟨b, 2, none⟩ (.int .u64 tm) := by
  go_enter Tryz.func82, Tryz.ntmps82
  go_wp2
  go_end0
  exact ⟨rfl, rfl⟩

set_option maxRecDepth 100000 in
set_option maxHeartbeats 2000000 in
theorem Tryz.vRevoke_hit (vb mt ml : Nat) (vx : VX) (tm : Int) (tn ln : Nat) (tks : List TokE) (lks : List LeaE) (w : World) (hV : Tryz.VFull w vb mt ml vx tm tn ln tks lks) (id : List UInt8) (hid : id.length ≤ 1000000) (k : Nat) (l : LeaE) (hl : lks[k]? = some l) (hp : parseN id = (2, (l.n : Int))) (hlv : (!l.pd && decide (tm < l.at_)) = true) :
    Calls Tryz.prog 43 #[.pointer (some ⟨vb, 0, none⟩), .string ⟨id.toArray⟩] w fun e w' => e = .returned .nilIface ∧ Tryz.VFull w' vb mt ml vx tm tn ln tks (lks.set k { l with pd := true, at_ := tm }) ∧ w.grownBy w' (some l.blk) := by
  have hm : l ∈ lks := List.mem_of_getElem? hl
  have hP := fun W (h : Tryz.LookP vb mt ml vx tm tn ln tks lks W) => Tryz.parse ⟨id.toArray⟩ (by simpa [ByteArray.size] using hid) W (hid_elim h.2.2).env (hid_elim h.2.2).six
  simp only [hp] at hP
  have hlook := fun W (h : Tryz.LookP vb mt ml vx tm tn ln tks lks W) => (hid_elim h.2.2).lookL hm
  have hL := fun W (h : Tryz.LookP vb mt ml vx tm tn ln tks lks W) => Tryz.leaseLive l.blk l.pd l.at_ tm W (((hid_elim h.2.2).held.lea l hm).cell 4 rfl) (((hid_elim h.2.2).held.lea l hm).cell 2 rfl)
  rw [hlv] at hL
  have hset := fun W (hb : Below w.heap.size w W) => (hV.below hb).va.held.lea l hm
  have hfin : Hid (∀ W W', Below w.heap.size w W → W.grownBy W' (some l.blk) → BoxN W' l.blk 114 ({ l with pd := true, at_ := tm } : LeaE).cells → Tryz.VFull W' vb mt ml vx tm tn ln tks (lks.set k { l with pd := true, at_ := tm })) := hid_intro fun W W' hb hg hbx => (hV.below hb).setL hl _ rfl rfl rfl hg hbx
  have h0 := hV.va.lookP
  unfold nmV at hlook hP
  clear hlv hV
  go_enter Tryz.func43, Tryz.ntmps43
  go_wp2_with fail
  go_region_held3 (Tryz.LookP vb mt ml vx tm tn ln tks lks) (first
    | with_reducible exact Tryz.LookP.drew h0
    | with_reducible assumption) (first | (go_at_call 45; refine (hP _ (by assumption)).mono ?_; rintro e w1 ⟨rfl, hb1⟩; have h1 := (hid_elim (show Hid (Tryz.VaultAt _ vb mt ml vx tm tn ln tks lks) from (h0.drew).2.2)).below hb1 |>.lookP; have hlk := hlook _ h1))
  have hL1 := hL _ h1
  have h1' := h1
  obtain ⟨c3, c1, -⟩ := h1
  go_wp2_with (go_at_call 81; refine hL1.mono ?_; rintro e w2 ⟨rfl, rfl⟩)
  have hb1' : Go.RowKit.Below w.heap.size w w2 := ((Below.refl _ w).drew).trans hb1
  have bL := hset _ hb1'
  refine wp_region_held_drew (S := fun W => W.cell? ⟨vb, 1, none⟩ = some (.int .u64 tm)) (by kernel_rfl) c1 (fun hS0 => ?_)
  refine wpAnyH_take (i := 0) (v := ?v0) rfl (by kernel_rfl) (by kernel_rfl) (by kernel_rfl) (fun _ _ _ h => h) (Or.inl ⟨by rfl, ?y0⟩) hS0 ?_
  case y0 => (intro w hSw; (try dsimp only at hSw); go_simp; try with_reducible rfl)
  refine wpAnyH_take (i := 1) (v := ?v1) rfl (by kernel_rfl) (by kernel_rfl) (by kernel_rfl) (fun _ _ _ h => h) (Or.inl ⟨by rfl, ?y1⟩) hS0 ?_
  case y1 => (intro w hSw; (try dsimp only at hSw); go_simp; try with_reducible rfl)
  refine wpAnyH_take (i := 2) (v := ?v2) rfl (by kernel_rfl) (by kernel_rfl) (by kernel_rfl) (fun _ _ _ h => h) (Or.inl ⟨by rfl, ?y2⟩) hS0 ?_
  case y2 => (intro w hSw; (try dsimp only at hSw); go_simp; try with_reducible rfl)
  refine wpAnyH_take (i := 3) (v := ?v3) rfl (by kernel_rfl) (by kernel_rfl) (by kernel_rfl) (fun _ _ _ h => h) (Or.inl ⟨by rfl, ?y3⟩) hS0 ?_
  case y3 => (intro w hSw; (try dsimp only at hSw); go_simp; try with_reducible rfl)
  refine wpAnyH_take (i := 4) (v := ?v4) rfl (by kernel_rfl) (by kernel_rfl) (by kernel_rfl) (fun _ _ _ h => h) (Or.inl ⟨by rfl, ?y4⟩) hS0 ?_
  case y4 => (intro w hSw; (try dsimp only at hSw); go_simp; try with_reducible rfl)
  refine wpAnyH_take (i := 5) (v := ?v5) rfl (by kernel_rfl) (by kernel_rfl) (by kernel_rfl) (fun _ _ _ h => h) (Or.inl ⟨by rfl, ?y5⟩) hS0 ?_
  case y5 => (intro w hSw; (try dsimp only at hSw); go_simp; try with_reducible rfl)
  refine wpAnyH_take (i := 6) (v := ?v6) rfl (by kernel_rfl) (by kernel_rfl) (by kernel_rfl) (fun _ _ _ h => h) (Or.inl ⟨by rfl, ?y6⟩) hS0 ?_
  case y6 => (intro w hSw; (try dsimp only at hSw); go_simp; try with_reducible rfl)
  refine wpAnyH_ready (rs := [7]) (by kernel_rfl) (by simp) ?_
  refine AllReadyH.cons rfl (fun K hK => ?_) AllReadyH.nil
  go_simp
  have bLd : BoxN w2.drew l.blk 114 l.cells := bL
  refine (Tryz.eRevoke l.blk _ _ tm w2.drew (bLd.cell 4 rfl) (bLd.frozen 4) (bLd.cell 2 rfl) (bLd.frozen 2)).mono ?_
  rintro e w5 ⟨rfl, rfl⟩
  have hbl : vb ≠ l.blk := (hid_elim h1'.2.2).v.ne ((hid_elim h1'.2.2).held.lea l hm) (by decide)
  refine hK.out _ _ ?_ (fun _ => ?_)
  · show World.cell? _ _ = _
    rw [World.cell?_setCell_far _ _ _ _ (fun e => hbl e.symm), World.cell?_setCell_far _ _ _ _ (fun e => hbl e.symm)]
    exact c1
  clear hK K
  refine wpAnyH_done (by kernel_rfl) ?_ _
  have hg : w2.drew.grownBy ((w2.drew.setCell ⟨l.blk, 4, none⟩ (.bool true)).setCell ⟨l.blk, 2, none⟩ (.int .u64 tm)) (some l.blk) := (grown_set _ _ _ _).andThen (grown_set _ _ _ _) (fun j e => .inr e)
  have bL5 := (bLd.set 4 (.bool true)).set 2 (.int .u64 tm)
  have hF := hid_intro (hid_elim hfin w2.drew _ hb1'.drew hg bL5)
  have hG := hid_intro ((show w.grownBy w2.drew (some l.blk) from ⟨hb1'.os, hb1'.tape, hb1'.output, hb1'.size, fun j hj _ => hb1'.block j hj⟩).andThen hg (fun j e => .inr e))
  clear hg bL5 bLd hfin hset hL hlook hP hlk hL1 bL c1 c3 hS0
  generalize (w2.drew.setCell ⟨l.blk, 4, none⟩ (.bool true)).setCell ⟨l.blk, 2, none⟩ (.int .u64 tm) = W9 at *
  go_wp2
  exact bodyPost_ret (v := .nilIface) (by simp [results, Tryz.results43, go_sem]) rfl ⟨rfl, hid_elim hF, hid_elim hG⟩
end Go.Proofs

/-
  plain.Host: Revoke.
-/
namespace Go.Proofs
open Go.RowKit Go.Sort Go.Lib Go.Shelf Go.Maps

set_option maxRecDepth 100000 in
set_option maxHeartbeats 2000000 in
theorem Tryz.hRevoke (hb db rb vb mt ml : Nat) (vx : VX) (tm : Int) (tn ln : Nat) (tks : List TokE) (lks : List LeaE) (w : World) (hS : Tryz.Sys w hb db rb vb mt ml vx tm tn ln tks lks) (id : List UInt8) (a b c d : Int) (er : Value) (k : Int)
    (hT : ∀ W, Tryz.ErrT W → Calls Tryz.prog 29 #[er] W fun e w' => e = .returned (.int .i64 k) ∧ Below W.heap.size W w') (bs : List Nat) (hbs : ∀ x ∈ bs, 6 ≤ x ∧ x ≠ hb ∧ x ≠ db ∧ x < w.heap.size) (Q : Nat → Nat → List TokE → List LeaE → Prop)
    (hC : ∀ W, w.heap.size ≤ W.heap.size → Tryz.VFull W vb mt ml vx tm tn ln tks lks → Calls Tryz.prog 43 #[.pointer (some ⟨vb, 0, none⟩), .string ⟨id.toArray⟩] W fun e w' => ∃ tn' ln' tks' lks', Q tn' ln' tks' lks' ∧ e = .returned (er) ∧ Tryz.VFull w' vb mt ml vx tm tn' ln' tks' lks' ∧ Spares bs W w') :
    Calls Tryz.prog 24 #[.pointer (some ⟨hb, 0, none⟩), .string ⟨id.toArray⟩, fallV a b c d] w fun e w' => ∃ tn' ln' tks' lks', Q tn' ln' tks' lks' ∧ e = .returned (.int .i64 k) ∧ Tryz.Sys w' hb db rb vb mt ml vx tm tn' ln' tks' lks' ∧ Spares (db :: bs) w w' := by
  obtain ⟨m1, m2, p, hD⟩ := hS.disk
  have hH := hS.host
  have hne := hH.ne hD (by decide)
  have lH := hH.lt
  have lD := hD.lt
  have hB0 : Below w.heap.size w (w.alloc (.cells #[.int .i64 a, .int .i64 b, .int .i64 c, .int .i64 d] 29)) := (Below.refl _ w).alloc (Nat.le_refl _) _
  have bF := BoxN.new w 29 #[.int .i64 a, .int .i64 b, .int .i64 c, .int .i64 d]
  have h2 := hH.cell 2 (v := .pointer (some ⟨vb, 0, none⟩)) rfl
  have hBf := Tryz.before hb db _ _ _ _ _ _ _ _ a b c d _ (hH.alloc (.cells #[.int .i64 a, .int .i64 b, .int .i64 c, .int .i64 d] 29)) (hD.alloc _)
  have hV0 := hS.v.below hB0
  unfold fallV at hBf ⊢
  go_enter Tryz.func24, Tryz.ntmps24
  go_wp2_with (first
    | (go_at_call 26; refine hBf.mono ?_; rintro e w1 ⟨rfl, bD1, hg1⟩; have bH1 := (hH.alloc (.cells #[.int .i64 a, .int .i64 b, .int .i64 c, .int .i64 d] 29)).kept hg1 (by intro e; injection e with e; exact hne e); have bF1 := bF.kept hg1 (by intro e; injection e with e; omega); have hV1 := hV0.grown (hD.alloc _) hS.d6 hg1 (by decide) (by decide) (by decide); have hC1 := hC w1 (by have := hg1.size; simp at this; omega) hV1; have h21 := bH1.cell 2 (v := .pointer (some ⟨vb, 0, none⟩)) rfl; have f0 := bF1.cell 0 (v := .int .i64 a) rfl; have f1 := bF1.cell 1 (v := .int .i64 b) rfl; have f2 := bF1.cell 2 (v := .int .i64 c) rfl; have f3 := bF1.cell 3 (v := .int .i64 d) rfl; have HG1 := hid_intro hg1; clear hg1)
    | (go_at_call 43; refine hC1.mono ?_; rintro e w2 ⟨tn', ln', tks', lks', hQ, rfl, hV2, hs2⟩; have bH2 := hs2.box bH1 (fun hx => (hbs _ hx).2.1 rfl); have bD2 := hs2.box bD1 (fun hx => (hbs _ hx).2.2.1 rfl); have bF2 := hs2.box bF1 (fun hx => by have := (hbs _ hx).2.2.2; omega); have g0 := bF2.cell 0 (v := .int .i64 a) rfl; have g1 := bF2.cell 1 (v := .int .i64 b) rfl; have g2 := bF2.cell 2 (v := .int .i64 c) rfl; have g3 := bF2.cell 3 (v := .int .i64 d) rfl; have hBa := Tryz.after hb db _ _ _ _ _ _ _ a b c d _ bH2 bD2; unfold fallV at hBa; have HS2 := hid_intro hs2; clear hs2)
    | (go_at_call 28; refine hBa.mono ?_; rintro e w3 ⟨rfl, bD3, hg3⟩; have hE3 : Tryz.ErrT w3 := (hS.err.below (((hB0.mono hS.v.va.six).grown (hid_elim HG1) (by have := hS.v.va.six; simp; omega) (fun q hq => by cases hq; exact hS.d6)).trans (((hid_elim HS2).below (by have := hV1.va.six; exact this) (fun x hx => (hbs x hx).1)))) |>.below ⟨hg3.os, hg3.tape, hg3.output, hg3.size, fun q hq => hg3.block q (by have := hV2.va.six; omega) (by intro e; injection e with e; have := hS.d6; omega)⟩); have HG3 := hid_intro hg3; clear hg3)
    | (go_at_call 29; refine (hT _ hE3).mono ?_; rintro e w4 ⟨rfl, hb4⟩))
  have hg1 := hid_elim HG1
  have hs2 := hid_elim HS2
  have hg3 := hid_elim HG3
  have bH3 := bH2.kept hg3 (by intro e; injection e with e; exact hne e)
  have hV3 := hV2.grown bD2 hS.d6 hg3 (by decide) (by decide) (by decide)
  have hsp : Spares (db :: bs) w w4 := ((((Spares.of_below hB0).trans (Spares.of_grown hg1 (by simp))).trans (hs2.mono (fun x hx => List.mem_cons_of_mem _ hx))).trans (Spares.of_grown hg3 (by simp))).trans (Spares.of_below hb4)
  exact bodyPost_ret (v := .int .i64 k) (by simp [results, Tryz.results24, go_sem]) rfl ⟨tn', ln', tks', lks', hQ, rfl, ⟨bH3.below hb4 bH3.lt, ⟨m1, m2, p, bD3.below hb4 bD3.lt⟩, hV3.below hb4, hE3.below (hb4.mono hV3.va.six), hS.h6, hS.d6⟩, hsp⟩

end Go.Proofs
