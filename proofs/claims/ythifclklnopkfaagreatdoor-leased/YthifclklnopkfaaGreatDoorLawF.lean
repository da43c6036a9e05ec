import Derived.Test.YthifclklnopkfaaGreatDoorLawC
/-
  A request that turns something: Renew.
-/
namespace Go.Proofs
open Go.RowKit Go.Sort Go.Lib Go.Shelf Go.Maps

set_option maxRecDepth 100000 in
set_option maxHeartbeats 4000000 in
theorem Tryz.askRenew (B wb hb db rb vb mt ml ra g cap : Nat) (vx : VX) (tm : Int) (tn ln : Nat) (tks : List TokE) (lks : List LeaE) (L : List ThingD) (tr lr : Int) (w : World) (hS : Tryz.Sys w hb db rb vb mt ml vx tm tn ln tks lks) (hR : Tryz.RVAt B w ra g cap L tm tr lr) (hpos : 0 < L.length) (hW : BoxN w wb 48 #[.pointer (some ⟨hb, 0, none⟩), .pointer (some ⟨ra, 0, none⟩), .pointer none, .bool false, .bool false]) (hB : B ≤ w.heap.size) (hw6 : 6 ≤ wb)
    (ss tt : List UInt8) (aa bb ff fl fu ke pa : Int) (k : Int) (rs : Int) (hkr : k ≠ 0 → rs = 0) (bs : List Nat) (hbs : ∀ x ∈ bs, 6 ≤ x ∧ x ≠ wb ∧ x ≠ ra ∧ x ≠ g ∧ x < w.heap.size) (Q : Nat → Nat → List TokE → List LeaE → Prop) (Q2 : List ThingD → Int → Int → Prop)
    (hH : ∀ W, w.heap.size ≤ W.heap.size → Tryz.Sys W hb db rb vb mt ml vx tm tn ln tks lks → Calls Tryz.prog 23 #[.pointer (some ⟨hb, 0, none⟩), .string ⟨ss.toArray⟩, .int .u64 aa, .agg #[.int .i64 fl, .int .i64 fu, .int .i64 ke, .int .i64 pa]] W fun e w' => ∃ tn' ln' tks' lks', Q tn' ln' tks' lks' ∧ e = .returned (.tuple #[.int .u64 rs, .int .i64 k]) ∧ Tryz.Sys w' hb db rb vb mt ml vx tm tn' ln' tks' lks' ∧ Spares (db :: bs) W w')
    (hC : ∀ B' W nb g' cap', B' ≤ W.heap.size → B' ≤ nb → Tryz.RVAt B' W nb g' cap' L tm tr lr → Calls Tryz.prog 71 #[.pointer (some ⟨nb, 0, none⟩), .string ⟨ss.toArray⟩, .int .u64 aa] W fun e w' => ∃ g2 cap2 L2 tr2 lr2, Q2 L2 tr2 lr2 ∧ e = .returned (.tuple #[.int .u64 rs, .int .i64 k]) ∧ Tryz.RVAt B' w' nb g2 cap2 L2 tm tr2 lr2 ∧ Spares [nb, g'] W w') :
    Calls Tryz.prog 40 #[.pointer (some ⟨wb, 0, none⟩), .agg (StepD.cells ⟨3, ss, tt, aa, bb, ff, fl, fu, ke, pa⟩)] w fun e w' => e = .returned (.bool true) ∧ Tryz.After w B wb hb db rb vb mt ml vx tm Q Q2 bs w' := by
  obtain ⟨m1, m2, p, hD⟩ := hS.disk
  have ndw := hD.ne hW (by decide)
  have lW := hW.lt
  have lD := hD.lt
  have l6 := hS.v.va.six
  have hb0 : Below w.heap.size w (w.alloc (.cells (StepD.cells ⟨3, ss, tt, aa, bb, ff, fl, fu, ke, pa⟩) 51)) := (Below.refl _ w).alloc (Nat.le_refl _) _
  have bS := BoxN.new w 51 (StepD.cells ⟨3, ss, tt, aa, bb, ff, fl, fu, ke, pa⟩)
  have bW0 := hW.alloc (.cells (StepD.cells ⟨3, ss, tt, aa, bb, ff, fl, fu, ke, pa⟩) 51)
  have hCp := Tryz.rCopy B ra g cap L tm tr lr _ (hR.below hb0) hpos
  rw [World.size_alloc] at hCp
  have w1c := bW0.cell 1 (v := .pointer (some ⟨ra, 0, none⟩)) rfl
  have s0c := bS.cell 0 (v := .int .i64 3) rfl
  obtain ⟨kz, hkz⟩ : ∃ kz : Bool, (k != 0) = kz := ⟨_, rfl⟩
  have hkz' : (k == 0) = !kz := by rw [← hkz]; simp [bne]
  have Hkz : Hid (kz = true → rs = 0) := hid_intro (fun e => hkr (by rw [e] at hkz; simpa using hkz))
  clear hkr
  simp only [StepD.cells] at *
  cases kz
  all_goals
    try (have hzz := hid_elim Hkz rfl)
    try subst hzz
    go_enter Tryz.func40, Tryz.ntmps40
    go_wp2_with (first
      | (go_at_call 64; refine hCp.mono ?_; rintro e w1 ⟨g', cap', rfl, hR1, hb1⟩; have bS1 := bS.below hb1 (by simp); have s01 := bS1.cell 0 (v := .int .i64 3) rfl))
    have hb1' : Below w.heap.size w w1 := hb0.trans (hb1.mono (by omega))
    have bW1 := bW0.below hb1 (by omega)
    have hP1 : AskP wb hb w.heap.size ⟨3, ss, tt, aa, bb, ff, fl, fu, ke, pa⟩ w1 := AskP.mk' bW1 bS1
    have hS1 : Tryz.Sys w1.drew hb db rb vb mt ml vx tm tn ln tks lks := hS.below hb1'.drew
    have hg'l := hR1.glt
    have hg'b : w.heap.size + 1 ≤ g' := (hR1.row.lt g' rfl).1
    have hH1 := hH w1.drew (by have := hb1'.size; exact this) hS1
    have nbs : ∀ x ∈ db :: bs, x ≠ wb ∧ x < w.heap.size := fun x hx => by
      rcases List.mem_cons.1 hx with rfl | hx
      · exact ⟨ndw, lD⟩
      · exact ⟨(hbs x hx).2.1, (hbs x hx).2.2.2.2⟩
    simp only [AskP] at hP1
    go_region_held3 (AskP wb hb w.heap.size ⟨3, ss, tt, aa, bb, ff, fl, fu, ke, pa⟩) (first
      | with_reducible exact AskP.drew hP1
      | with_reducible assumption) (first | (go_at_call 23; refine hH1.mono ?_; rintro e w2 ⟨tn', ln', tks', lks', hQ, rfl, hS2, hsp2⟩; have bW2 := Spares.box (W := w1.drew) hsp2 bW1 (fun hx => (nbs _ hx).1 rfl); have bS2 := Spares.box (W := w1.drew) hsp2 bS1 (fun hx => by have := (nbs _ hx).2; omega); have hP2 := AskP.mk' (st := ⟨3, ss, tt, aa, bb, ff, fl, fu, ke, pa⟩) bW2 bS2))
    have hRn2 : Tryz.RVAt (w.heap.size + 1) w2 (w.heap.size + 1) g' cap' L tm tr lr := Tryz.RVAt.spares (W := w1.drew) (hR1.below (Below.refl _ _).drew) hsp2 (fun hx => by have := (nbs _ hx).2; omega) (fun hx => by have := (nbs _ hx).2; omega)
    have hC2 := hC (w.heap.size + 1) w2 (w.heap.size + 1) g' cap' (by have := hRn2.v.lt; omega) (Nat.le_refl _) hRn2
    obtain ⟨⟨q0, q1, q2, q3, q4⟩, q6, q7, q8, q9⟩ := hP2
    have hgd := hRn2.gbox
    have lra := hR.v.lt
    have lgg := hR.glt
    have ndr := hD.ne hR.v (by decide)
    have ndg : db ≠ g := by obtain ⟨c, hc⟩ := hR.gbox; exact hD.ne hc (by decide)
    have hRo2 : Tryz.RVAt B w2 ra g cap L tm tr lr := Tryz.RVAt.spares (W := w1.drew) (hR.below hb1'.drew) hsp2 (fun hx => by rcases List.mem_cons.1 hx with e | e; exact ndr e.symm; exact (hbs _ e).2.2.1 rfl) (fun hx => by rcases List.mem_cons.1 hx with e | e; exact ndg e.symm; exact (hbs _ e).2.2.2.1 rfl)
    clear hP1 hCp hH hC hH1 w1c s0c s01 hS1
    go_wp2_with (first
      | (go_at_call 71; refine hC2.mono ?_; rintro e w3 ⟨g2, cap2, L2, tr2, lr2, hQ2, rfl, hR3, hsp3⟩; have bW3 := hsp3.box bW2 (fun hx => by rcases List.mem_cons.1 hx with e | e; omega; have := List.mem_singleton.1 e; omega); have c13 := bW3.cell 1 (v := .pointer (some ⟨ra, 0, none⟩)) rfl; have hRo3 : Tryz.RVAt B w3 ra g cap L tm tr lr := hRo2.spares hsp3 (fun hx => by rcases List.mem_cons.1 hx with e | e; omega; have := List.mem_singleton.1 e; omega) (fun hx => by rcases List.mem_cons.1 hx with e | e; omega; have := List.mem_singleton.1 e; omega))
      | (go_at_call 72; refine (Tryz.changes _ _ _ _ _ _ _ _ _ _ _ _ _ _ _ _ w3 hR3 hRo3).mono ?_; rintro e w5 ⟨tb, rfl, hb5⟩; have bW5 := bW3.below hb5 bW3.lt; have hTu := Tryz.turned wb (w.heap.size + 1) k tb _ _ _ _ w5 bW5)
      | (go_at_call 69; refine hTu.mono ?_; rintro e w4 ⟨rfl, rfl⟩))
    go_ret
    refine ⟨by first | rfl | simp, ?_⟩
    obtain ⟨cur, hcur⟩ := hgd
    have hS3 : Tryz.Sys w3 hb db rb vb mt ml vx tm tn' ln' tks' lks' := hS2.other hsp3 (fun b hb => by
      rcases List.mem_cons.1 hb with rfl | hb
      · exact ⟨by omega, _, _, hRn2.v, by decide, by decide, by decide, by decide, by decide⟩
      · rw [List.mem_singleton.1 hb]; exact ⟨by omega, _, _, hcur, by decide, by decide, by decide, by decide, by decide⟩)
    have hS5 := hS3.below hb5
    have hR5 := hR3.below hb5
    have hsp4 : Spares [wb] w5 (w5.setCell ⟨wb, 1, none⟩ (.pointer (some ⟨w.heap.size + 1, 0, none⟩))) := (Spares.of_below (Below.refl _ _)).set (by simp) _ _
    have nW : wb ≠ g2 := fun e => by obtain ⟨c, hc⟩ := hR5.gbox; exact bW5.ne hc (by decide) e
    have hS4 : Tryz.Sys (w5.setCell ⟨wb, 1, none⟩ (.pointer (some ⟨w.heap.size + 1, 0, none⟩))) hb db rb vb mt ml vx tm tn' ln' tks' lks' := hS5.other hsp4 (fun b hb => by rw [List.mem_singleton.1 hb]; exact ⟨hw6, _, _, bW5, by decide, by decide, by decide, by decide, by decide⟩)
    have hR4 := (Tryz.RVAt.spares hR5 hsp4 (by simp; omega) (by simpa using Ne.symm nW)).lower (B' := B) (by omega)
    have hspA : Spares (wb :: db :: bs) w w1.drew := Spares.of_below hb1'.drew
    have hspB := hspA.trans (hsp2.mono (bs' := wb :: db :: bs) (fun x hx => List.mem_cons_of_mem _ hx))
    have hspC : Spares (wb :: db :: bs) w w3 := ⟨hsp3.os.trans hspB.os, hsp3.tape.trans hspB.tape, hsp3.output.trans hspB.output, Nat.le_trans hspB.size hsp3.size, fun q hq hn => (hsp3.block q (Nat.lt_of_lt_of_le hq hspB.size) (fun hx => by rcases List.mem_cons.1 hx with e | e; omega; have := List.mem_singleton.1 e; omega)).trans (hspB.block q hq hn)⟩
    exact ⟨⟨tn', ln', tks', lks', L2, tr2, lr2, _, g2, cap2, hQ, hQ2, hS4, hR4, bW5.set 1 _⟩, (hspC.trans (Spares.of_below hb5)).set (by simp) _ _⟩

end Go.Proofs
