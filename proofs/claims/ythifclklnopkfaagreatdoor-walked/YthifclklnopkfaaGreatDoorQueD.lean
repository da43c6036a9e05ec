import Derived.Test.YthifclklnopkfaaGreatDoorCmp
import Derived.Test.YthifclklnopkfaaGreatDoorSpare
import Derived.Laws.OwnMore
import Derived.Test.YthifclklnopkfaaGreatDoorStr
import Derived.BigQuiet
import Derived.BigRegion
import Derived.WalkMore
import Derived.Test.YthifclklnopkfaaGreatDoorRefD
import Derived.Test.YthifclklnopkfaaGreatDoorNext
import Derived.Deep.RegionHeldLaw
import Derived.Deep.RegionLaw
import Derived.Deep.AppendLies
/-
  The queue: the order of what is due.
-/
namespace Go.Proofs
open Go.RowKit Go.Sort

/-- the place of one among what is due. -/
structure TurnD where
  at_ : Int
  k : Int
  n : Int
def TurnD.cells (t : TurnD) : Array Value := #[.int .u64 t.at_, .int .i64 t.k, .int .u64 t.n]
def cmpT (x y : TurnD) : Int := orI (cmpI x.at_ y.at_) (orI (cmpI y.k x.k) (cmpI x.n y.n))
theorem cmpI_self (a : Int) : cmpI a a = 0 := cmpI_eq (Int.le_refl _) (Int.le_refl _)
theorem cmpT_self (x : TurnD) : cmpT x x = 0 := by simp [cmpT, cmpI_self, orI]

set_option maxHeartbeats 1000000 in
theorem Tryz.cmpOr3 (a b c : Int) (blk : Nat) (w : World) (h0 : w.cell? ⟨blk, 0, none⟩ = some (.int .i64 a)) (h1 : w.cell? ⟨blk, 1, none⟩ = some (.int .i64 b)) (h2 : w.cell? ⟨blk, 2, none⟩ = some (.int .i64 c)) :
    Calls Tryz.prog 214 #[.slice (some ⟨blk, 0, none⟩) 3 3] w fun e w' => e = .returned (.int .i64 (orI a (orI b c))) ∧ w' = w := by
  obtain ⟨r, hr⟩ : ∃ r, orI a (orI b c) = r := ⟨_, rfl⟩
  rw [hr]
  by_cases ha : a = 0
  · have ha' : (a != 0) = false := by simp [ha]
    by_cases hb : b = 0
    · have hb' : (b != 0) = false := by simp [hb]
      by_cases hc : c = 0
      · have hc' : (c != 0) = false := by simp [hc]
        have hfin : Hid (r = 0) := hid_intro (by rw [← hr]; simp [orI, ha, hb, hc])
        clear ha hb hc hr
        go_enter Tryz.func214, Tryz.ntmps214
        go_wp2
        refine wp_loop_rounds 4 ?_
        rw [rounds_succ]
        go_wp2
        rw [rounds_succ]
        go_wp2
        rw [rounds_succ]
        go_wp2
        rw [rounds_succ]
        go_wp2
        go_ret
        exact ⟨ret_int (hid_elim hfin).symm, rfl⟩
      · have hc' : (c != 0) = true := by simp [hc]
        have hfin : Hid (r = c) := hid_intro (by rw [← hr]; simp [orI, ha, hb])
        clear ha hb hc hr
        go_enter Tryz.func214, Tryz.ntmps214
        go_wp2
        refine wp_loop_rounds 4 ?_
        rw [rounds_succ]
        go_wp2
        rw [rounds_succ]
        go_wp2
        rw [rounds_succ]
        go_wp2
        go_ret
        exact ⟨ret_int (hid_elim hfin).symm, rfl⟩
    · have hb' : (b != 0) = true := by simp [hb]
      have hfin : Hid (r = b) := hid_intro (by rw [← hr]; simp [orI, ha, hb])
      clear ha hb hr
      go_enter Tryz.func214, Tryz.ntmps214
      go_wp2
      refine wp_loop_rounds 4 ?_
      rw [rounds_succ]
      go_wp2
      rw [rounds_succ]
      go_wp2
      go_ret
      exact ⟨ret_int (hid_elim hfin).symm, rfl⟩
  · have ha' : (a != 0) = true := by simp [ha]
    have hfin : Hid (r = a) := hid_intro (by rw [← hr]; simp [orI, ha])
    clear ha hr
    go_enter Tryz.func214, Tryz.ntmps214
    go_wp2
    refine wp_loop_rounds 4 ?_
    rw [rounds_succ]
    go_wp2
    go_ret
    exact ⟨ret_int (hid_elim hfin).symm, rfl⟩

/-- the two that are held against each other. -/
structure Tryz.CmpP (B : Nat) (x1 x2 x3 y1 y2 y3 : Int) (W : World) : Prop where
  a0 : W.cell? ⟨B, 0, none⟩ = some (.int .u64 x1)
  a1 : W.cell? ⟨B, 1, none⟩ = some (.int .i64 x2)
  a2 : W.cell? ⟨B, 2, none⟩ = some (.int .u64 x3)
  b0 : W.cell? ⟨B + 1, 0, none⟩ = some (.int .u64 y1)
  b1 : W.cell? ⟨B + 1, 1, none⟩ = some (.int .i64 y2)
  b2 : W.cell? ⟨B + 1, 2, none⟩ = some (.int .u64 y3)
theorem Tryz.CmpP.alloc {B : Nat} {x1 x2 x3 y1 y2 y3 : Int} {W : World} (h : Tryz.CmpP B x1 x2 x3 y1 y2 y3 W) (o : Obj) : Tryz.CmpP B x1 x2 x3 y1 y2 y3 (W.alloc o) :=
  ⟨(World.cell?_alloc_some _ _ _ (by rw [h.a0]; rfl)).trans h.a0, (World.cell?_alloc_some _ _ _ (by rw [h.a1]; rfl)).trans h.a1, (World.cell?_alloc_some _ _ _ (by rw [h.a2]; rfl)).trans h.a2,
   (World.cell?_alloc_some _ _ _ (by rw [h.b0]; rfl)).trans h.b0, (World.cell?_alloc_some _ _ _ (by rw [h.b1]; rfl)).trans h.b1, (World.cell?_alloc_some _ _ _ (by rw [h.b2]; rfl)).trans h.b2⟩

set_option maxRecDepth 100000 in
set_option maxHeartbeats 2000000 in
theorem Tryz.turnCmp (x y : TurnD) (w : World) : Calls Tryz.prog 219 #[.agg x.cells, .agg y.cells] w fun e w' => e = .returned (.int .i64 (cmpT x y)) ∧ Grew w w' := by
  have hN : Hid (cmpT x y = orI (cmpI x.at_ y.at_) (orI (cmpI y.k x.k) (cmpI x.n y.n))) := hid_intro rfl
  have ha := fun W => Tryz.cmpU64 x.at_ y.at_ W
  have hk := fun W => Tryz.cmpKind y.k x.k W
  have hu := fun W => Tryz.cmpU64 x.n y.n W
  generalize cmpI x.at_ y.at_ = a at *
  generalize cmpI y.k x.k = b at *
  generalize cmpI x.n y.n = c at *
  generalize cmpT x y = r at *
  obtain ⟨x1, x2, x3⟩ := x
  obtain ⟨y1, y2, y3⟩ := y
  simp only [TurnD.cells] at *
  go_enter Tryz.func219, Tryz.ntmps219
  go_wp2_with fail
  have hP : Tryz.CmpP w.heap.size x1 x2 x3 y1 y2 y3 ((w.alloc (.cells #[.int .u64 x1, .int .i64 x2, .int .u64 x3] 157)).alloc (.cells #[.int .u64 y1, .int .i64 y2, .int .u64 y3] 157)).drew := by
    have b1 := (BoxN.new w 157 #[.int .u64 x1, .int .i64 x2, .int .u64 x3]).alloc (.cells #[.int .u64 y1, .int .i64 y2, .int .u64 y3] 157)
    have b2 := BoxN.new (w.alloc (.cells #[.int .u64 x1, .int .i64 x2, .int .u64 x3] 157)) 157 #[.int .u64 y1, .int .i64 y2, .int .u64 y3]
    rw [World.size_alloc] at b2
    exact ⟨b1.cell 0 rfl, b1.cell 1 rfl, b1.cell 2 rfl, b2.cell 0 rfl, b2.cell 1 rfl, b2.cell 2 rfl⟩
  refine wp_region_held_drew (S := Tryz.CmpP w.heap.size x1 x2 x3 y1 y2 y3) (by kernel_rfl) hP (fun hS0 => ?_)
  refine wpAnyH_take (i := 0) (v := ?v0) rfl (by kernel_rfl) (by kernel_rfl) (by kernel_rfl) (fun _ _ _ h => h) (Or.inl ⟨by rfl, ?y0⟩) hS0 ?_
  case y0 => (intro w hSw; obtain ⟨q0, q1, q2, q3, q4, q5⟩ := hSw; go_simp; try with_reducible rfl)
  refine wpAnyH_take (i := 1) (v := ?v1) rfl (by kernel_rfl) (by kernel_rfl) (by kernel_rfl) (fun _ _ _ h => h) (Or.inl ⟨by rfl, ?y1⟩) hS0 ?_
  case y1 => (intro w hSw; obtain ⟨q0, q1, q2, q3, q4, q5⟩ := hSw; go_simp; try with_reducible rfl)
  refine wpAnyH_take (i := 2) (v := ?v2) rfl (by kernel_rfl) (by kernel_rfl) (by kernel_rfl) (fun _ _ _ h => h) (Or.inl ⟨by rfl, ?y2⟩) hS0 ?_
  case y2 => (intro w hSw; obtain ⟨q0, q1, q2, q3, q4, q5⟩ := hSw; go_simp; try with_reducible rfl)
  refine wpAnyH_take (i := 3) (v := ?v3) rfl (by kernel_rfl) (by kernel_rfl) (by kernel_rfl) (fun _ _ _ h => h) (Or.inl ⟨by rfl, ?y3⟩) hS0 ?_
  case y3 => (intro w hSw; obtain ⟨q0, q1, q2, q3, q4, q5⟩ := hSw; go_simp; try with_reducible rfl)
  refine wpAnyH_take (i := 5) (v := ?v5) rfl (by kernel_rfl) (by kernel_rfl) (by kernel_rfl) (fun _ _ _ h => h) (Or.inl ⟨by rfl, ?y5⟩) hS0 ?_
  case y5 => (intro w hSw; obtain ⟨q0, q1, q2, q3, q4, q5⟩ := hSw; go_simp; try with_reducible rfl)
  refine wpAnyH_take (i := 6) (v := ?v6) rfl (by kernel_rfl) (by kernel_rfl) (by kernel_rfl) (fun _ _ _ h => h) (Or.inl ⟨by rfl, ?y6⟩) hS0 ?_
  case y6 => (intro w hSw; obtain ⟨q0, q1, q2, q3, q4, q5⟩ := hSw; go_simp; try with_reducible rfl)
  refine wpAnyH_take (i := 7) (v := ?v7) rfl (by kernel_rfl) (by kernel_rfl) (by kernel_rfl) (fun _ _ _ h => h) (Or.inl ⟨by rfl, ?y7⟩) hS0 ?_
  case y7 => (intro w hSw; obtain ⟨q0, q1, q2, q3, q4, q5⟩ := hSw; go_simp; try with_reducible rfl)
  refine wpAnyH_take (i := 8) (v := ?v8) rfl (by kernel_rfl) (by kernel_rfl) (by kernel_rfl) (fun _ _ _ h => h) (Or.inl ⟨by rfl, ?y8⟩) hS0 ?_
  case y8 => (intro w hSw; obtain ⟨q0, q1, q2, q3, q4, q5⟩ := hSw; go_simp; try with_reducible rfl)
  refine wpAnyH_take (i := 9) (v := ?v9) rfl (by kernel_rfl) (by kernel_rfl) (by kernel_rfl) (fun _ _ _ h => h) (Or.inl ⟨by rfl, ?y9⟩) hS0 ?_
  case y9 => (intro w hSw; obtain ⟨q0, q1, q2, q3, q4, q5⟩ := hSw; go_simp; try with_reducible rfl)
  refine wpAnyH_take (i := 10) (v := ?v10) rfl (by kernel_rfl) (by kernel_rfl) (by kernel_rfl) (fun _ _ _ h => h) (Or.inl ⟨by rfl, ?y10⟩) hS0 ?_
  case y10 => (intro w hSw; obtain ⟨q0, q1, q2, q3, q4, q5⟩ := hSw; go_simp; try with_reducible rfl)
  refine wpAnyH_take (i := 12) (v := ?v12) rfl (by kernel_rfl) (by kernel_rfl) (by kernel_rfl) (fun _ _ _ h => h) (Or.inl ⟨by rfl, ?y12⟩) hS0 ?_
  case y12 => (intro w hSw; obtain ⟨q0, q1, q2, q3, q4, q5⟩ := hSw; go_simp; try with_reducible rfl)
  refine wpAnyH_take (i := 13) (v := ?v13) rfl (by kernel_rfl) (by kernel_rfl) (by kernel_rfl) (fun _ _ _ h => h) (Or.inl ⟨by rfl, ?y13⟩) hS0 ?_
  case y13 => (intro w hSw; obtain ⟨q0, q1, q2, q3, q4, q5⟩ := hSw; go_simp; try with_reducible rfl)
  refine wpAnyH_take (i := 14) (v := ?v14) rfl (by kernel_rfl) (by kernel_rfl) (by kernel_rfl) (fun _ _ _ h => h) (Or.inl ⟨by rfl, ?y14⟩) hS0 ?_
  case y14 => (intro w hSw; obtain ⟨q0, q1, q2, q3, q4, q5⟩ := hSw; go_simp; try with_reducible rfl)
  refine wpAnyH_take (i := 15) (v := ?v15) rfl (by kernel_rfl) (by kernel_rfl) (by kernel_rfl) (fun _ _ _ h => h) (Or.inl ⟨by rfl, ?y15⟩) hS0 ?_
  case y15 => (intro w hSw; obtain ⟨q0, q1, q2, q3, q4, q5⟩ := hSw; go_simp; try with_reducible rfl)
  refine wpAnyH_take (i := 16) (v := ?v16) rfl (by kernel_rfl) (by kernel_rfl) (by kernel_rfl) (fun _ _ _ h => h) (Or.inl ⟨by rfl, ?y16⟩) hS0 ?_
  case y16 => (intro w hSw; obtain ⟨q0, q1, q2, q3, q4, q5⟩ := hSw; go_simp; try with_reducible rfl)
  refine wpAnyH_take (i := 17) (v := ?v17) rfl (by kernel_rfl) (by kernel_rfl) (by kernel_rfl) (fun _ _ _ h => h) (Or.inl ⟨by rfl, ?y17⟩) hS0 ?_
  case y17 => (intro w hSw; obtain ⟨q0, q1, q2, q3, q4, q5⟩ := hSw; go_simp; try with_reducible rfl)
  refine wpAnyH_ready (rs := [4]) (by kernel_rfl) (by simp) ?_
  refine AllReadyH.cons rfl (fun K hK => ?_) AllReadyH.nil
  go_simp
  refine (ha _).mono ?_
  rintro e w5 ⟨rfl, rfl⟩
  refine hK.out _ _ hS0 (fun _ => ?_)
  clear hK K
  refine wpAnyH_ready (rs := [11]) (by kernel_rfl) (by simp) ?_
  refine AllReadyH.cons rfl (fun K hK => ?_) AllReadyH.nil
  go_simp
  refine (hk _).mono ?_
  rintro e w5 ⟨rfl, rfl⟩
  refine hK.out _ _ hS0 (fun _ => ?_)
  clear hK K
  refine wpAnyH_ready (rs := [18]) (by kernel_rfl) (by simp) ?_
  refine AllReadyH.cons rfl (fun K hK => ?_) AllReadyH.nil
  go_simp
  refine (hu _).mono ?_
  rintro e w5 ⟨rfl, rfl⟩
  refine hK.out _ _ hS0 (fun _ => ?_)
  clear hK K
  refine wpAnyH_ready (rs := [19]) (by kernel_rfl) (by simp) ?_
  refine AllReadyH.cons rfl (fun K hK => ?_) AllReadyH.nil
  go_simp
  refine hK.out _ _ (hS0.alloc _) (fun hS1 => ?_)
  clear hK K
  refine wpAnyH_ready (rs := [20]) (by kernel_rfl) (by simp) ?_
  refine AllReadyH.cons rfl (fun K hK => ?_) AllReadyH.nil
  go_simp
  refine (Tryz.cmpOr3 a b c _ _ ?_ ?_ ?_).mono ?_
  · go_simp
  · go_simp
  · go_simp
  rintro e w5 ⟨rfl, rfl⟩
  refine hK.out _ _ hS1 (fun _ => ?_)
  clear hK K
  refine wpAnyH_ready (rs := [21]) (by kernel_rfl) (by simp) ?_
  refine AllReadyH.cons rfl (fun K hK => ?_) AllReadyH.nil
  go_simp
  refine hK.out _ _ hS1 (fun _ => ?_)
  clear hK K
  refine wpAnyH_done (by kernel_rfl) ?_ _
  go_wp2
  go_ret
  exact ⟨ret_int (hid_elim hN).symm, ((((Grew.refl w).alloc _).alloc _).drew.alloc _)⟩

theorem Tryz.method_turn (x : TurnD) (w : World) : Sem.run Tryz.prog (method 421 157 (.agg x.cells) "Compare") w = .ok (219, .agg x.cells) w := by kernel_rfl
end Go.Proofs

/-
  The queue with one place in it, or none: least, cut, Push, Pop, Empty.
-/
namespace Go.Proofs
open Go.RowKit Go.Sort

theorem cell_below {W W' : World} (h : Below W.heap.size W W') {a : Addr} {v : Value} (hc : W.cell? a = some v) : W'.cell? a = some v :=
  (h.cell (World.block_lt_of_cell? W a hc)).trans hc
abbrev Tryz.Q1P (vb g cap ob : Nat) (t : TurnD) (W : World) : Prop :=
  W.cell? ⟨vb, 7, none⟩ = some (.slice (some ⟨g, 0, none⟩) 1 cap) ∧ W.cell? ⟨g, 0, none⟩ = some (.int .u64 t.at_) ∧ W.cell? ⟨g, 1, none⟩ = some (.int .i64 t.k) ∧ W.cell? ⟨g, 2, none⟩ = some (.int .u64 t.n) ∧ W.cell? ⟨ob, 0, none⟩ = some (.int .i64 0)
theorem Tryz.Q1P.below {vb g cap ob : Nat} {t : TurnD} {W W' : World} (h : Tryz.Q1P vb g cap ob t W) (hb : Below W.heap.size W W') : Tryz.Q1P vb g cap ob t W' :=
  ⟨cell_below hb h.1, cell_below hb h.2.1, cell_below hb h.2.2.1, cell_below hb h.2.2.2.1, cell_below hb h.2.2.2.2⟩

set_option maxRecDepth 100000 in
set_option maxHeartbeats 2000000 in
theorem Tryz.qLeast1 (vb g cap ob : Nat) (t : TurnD) (w : World) (h : Tryz.Q1P vb g cap ob t w) :
    Calls Tryz.prog 126 #[.pointer (some ⟨vb, 7, none⟩), .int .i64 0, .slice (some ⟨ob, 0, none⟩) 1 1] w fun e w' => e = .returned (.int .i64 0) ∧ Below w.heap.size w w' := by
  have hm := fun W => Tryz.method_turn t W
  have hC := fun W => Tryz.turnCmp t t W
  rw [cmpT_self] at hC
  simp only [TurnD.cells] at hm hC
  have h' := h
  obtain ⟨c7, t0, t1, t2, o0⟩ := h'
  go_enter Tryz.func126, Tryz.ntmps126
  go_wp2
  refine wp_loop_rounds 2 ?_
  rw [rounds_succ]
  go_wp2_with fail
  clear c7 t0 t1 t2 o0
  refine wp_region_held_drew (S := Tryz.Q1P vb g cap ob t) (by kernel_rfl) (h.below ((Below.refl _ w).drew)) (fun hS0 => ?_)
  refine wpAnyH_take (i := 0) (v := ?v0) rfl (by kernel_rfl) (by kernel_rfl) (by kernel_rfl) (fun _ _ _ h => h) (Or.inl ⟨by rfl, ?y0⟩) hS0 ?_
  case y0 => (intro w hSw; obtain ⟨q0, q1, q2, q3, q4⟩ := hSw; go_simp; try with_reducible rfl)
  refine wpAnyH_take (i := 1) (v := ?v1) rfl (by kernel_rfl) (by kernel_rfl) (by kernel_rfl) (fun _ _ _ h => h) (Or.inl ⟨by rfl, ?y1⟩) hS0 ?_
  case y1 => (intro w hSw; obtain ⟨q0, q1, q2, q3, q4⟩ := hSw; go_simp; try with_reducible rfl)
  refine wpAnyH_take (i := 2) (v := ?v2) rfl (by kernel_rfl) (by kernel_rfl) (by kernel_rfl) (fun _ _ _ h => h) (Or.inl ⟨by rfl, ?y2⟩) hS0 ?_
  case y2 => (intro w hSw; obtain ⟨q0, q1, q2, q3, q4⟩ := hSw; go_simp; try with_reducible rfl)
  refine wpAnyH_take (i := 3) (v := ?v3) rfl (by kernel_rfl) (by kernel_rfl) (by kernel_rfl) (fun _ _ _ h => h) (Or.inl ⟨by rfl, ?y3⟩) hS0 ?_
  case y3 => (intro w hSw; obtain ⟨q0, q1, q2, q3, q4⟩ := hSw; go_simp; try with_reducible rfl)
  refine wpAnyH_take (i := 4) (v := ?v4) rfl (by kernel_rfl) (by kernel_rfl) (by kernel_rfl) (fun _ _ _ h => h) (Or.inl ⟨by rfl, ?y4⟩) hS0 ?_
  case y4 => (intro w hSw; obtain ⟨q0, q1, q2, q3, q4⟩ := hSw; go_simp; try with_reducible rfl)
  refine wpAnyH_take (i := 5) (v := ?v5) rfl (by kernel_rfl) (by kernel_rfl) (by kernel_rfl) (fun _ _ _ h => h) (Or.inl ⟨by rfl, ?y5⟩) hS0 ?_
  case y5 => (intro w hSw; obtain ⟨q0, q1, q2, q3, q4⟩ := hSw; go_simp; try with_reducible rfl)
  refine wpAnyH_take (i := 6) (v := ?v6) rfl (by kernel_rfl) (by kernel_rfl) (by kernel_rfl) (fun _ _ _ h => h) (Or.inl ⟨by rfl, ?y6⟩) hS0 ?_
  case y6 => (intro w hSw; obtain ⟨q0, q1, q2, q3, q4⟩ := hSw; go_simp; try with_reducible rfl)
  refine wpAnyH_take (i := 7) (v := ?v7) rfl (by kernel_rfl) (by kernel_rfl) (by kernel_rfl) (fun _ _ _ h => h) (Or.inl ⟨by rfl, ?y7⟩) hS0 ?_
  case y7 => (intro w hSw; obtain ⟨q0, q1, q2, q3, q4⟩ := hSw; go_simp; try with_reducible rfl)
  refine wpAnyH_take (i := 8) (v := ?v8) rfl (by kernel_rfl) (by kernel_rfl) (by kernel_rfl) (fun _ _ _ h => h) (Or.inl ⟨by kernel_rfl, ?y8⟩) hS0 ?_
  case y8 => (intro w hSw; obtain ⟨q0, q1, q2, q3, q4⟩ := hSw; go_simp; try with_reducible rfl)
  refine wpAnyH_take (i := 9) (v := ?v9) rfl (by kernel_rfl) (by kernel_rfl) (by kernel_rfl) (fun _ _ _ h => h) (Or.inl ⟨by kernel_rfl, ?y9⟩) hS0 ?_
  case y9 => (intro w hSw; obtain ⟨q0, q1, q2, q3, q4⟩ := hSw; go_simp; try with_reducible rfl)
  refine wpAnyH_take (i := 10) (v := ?v10) rfl (by kernel_rfl) (by kernel_rfl) (by kernel_rfl) (fun _ _ _ h => h) (Or.inl ⟨by kernel_rfl, ?y10⟩) hS0 ?_
  case y10 => (intro w hSw; obtain ⟨q0, q1, q2, q3, q4⟩ := hSw; go_simp; try with_reducible rfl)
  refine wpAnyH_take (i := 11) (v := ?v11) rfl (by kernel_rfl) (by kernel_rfl) (by kernel_rfl) (fun _ _ _ h => h) (Or.inl ⟨by kernel_rfl, ?y11⟩) hS0 ?_
  case y11 => (intro w hSw; obtain ⟨q0, q1, q2, q3, q4⟩ := hSw; go_simp; try with_reducible rfl)
  refine wpAnyH_take (i := 12) (v := ?v12) rfl (by kernel_rfl) (by kernel_rfl) (by kernel_rfl) (fun _ _ _ h => h) (Or.inl ⟨by kernel_rfl, ?y12⟩) hS0 ?_
  case y12 => (intro w hSw; obtain ⟨q0, q1, q2, q3, q4⟩ := hSw; go_simp; try with_reducible rfl)
  refine wpAnyH_take (i := 13) (v := ?v13) rfl (by kernel_rfl) (by kernel_rfl) (by kernel_rfl) (fun _ _ _ h => h) (Or.inl ⟨by kernel_rfl, ?y13⟩) hS0 ?_
  case y13 => (intro w hSw; obtain ⟨q0, q1, q2, q3, q4⟩ := hSw; go_simp; try with_reducible rfl)
  refine wpAnyH_take (i := 14) (v := ?v14) rfl (by kernel_rfl) (by kernel_rfl) (by kernel_rfl) (fun _ _ _ h => h) (Or.inl ⟨by kernel_rfl, ?y14⟩) hS0 ?_
  case y14 => (intro w hSw; obtain ⟨q0, q1, q2, q3, q4⟩ := hSw; go_simp; try with_reducible rfl)
  refine wpAnyH_take (i := 15) (v := ?v15) rfl (by kernel_rfl) (by kernel_rfl) (by kernel_rfl) (fun _ _ _ h => h) (Or.inl ⟨by kernel_rfl, ?y15⟩) hS0 ?_
  case y15 => (intro w hSw; obtain ⟨q0, q1, q2, q3, q4⟩ := hSw; go_simp; try with_reducible rfl)
  refine wpAnyH_take (i := 16) (v := ?v16) rfl (by kernel_rfl) (by kernel_rfl) (by kernel_rfl) (fun _ _ _ h => h) (Or.inl ⟨by kernel_rfl, ?y16⟩) hS0 ?_
  case y16 => (intro w hSw; obtain ⟨q0, q1, q2, q3, q4⟩ := hSw; go_simp; try with_reducible rfl)
  refine wpAnyH_take (i := 17) (v := ?v17) rfl (by kernel_rfl) (by kernel_rfl) (by kernel_rfl) (fun _ _ _ h => h) (Or.inl ⟨by kernel_rfl, ?y17⟩) hS0 ?_
  case y17 => (intro w hSw; obtain ⟨q0, q1, q2, q3, q4⟩ := hSw; go_simp; try with_reducible rfl)
  refine wpAnyH_take (i := 18) (v := ?v18) rfl (by kernel_rfl) (by kernel_rfl) (by kernel_rfl) (fun _ _ _ h => h) (Or.inl ⟨by kernel_rfl, ?y18⟩) hS0 ?_
  case y18 => (intro w hSw; obtain ⟨q0, q1, q2, q3, q4⟩ := hSw; go_simp; try with_reducible rfl)
  refine wpAnyH_take (i := 19) (v := ?v19) rfl (by kernel_rfl) (by kernel_rfl) (by kernel_rfl) (fun _ _ _ h => h) (Or.inl ⟨by kernel_rfl, ?y19⟩) hS0 ?_
  case y19 => (intro w hSw; obtain ⟨q0, q1, q2, q3, q4⟩ := hSw; go_simp; try with_reducible rfl)
  refine wpAnyH_take (i := 20) (v := ?v20) rfl (by kernel_rfl) (by kernel_rfl) (by kernel_rfl) (fun _ _ _ h => h) (Or.inl ⟨by kernel_rfl, ?y20⟩) hS0 ?_
  case y20 => (intro w hSw; obtain ⟨q0, q1, q2, q3, q4⟩ := hSw; go_simp; try with_reducible rfl)
  refine wpAnyH_take (i := 21) (v := ?v21) rfl (by kernel_rfl) (by kernel_rfl) (by kernel_rfl) (fun _ _ _ h => h) (Or.inl ⟨by kernel_rfl, ?y21⟩) hS0 ?_
  case y21 => (intro w hSw; obtain ⟨q0, q1, q2, q3, q4⟩ := hSw; go_simp; try with_reducible rfl)
  refine wpAnyH_take (i := 22) (v := ?v22) rfl (by kernel_rfl) (by kernel_rfl) (by kernel_rfl) (fun _ _ _ h => h) (Or.inl ⟨by kernel_rfl, ?y22⟩) hS0 ?_
  case y22 => (intro w hSw; obtain ⟨q0, q1, q2, q3, q4⟩ := hSw; go_simp; try with_reducible rfl)
  refine wpAnyH_ready (rs := [23]) (by kernel_rfl) (by simp) ?_
  refine AllReadyH.cons rfl (fun K hK => ?_) AllReadyH.nil
  go_simp
  refine (hC _).mono ?_
  rintro e w5 ⟨rfl, hg5⟩
  have hb5 : Below w.heap.size w w5 := ((Below.refl _ w).drew).trans (Grew.below hg5)
  refine hK.out _ _ (h.below hb5) (fun hS1 => ?_)
  clear hK K
  refine wpAnyH_take (i := 24) (v := ?v24) rfl (by kernel_rfl) (by kernel_rfl) (by kernel_rfl) (fun _ _ _ h => h) (Or.inl ⟨by kernel_rfl, ?y24⟩) hS1 ?_
  case y24 => (intro w hSw; obtain ⟨q0, q1, q2, q3, q4⟩ := hSw; go_simp; try with_reducible rfl)
  refine wpAnyH_take (i := 25) (v := ?v25) rfl (by kernel_rfl) (by kernel_rfl) (by kernel_rfl) (fun _ _ _ h => h) (Or.inl ⟨by kernel_rfl, ?y25⟩) hS1 ?_
  case y25 => (intro w hSw; obtain ⟨q0, q1, q2, q3, q4⟩ := hSw; go_simp; try with_reducible rfl)
  refine wpAnyH_done (by kernel_rfl) ?_ _
  go_wp2
  rw [rounds_succ]
  go_wp2
  go_ret
  exact ⟨rfl, hb5⟩

set_option maxRecDepth 100000 in
set_option maxHeartbeats 2000000 in
theorem Tryz.qLeast0 (vb ob cap : Nat) (p : Option Addr) (w : World) (c7 : w.cell? ⟨vb, 7, none⟩ = some (.slice p 0 cap)) (o0 : w.cell? ⟨ob, 0, none⟩ = some (.int .i64 1)) (o1 : w.cell? ⟨ob, 1, none⟩ = some (.int .i64 2)) :
    Calls Tryz.prog 126 #[.pointer (some ⟨vb, 7, none⟩), .int .i64 0, .slice (some ⟨ob, 0, none⟩) 2 2] w fun e w' => e = .returned (.int .i64 0) ∧ Below w.heap.size w w' := by
  go_enter Tryz.func126, Tryz.ntmps126
  go_wp2
  refine wp_loop_rounds 3 ?_
  rw [rounds_succ]
  go_wp2_with fail
  go_quiet (fail)
  go_wp2
  rw [rounds_succ]
  go_wp2_with fail
  go_quiet (fail)
  go_wp2
  rw [rounds_succ]
  go_wp2
  go_ret
  exact ⟨rfl, below_drewN (Below.refl _ w) _⟩
end Go.Proofs

/-
  The queue with one place in it, or none: swap, cut, Empty.
-/
namespace Go.Proofs
open Go.RowKit Go.Sort

set_option maxRecDepth 100000 in
set_option maxHeartbeats 2000000 in
theorem Tryz.qSwap1 (B vb g cap : Nat) (t : TurnD) (w : World) (c7 : w.cell? ⟨vb, 7, none⟩ = some (.slice (some ⟨g, 0, none⟩) 1 cap)) (hrow : w.ownsRow B 157 3 (.slice (some ⟨g, 0, none⟩) 1 cap) 1 t.cells.toList) :
    Calls Tryz.prog 125 #[.pointer (some ⟨vb, 7, none⟩), .int .i64 0, .int .i64 0] w fun e w' => e = .returned (.tuple #[]) ∧ w'.ownsRow B 157 3 (.slice (some ⟨g, 0, none⟩) 1 cap) 1 t.cells.toList ∧ Spares [g] w w' := by
  obtain ⟨x1, x2, x3⟩ := t
  have t0 : w.cell? ⟨g, 0, none⟩ = some (.int .u64 x1) := hrow.cellAt 0 (by omega)
  have t1 : w.cell? ⟨g, 1, none⟩ = some (.int .i64 x2) := hrow.cellAt 1 (by omega)
  have t2 : w.cell? ⟨g, 2, none⟩ = some (.int .u64 x3) := hrow.cellAt 2 (by omega)
  have f0 := hrow.frozenAt 0
  have f1 := hrow.frozenAt 1
  have f2 := hrow.frozenAt 2
  have HR := hid_intro hrow
  clear hrow
  simp only [TurnD.cells] at *
  go_enter Tryz.func125, Tryz.ntmps125
  go_region
  go_end0
  have hrow := hid_elim HR
  have r1 := (hrow.stored 0 (.int .u64 x1)).1
  have r2 := (r1.stored 1 (.int .i64 x2)).1
  have r3 := (r2.stored 2 (.int .u64 x3)).1
  have r4 := (r3.stored 0 (.int .u64 x1)).1
  have r5 := (r4.stored 1 (.int .i64 x2)).1
  have r6 := (r5.stored 2 (.int .u64 x3)).1
  have hs : Spares [g] w w := Spares.of_below (Below.refl _ _)
  have e6 : ((((((#[Value.int .u64 x1, .int .i64 x2, .int .u64 x3].toList.set 0 (.int .u64 x1)).set 1 (.int .i64 x2)).set 2 (.int .u64 x3)).set 0 (.int .u64 x1)).set 1 (.int .i64 x2)).set 2 (.int .u64 x3)) = #[Value.int .u64 x1, .int .i64 x2, .int .u64 x3].toList := rfl
  rw [e6] at r6
  exact ⟨rfl, r6.drew, ((((((hs.set (by simp) _ _).set (by simp) _ _).set (by simp) _ _).set (by simp) _ _).set (by simp) _ _).set (by simp) _ _).drew⟩

set_option maxRecDepth 100000 in
set_option maxHeartbeats 1000000 in
theorem Tryz.qCut1 (B vb g cap : Nat) (t : TurnD) (w : World) (c7 : w.cell? ⟨vb, 7, none⟩ = some (.slice (some ⟨g, 0, none⟩) 1 cap)) (f7 : w.frozen? ⟨vb, 7, none⟩ = false) (hrow : w.ownsRow B 157 3 (.slice (some ⟨g, 0, none⟩) 1 cap) 1 t.cells.toList) (hcap : 1 ≤ cap) :
    Calls Tryz.prog 122 #[.pointer (some ⟨vb, 7, none⟩), .int .i64 0] w fun e w' => e = .returned (.tuple #[]) ∧ (∃ w1, w1.ownsRow B 157 3 (.slice (some ⟨g, 0, none⟩) 0 cap) 0 [] ∧ w.grownBy w1 (some g) ∧ w' = w1.setCell ⟨vb, 7, none⟩ (.slice (some ⟨g, 0, none⟩) 0 cap)) := by
  obtain ⟨x1, x2, x3⟩ := t
  have t0 : w.cell? ⟨g, 0, none⟩ = some (.int .u64 x1) := hrow.cellAt 0 (by omega)
  have t1 : w.cell? ⟨g, 1, none⟩ = some (.int .i64 x2) := hrow.cellAt 1 (by omega)
  have t2 : w.cell? ⟨g, 2, none⟩ = some (.int .u64 x3) := hrow.cellAt 2 (by omega)
  have f0 := hrow.frozenAt 0
  have f1 := hrow.frozenAt 1
  have f2 := hrow.frozenAt 2
  have HR := hid_intro hrow
  clear hrow
  simp only [TurnD.cells] at HR
  have hcl : (Builtin.clear_ #[104] 0 #[.slice (some ⟨g, 0, none⟩) 1 cap]).run Tryz.prog w = .ok (.tuple #[]) (((w.setCell ⟨g, 0, none⟩ (.int .u64 0)).setCell ⟨g, 1, none⟩ (.int .i64 0)).setCell ⟨g, 2, none⟩ (.int .u64 0)) := by
    have hz : (Builtin.zeroCells #[Value.int .u64 0, .int .i64 0, .int .u64 0] 1).toList = [.int .u64 0, .int .i64 0, .int .u64 0] := by kernel_rfl
    simp [Builtin.clear_, run_underlying Tryz.underlying104, Tryz.zeroValue157, hz, Value.cells, storeCells, go_sem, Addr.add, t0, t1, t2, f0, f1, f2]
  have c7' : (((w.setCell ⟨g, 0, none⟩ (.int .u64 0)).setCell ⟨g, 1, none⟩ (.int .i64 0)).setCell ⟨g, 2, none⟩ (.int .u64 0)).cell? ⟨vb, 7, none⟩ = some (.slice (some ⟨g, 0, none⟩) 1 cap) := by
    simp [go_sem, c7]
  have f7' : (((w.setCell ⟨g, 0, none⟩ (.int .u64 0)).setCell ⟨g, 1, none⟩ (.int .i64 0)).setCell ⟨g, 2, none⟩ (.int .u64 0)).frozen? ⟨vb, 7, none⟩ = false := by
    simp [go_sem, f7]
  clear f7 t0 t1 t2 f0 f1 f2
  go_enter Tryz.func122, Tryz.ntmps122
  go_wp2
  go_end0
  have hrow := hid_elim HR
  have r1 := hrow.stored 0 (.int .u64 0)
  have r2 := r1.1.stored 1 (.int .i64 0)
  have r3 := r2.1.stored 2 (.int .u64 0)
  refine ⟨rfl, _, ownsRow_pop (xs := []) (last := [.int .u64 0, .int .i64 0, .int .u64 0]) rfl r3.1, ?_, rfl⟩
  exact (r1.2.andThen r2.2 (fun j e => .inr e)).andThen r3.2 (fun j e => .inr e)
/-- an empty list of places, as it lies: none, or room alone. -/
def NilRow (v : Value) : Prop := v = .slice none 0 0 ∨ ∃ g cap, v = .slice (some ⟨g, 0, none⟩) 0 cap

set_option maxRecDepth 100000 in
set_option maxHeartbeats 1000000 in
theorem Tryz.qCut0 (vb : Nat) (v : Value) (w : World) (hv : NilRow v) (c7 : w.cell? ⟨vb, 7, none⟩ = some v) (f7 : w.frozen? ⟨vb, 7, none⟩ = false) :
    Calls Tryz.prog 122 #[.pointer (some ⟨vb, 7, none⟩), .int .i64 0] w fun e w' => e = .returned (.tuple #[]) ∧ w' = w.setCell ⟨vb, 7, none⟩ v := by
  rcases hv with rfl | ⟨g, cap, rfl⟩
  · have hcl : (Builtin.clear_ #[104] 0 #[.slice none 0 0]).run Tryz.prog w = .ok (.tuple #[]) w := by simp [Builtin.clear_, run_underlying Tryz.underlying104, go_sem]
    go_enter Tryz.func122, Tryz.ntmps122
    go_wp2
    go_end0
    exact ⟨rfl, rfl⟩
  · have hcl : (Builtin.clear_ #[104] 0 #[.slice (some ⟨g, 0, none⟩) 0 cap]).run Tryz.prog w = .ok (.tuple #[]) w := by simp [Builtin.clear_, run_underlying Tryz.underlying104, go_sem]
    go_enter Tryz.func122, Tryz.ntmps122
    go_wp2
    go_end0
    exact ⟨rfl, rfl⟩

set_option maxHeartbeats 1000000 in
theorem Tryz.qEmpty0 (vb : Nat) (v : Value) (w : World) (hv : NilRow v) (c7 : w.cell? ⟨vb, 7, none⟩ = some v) (f7 : w.frozen? ⟨vb, 7, none⟩ = false) :
    Calls Tryz.prog 84 #[.pointer (some ⟨vb, 7, none⟩)] w fun e w' => e = .returned (.tuple #[]) ∧ w' = w.setCell ⟨vb, 7, none⟩ v := by
  go_enter Tryz.func84, Tryz.ntmps84
  go_wp2_with (go_at_call 122; refine (Tryz.qCut0 vb v _ hv c7 f7).mono ?_; rintro e w1 ⟨rfl, rfl⟩)
  go_end0
  exact ⟨rfl, rfl⟩
end Go.Proofs

/-
  The queue: Push onto an empty one; Pop of the only one, and of none.
-/
namespace Go.Proofs
open Go.RowKit Go.Sort Go.Lib Go.Shelf

theorem Tryz.turnInfo : (Tryz.prog.info? 157).map (fun i => (i.zero, i.size, i.bytes)) = some (some (.agg #[.int .u64 0, .int .i64 0, .int .u64 0]), 3, 24) := by kernel_rfl

theorem grown_set (w : World) (B i : Nat) (v : Value) : w.grownBy (w.setCell ⟨B, i, none⟩ v) (some B) := ⟨rfl, rfl, rfl, by simp, fun k _ hne => set_other _ _ _ _ _ (fun e => hne (by rw [e]))⟩
theorem Spares.set_new {bs : List Nat} {W W' : World} (h : Spares bs W W') {b : Nat} (hb : W.heap.size ≤ b) (i : Nat) (v : Value) : Spares bs W (W'.setCell ⟨b, i, none⟩ v) :=
  ⟨h.os, h.tape, h.output, by simpa using h.size, fun k hk hn => by rw [set_other _ _ _ _ _ (fun e => by omega)]; exact h.block k hk hn⟩
theorem Spares.of_grown' {bs : List Nat} {W W' : World} {row : Option Nat} (h : W.grownBy W' row) (hb : ∀ b, row = some b → b ∈ bs) : Spares bs W W' := ⟨h.os, h.tape, h.output, h.size, fun k hk hn => h.block k hk (fun e => hn (hb k e.symm))⟩

set_option maxRecDepth 100000 in
set_option maxHeartbeats 2000000 in
theorem Tryz.qPush0 (B vb : Nat) (v : Value) (cs : Array Value) (t : TurnD) (w : World) (hV : BoxN w vb 108 cs) (h7 : cs[7]? = some v) (hrow : w.ownsRow B 157 3 v 0 []) (hB : B ≤ w.heap.size) :
    Calls Tryz.prog 124 #[.pointer (some ⟨vb, 7, none⟩), .agg t.cells] w fun e w' => e = .returned (.tuple #[]) ∧ ∃ g cap, BoxN w' vb 108 (cs.setIfInBounds 7 (.slice (some ⟨g, 0, none⟩) 1 cap)) ∧ w'.ownsRow B 157 3 (.slice (some ⟨g, 0, none⟩) 1 cap) 1 t.cells.toList ∧ vb ≠ g ∧ (v.ownBlock = some g ∨ w.heap.size ≤ g) ∧ Spares (vb :: v.ownBlock.toList) w w' := by
  obtain ⟨i0, hi, hz0, hz1, hz2⟩ := info_parts Tryz.turnInfo
  have hnr := hV.not_row (e := 157) (by decide) hrow
  obtain ⟨x1, x2, x3⟩ := t
  simp only [TurnD.cells]
  have bV := hV.alloc (.cells #[.int .u64 x1, .int .i64 x2, .int .u64 x3] 157)
  have bT := BoxN.new w 157 #[.int .u64 x1, .int .i64 x2, .int .u64 x3]
  have hr := hrow.alloc (.cells #[.int .u64 x1, .int .i64 x2, .int .u64 x3] 157)
  have hs9 : (w.alloc (.cells #[.int .u64 x1, .int .i64 x2, .int .u64 x3] 157)).heap.size = w.heap.size + 1 := by simp
  have hP9 : Spares (vb :: v.ownBlock.toList) w (w.alloc (.cells #[.int .u64 x1, .int .i64 x2, .int .u64 x3] 157)) := (Spares.of_below (Below.refl _ w)).alloc _
  have lv := hV.lt
  go_enter Tryz.func124, Tryz.ntmps124
  go_wp2_with fail
  go_step3
  go_wp2_with fail
  obtain ⟨W9, hW9⟩ : ∃ W9, w.alloc (.cells #[.int .u64 x1, .int .i64 x2, .int .u64 x3] 157) = W9 := ⟨_, rfl⟩
  rw [hW9] at bV hr bT hs9 hP9
  rw [hW9]
  clear hW9
  have Hs9 := hid_intro hs9
  have hB9s : B ≤ W9.heap.size := by omega
  clear hs9
  have v7 := bV.cell 7 h7
  have fv7 := bV.frozen 7
  have v7a := (bV.alloc (.cells #[.int .u64 x1, .int .i64 x2, .int .u64 x3] 157)).cell 7 h7
  have y0 := bT.cell 0 (v := .int .u64 x1) rfl
  have y1 := bT.cell 1 (v := .int .i64 x2) rfl
  have y2 := bT.cell 2 (v := .int .u64 x3) rfl
  go_region_law ((refine step_append_lies _ (by rfl) _ _ _ (by rfl) B 157 i0 _ 3 24 Tryz.underlying104 hi hz0 hz1 hz2 rfl (by decide) _ _ _ (by rfl) (ownsRow_below hr (by first | exact Grew.below ((Grew.refl _).alloc _) | exact Grew.below (((Grew.refl _).drewN _).alloc _))) ⟨W9.heap.size, 0, none⟩ 1 1 [.int .u64 x1, .int .i64 x2, .int .u64 x3] (by rfl) rfl (World.news_of_block (heap_alloc_new _ _)) (by simp [Value.oneCell']) (by omega) (by unfold maxLen; omega) (by omega) (by simp; omega) _ rfl ?_; intro g' cap' w3 hown' hgrow hat hlt; have bV3 := (bV.below (B := vb) (n₀ := W9.heap.size) (by first | exact Grew.below ((Grew.refl W9).alloc _) | exact Grew.below (((Grew.refl W9).drew).alloc _)) bV.lt).kept hgrow hnr; have d0 := bV3.cell 7 h7; have d1 := bV3.frozen 7))
  all_goals
    have hvg : vb ≠ g' := by
      rcases hat with e | e
      · exact fun e' => hnr (by rw [e, e'])
      · have := hid_elim Hs9
        have e2 : g' = W9.heap.size + 1 := by simpa using e
        omega
    have hwg : v.ownBlock = some g' ∨ w.heap.size ≤ g' := by
      rcases hat with e | e
      · exact .inl e
      · have := hid_elim Hs9
        have e2 : g' = W9.heap.size + 1 := by simpa using e
        exact .inr (by omega)
    have hown1 : w3.ownsRow B 157 3 (.slice (some ⟨g', 0, none⟩) 1 cap') 1 [.int .u64 x1, .int .i64 x2, .int .u64 x3] := hown'
    have hrow4 := hown1.kept (grown_set w3 vb 7 (.slice (some ⟨g', 0, none⟩) 1 cap')) (.inr (by simp [Value.ownBlock]; exact fun e => hvg e.symm))
    have bV4 := bV3.set 7 (.slice (some ⟨g', 0, none⟩) 1 cap')
    have hP4 : Spares (vb :: v.ownBlock.toList) w (w3.setCell ⟨vb, 7, none⟩ (.slice (some ⟨g', 0, none⟩) 1 cap')) := (((hP9.alloc _).drew).trans (Spares.of_grown' hgrow (fun b hb => by rw [hb]; simp))).set (by simp) _ _
    have hF := hid_intro (And.intro bV4 (And.intro hrow4 (And.intro hvg (And.intro hwg hP4))))
    clear hown' hgrow hat hlt bV3 d0 d1 hP4 hP9 bV hr bT v7 fv7 v7a y0 y1 y2 hown1 hwg hnr
    generalize w3.setCell ⟨vb, 7, none⟩ (.slice (some ⟨g', 0, none⟩) 1 cap') = W4 at *
    have hr4 := (hid_elim hF).2.1
    have c7 := (hid_elim hF).1.cell 7 (v := .slice (some ⟨g', 0, none⟩) 1 cap') (by rw [Array.getElem?_setIfInBounds_self_of_lt (Array.getElem?_eq_some_iff.1 h7).1])
    have z0 : W4.cell? ⟨g', 0, none⟩ = some (.int .u64 x1) := hr4.cellAt 0 (by omega)
    have z1 : W4.cell? ⟨g', 1, none⟩ = some (.int .i64 x2) := hr4.cellAt 1 (by omega)
    have z2 : W4.cell? ⟨g', 2, none⟩ = some (.int .u64 x3) := hr4.cellAt 2 (by omega)
    have hq : Tryz.Q1P vb g' cap' W4.heap.size ⟨x1, x2, x3⟩ (W4.alloc (.cells #[.int .i64 0] 3)) := ⟨cell_below ((Below.refl _ W4).alloc (Nat.le_refl _) _) c7, cell_below ((Below.refl _ W4).alloc (Nat.le_refl _) _) z0, cell_below ((Below.refl _ W4).alloc (Nat.le_refl _) _) z1, cell_below ((Below.refl _ W4).alloc (Nat.le_refl _) _) z2, (BoxN.new W4 3 #[.int .i64 0]).cell 0 rfl⟩
    have hL := Tryz.qLeast1 vb g' cap' W4.heap.size ⟨x1, x2, x3⟩ _ hq
    clear hr4 z0 z1 z2 hq bV4 hrow4 hvg
    go_wp2
    go_step3
    go_wp2_with (go_at_call 126; refine hL.mono ?_; rintro e w5 ⟨rfl, hb5⟩)
    rw [Exit.noGoto_normal]
    have hb4 : Below W4.heap.size W4 w5 := ((Below.refl _ W4).alloc (Nat.le_refl _) _).trans (hb5.mono (by simp))
    obtain ⟨bV4, hrow4, hvg, hwg, hP4⟩ := hid_elim hF
    go_end0
    exact ⟨rfl, g', cap', bV4.below hb4 bV4.lt, ownsRow_below hrow4 hb4, hvg, hwg, hP4.trans (Spares.of_below hb4)⟩

set_option maxRecDepth 100000 in
set_option maxHeartbeats 2000000 in
theorem Tryz.qPop0 (vb : Nat) (v : Value) (w : World) (hv : NilRow v) (c7 : w.cell? ⟨vb, 7, none⟩ = some v) :
    Calls Tryz.prog 86 #[.pointer (some ⟨vb, 7, none⟩)] w fun e w' => e = .returned (.tuple #[.agg #[.int .u64 0, .int .i64 0, .int .u64 0], .bool false]) ∧ Below w.heap.size w w' := by
  have lv : vb < w.heap.size := World.block_lt_of_cell? w _ c7
  have hb : Below w.heap.size w ((w.alloc (.cells #[.int .u64 0, .int .i64 0, .int .u64 0] 157)).alloc (.cells #[.int .u64 0, .int .i64 0, .int .u64 0] 157)) := ((Below.refl _ w).alloc (Nat.le_refl _) _).alloc (by simp) _
  rcases hv with rfl | ⟨g, cap, rfl⟩
  all_goals
    go_enter Tryz.func86, Tryz.ntmps86
    go_wp2
    go_step3
    go_wp2
    rw [Exit.noGoto_ret]
    exact bodyPost_ret (v := .tuple #[.agg #[.int .u64 0, .int .i64 0, .int .u64 0], .bool false]) (by simp [results, Tryz.results86, go_sem]) rfl ⟨rfl, hb⟩

set_option maxRecDepth 100000 in
set_option maxHeartbeats 2000000 in
theorem Tryz.qPop1 (B vb g cap : Nat) (cs : Array Value) (t : TurnD) (w : World) (hV : BoxN w vb 108 cs) (h7 : cs[7]? = some (.slice (some ⟨g, 0, none⟩) 1 cap)) (hrow : w.ownsRow B 157 3 (.slice (some ⟨g, 0, none⟩) 1 cap) 1 t.cells.toList) (hne : vb ≠ g) (hcap : 1 ≤ cap) :
    Calls Tryz.prog 86 #[.pointer (some ⟨vb, 7, none⟩)] w fun e w' => e = .returned (.tuple #[.agg t.cells, .bool true]) ∧ BoxN w' vb 108 (cs.setIfInBounds 7 (.slice (some ⟨g, 0, none⟩) 0 cap)) ∧ w'.ownsRow B 157 3 (.slice (some ⟨g, 0, none⟩) 0 cap) 0 [] ∧ Spares [vb, g] w w' := by
  obtain ⟨x1, x2, x3⟩ := t
  have lv := hV.lt
  have lg : g < w.heap.size := (hrow.lt g rfl).2
  have c7 := hV.cell 7 h7
  have b0 := BoxN.new w 157 #[.int .u64 0, .int .i64 0, .int .u64 0]
  have bV0 := hV.alloc (.cells #[.int .u64 0, .int .i64 0, .int .u64 0] 157)
  have c70 := bV0.cell 7 h7
  have r0 := hrow.alloc (.cells #[.int .u64 0, .int .i64 0, .int .u64 0] 157)
  have hS0 : Spares [vb, g] w (w.alloc (.cells #[.int .u64 0, .int .i64 0, .int .u64 0] 157)) := (Spares.of_below (Below.refl _ w)).alloc _
  have hSw := Tryz.qSwap1 B vb g cap ⟨x1, x2, x3⟩ _ c70 r0
  simp only [TurnD.cells] at *
  go_enter Tryz.func86, Tryz.ntmps86
  go_wp2_with fail
  go_step3
  go_wp2_with (first
    | (go_at_call 125; refine hSw.mono ?_; rintro e w1 ⟨rfl, r1, hs1⟩; have bV1 := hs1.box bV0 (by simp [hne]); have b1 := hs1.box b0 (by simp; omega); have c71 := bV1.cell 7 h7; have z0 : w1.cell? ⟨g, 0, none⟩ = some (.int .u64 x1) := r1.cellAt 0 (by omega); have z1 : w1.cell? ⟨g, 1, none⟩ = some (.int .i64 x2) := r1.cellAt 1 (by omega); have z2 : w1.cell? ⟨g, 2, none⟩ = some (.int .u64 x3) := r1.cellAt 2 (by omega); clear c7 c70)
    | (go_at_call 122; refine (Tryz.qCut1 B vb g cap ⟨x1, x2, x3⟩ _ ((bV1.alloc (.cells #[.int .u64 x1, .int .i64 x2, .int .u64 x3] 157)).cell 7 h7) ((bV1.alloc (.cells #[.int .u64 x1, .int .i64 x2, .int .u64 x3] 157)).frozen 7) (r1.alloc _) hcap).mono ?_; rintro e w2 ⟨rfl, wx, rx, hgx, rfl⟩; clear c71 z0 z1 z2))
  have lg1 : g < w1.heap.size := (r1.lt g rfl).2
  have lv1 := bV1.lt
  have l01 := b1.lt
  have bV2 := ((bV1.alloc (.cells #[.int .u64 x1, .int .i64 x2, .int .u64 x3] 157)).kept hgx (by simp [hne])).set 7 (.slice (some ⟨g, 0, none⟩) 0 cap)
  have b2 := ((b1.alloc (.cells #[.int .u64 x1, .int .i64 x2, .int .u64 x3] 157)).kept hgx (by simp; omega)).other (B' := vb) (by omega) 7 (.slice (some ⟨g, 0, none⟩) 0 cap)
  have bI := ((BoxN.new w1 157 #[.int .u64 x1, .int .i64 x2, .int .u64 x3]).kept hgx (by simp; omega)).other (B' := vb) (by omega) 7 (.slice (some ⟨g, 0, none⟩) 0 cap)
  have r2 := rx.kept (grown_set wx vb 7 (.slice (some ⟨g, 0, none⟩) 0 cap)) (.inr (by simp [Value.ownBlock]; exact fun e => hne e.symm))
  have hS2 : Spares [vb, g] w (wx.setCell ⟨vb, 7, none⟩ (.slice (some ⟨g, 0, none⟩) 0 cap)) := ((((hS0.trans (hs1.mono (by simp))).alloc _).trans (Spares.of_grown hgx (by simp))).set (by simp) _ _)
  have HF := hid_intro (And.intro bV2 (And.intro r2 (And.intro hS2 (And.intro lv (And.intro lg hV)))))
  clear hgx rx hS2 hs1 hS0 r1 r0 hSw bV0 b0 bV1 b1 lg1 lv1 hrow hV
  have c72 := bV2.cell 7 (v := .slice (some ⟨g, 0, none⟩) 0 cap) (by rw [Array.getElem?_setIfInBounds_self_of_lt (Array.getElem?_eq_some_iff.1 h7).1])
  generalize wx.setCell ⟨vb, 7, none⟩ (.slice (some ⟨g, 0, none⟩) 0 cap) = W2 at *
  have hb2 : Below W2.heap.size W2 (W2.alloc (.cells #[.int .i64 1, .int .i64 2] 3)) := (Below.refl _ W2).alloc (Nat.le_refl _) _
  have bO := BoxN.new W2 3 #[.int .i64 1, .int .i64 2]
  have hL := Tryz.qLeast0 vb W2.heap.size cap (some ⟨g, 0, none⟩) _ (cell_below hb2 c72) (bO.cell 0 rfl) (bO.cell 1 rfl)
  clear bO r2
  go_step3
  go_wp2_with (go_at_call 126; refine hL.mono ?_; rintro e w5 ⟨rfl, hb5⟩; have hb6 : Below W2.heap.size W2 w5 := hb2.trans (hb5.mono hb2.size); have b5 := b2.below hb6 b2.lt; have bI5 := bI.below hb6 bI.lt; have i0 := bI5.cell 0 (v := .int .u64 x1) rfl; have i1 := bI5.cell 1 (v := .int .i64 x2) rfl; have i2 := bI5.cell 2 (v := .int .u64 x3) rfl; have q0 := b5.cell 0 (v := .int .u64 0) rfl; have q1 := b5.cell 1 (v := .int .i64 0) rfl; have q2 := b5.cell 2 (v := .int .u64 0) rfl; have f0 := b5.frozen 0; have f1 := b5.frozen 1; have f2 := b5.frozen 2)
  rw [Exit.noGoto_ret]
  obtain ⟨-, r2, hS2, -, -, -⟩ := hid_elim HF
  have lw : w.heap.size ≠ g := by omega
  have bV5 := bV2.below hb6 bV2.lt
  have b6 : BoxN _ w.heap.size 157 #[.int .u64 x1, .int .i64 x2, .int .u64 x3] := ((b5.set 0 (.int .u64 x1)).set 1 (.int .i64 x2)).set 2 (.int .u64 x3)
  have bV6 := ((bV5.other (B' := w.heap.size) (by omega) 0 (.int .u64 x1)).other (B' := w.heap.size) (by omega) 1 (.int .i64 x2)).other (B' := w.heap.size) (by omega) 2 (.int .u64 x3)
  have r6 := (((ownsRow_below r2 hb6).kept (grown_set w5 w.heap.size 0 (.int .u64 x1)) (.inr (by simp [Value.ownBlock]; omega))).kept (grown_set _ w.heap.size 1 (.int .i64 x2)) (.inr (by simp [Value.ownBlock]; omega))).kept (grown_set _ w.heap.size 2 (.int .u64 x3)) (.inr (by simp [Value.ownBlock]; omega))
  have hS6 := (((hS2.trans (Spares.of_below hb6)).set_new (Nat.le_refl _) 0 (.int .u64 x1)).set_new (Nat.le_refl _) 1 (.int .i64 x2)).set_new (Nat.le_refl _) 2 (.int .u64 x3)
  generalize ((w5.setCell ⟨w.heap.size, 0, none⟩ (.int .u64 x1)).setCell ⟨w.heap.size, 1, none⟩ (.int .i64 x2)).setCell ⟨w.heap.size, 2, none⟩ (.int .u64 x3) = W6 at *
  have k0 := b6.cell 0 (v := .int .u64 x1) rfl
  have k1 := b6.cell 1 (v := .int .i64 x2) rfl
  have k2 := b6.cell 2 (v := .int .u64 x3) rfl
  exact bodyPost_ret (v := .tuple #[.agg #[.int .u64 x1, .int .i64 x2, .int .u64 x3], .bool true]) (by simp [results, Tryz.results86, go_sem, k0, k1, k2]) rfl ⟨rfl, bV6, r6, hS6⟩
end Go.Proofs
