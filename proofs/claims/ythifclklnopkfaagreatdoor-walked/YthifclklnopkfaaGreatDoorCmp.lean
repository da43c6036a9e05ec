import Derived.Test.YthifclklnopkfaaGreatDoorProg
import Derived.WalkKit
import Derived.WalkSpells
import Derived.WalkLawsBesides
import Derived.Deep.RegionWith
import Derived.Deep.RegionHeld3
import Derived.Test.YthifclklnopkfaaGreatDoorBase
/-
  The order of names: cmp.isNaN, cmp.Compare, cmp.Or, (Name).Compare, the closures of order.Keys.
-/
namespace Go.Proofs
open Go.RowKit Go.Sort

set_option maxHeartbeats 400000 in
theorem Tryz.isNaNKind (a : Int) (w : World) : Calls Tryz.prog 217 #[.int .i64 a] w fun e w' => e = .returned (.bool false) ∧ w' = w := by
  go_enter Tryz.func217, Tryz.ntmps217
  go_wp2
  go_ret
  exact ⟨by simp, rfl⟩

set_option maxHeartbeats 400000 in
theorem Tryz.isNaNU64 (a : Int) (w : World) : Calls Tryz.prog 218 #[.int .u64 a] w fun e w' => e = .returned (.bool false) ∧ w' = w := by
  go_enter Tryz.func218, Tryz.ntmps218
  go_wp2
  go_ret
  exact ⟨by simp, rfl⟩

set_option maxHeartbeats 400000 in
theorem Tryz.cmpKind (a b : Int) (w : World) : Calls Tryz.prog 215 #[.int .i64 a, .int .i64 b] w fun e w' => e = .returned (.int .i64 (cmpI a b)) ∧ w' = w := by
  go_enter Tryz.func215, Tryz.ntmps215
  go_wp2_with (go_at_call 217; refine (Tryz.isNaNKind _ _).mono ?_; rintro e w' ⟨rfl, rfl⟩)
  all_goals go_ret
  · exact ⟨ret_int (cmpI_lt ‹_›).symm, rfl⟩
  · exact ⟨ret_int (cmpI_gt ‹_›).symm, rfl⟩
  · exact ⟨ret_int (cmpI_eq ‹_› ‹_›).symm, rfl⟩

set_option maxHeartbeats 400000 in
theorem Tryz.cmpU64 (a b : Int) (w : World) : Calls Tryz.prog 216 #[.int .u64 a, .int .u64 b] w fun e w' => e = .returned (.int .i64 (cmpI a b)) ∧ w' = w := by
  go_enter Tryz.func216, Tryz.ntmps216
  go_wp2_with (go_at_call 218; refine (Tryz.isNaNU64 _ _).mono ?_; rintro e w' ⟨rfl, rfl⟩)
  all_goals go_ret
  · exact ⟨ret_int (cmpI_lt ‹_›).symm, rfl⟩
  · exact ⟨ret_int (cmpI_gt ‹_›).symm, rfl⟩
  · exact ⟨ret_int (cmpI_eq ‹_› ‹_›).symm, rfl⟩

set_option maxHeartbeats 400000 in
theorem Tryz.cmpOr (a b : Int) (blk : Nat) (w : World) (h0 : w.cell? ⟨blk, 0, none⟩ = some (.int .i64 a)) (h1 : w.cell? ⟨blk, 1, none⟩ = some (.int .i64 b)) :
    Calls Tryz.prog 214 #[.slice (some ⟨blk, 0, none⟩) 2 2] w fun e w' => e = .returned (.int .i64 (orI a b)) ∧ w' = w := by
  by_cases ha : a = 0
  · have ha' : (a != 0) = false := by simp [ha]
    have hfin : Hid (orI a b = b) := show orI a b = b by simp [orI, ha]
    clear ha
    by_cases hb : b = 0
    · have hb' : (b != 0) = false := by simp [hb]
      have hfin2 : Hid (b = 0) := hb
      clear hb
      go_enter Tryz.func214, Tryz.ntmps214
      go_wp2
      refine wp_loop_rounds 3 ?_
      rw [rounds_succ]
      go_wp2
      rw [rounds_succ]
      go_wp2
      rw [rounds_succ]
      go_wp2
      go_ret
      exact ⟨ret_int (show (0 : Int) = orI a b by rw [show orI a b = b from hfin, show b = 0 from hfin2]), rfl⟩
    · have hb' : (b != 0) = true := by simp [hb]
      clear hb
      go_enter Tryz.func214, Tryz.ntmps214
      go_wp2
      refine wp_loop_rounds 3 ?_
      rw [rounds_succ]
      go_wp2
      rw [rounds_succ]
      go_wp2
      go_ret
      exact ⟨ret_int (show b = orI a b by rw [show orI a b = b from hfin]), rfl⟩
  · have ha' : (a != 0) = true := by simp [ha]
    have hfin : Hid (orI a b = a) := show orI a b = a by simp [orI, ha]
    clear ha
    go_enter Tryz.func214, Tryz.ntmps214
    go_wp2
    refine wp_loop_rounds 3 ?_
    rw [rounds_succ]
    go_wp2
    go_ret
    exact ⟨ret_int (show a = orI a b by rw [show orI a b = a from hfin]), rfl⟩

set_option maxHeartbeats 1000000 in
theorem Tryz.nameCompare (x y : Int × Int) (w : World) : Calls Tryz.prog 213 #[.agg #[.int .i64 x.1, .int .u64 x.2], .agg #[.int .i64 y.1, .int .u64 y.2]] w fun e w' => e = .returned (.int .i64 (cmpN x y)) ∧ Grew w w' := by
  have hN : Hid (cmpN x y = orI (cmpI x.1 y.1) (cmpI x.2 y.2)) := show _ = _ from rfl
  have hk := fun W => Tryz.cmpKind x.1 y.1 W
  have hu := fun W => Tryz.cmpU64 x.2 y.2 W
  generalize cmpI x.1 y.1 = a at *
  generalize cmpI x.2 y.2 = b at *
  generalize cmpN x y = r at *
  go_enter Tryz.func213, Tryz.ntmps213
  go_wp2_with fail
  go_region_held3 (fun W => W.cell? ⟨w.heap.size, 0, none⟩ = some (.int .i64 x.1) ∧ W.cell? ⟨w.heap.size, 1, none⟩ = some (.int .u64 x.2) ∧ W.cell? ⟨w.heap.size + 1, 0, none⟩ = some (.int .i64 y.1) ∧ W.cell? ⟨w.heap.size + 1, 1, none⟩ = some (.int .u64 y.2)) (go_keep) (first
    | (go_at_call 215; refine (hk _).mono ?_; rintro e w' ⟨rfl, rfl⟩)
    | (go_at_call 216; refine (hu _).mono ?_; rintro e w' ⟨rfl, rfl⟩)
    | (go_at_call 214; refine (Tryz.cmpOr a b _ _ ?_ ?_).mono ?_; go_simp; go_simp; rintro e w' ⟨rfl, rfl⟩))
  go_wp2
  go_ret
  exact ⟨ret_int (show orI a b = r from (show r = orI a b from hN).symm), ((((Grew.refl w).alloc _).alloc _).alloc _).drew⟩

theorem Tryz.method_cmp (a b : Int) (w : World) : Sem.run Tryz.prog (method 421 97 (.agg #[.int .i64 a, .int .u64 b]) "Compare") w = .ok (213, .agg #[.int .i64 a, .int .u64 b]) w := by kernel_rfl

set_option maxRecDepth 100000 in
set_option maxHeartbeats 1000000 in
theorem Tryz.keysTok1 (x y : Int × Int) (w : World) : Calls Tryz.prog 137 #[.agg #[.int .i64 x.1, .int .u64 x.2], .agg #[.int .i64 y.1, .int .u64 y.2]] w fun e w' => e = .returned (.int .i64 (cmpN x y)) ∧ Grew w w' := by
  have hk := fun W => Tryz.nameCompare x y W
  have hm := fun W => Tryz.method_cmp x.1 x.2 W
  generalize cmpN x y = r at *
  go_enter Tryz.func137, Tryz.ntmps137
  go_wp2_with (go_at_call 213; refine (hk _).mono ?_; rintro e w' ⟨rfl, hg⟩)
  go_ret
  exact ⟨rfl, (((Grew.refl w).alloc _).alloc _).trans hg⟩

set_option maxRecDepth 100000 in
set_option maxHeartbeats 1000000 in
theorem Tryz.keysLea1 (x y : Int × Int) (w : World) : Calls Tryz.prog 139 #[.agg #[.int .i64 x.1, .int .u64 x.2], .agg #[.int .i64 y.1, .int .u64 y.2]] w fun e w' => e = .returned (.int .i64 (cmpN x y)) ∧ Grew w w' := by
  have hk := fun W => Tryz.nameCompare x y W
  have hm := fun W => Tryz.method_cmp x.1 x.2 W
  generalize cmpN x y = r at *
  go_enter Tryz.func139, Tryz.ntmps139
  go_wp2_with (go_at_call 213; refine (hk _).mono ?_; rintro e w' ⟨rfl, hg⟩)
  go_ret
  exact ⟨rfl, (((Grew.refl w).alloc _).alloc _).trans hg⟩
end Go.Proofs
