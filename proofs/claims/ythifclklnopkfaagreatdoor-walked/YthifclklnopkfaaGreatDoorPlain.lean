import Derived.Test.YthifclklnopkfaaGreatDoorProg
import Derived.Test.YthifclklnopkfaaGreatDoorBox
import Derived.WalkKit
import Derived.WalkSpells
import Derived.Deep.RegionHeld3
/-
  Package plain: what goes around each call.
-/
namespace Go.Proofs
open Go.RowKit Go.Sort

def fallV (a b c d : Int) : Value := .agg #[.int .i64 a, .int .i64 b, .int .i64 c, .int .i64 d]

theorem BoxN.ne {W : World} {B B' : Nat} {t t' : TypeId} {cs cs' : Array Value} (h : BoxN W B t cs) (h' : BoxN W B' t' cs') (hne : t ≠ t') : B ≠ B' := by
  rintro rfl
  have e : some (Obj.cells cs t (0, 0)) = some (Obj.cells cs' t' (0, 0)) := h.symm.trans h'
  simp at e
  exact hne e.2

set_option maxHeartbeats 1000000 in
theorem Tryz.well (w : World) : Calls Tryz.prog 11 #[] w fun e w' => e = .returned (fallV (-1) (-1) 0 0) ∧ Below w.heap.size w w' := by
  unfold fallV
  go_enter Tryz.func11, Tryz.ntmps11
  go_wp2
  exact bodyPost_ret (v := .agg #[.int .i64 (-1), .int .i64 (-1), .int .i64 0, .int .i64 0]) (by simp [results, Tryz.results11, go_sem]) rfl ⟨rfl, (Below.refl _ _).alloc (Nat.le_refl _) _⟩

theorem set_other (w : World) (db i k : Nat) (v : Value) (hd : k ≠ db) : (w.setCell ⟨db, i, none⟩ v).heap[k]? = w.heap[k]? := by
  show (w.heap.modify db _)[k]? = _
  rw [Array.getElem?_modify, if_neg (fun e => hd e.symm)]
theorem grown_two (w : World) (db i i' : Nat) (v v' : Value) (o : Obj) : w.grownBy (((w.setCell ⟨db, i, none⟩ v).setCell ⟨db, i', none⟩ v').alloc o).drew (some db) :=
  ⟨rfl, rfl, rfl, by simp [World.drew], fun k hk hne => by
    have hd : k ≠ db := fun e => hne (by rw [e])
    show (((w.setCell ⟨db, i, none⟩ v).setCell ⟨db, i', none⟩ v').heap.push o)[k]? = _
    rw [Array.getElem?_push_lt (by simpa using hk), ← Array.getElem?_eq_getElem]
    rw [set_other _ _ _ _ _ hd, set_other _ _ _ _ _ hd]⟩
/-- what holds throughout the two stores. -/
abbrev Tryz.FallP (hb db fb : Nat) (a b : Int) (W : World) : Prop :=
  (W.cell? ⟨hb, 0, none⟩ = some (.pointer (some ⟨db, 0, none⟩)) ∧ W.cell? ⟨fb, 0, none⟩ = some (.int .i64 a) ∧ W.cell? ⟨fb, 1, none⟩ = some (.int .i64 b)) ∧
  (W.cell? ⟨db, 3, none⟩ = some (cellOr W ⟨db, 3, none⟩) ∧ W.cell? ⟨db, 4, none⟩ = some (cellOr W ⟨db, 4, none⟩)) ∧ W.frozen? ⟨db, 3, none⟩ = false ∧ W.frozen? ⟨db, 4, none⟩ = false
theorem Tryz.FallP.start {W : World} {hb db fb : Nat} {a b c d : Int} {cs ds : Array Value} (hs : W.heap.size = fb) (hH : BoxN W hb 64 cs) (h0 : cs[0]? = some (.pointer (some ⟨db, 0, none⟩))) (hD : BoxN W db 76 ds) (h6 : ds.size = 6) :
    Tryz.FallP hb db fb a b (W.alloc (.cells #[.int .i64 a, .int .i64 b, .int .i64 c, .int .i64 d] 29)).drew := by
  subst hs
  have bF := BoxN.new W 29 #[.int .i64 a, .int .i64 b, .int .i64 c, .int .i64 d]
  have bH := hH.alloc (.cells #[.int .i64 a, .int .i64 b, .int .i64 c, .int .i64 d] 29)
  have bD := hD.alloc (.cells #[.int .i64 a, .int .i64 b, .int .i64 c, .int .i64 d] 29)
  exact ⟨⟨bH.cell 0 h0, bF.cell 0 rfl, bF.cell 1 rfl⟩, ⟨cellOr_some (by have h := bD.cell 3 (v := ds[3]) (by simp [h6]); show ((W.alloc _).cell? _).isSome; rw [h]; rfl), cellOr_some (by have h := bD.cell 4 (v := ds[4]) (by simp [h6]); show ((W.alloc _).cell? _).isSome; rw [h]; rfl)⟩, bD.frozen 3, bD.frozen 4⟩
theorem Tryz.FallP.start1 {w : World} {hb db : Nat} {a b c d : Int} {c1 c2 m1 m2 p l f dn : Value} (hH : BoxN w hb 64 #[.pointer (some ⟨db, 0, none⟩), c1, c2]) (hD : BoxN w db 76 #[m1, m2, p, l, f, dn]) (hne : hb ≠ db) (i : Nat) (v : Value) :
    Tryz.FallP hb db w.heap.size a b ((w.setCell ⟨db, i, none⟩ v).alloc (.cells #[.int .i64 a, .int .i64 b, .int .i64 c, .int .i64 d] 29)).drew :=
  Tryz.FallP.start (by simp) (hH.other hne i v) rfl (hD.set i v) (by simp)
theorem Tryz.FallP.start2 {w : World} {hb db : Nat} {a b c d : Int} {c1 c2 m1 m2 p l f dn : Value} (hH : BoxN w hb 64 #[.pointer (some ⟨db, 0, none⟩), c1, c2]) (hD : BoxN w db 76 #[m1, m2, p, l, f, dn]) (hne : hb ≠ db) (i : Nat) (v : Value) (i' : Nat) (v' : Value) :
    Tryz.FallP hb db w.heap.size a b (((w.setCell ⟨db, i, none⟩ v).setCell ⟨db, i', none⟩ v').alloc (.cells #[.int .i64 a, .int .i64 b, .int .i64 c, .int .i64 d] 29)).drew :=
  Tryz.FallP.start (by simp) ((hH.other hne i v).other hne i' v') rfl ((hD.set i v).set i' v') (by simp)
set_option maxHeartbeats 1000000 in
theorem Tryz.before (hb db : Nat) (c1 c2 m1 m2 p l f dn : Value) (a b c d : Int) (w : World) (hH : BoxN w hb 64 #[.pointer (some ⟨db, 0, none⟩), c1, c2]) (hD : BoxN w db 76 #[m1, m2, p, l, f, dn]) :
    Calls Tryz.prog 26 #[.pointer (some ⟨hb, 0, none⟩), fallV a b c d] w fun e w' => e = .returned (.tuple #[]) ∧ BoxN w' db 76 #[m1, m2, p, .int .i64 a, .int .i64 b, dn] ∧ w.grownBy w' (some db) := by
  have lH := hH.lt
  have lD := hD.lt
  have hne := hH.ne hD (by decide)
  unfold fallV
  go_enter Tryz.func26, Tryz.ntmps26
  go_wp2
  go_region_held3 (Tryz.FallP hb db w.heap.size a b) (first
    | with_reducible exact Tryz.FallP.start rfl hH rfl hD rfl
    | with_reducible exact Tryz.FallP.start1 hH hD hne _ _
    | with_reducible exact Tryz.FallP.start2 hH hD hne _ _ _ _
    | with_reducible assumption) (fail)
  all_goals
    go_wp2
    go_end0
    exact ⟨rfl, ((hD.set 3 _).set 4 _).alloc _, grown_two _ _ _ _ _ _ _⟩
set_option maxHeartbeats 1000000 in
theorem Tryz.after (hb db : Nat) (c1 c2 m1 m2 p l f : Value) (a b c d : Int) (w : World) (hH : BoxN w hb 64 #[.pointer (some ⟨db, 0, none⟩), c1, c2]) (hD : BoxN w db 76 #[m1, m2, p, l, f, .bool false]) :
    Calls Tryz.prog 28 #[.pointer (some ⟨hb, 0, none⟩), fallV a b c d] w fun e w' => e = .returned (.tuple #[]) ∧ BoxN w' db 76 #[m1, m2, p, .int .i64 (-1), .int .i64 (-1), .bool false] ∧ w.grownBy w' (some db) := by
  have h0 := hH.cell 0 (v := .pointer (some ⟨db, 0, none⟩)) rfl
  have d5 := hD.cell 5 (v := .bool false) rfl
  have lH := hH.lt
  have lD := hD.lt
  have hne := hH.ne hD (by decide)
  unfold fallV
  go_enter Tryz.func28, Tryz.ntmps28
  go_wp2
  go_region_held3 (Tryz.FallP hb db w.heap.size a b) (first
    | with_reducible exact Tryz.FallP.start rfl hH rfl hD rfl
    | with_reducible exact Tryz.FallP.start1 hH hD hne _ _
    | with_reducible exact Tryz.FallP.start2 hH hD hne _ _ _ _
    | with_reducible assumption) (fail)
  all_goals
    go_wp2
    go_end0
    exact ⟨rfl, ((hD.set 3 _).set 4 _).alloc _, grown_two _ _ _ _ _ _ _⟩
end Go.Proofs
