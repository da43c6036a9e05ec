import Derived.Test.YtjbekgjdempbiaaGreatDoorProg
import Derived.Test.YtjbekgjdempbiaaGreatDoorJSortBase
import Derived.WalkKit
import Derived.LaidEql
import Derived.Stop.Asserts
import Derived.RowKitTokens
import Derived.Test.YtjbekgjdempbiaaGreatDoorJStr
import Derived.Test.YtjbekgjdempbiaaGreatDoorJVRenew
import Derived.Test.YtjbekgjdempbiaaGreatDoorJRounds
/-
  errors.As and errors.Is at an api.Errno: Go's own texts walked, the entries of internal/reflectlite by closed facts (after the guide's worked example of errors.As at a concrete target).
-/
namespace Go.Proofs
open Go.RowKit Go.Extern.Stop Go.Stop Go.Extern

theorem Tryz.asNil (t : Value) (w : World) :
    Calls Tryz.prog 69 #[.nilIface, t] w fun e w' => e = .returned (.bool false) ∧ w' = w := by
  go_enter Tryz.func69, Tryz.ntmps69
  go_wp2
  go_ret
  exact ⟨rfl, rfl⟩

theorem Tryz.rfValueP (t : Addr) (w : World) : (ReflectliteValue.unpack (.iface 139 (.pointer (some t)))).run Tryz.prog w
    = .ok (.agg #[.pointer (some ⟨9, 139, none⟩), .pointer (some ⟨w.heap.size, 0, none⟩), .int .u64 150]) (w.alloc (.cells #[.pointer (some t)] 139)) := by kernel_rfl
theorem Tryz.rfTypeP (a : Addr) (w : World) : (ReflectliteValue.methodAny (ReflectliteValue.valueError "reflectlite.Value.Type" 0) (fun t _ _ _ => ReflectliteType.toType t) #[.agg #[.pointer (some ⟨9, 139, none⟩), .pointer (some a), .int .u64 150]]).run Tryz.prog w
    = .ok (.iface 243 (.agg #[.pointer (some ⟨9, 139, none⟩)])) w := by kernel_rfl
theorem Tryz.rfKind (h : Value) (w : World) : (Go.method 517 243 (.agg #[h]) "Kind").run Tryz.prog w = .ok (301, h) w := by kernel_rfl
theorem Tryz.rfKindP (w : World) : ((ReflectliteType.abiMethod fun t => Functor.map (fun a : Nat => Value.int IntKind.u8 (a : Int)) (Rtype.kind t)) #[.pointer (some ⟨9, 139, none⟩)]).run Tryz.prog w = .ok (.int .u8 22) w := by kernel_rfl
theorem Tryz.rfKindE (w : World) : ((ReflectliteType.abiMethod fun t => Functor.map (fun a : Nat => Value.int IntKind.u8 (a : Int)) (Rtype.kind t)) #[.pointer (some ⟨9, 33, none⟩)]).run Tryz.prog w = .ok (.int .u8 2) w := by kernel_rfl
theorem Tryz.rfPartsP (a : Addr) (w : World) : (ReflectliteValue.parts (.agg #[.pointer (some ⟨9, 139, none⟩), .pointer (some a), .int .u64 150])).run Tryz.prog w = .ok (some (139, a, 150)) w := by kernel_rfl
theorem Tryz.rfIsNil0 (a : Addr) (W : World) :
    (ReflectliteValue.method (ReflectliteValue.valueError "reflectlite.Value.IsNil" 0) ReflectliteValue.isNil #[.agg #[.pointer (some ⟨9, 139, none⟩), .pointer (some a), .int .u64 150]]).run Tryz.prog W = (ReflectliteValue.isNil 139 a 150 22).run Tryz.prog W := by kernel_rfl
theorem Tryz.rfIsNil (a p : Addr) (W : World) (ha : W.cell? a = some (.pointer (some p))) :
    (ReflectliteValue.method (ReflectliteValue.valueError "reflectlite.Value.IsNil" 0) ReflectliteValue.isNil #[.agg #[.pointer (some ⟨9, 139, none⟩), .pointer (some a), .int .u64 150]]).run Tryz.prog W = .ok (.bool false) W := by
  rw [Tryz.rfIsNil0]
  simp [ReflectliteValue.isNil, loadVar, isAgg, underlying, Tryz.underlying139, ha, Result.andThen]
theorem Tryz.rfElemM (h : Value) (w : World) : (Go.method 517 243 (.agg #[h]) "Elem").run Tryz.prog w = .ok (344, .agg #[h]) w := by kernel_rfl
theorem Tryz.rfImplM (h : Value) (w : World) : (Go.method 517 243 (.agg #[h]) "Implements").run Tryz.prog w = .ok (345, .agg #[h]) w := by kernel_rfl
theorem Tryz.rfAssignM (h : Value) (w : World) : (Go.method 517 243 (.agg #[h]) "AssignableTo").run Tryz.prog w = .ok (342, .agg #[h]) w := by kernel_rfl
theorem Tryz.rfComparM (h : Value) (w : World) : (Go.method 517 243 (.agg #[h]) "Comparable").run Tryz.prog w = .ok (343, .agg #[h]) w := by kernel_rfl
theorem Tryz.rfElemT (w : World) : (ReflectliteType.method ReflectliteType.elem #[.agg #[.pointer (some ⟨9, 139, none⟩)]]).run Tryz.prog w = .ok (.iface 243 (.agg #[.pointer (some ⟨9, 33, none⟩)])) w := by kernel_rfl
theorem Tryz.rfImpl (w : World) : (ReflectliteType.relation "Implements" ReflectliteType.implements_ #[.agg #[.pointer (some ⟨9, 33, none⟩)], .iface 243 (.agg #[.pointer (some ⟨9, 81, none⟩)])]).run Tryz.prog w = .ok (.bool true) w := by kernel_rfl
theorem Tryz.rfTypeOf (v : Value) (w : World) : (ReflectliteType.typeOf #[.iface 33 v]).run Tryz.prog w = .ok (.iface 243 (.agg #[.pointer (some ⟨9, 33, none⟩)])) w := by kernel_rfl
theorem Tryz.rfAssign (w : World) : (ReflectliteType.relation "AssignableTo" ReflectliteType.assignableTo #[.agg #[.pointer (some ⟨9, 33, none⟩)], .iface 243 (.agg #[.pointer (some ⟨9, 33, none⟩)])]).run Tryz.prog w = .ok (.bool true) w := by kernel_rfl
theorem Tryz.rfValueE (k : Int) (w : World) : (ReflectliteValue.unpack (.iface 33 (.int .i64 k))).run Tryz.prog w
    = .ok (.agg #[.pointer (some ⟨9, 33, none⟩), .pointer (some ⟨w.heap.size, 0, none⟩), .int .u64 130]) (w.alloc (.cells #[.int .i64 k] 33)) := by kernel_rfl
theorem Tryz.rfElemOf (w : World) : (Rtype.elem? 139).run Tryz.prog w = .ok (some 33) w := by kernel_rfl
theorem Tryz.rfMk (p : Addr) (w : World) : (ReflectliteValue.mk 33 p ReflectliteValue.flagAddr).run Tryz.prog w = .ok (.agg #[.pointer (some ⟨9, 33, none⟩), .pointer (some p), .int .u64 386]) w := by kernel_rfl
theorem Tryz.rfElemV0 (a : Addr) (W : World) :
    (ReflectliteValue.method (ReflectliteValue.valueError "reflectlite.Value.Elem" 0) ReflectliteValue.elem #[.agg #[.pointer (some ⟨9, 139, none⟩), .pointer (some a), .int .u64 150]]).run Tryz.prog W = (ReflectliteValue.elem 139 a 150 22).run Tryz.prog W := by kernel_rfl
theorem Tryz.rfElemV (a p : Addr) (W : World) (ha : W.cell? a = some (.pointer (some p))) :
    (ReflectliteValue.method (ReflectliteValue.valueError "reflectlite.Value.Elem" 0) ReflectliteValue.elem #[.agg #[.pointer (some ⟨9, 139, none⟩), .pointer (some a), .int .u64 150]]).run Tryz.prog W
      = .ok (.agg #[.pointer (some ⟨9, 33, none⟩), .pointer (some p), .int .u64 386]) W := by
  rw [Tryz.rfElemV0]
  simp [ReflectliteValue.elem, loadVar, isAgg, underlying, Tryz.underlying139, ha, Result.andThen, Tryz.rfElemOf, Tryz.rfMk]
theorem Tryz.rfSet0 (ta b : Addr) (W : World) :
    (ReflectliteValue.set #[.agg #[.pointer (some ⟨9, 33, none⟩), .pointer (some ta), .int .u64 386], .agg #[.pointer (some ⟨9, 33, none⟩), .pointer (some b), .int .u64 130]]).run Tryz.prog W
      = (loadVar 33 b >>= fun v => storeVar 33 ta v >>= fun _ => pure (.tuple #[])).run Tryz.prog W := by kernel_rfl
theorem Tryz.rfSet (ta b : Addr) (k : Int) (old : Value) (W : World) (hb : W.cell? b = some (.int .i64 k)) (ht : W.cell? ta = some old) (hf : W.frozen? ta = false) :
    (ReflectliteValue.set #[.agg #[.pointer (some ⟨9, 33, none⟩), .pointer (some ta), .int .u64 386], .agg #[.pointer (some ⟨9, 33, none⟩), .pointer (some b), .int .u64 130]]).run Tryz.prog W
      = .ok (.tuple #[]) (W.setCell ta (.int .i64 k)) := by
  rw [Tryz.rfSet0]
  simp [loadVar, isAgg, underlying, Tryz.underlying33, hb, Result.andThen, storeVar, Value.cells, storeCells, Addr.add]
  rw [run_store Tryz.prog W ta _ _ (by rfl)]
  simp [ht, hf]
theorem Tryz.rfCompar (w : World) : ((ReflectliteType.method fun t => do Rtype.noPackHeld "Comparable" t; pure (.bool (← typeInfo t).comparable)) #[.agg #[.pointer (some ⟨9, 33, none⟩)]]).run Tryz.prog w = .ok (.bool true) w := by kernel_rfl
def ErrK (k : Int) : Prop := k = 1 ∨ k = 2 ∨ k = 3 ∨ k = 4 ∨ k = 5 ∨ k = 6 ∨ k = 7 ∨ k = 8
theorem Tryz.rfEql (k : Int) (hk : ErrK k) (w : World) : (binOp .eql 81 (.iface 33 (.int .i64 k)) (.iface 33 (.int .i64 k))).run Tryz.prog w = .ok (.bool true) w := by
  rcases hk with rfl | rfl | rfl | rfl | rfl | rfl | rfl | rfl <;> kernel_rfl

end Go.Proofs

/-
  errors.As and errors.Is at an api.Errno, walked.
-/
namespace Go.Proofs
open Go.RowKit Go.Extern.Stop Go.Stop Go.Extern

set_option maxHeartbeats 4000000 in
theorem Tryz.asHit (k : Int) (t : Addr) (old : Value) (w : World) (hg : w.cell? ⟨0, 0, none⟩ = some (.iface 243 (.agg #[.pointer (some ⟨9, 81, none⟩)]))) (ht0 : w.cell? t = some old) (hf0 : w.frozen? t = false) :
    Calls Tryz.prog 69 #[.iface 33 (.int .i64 k), .iface 139 (.pointer (some t))] w fun ev w' => ev = .returned (.bool true) ∧ w' = ((((w.alloc (.cells #[.pointer (some t)] 139)).alloc (.cells #[.pointer (some ⟨9, 139, none⟩), .pointer (some ⟨w.heap.size, 0, none⟩), .int .u64 150] 200)).alloc (.cells #[.pointer (some ⟨9, 139, none⟩), .pointer (some ⟨w.heap.size, 0, none⟩), .int .u64 150] 200)).alloc (.cells #[.int .i64 k] 33)).setCell t (.int .i64 k) := by
  have h6 := @run_callFunc_extern Tryz.prog 123 _ (fun args => ReflectliteValue.unpack (args.getD 0 (.tuple #[]))) Tryz.func123 (by kernel_rfl) (by kernel_rfl) (by kernel_rfl) (by kernel_rfl)
  have h7 := @run_callFunc_extern Tryz.prog 124 _ (ReflectliteValue.methodAny (ReflectliteValue.valueError "reflectlite.Value.Type" 0) (fun t _ _ _ => ReflectliteType.toType t)) Tryz.func124 (by kernel_rfl) (by kernel_rfl) (by kernel_rfl) (by kernel_rfl)
  have h8 := @run_callFunc_extern Tryz.prog 125 _ (ReflectliteValue.method (ReflectliteValue.valueError "reflectlite.Value.IsNil" 0) ReflectliteValue.isNil) Tryz.func125 (by kernel_rfl) (by kernel_rfl) (by kernel_rfl) (by kernel_rfl)
  have h27 := @run_callFunc_extern Tryz.prog 301 _ (ReflectliteType.abiMethod fun t => do pure (.int .u8 (← Rtype.kind t))) Tryz.func301 (by kernel_rfl) (by kernel_rfl) (by kernel_rfl) (by kernel_rfl)
  have h37 := @run_callFunc_extern Tryz.prog 344 _ (ReflectliteType.method ReflectliteType.elem) Tryz.func344 (by kernel_rfl) (by kernel_rfl) (by kernel_rfl) (by kernel_rfl)
  have h38 := @run_callFunc_extern Tryz.prog 345 _ (ReflectliteType.relation "Implements" ReflectliteType.implements_) Tryz.func345 (by kernel_rfl) (by kernel_rfl) (by kernel_rfl) (by kernel_rfl)
  have h10 := @run_callFunc_extern Tryz.prog 127 _ ReflectliteType.typeOf Tryz.func127 (by kernel_rfl) (by kernel_rfl) (by kernel_rfl) (by kernel_rfl)
  have h35 := @run_callFunc_extern Tryz.prog 342 _ (ReflectliteType.relation "AssignableTo" ReflectliteType.assignableTo) Tryz.func342 (by kernel_rfl) (by kernel_rfl) (by kernel_rfl) (by kernel_rfl)
  have h11 := @run_callFunc_extern Tryz.prog 165 _ (ReflectliteValue.method (ReflectliteValue.valueError "reflectlite.Value.Elem" 0) ReflectliteValue.elem) Tryz.func165 (by kernel_rfl) (by kernel_rfl) (by kernel_rfl) (by kernel_rfl)
  have h12 := @run_callFunc_extern Tryz.prog 166 _ ReflectliteValue.set Tryz.func166 (by kernel_rfl) (by kernel_rfl) (by kernel_rfl) (by kernel_rfl)
  have tO := Tryz.rfTypeOf
  have mA := Tryz.rfAssignM
  have a25 := Tryz.rfAssign
  have v25 := Tryz.rfValueE
  have f6 := Tryz.rfValueP
  have f7 := Tryz.rfTypeP
  have mK := Tryz.rfKind
  have mE := Tryz.rfElemM
  have mI := Tryz.rfImplM
  have k27 := Tryz.rfKindP
  have k25 := Tryz.rfKindE
  have e27 := Tryz.rfElemT
  have i25 := Tryz.rfImpl
  have n8 := Tryz.rfIsNil ⟨w.heap.size, 0, none⟩ t ((w.alloc (.cells #[.pointer (some t)] 139)).alloc (.cells #[.pointer (some ⟨9, 139, none⟩), .pointer (some ⟨w.heap.size, 0, none⟩), .int .u64 150] 200)) (by simp)
  have hlt : 0 < w.heap.size := World.block_lt_of_cell? _ _ hg
  have hg2 : ((w.alloc (.cells #[.pointer (some t)] 139)).alloc (.cells #[.pointer (some ⟨9, 139, none⟩), .pointer (some ⟨w.heap.size, 0, none⟩), .int .u64 150] 200)).cell? ⟨0, 0, none⟩ = some (.iface 243 (.agg #[.pointer (some ⟨9, 81, none⟩)])) := by
    rw [World.cell?_alloc_lt _ _ ⟨0, 0, none⟩ (by simp), World.cell?_alloc_lt _ _ ⟨0, 0, none⟩ hlt]; exact hg
  have htl : t.block < w.heap.size := World.block_lt_of_cell? _ _ ht0
  have el := Tryz.rfElemV ⟨w.heap.size, 0, none⟩ t (((w.alloc (.cells #[.pointer (some t)] 139)).alloc (.cells #[.pointer (some ⟨9, 139, none⟩), .pointer (some ⟨w.heap.size, 0, none⟩), .int .u64 150] 200)).alloc (.cells #[.pointer (some ⟨9, 139, none⟩), .pointer (some ⟨w.heap.size, 0, none⟩), .int .u64 150] 200)) (by rw [World.cell?_alloc_lt _ _ ⟨w.heap.size, 0, none⟩ (by simp; omega)]; simp)
  have st := Tryz.rfSet t ⟨w.heap.size + 1 + 1 + 1, 0, none⟩ k old ((((w.alloc (.cells #[.pointer (some t)] 139)).alloc (.cells #[.pointer (some ⟨9, 139, none⟩), .pointer (some ⟨w.heap.size, 0, none⟩), .int .u64 150] 200)).alloc (.cells #[.pointer (some ⟨9, 139, none⟩), .pointer (some ⟨w.heap.size, 0, none⟩), .int .u64 150] 200)).alloc (.cells #[.int .i64 k] 33))
    (by rw [World.cell?_alloc_at _ _ _ _ (by simp)]; rfl)
    (by rw [World.cell?_alloc_lt _ _ t (by simp; omega), World.cell?_alloc_lt _ _ t (by simp; omega), World.cell?_alloc_lt _ _ t (by simp; omega), World.cell?_alloc_lt _ _ t htl]; exact ht0)
    (by rw [World.frozen?_alloc_old _ _ t (by simp; omega), World.frozen?_alloc_old _ _ t (by simp; omega), World.frozen?_alloc_old _ _ t (by simp; omega), World.frozen?_alloc_old _ _ t (Nat.ne_of_lt htl)]; exact hf0)
  go_enter Tryz.func69, Tryz.ntmps69
  go_wp2
  refine wp_loop_rounds 1 ?_
  rw [rounds_succ]
  go_wp2
  go_ret
  exact ⟨rfl, rfl⟩

end Go.Proofs

/-
  errors.Is at an api.Errno; plain.Told.
-/
namespace Go.Proofs
open Go.RowKit Go.Extern.Stop Go.Stop Go.Extern

set_option maxRecDepth 100000 in
set_option maxHeartbeats 4000000 in
theorem Tryz.isSame (k : Int) (hk : ErrK k) (w : World) :
    Calls Tryz.prog 70 #[.iface 33 (.int .i64 k), .iface 33 (.int .i64 k)] w fun e w' => e = .returned (.bool true) ∧ w' = w := by
  have h10 := @run_callFunc_extern Tryz.prog 127 _ ReflectliteType.typeOf Tryz.func127 (by kernel_rfl) (by kernel_rfl) (by kernel_rfl) (by kernel_rfl)
  have h32 := @run_callFunc_extern Tryz.prog 343 _ (ReflectliteType.method fun t => do Rtype.noPackHeld "Comparable" t; pure (.bool (← typeInfo t).comparable)) Tryz.func343 (by kernel_rfl) (by kernel_rfl) (by kernel_rfl) (by kernel_rfl)
  have tT := Tryz.rfTypeOf
  have cT : ∀ W, ((ReflectliteType.method fun t => do Rtype.noPackHeld "Comparable" t; Functor.map (fun a => Value.bool a.comparable) (typeInfo t)) #[.agg #[.pointer (some ⟨9, 33, none⟩)]]).run Tryz.prog W = .ok (.bool true) W := fun W => by kernel_rfl
  have mR := Tryz.rfComparM
  have heq := Tryz.rfEql k hk
  clear hk
  go_enter Tryz.func70, Tryz.ntmps70
  go_wp2
  refine wp_loop_rounds 1 ?_
  rw [rounds_succ]
  go_wp2
  go_ret
  exact ⟨rfl, rfl⟩

set_option maxHeartbeats 1000000 in
theorem Tryz.told_nil (w : World) : Calls Tryz.prog 43 #[.nilIface] w fun e w' => e = .returned (.int .i64 0) ∧ Below w.heap.size w w' := by
  go_enter Tryz.func43, Tryz.ntmps43
  go_wp2
  go_ret
  exact ⟨rfl, (Below.refl _ _).alloc (Nat.le_refl _) _⟩

set_option maxRecDepth 100000 in
set_option maxHeartbeats 4000000 in
theorem Tryz.told (k : Int) (hk : ErrK k) (w : World) (hg : w.cell? ⟨0, 0, none⟩ = some (.iface 243 (.agg #[.pointer (some ⟨9, 81, none⟩)]))) :
    Calls Tryz.prog 43 #[.iface 33 (.int .i64 k)] w fun e w' => e = .returned (.int .i64 k) ∧ Below w.heap.size w w' := by
  have b0 := BoxN.new w 33 #[.int .i64 0]
  have hlt : 0 < w.heap.size := World.block_lt_of_cell? _ _ hg
  have hg1 : (w.alloc (.cells #[.int .i64 0] 33)).cell? ⟨0, 0, none⟩ = some (.iface 243 (.agg #[.pointer (some ⟨9, 81, none⟩)])) := by
    rw [World.cell?_alloc_lt _ _ ⟨0, 0, none⟩ hlt]; exact hg
  have hA := Tryz.asHit k ⟨w.heap.size, 0, none⟩ (.int .i64 0) _ hg1 (b0.cell 0 rfl) (b0.frozen 0)
  have hI := fun W => Tryz.isSame k hk W
  clear hk hg
  go_enter Tryz.func43, Tryz.ntmps43
  go_wp2_with (first
    | (go_at_call 69; refine hA.mono ?_; rintro e w1 ⟨rfl, rfl⟩)
    | (go_at_call 70; refine (hI _).mono ?_; rintro e w2 ⟨rfl, rfl⟩))
  go_ret
  exact ⟨rfl, (((((Below.refl _ w).alloc (Nat.le_refl _) _).alloc (by simp) _).alloc (by simp; omega) _).alloc (by simp; omega) _).alloc (by simp; omega) _⟩
end Go.Proofs

/-
  What the calls ask of packages' variables besides.
-/
namespace Go.Proofs
open Go.RowKit Go.Sort Go.Lib Go.Shelf

/-- what errors.As and strings.Index ask of a package's variable. -/
def Tryz.ErrT (W : World) : Prop := W.cell? ⟨0, 0, none⟩ = some (.iface 243 (.agg #[.pointer (some ⟨9, 81, none⟩)])) ∧ ∃ m, W.cell? ⟨6, 0, none⟩ = some (.int .i64 m)
theorem Tryz.ErrT.below {W W' : World} (h : Tryz.ErrT W) (hb : Below 9 W W') : Tryz.ErrT W' := by
  obtain ⟨h1, m, h2⟩ := h
  exact ⟨(hb.cell (p := ⟨0, 0, none⟩) (by show 0 < 9; decide)).trans h1, m, (hb.cell (p := ⟨6, 0, none⟩) (by show 6 < 9; decide)).trans h2⟩
end Go.Proofs

/-
  plain.Host: a vault, its journal, its disk, its revoker, and what is kept true of all; what other blocks do leaves them.
-/
namespace Go.Proofs
open Go.RowKit Go.Sort Go.Lib Go.Shelf Go.Maps

/-- Told of no error, of one. -/
theorem Tryz.toldK (k : Int) (hk : k = 0 ∨ ErrK k) (W : World) (h : Tryz.ErrT W) : Calls Tryz.prog 43 #[Tryz.errV k] W fun e w' => e = .returned (.int .i64 k) ∧ Below W.heap.size W w' := by
  rcases hk with rfl | hk
  · exact Tryz.told_nil W
  · have hz : k ≠ 0 := by rcases hk with rfl | rfl | rfl | rfl | rfl | rfl | rfl | rfl <;> decide
    rw [Tryz.errV_nz hz]
    exact Tryz.told k hk W h.1

theorem Spares.row' {bs : List Nat} {W W' : World} {base size n : Nat} {v : Value} {e : TypeId} {xs : List Value} (h : Spares bs W W') (hr : W.ownsRow base e size v n xs) (hn : ∀ g, v.ownBlock = some g → g ∉ bs) : W'.ownsRow base e size v n xs := by
  obtain ⟨h1, h2 | ⟨g, cap, cur, e1, e2, e3, e4⟩⟩ := hr
  · exact ⟨h1, .inl h2⟩
  · subst e1
    exact ⟨h1, .inr ⟨g, cap, cur, rfl, e2, Spares.box (t := e) (cs := cur) h e3 (hn g rfl), e4⟩⟩
theorem row_box {W : World} {base size n : Nat} {v : Value} {e : TypeId} {xs : List Value} (hr : W.ownsRow base e size v n xs) {g : Nat} (hg : v.ownBlock = some g) : base ≤ g ∧ ∃ cur, BoxN W g e cur := by
  obtain ⟨h1, ⟨e1, -⟩ | ⟨g', cap, cur, e1, e2, e3, e4⟩⟩ := hr
  · subst e1; cases hg
  · subst e1
    obtain rfl : g' = g := by simpa [Value.ownBlock] using hg
    exact ⟨e2, cur, e3⟩

/-- blocks of the statements' own. -/
def Tryz.foreign (t : TypeId) : Bool := t == 108 || t == 105 || t == 69 || t == 72
def Tryz.Foreign (W : World) (b : Nat) : Prop := 9 ≤ b ∧ ∃ t cs, BoxN W b t cs ∧ Tryz.foreign t = true
theorem Tryz.Foreign.ne {W : World} {b b' : Nat} {t : TypeId} {cs : Array Value} (h : Tryz.Foreign W b) (hB : BoxN W b' t cs) (ht : Tryz.foreign t = false) : b' ≠ b := by
  obtain ⟨-, t', cs', h1, h2⟩ := h
  exact hB.ne h1 (fun e => by rw [e, h2] at ht; cases ht)
theorem Tryz.Foreign.ne_map {H : Type} {P : Program} {k : TypeId} {R : Value → Option (DataW H × List MemPlace)} {D : DataW H} {W : World} {b b' n : Nat} (h : Tryz.Foreign W b) (hm : W.ownsMap P k R b' n D) : b' ≠ b := by
  obtain ⟨-, t', cs', h1, h2⟩ := h
  exact BoxN.ne_map' h1 hm

/-- the state of a host. -/
structure SS where
  k : Blk
  vx : VX
  tm : Int
  s : VSt
  c : List UInt8
structure Tryz.Sys (B : Nat) (W : World) (hb rb : Nat) (σ : SS) : Prop where
  host : BoxN W hb 78 #[.pointer (some ⟨σ.k.db, 0, none⟩), .pointer (some ⟨rb, 0, none⟩), .pointer (some ⟨σ.k.vb, 0, none⟩)]
  wh : Tryz.Whole W σ.k σ.vx σ.tm σ.s σ.c (-1) (-1)
  err : Tryz.ErrT W
  b9 : 9 ≤ B
  hlow : B ≤ hb
  low : ∀ b ∈ σ.k.turns, B ≤ b
  rvb : ∃ a b, BoxN W rb 88 #[a, b]
  rlow : B ≤ rb
  vrv : σ.vx.rv = .iface 75 (.pointer (some ⟨rb, 0, none⟩))
  vtk : σ.vx.tk = false
  due : W.ownsRow B 144 3 σ.vx.due 0 []

/-- what other blocks do leaves a vault, its journal and its disk. -/
theorem Tryz.Whole.spared {W W' : World} {k : Blk} {vx : VX} {tm : Int} {s : VSt} {c : List UInt8} {l f : Int} {bs : List Nat} (h : Tryz.Whole W k vx tm s c l f) (hS : Spares bs W W') (h1 : ∀ b ∈ k.turns, b ∉ bs) (h2 : k.jb ∉ bs) (h3 : ∀ b x, BoxN W b 9 #[x] → b ∉ bs) (h6 : ∀ b ∈ bs, 6 ≤ b) : Tryz.Whole W' k vx tm s c l f := by
  obtain ⟨fd, fn, hd, e1, e2⟩ := h.d
  exact { h with v := h.v.spared hS (h1 _ (by simp [Blk.turns])) (h1 _ (by simp [Blk.turns])) (h1 _ (by simp [Blk.turns])) h6, j := hS.box h.j h2, d := ⟨fd, fn, hd.spared hS (h1 _ (by simp [Blk.turns])) (h1 _ (by simp [Blk.turns])) (h1 _ (by simp [Blk.turns])) (fun q hq => h3 _ _ (hd.sd q hq)) (fun q hq => h3 _ _ (hd.sn q hq)), e1, e2⟩ }
/-- the disk's numbers. -/
theorem Tryz.Whole.setLF {W W' : World} {k : Blk} {vx : VX} {tm : Int} {s : VSt} {c : List UInt8} {l f l' f' : Int} (h : Tryz.Whole W k vx tm s c l f) (hS : Spares [k.db] W W') (bD : BoxN W' k.db 100 #[.map (some k.md), .map (some k.mn), .slice none 0 0, .int .i64 l', .int .i64 f', .bool false]) : Tryz.Whole W' k vx tm s c l' f' := by
  obtain ⟨fd, fn, hd, e1, e2⟩ := h.d
  obtain ⟨⟨a1, a2, a3⟩, a4, a5, a6, a7⟩ := h.nes
  simp only [List.mem_cons, List.not_mem_nil, or_false, not_or, Blk.turns] at a1 a2 a3 a4
  exact { h with v := h.v.spared hS (by simpa using a1.1) (by simpa using a2.1) (by simpa using a3.1) (fun b hb => by rw [List.mem_singleton.1 hb]; have := h.d9; omega), j := hS.box h.j (by simpa using a4.2.2.2.1), d := ⟨fd, fn, hd.cells hS bD, e1, e2⟩ }

section
variable {B hb rb : Nat} {σ : SS} {W W' : World}
theorem Tryz.Sys.nine (h : Tryz.Sys B W hb rb σ) : 9 ≤ W.heap.size := h.wh.v.nine
/-- what is no block of the host's. -/
theorem Tryz.Sys.other (h : Tryz.Sys B W hb rb σ) {bs : List Nat} (hs : Spares bs W W') (hq : ∀ b ∈ bs, Tryz.Foreign W b) : Tryz.Sys B W' hb rb σ := by
  have hbx : ∀ {b : Nat} {t : TypeId} {cs : Array Value}, BoxN W b t cs → Tryz.foreign t = false → b ∉ bs := fun hB ht hm => (hq _ hm).ne hB ht rfl
  obtain ⟨fd, fn, hd, e1, e2⟩ := h.wh.d
  obtain ⟨n1, -, m1⟩ := h.wh.v.va.held.mapT
  obtain ⟨n2, -, m2⟩ := h.wh.v.va.held.mapL
  obtain ⟨n3, -, m3⟩ := hd.dm
  obtain ⟨n4, -, m4⟩ := hd.nm
  obtain ⟨ra, rc, hr⟩ := h.rvb
  have g9 : ∀ b ∈ bs, 9 ≤ b := fun b hm => (hq b hm).1
  have hB9 : Below 9 W W' := hs.below h.nine g9
  refine { h with host := hs.box h.host (hbx h.host (by decide)), wh := h.wh.spared hs (fun b hb => ?_) (hbx h.wh.j (by decide)) (fun b x hx => hbx hx (by decide)) (fun b hb => by have := g9 b hb; omega), err := h.err.below hB9, rvb := ⟨ra, rc, hs.box hr (hbx hr (by decide))⟩, due := hs.row' h.due (fun g hg => ?_) }
  · simp only [Blk.turns, List.mem_cons, List.not_mem_nil, or_false] at hb
    rcases hb with rfl | rfl | rfl | rfl | rfl | rfl
    · exact hbx h.wh.v.va.v (by decide)
    · exact fun hm => (hq _ hm).ne_map m1 rfl
    · exact fun hm => (hq _ hm).ne_map m2 rfl
    · exact hbx hd.box (by decide)
    · exact fun hm => (hq _ hm).ne_map m3 rfl
    · exact fun hm => (hq _ hm).ne_map m4 rfl
  · obtain ⟨-, cur, hc⟩ := row_box h.due hg
    exact hbx hc (by decide)
theorem Tryz.Sys.below (h : Tryz.Sys B W hb rb σ) (hB : Below W.heap.size W W') : Tryz.Sys B W' hb rb σ := h.other (bs := []) (Spares.of_below hB) (by simp)
/-- the blocks that a call turns are none of the statements'. -/
theorem Tryz.Sys.turns_own (h : Tryz.Sys B W hb rb σ) : ∀ b ∈ σ.k.turns, ¬ Tryz.Foreign W b := fun b hb hF => by
  obtain ⟨fd, fn, hd, e1, e2⟩ := h.wh.d
  obtain ⟨n1, -, m1⟩ := h.wh.v.va.held.mapT
  obtain ⟨n2, -, m2⟩ := h.wh.v.va.held.mapL
  obtain ⟨n3, -, m3⟩ := hd.dm
  obtain ⟨n4, -, m4⟩ := hd.nm
  simp only [Blk.turns, List.mem_cons, List.not_mem_nil, or_false] at hb
  rcases hb with rfl | rfl | rfl | rfl | rfl | rfl
  · exact hF.ne h.wh.v.va.v (by decide) rfl
  · exact hF.ne_map m1 rfl
  · exact hF.ne_map m2 rfl
  · exact hF.ne hd.box (by decide) rfl
  · exact hF.ne_map m3 rfl
  · exact hF.ne_map m4 rfl
/-- nor is the host. -/
theorem Tryz.Sys.turns_host (h : Tryz.Sys B W hb rb σ) : ∀ b ∈ σ.k.turns, 9 ≤ b ∧ b ≠ hb ∧ b < W.heap.size := fun b hbt => by
  refine ⟨h.wh.turns9 b hbt, ?_, h.wh.lts b hbt⟩
  obtain ⟨fd, fn, hd, e1, e2⟩ := h.wh.d
  obtain ⟨n1, -, m1⟩ := h.wh.v.va.held.mapT
  obtain ⟨n2, -, m2⟩ := h.wh.v.va.held.mapL
  obtain ⟨n3, -, m3⟩ := hd.dm
  obtain ⟨n4, -, m4⟩ := hd.nm
  simp only [Blk.turns, List.mem_cons, List.not_mem_nil, or_false] at hbt
  rcases hbt with rfl | rfl | rfl | rfl | rfl | rfl
  · exact h.wh.v.va.v.ne h.host (by decide)
  · exact BoxN.ne_map' h.host m1
  · exact BoxN.ne_map' h.host m2
  · exact hd.box.ne h.host (by decide)
  · exact BoxN.ne_map' h.host m3
  · exact BoxN.ne_map' h.host m4
end
/-- a call of the host: what it may turn. -/
def Tryz.HostSp (B : Nat) (W W' : World) : Prop := ∃ hs, Spares hs W W' ∧ ∀ b ∈ hs, B ≤ b ∧ ¬ Tryz.Foreign W b
theorem Tryz.Sys.sp {B hb rb : Nat} {σ : SS} {W W' : World} (h : Tryz.Sys B W hb rb σ) (hs : Spares σ.k.turns W W') : Tryz.HostSp B W W' := ⟨_, hs, fun b hb => ⟨h.low b hb, h.turns_own b hb⟩⟩
/-- a fact of the host's alone. -/
structure Tryz.Lone (P : World → Prop) : Prop where
  other : ∀ {W W' : World} {bs : List Nat}, P W → Spares bs W W' → (∀ b ∈ bs, Tryz.Foreign W b) → P W'
theorem Tryz.Lone.below {P : World → Prop} (h : Tryz.Lone P) {W W' : World} (hp : P W) (hb : Below W.heap.size W W') : P W' := h.other (bs := []) hp (Spares.of_below hb) (by simp)
theorem Tryz.loneSys (B hb rb : Nat) (σ : SS) : Tryz.Lone (fun W => Tryz.Sys B W hb rb σ) := ⟨fun h hs hq => Tryz.Sys.other h hs hq⟩
theorem Tryz.loneEx (B hb rb : Nat) (Q : SS → Prop) : Tryz.Lone (fun W => ∃ σ, Q σ ∧ Tryz.Sys B W hb rb σ) := ⟨fun ⟨σ, hQ, h⟩ hs hq => ⟨σ, hQ, Tryz.Sys.other h hs hq⟩⟩
end Go.Proofs
