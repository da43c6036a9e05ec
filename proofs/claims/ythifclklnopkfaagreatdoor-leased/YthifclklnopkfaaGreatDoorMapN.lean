import Derived.WalkKit
import Derived.WalkSpells
import Derived.Sort.Grow
import Derived.Deep.Quiet
import Derived.RangeFuncNested
import Derived.RangeFuncBox
import Derived.ProofKit
import Derived.Maps.OwnSet
import Derived.Maps.OwnIn
import Derived.Maps.Range
/-
  Small laws that speak of no dump: how a world grows; the order of names.
-/
namespace Go.Proofs
open Go.RowKit Go.Sort

theorem hid_intro {p : Prop} (h : p) : Hid p := h
theorem hid_elim {p : Prop} (h : Hid p) : p := h
/-- Draws and new blocks alone: nothing that lay has turned. -/
def Grew (w w' : World) : Prop := ∃ (q : Nat) (os : Array Obj), w' = grow (w.drewN q) os
theorem Grew.refl (w : World) : Grew w w := ⟨0, #[], by simp [grow, World.drewN]⟩
theorem Grew.alloc {w w' : World} (h : Grew w w') (o : Obj) : Grew w (w'.alloc o) := by
  obtain ⟨q, os, rfl⟩ := h
  exact ⟨q, os ++ #[o], by rw [alloc_eq_grow, grow_grow]⟩
theorem Grew.drew {w w' : World} (h : Grew w w') : Grew w w'.drew := by
  obtain ⟨q, os, rfl⟩ := h
  exact ⟨q + 1, os, rfl⟩
theorem Grew.drewN {w w' : World} (h : Grew w w') (n : Nat) : Grew w (w'.drewN n) := by
  obtain ⟨q, os, rfl⟩ := h
  exact ⟨q + n, os, by simp [grow, World.drewN, Nat.add_assoc]⟩
theorem Grew.trans {w w' w'' : World} (h : Grew w w') (h' : Grew w' w'') : Grew w w'' := by
  obtain ⟨q, os, rfl⟩ := h
  obtain ⟨q', os', rfl⟩ := h'
  exact ⟨q + q', os ++ os', by simp [grow, World.drewN, Nat.add_assoc, Array.append_assoc]⟩

theorem bcell {W w1 : World} {B : Nat} (hb : Below B W w1) : (∀ b o, b < B → w1.cell? ⟨b, o, none⟩ = W.cell? ⟨b, o, none⟩) ∧ (∀ b o, b < B → w1.frozen? ⟨b, o, none⟩ = W.frozen? ⟨b, o, none⟩) :=
  ⟨fun b o h => hb.cell (p := ⟨b, o, none⟩) h, fun b o h => hb.frozen (p := ⟨b, o, none⟩) h⟩

/-- how Go's cmp.Compare orders two whole numbers. -/
def cmpI (a b : Int) : Int := if a < b then -1 else if b < a then 1 else 0
def orI (a b : Int) : Int := if a = 0 then b else a
def cmpN (x y : Int × Int) : Int := orI (cmpI x.1 y.1) (cmpI x.2 y.2)
def encN (x : Int × Int) : List Value := [.int .i64 x.1, .int .u64 x.2]
theorem ret_int {k : IntKind} {a b : Int} (h : a = b) : Ending.returned (.int k a) = .returned (.int k b) := by rw [h]
theorem cmpI_lt {a b : Int} (h : a < b) : cmpI a b = -1 := by simp [cmpI, h]
theorem cmpI_gt {a b : Int} (h : b < a) : cmpI a b = 1 := by unfold cmpI; rw [if_neg (by omega), if_pos h]
theorem cmpI_eq {a b : Int} (h : b ≤ a) (h' : a ≤ b) : cmpI a b = 0 := by unfold cmpI; rw [if_neg (by omega), if_neg (by omega)]
theorem cmpN_neg (x y : Int × Int) : cmpN x y < 0 ↔ (x.1 < y.1 ∨ x.1 = y.1 ∧ x.2 < y.2) := by
  unfold cmpN orI cmpI
  by_cases h1 : x.1 < y.1
  · simp [h1]
  · by_cases h2 : y.1 < x.1
    · simp [h1, h2]; omega
    · have e : x.1 = y.1 := by omega
      by_cases h3 : x.2 < y.2
      · simp [e, h3]
      · by_cases h4 : y.2 < x.2 <;> simp [e, h3, h4]
end Go.Proofs

/-
  A box of several cells (a struct variable that a closure or a loop over an iterator uses).
-/
namespace Go.Proofs
open Go.RowKit Go.Sort

def BoxN (W : World) (B : Nat) (t : TypeId) (cs : Array Value) : Prop := W.heap[B]? = some (.cells cs t (0, 0))
section
variable {W W' : World} {B : Nat} {t : TypeId} {cs : Array Value}
theorem BoxN.lt (h : BoxN W B t cs) : B < W.heap.size := (Array.getElem?_eq_some_iff.1 h).1
theorem BoxN.cell (h : BoxN W B t cs) (i : Nat) {v : Value} (hv : cs[i]? = some v) : W.cell? ⟨B, i, none⟩ = some v := by simp [World.cell?, show W.heap[B]? = _ from h, hv]
theorem BoxN.frozen (h : BoxN W B t cs) (i : Nat) : W.frozen? ⟨B, i, none⟩ = false := by simp [World.frozen?, show W.heap[B]? = _ from h]
theorem BoxN.new (W : World) (t : TypeId) (cs : Array Value) : BoxN (W.alloc (.cells cs t)) W.heap.size t cs := World.alloc_heap_new W _
theorem BoxN.kept {row : Option Nat} (h : BoxN W B t cs) (hg : W.grownBy W' row) (hne : some B ≠ row) : BoxN W' B t cs := (hg.block B h.lt hne).trans h
theorem BoxN.alloc (h : BoxN W B t cs) (o : Obj) : BoxN (W.alloc o) B t cs := h.kept (World.grownBy_alloc W o none) (by simp)
theorem BoxN.below {n₀ : Nat} (h : BoxN W B t cs) (hb : Below n₀ W W') (hB : B < n₀) : BoxN W' B t cs := (hb.block B hB).trans h
theorem BoxN.set (h : BoxN W B t cs) (i : Nat) (v : Value) : BoxN (W.setCell ⟨B, i, none⟩ v) B t (cs.setIfInBounds i v) := by
  obtain ⟨hlt, hk⟩ := Array.getElem?_eq_some_iff.1 h
  show (W.heap.modify B _)[B]? = _
  rw [Array.getElem?_eq_getElem (by rw [Array.size_modify]; exact hlt), Array.getElem_modify_self, hk]
  rfl
theorem BoxN.other {B' : Nat} (h : BoxN W B t cs) (hne : B ≠ B') (i : Nat) (v : Value) : BoxN (W.setCell ⟨B', i, none⟩ v) B t cs := by
  show (W.heap.modify B' _)[B]? = _
  rw [Array.getElem?_modify, if_neg (fun e => hne e.symm)]
  exact h
end
/-- what a cell holds, whatever that is. -/
def cellOr (W : World) (a : Addr) : Value := (W.cell? a).getD undef
theorem cellOr_some {W : World} {a : Addr} (h : (W.cell? a).isSome) : W.cell? a = some (cellOr W a) := by
  unfold cellOr
  obtain ⟨v, hv⟩ := Option.isSome_iff_exists.1 h
  rw [hv]; rfl
theorem boxN_own {β : Type} (B : Nat) (t : TypeId) (f : β → Array Value) : Own (fun s W => BoxN W B t (f s)) := fun _ X _ _ hs hg hrow =>
  hs.kept hg (fun e' => by obtain ⟨o, ho, hc⟩ := hrow B e'.symm; rw [show X.heap[B]? = _ from hs] at ho; cases ho; cases hc)
theorem boxed_eq {W : World} {B : Nat} {t : TypeId} {v : Value} : Boxed W B t v ↔ BoxN W B t #[v] := Iff.rfl
end Go.Proofs

/-
  A struct of an int and a uint64 as a map's key, over whatever program.
-/
namespace Go.Proofs
open Go.RowKit Go.Sort Go.Maps Go.WideMaps

/-- a name as a value; within Go's numbers; the text that it is told by. -/
def nmV (x : Int × Int) : Value := .agg #[.int .i64 x.1, .int .u64 x.2]
def NmWf (x : Int × Int) : Prop := (Lit.int .i64 x.1).wf = true ∧ (Lit.int .u64 x.2).wf = true
def nmB (x : Int × Int) : List UInt8 := keyBytes [.int .i64 x.1, .int .u64 x.2]

/-- what is asked of the program's tables: type t is such a struct. -/
structure NmType (P : Program) (t : TypeId) : Prop where
  law : KeyLaw P t
  key : P.keyType t = true
  cells : P.cellsOf t = 2
  many : 0 < P.types.size
  shape : ∃ f0 f1 : Field, P.underlying t = some (.struct #[f0, f1]) ∧ f0.name ≠ "_" ∧ f1.name ≠ "_" ∧ f0.offset = 0 ∧ f1.offset = 1 ∧ P.underlying f0.type = some (.int .i64) ∧ P.underlying f1.type = some (.int .u64) ∧ P.cellsOf f0.type = 1 ∧ P.cellsOf f1.type = 1

section
variable {P : Program} {t : TypeId}

theorem NmType.keyOf (T : NmType P t) {x : Int × Int} (h : NmWf x) : keyOf P t (nmV x) = some (.string (nmB x)) := by
  obtain ⟨h1, h2⟩ := h
  obtain ⟨m, hm⟩ : ∃ m, P.types.size = m + 1 := ⟨P.types.size - 1, by have := T.many; omega⟩
  obtain ⟨f0, f1, hu, n0, n1, o0, o1, u0, u1, c0, c1⟩ := T.shape
  unfold Go.keyOf nmV nmB
  rw [hu]
  simp [T.key, Value.formed, hu, T.cells, Value.cells, hm, Program.keyLits, n0, n1, o0, o1, u0, u1, c0, c1, h1, h2]

theorem NmType.inv (T : NmType P t) {v : Value} {l : Lit} (h : Go.keyOf P t v = some l) : ∃ x, NmWf x ∧ v = nmV x ∧ l = .string (nmB x) := by
  obtain ⟨m, hm⟩ : ∃ m, P.types.size = m + 1 := ⟨P.types.size - 1, by have := T.many; omega⟩
  obtain ⟨f0, f1, hu, n0, n1, o0, o1, u0, u1, c0, c1⟩ := T.shape
  unfold Go.keyOf at h
  rw [hu] at h
  simp only [T.key, Value.formed, hu, T.cells, hm, Bool.true_and] at h
  cases v <;> simp at h
  rename_i cs
  obtain ⟨hs, ls, hl, rfl⟩ := h
  obtain ⟨cl⟩ := cs
  match cl, hs with
  | [v0, v1], h2 =>
    clear h2
    simp only [Program.keyLits, hu, Value.cells, T.cells] at hl
    simp [n0, n1, o0, o1, c0, c1, u0, u1] at hl
    cases v0
    case int q0 z0 =>
      by_cases e0 : q0 = .i64 ∧ (Lit.int .i64 z0).wf = true
      · obtain ⟨rfl, w0⟩ := e0
        cases v1
        case int q1 z1 =>
          by_cases e1 : q1 = .u64 ∧ (Lit.int .u64 z1).wf = true
          · obtain ⟨rfl, w1⟩ := e1
            simp [w0, w1] at hl
            exact ⟨(z0, z1), ⟨w0, w1⟩, rfl, by rw [← hl]; rfl⟩
          · simp [e1, w0] at hl
        all_goals simp [w0] at hl
      · simp [e0] at hl
    all_goals simp at hl

theorem NmType.inj (T : NmType P t) {x y : Int × Int} (hx : NmWf x) (hy : NmWf y) (h : nmB x = nmB y) : x = y := by
  have := T.law.inj (T.keyOf hx) (by rw [T.keyOf hy, h])
  simp only [nmV, Value.agg.injEq] at this
  simp at this
  exact Prod.ext this.1 this.2
end
end Go.Proofs

/-
  A map from names to pointers, told by the list of what was stored (the newest first); over whatever program.
-/
namespace Go.Proofs
open Go.RowKit Go.Sort Go.Maps Go.WideMaps

/-- how a pointer to a block's head reads: by the block's number. -/
def ptrR (v : Value) : Option (DataW Unit × List MemPlace) :=
  match v with
  | .pointer none => some (.nil, [])
  | .pointer (some ⟨b, 0, none⟩) => some (.lit (.int .u64 b), [])
  | _ => none
def nmL (x : Int × Int) : Lit := .string (nmB x)
/-- what the map reads as. -/
def mapD : List ((Int × Int) × Nat) → DataW Unit
  | [] => .map []
  | p :: ks => (mapD ks).put (nmL p.1) (.lit (.int .u64 p.2))
def KsOk (ks : List ((Int × Int) × Nat)) : Prop := (∀ p ∈ ks, NmWf p.1) ∧ (ks.map (·.1)).Nodup
def ksGet (ks : List ((Int × Int) × Nat)) (x : Int × Int) : Option Nat := (ks.find? (fun p => decide (p.1 = x))).map (·.2)

theorem ptrR_inv {v : Value} {y : DataW Unit × List MemPlace} (h : ptrR v = some y) : ∃ c : Option Nat, v = .pointer (c.map (⟨·, 0, none⟩)) := by
  unfold ptrR at h
  split at h
  · exact ⟨none, rfl⟩
  · rename_i b; exact ⟨some b, rfl⟩
  · cases h

theorem isKeyLit_nm (x : Int × Int) : WideAt.IsKeyLit (nmL x) := trivial

section
variable {P : Program} {t : TypeId}

theorem NmType.nmL_ne (T : NmType P t) {x y : Int × Int} (hx : NmWf x) (hy : NmWf y) (h : x ≠ y) : nmL x ≠ nmL y := fun e => h (T.inj hx hy (by simpa [nmL] using e))

theorem tidy_mapD : ∀ ks, Tidy (mapD ks)
  | [] => tidy_empty
  | _ :: ks => (tidy_mapD ks).put (isKeyLit_nm _) _

theorem KsOk.tail {p : (Int × Int) × Nat} {ks : List ((Int × Int) × Nat)} (h : KsOk (p :: ks)) : KsOk ks :=
  ⟨fun q hq => h.1 q (List.mem_cons_of_mem _ hq), (List.nodup_cons.1 (by simpa using h.2)).2⟩
theorem KsOk.fresh {p : (Int × Int) × Nat} {ks : List ((Int × Int) × Nat)} (h : KsOk (p :: ks)) : ∀ q ∈ ks, q.1 ≠ p.1 := fun q hq e => by
  have := (List.nodup_cons.1 (show (p.1 :: ks.map (·.1)).Nodup from by simpa using h.2)).1
  exact this (by rw [← e]; exact List.mem_map.2 ⟨q, hq, rfl⟩)

theorem NmType.has_mapD (T : NmType P t) {x : Int × Int} (hx : NmWf x) : ∀ ks, KsOk ks → Maps.has (mapD ks) (nmL x) = ks.any (fun p => decide (p.1 = x))
  | [], _ => rfl
  | p :: ks, h => by
    by_cases e : p.1 = x
    · subst e
      rw [mapD, has_put_same (tidy_mapD ks).isMap (isKeyLit_nm _)]
      simp
    · rw [mapD, has_put_other (T.nmL_ne hx (h.1 p (by simp)) (fun e' => e e'.symm)), T.has_mapD hx ks h.tail]
      simp [e]

theorem NmType.atKey_mapD (T : NmType P t) {x : Int × Int} (hx : NmWf x) (z : DataW Unit) : ∀ ks, KsOk ks → (mapD ks).atKey (nmL x) z = (match ksGet ks x with | some b => .lit (.int .u64 b) | none => z)
  | [], _ => rfl
  | p :: ks, h => by
    by_cases e : p.1 = x
    · subst e
      rw [mapD, atKey_put_same (tidy_mapD ks).isMap (isKeyLit_nm _)]
      simp [ksGet]
    · rw [mapD, atKey_put_other (T.nmL_ne hx (h.1 p (by simp)) (fun e' => e e'.symm)), T.atKey_mapD hx z ks h.tail]
      simp [ksGet, e]

theorem NmType.size_mapD (T : NmType P t) : ∀ ks, KsOk ks → Maps.size (mapD ks) = ks.length
  | [], _ => rfl
  | p :: ks, h => by
    have hf : Maps.has (mapD ks) (nmL p.1) = false := by
      rw [T.has_mapD (h.1 p (by simp)) ks h.tail]
      simp
      exact fun a b c hq => h.fresh ((a, b), c) hq
    rw [mapD, size_put (tidy_mapD ks), hf, T.size_mapD ks h.tail]
    simp

/-- no key twice; a key is on the list just where the map has it and it is no longer to come. -/
def CollN (ks : List ((Int × Int) × Nat)) (left : Lit → Bool) (ss : List (Int × Int)) : Prop :=
  ss.Nodup ∧ (∀ x ∈ ss, NmWf x) ∧ ∀ x, NmWf x → (x ∈ ss ↔ (x ∈ ks.map (·.1) ∧ left (nmL x) = false))

theorem NmType.has_iff (T : NmType P t) {ks : List ((Int × Int) × Nat)} (hk : KsOk ks) {x : Int × Int} (hx : NmWf x) : Maps.has (mapD ks) (nmL x) = true ↔ x ∈ ks.map (·.1) := by
  rw [T.has_mapD hx ks hk, List.any_eq_true]
  simp

theorem CollN.start (T : NmType P t) {ks : List ((Int × Int) × Nat)} (hk : KsOk ks) : CollN ks (Maps.has (mapD ks)) [] :=
  ⟨List.nodup_nil, by simp, fun x hx => by
    have := T.has_iff hk hx
    cases h : Maps.has (mapD ks) (nmL x) <;> simp_all⟩

theorem CollN.step (T : NmType P t) {ks : List ((Int × Int) × Nat)} {left : Lit → Bool} {ss : List (Int × Int)} (h : CollN ks left ss) {x : Int × Int} (hx : NmWf x) (hlk : left (nmL x) = true) (hin : x ∈ ks.map (·.1)) :
    CollN ks (fun z => left z && !z.sameKey (nmL x)) (ss ++ [x]) := by
  have hnew : x ∉ ss := fun hm => by have := ((h.2.2 x hx).1 hm).2; rw [hlk] at this; cases this
  refine ⟨List.nodup_append.2 ⟨h.1, by simp, fun a ha b hb => by simp at hb; subst hb; exact fun e => hnew (e ▸ ha)⟩, fun y hy => ?_, fun y hy => ?_⟩
  · rcases List.mem_append.1 hy with hy | hy
    · exact h.2.1 y hy
    · simp at hy; subst hy; exact hx
  · by_cases e : y = x
    · subst e
      have hs : (nmL y).sameKey (nmL y) = true := by simp [nmL, Lit.sameKey]
      constructor
      · intro _; exact ⟨hin, by simp [hs]⟩
      · intro _; simp
    · have hs : (nmL y).sameKey (nmL x) = false := sameKey_ne (T.nmL_ne hy hx e)
      rw [List.mem_append, h.2.2 y hy]
      simp [hs, e]

theorem CollN.perm {ks : List ((Int × Int) × Nat)} (hk : KsOk ks) {left : Lit → Bool} {ss : List (Int × Int)} (h : CollN ks left ss) (hl : ∀ kl, left kl = false) : ss.Perm (ks.map (·.1)) := by
  refine (List.perm_ext_iff_of_nodup h.1 hk.2).2 fun x => ⟨fun hm => ((h.2.2 x (h.2.1 x hm)).1 hm).1, fun hm => ?_⟩
  obtain ⟨p, hp, rfl⟩ := List.mem_map.1 hm
  exact (h.2.2 p.1 (hk.1 p hp)).2 ⟨hm, hl _⟩
end
end Go.Proofs
