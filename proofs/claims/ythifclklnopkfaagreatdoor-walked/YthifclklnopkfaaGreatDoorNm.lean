import Derived.Test.YthifclklnopkfaaGreatDoorBase
import Derived.ProofKit
import Derived.Maps.OwnSet
import Derived.Maps.OwnIn
/-
  A struct of an int and a uint64 as a map's key, over whatever program.
-/
namespace Go.Proofs
open Go.RowKit Go.Sort Go.Maps Go.WideMaps

/-- a name as a value; within Go's numbers; the text that it is told by. -/
def nmV (x : Int × Int) : Value := .agg #[.int .i64 x.1, .int .u64 x.2]
def NmWf (x : Int × Int) : Prop := (Lit.int .i64 x.1).wf = true ∧ (Lit.int .u64 x.2).wf = true
def nmB (x : Int × Int) : List UInt8 := keyBytes [.int .i64 x.1, .int .u64 x.2]

/-- what is asked of the program's tables: type t is such a struct. -/
structure NmType (P : Program) (t : TypeId) : Prop where
  law : KeyLaw P t
  key : P.keyType t = true
  cells : P.cellsOf t = 2
  many : 0 < P.types.size
  shape : ∃ f0 f1 : Field, P.underlying t = some (.struct #[f0, f1]) ∧ f0.name ≠ "_" ∧ f1.name ≠ "_" ∧ f0.offset = 0 ∧ f1.offset = 1 ∧ P.underlying f0.type = some (.int .i64) ∧ P.underlying f1.type = some (.int .u64) ∧ P.cellsOf f0.type = 1 ∧ P.cellsOf f1.type = 1

section
variable {P : Program} {t : TypeId}

theorem NmType.keyOf (T : NmType P t) {x : Int × Int} (h : NmWf x) : keyOf P t (nmV x) = some (.string (nmB x)) := by
  obtain ⟨h1, h2⟩ := h
  obtain ⟨m, hm⟩ : ∃ m, P.types.size = m + 1 := ⟨P.types.size - 1, by have := T.many; omega⟩
  obtain ⟨f0, f1, hu, n0, n1, o0, o1, u0, u1, c0, c1⟩ := T.shape
  unfold Go.keyOf nmV nmB
  rw [hu]
  simp [T.key, Value.formed, hu, T.cells, Value.cells, hm, Program.keyLits, n0, n1, o0, o1, u0, u1, c0, c1, h1, h2]

theorem NmType.inv (T : NmType P t) {v : Value} {l : Lit} (h : Go.keyOf P t v = some l) : ∃ x, NmWf x ∧ v = nmV x ∧ l = .string (nmB x) := by
  obtain ⟨m, hm⟩ : ∃ m, P.types.size = m + 1 := ⟨P.types.size - 1, by have := T.many; omega⟩
  obtain ⟨f0, f1, hu, n0, n1, o0, o1, u0, u1, c0, c1⟩ := T.shape
  unfold Go.keyOf at h
  rw [hu] at h
  simp only [T.key, Value.formed, hu, T.cells, hm, Bool.true_and] at h
  cases v <;> simp at h
  rename_i cs
  obtain ⟨hs, ls, hl, rfl⟩ := h
  obtain ⟨cl⟩ := cs
  match cl, hs with
  | [v0, v1], h2 =>
    clear h2
    simp only [Program.keyLits, hu, Value.cells, T.cells] at hl
    simp [n0, n1, o0, o1, c0, c1, u0, u1] at hl
    cases v0
    case int q0 z0 =>
      by_cases e0 : q0 = .i64 ∧ (Lit.int .i64 z0).wf = true
      · obtain ⟨rfl, w0⟩ := e0
        cases v1
        case int q1 z1 =>
          by_cases e1 : q1 = .u64 ∧ (Lit.int .u64 z1).wf = true
          · obtain ⟨rfl, w1⟩ := e1
            simp [w0, w1] at hl
            exact ⟨(z0, z1), ⟨w0, w1⟩, rfl, by rw [← hl]; rfl⟩
          · simp [e1, w0] at hl
        all_goals simp [w0] at hl
      · simp [e0] at hl
    all_goals simp at hl

theorem NmType.inj (T : NmType P t) {x y : Int × Int} (hx : NmWf x) (hy : NmWf y) (h : nmB x = nmB y) : x = y := by
  have := T.law.inj (T.keyOf hx) (by rw [T.keyOf hy, h])
  simp only [nmV, Value.agg.injEq] at this
  simp at this
  exact Prod.ext this.1 this.2
end
end Go.Proofs
