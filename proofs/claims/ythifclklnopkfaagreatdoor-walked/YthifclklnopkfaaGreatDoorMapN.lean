import Derived.Test.YthifclklnopkfaaGreatDoorNm
import Derived.Maps.Range
/-
  A map from names to pointers, told by the list of what was stored (the newest first); over whatever program.
-/
namespace Go.Proofs
open Go.RowKit Go.Sort Go.Maps Go.WideMaps

/-- how a pointer to a block's head reads: by the block's number. -/
def ptrR (v : Value) : Option (DataW Unit × List MemPlace) :=
  match v with
  | .pointer none => some (.nil, [])
  | .pointer (some ⟨b, 0, none⟩) => some (.lit (.int .u64 b), [])
  | _ => none
def nmL (x : Int × Int) : Lit := .string (nmB x)
/-- what the map reads as. -/
def mapD : List ((Int × Int) × Nat) → DataW Unit
  | [] => .map []
  | p :: ks => (mapD ks).put (nmL p.1) (.lit (.int .u64 p.2))
def KsOk (ks : List ((Int × Int) × Nat)) : Prop := (∀ p ∈ ks, NmWf p.1) ∧ (ks.map (·.1)).Nodup
def ksGet (ks : List ((Int × Int) × Nat)) (x : Int × Int) : Option Nat := (ks.find? (fun p => decide (p.1 = x))).map (·.2)

theorem ptrR_inv {v : Value} {y : DataW Unit × List MemPlace} (h : ptrR v = some y) : ∃ c : Option Nat, v = .pointer (c.map (⟨·, 0, none⟩)) := by
  unfold ptrR at h
  split at h
  · exact ⟨none, rfl⟩
  · rename_i b; exact ⟨some b, rfl⟩
  · cases h

theorem isKeyLit_nm (x : Int × Int) : WideAt.IsKeyLit (nmL x) := trivial

section
variable {P : Program} {t : TypeId}

theorem NmType.nmL_ne (T : NmType P t) {x y : Int × Int} (hx : NmWf x) (hy : NmWf y) (h : x ≠ y) : nmL x ≠ nmL y := fun e => h (T.inj hx hy (by simpa [nmL] using e))

theorem tidy_mapD : ∀ ks, Tidy (mapD ks)
  | [] => tidy_empty
  | _ :: ks => (tidy_mapD ks).put (isKeyLit_nm _) _

theorem KsOk.tail {p : (Int × Int) × Nat} {ks : List ((Int × Int) × Nat)} (h : KsOk (p :: ks)) : KsOk ks :=
  ⟨fun q hq => h.1 q (List.mem_cons_of_mem _ hq), (List.nodup_cons.1 (by simpa using h.2)).2⟩
theorem KsOk.fresh {p : (Int × Int) × Nat} {ks : List ((Int × Int) × Nat)} (h : KsOk (p :: ks)) : ∀ q ∈ ks, q.1 ≠ p.1 := fun q hq e => by
  have := (List.nodup_cons.1 (show (p.1 :: ks.map (·.1)).Nodup from by simpa using h.2)).1
  exact this (by rw [← e]; exact List.mem_map.2 ⟨q, hq, rfl⟩)

theorem NmType.has_mapD (T : NmType P t) {x : Int × Int} (hx : NmWf x) : ∀ ks, KsOk ks → Maps.has (mapD ks) (nmL x) = ks.any (fun p => decide (p.1 = x))
  | [], _ => rfl
  | p :: ks, h => by
    by_cases e : p.1 = x
    · subst e
      rw [mapD, has_put_same (tidy_mapD ks).isMap (isKeyLit_nm _)]
      simp
    · rw [mapD, has_put_other (T.nmL_ne hx (h.1 p (by simp)) (fun e' => e e'.symm)), T.has_mapD hx ks h.tail]
      simp [e]

theorem NmType.atKey_mapD (T : NmType P t) {x : Int × Int} (hx : NmWf x) (z : DataW Unit) : ∀ ks, KsOk ks → (mapD ks).atKey (nmL x) z = (match ksGet ks x with | some b => .lit (.int .u64 b) | none => z)
  | [], _ => rfl
  | p :: ks, h => by
    by_cases e : p.1 = x
    · subst e
      rw [mapD, atKey_put_same (tidy_mapD ks).isMap (isKeyLit_nm _)]
      simp [ksGet]
    · rw [mapD, atKey_put_other (T.nmL_ne hx (h.1 p (by simp)) (fun e' => e e'.symm)), T.atKey_mapD hx z ks h.tail]
      simp [ksGet, e]

theorem NmType.size_mapD (T : NmType P t) : ∀ ks, KsOk ks → Maps.size (mapD ks) = ks.length
  | [], _ => rfl
  | p :: ks, h => by
    have hf : Maps.has (mapD ks) (nmL p.1) = false := by
      rw [T.has_mapD (h.1 p (by simp)) ks h.tail]
      simp
      exact fun a b c hq => h.fresh ((a, b), c) hq
    rw [mapD, size_put (tidy_mapD ks), hf, T.size_mapD ks h.tail]
    simp

/-- no key twice; a key is on the list just where the map has it and it is no longer to come. -/
def CollN (ks : List ((Int × Int) × Nat)) (left : Lit → Bool) (ss : List (Int × Int)) : Prop :=
  ss.Nodup ∧ (∀ x ∈ ss, NmWf x) ∧ ∀ x, NmWf x → (x ∈ ss ↔ (x ∈ ks.map (·.1) ∧ left (nmL x) = false))

theorem NmType.has_iff (T : NmType P t) {ks : List ((Int × Int) × Nat)} (hk : KsOk ks) {x : Int × Int} (hx : NmWf x) : Maps.has (mapD ks) (nmL x) = true ↔ x ∈ ks.map (·.1) := by
  rw [T.has_mapD hx ks hk, List.any_eq_true]
  simp

theorem CollN.start (T : NmType P t) {ks : List ((Int × Int) × Nat)} (hk : KsOk ks) : CollN ks (Maps.has (mapD ks)) [] :=
  ⟨List.nodup_nil, by simp, fun x hx => by
    have := T.has_iff hk hx
    cases h : Maps.has (mapD ks) (nmL x) <;> simp_all⟩

theorem CollN.step (T : NmType P t) {ks : List ((Int × Int) × Nat)} {left : Lit → Bool} {ss : List (Int × Int)} (h : CollN ks left ss) {x : Int × Int} (hx : NmWf x) (hlk : left (nmL x) = true) (hin : x ∈ ks.map (·.1)) :
    CollN ks (fun z => left z && !z.sameKey (nmL x)) (ss ++ [x]) := by
  have hnew : x ∉ ss := fun hm => by have := ((h.2.2 x hx).1 hm).2; rw [hlk] at this; cases this
  refine ⟨List.nodup_append.2 ⟨h.1, by simp, fun a ha b hb => by simp at hb; subst hb; exact fun e => hnew (e ▸ ha)⟩, fun y hy => ?_, fun y hy => ?_⟩
  · rcases List.mem_append.1 hy with hy | hy
    · exact h.2.1 y hy
    · simp at hy; subst hy; exact hx
  · by_cases e : y = x
    · subst e
      have hs : (nmL y).sameKey (nmL y) = true := by simp [nmL, Lit.sameKey]
      constructor
      · intro _; exact ⟨hin, by simp [hs]⟩
      · intro _; simp
    · have hs : (nmL y).sameKey (nmL x) = false := sameKey_ne (T.nmL_ne hy hx e)
      rw [List.mem_append, h.2.2 y hy]
      simp [hs, e]

theorem CollN.perm {ks : List ((Int × Int) × Nat)} (hk : KsOk ks) {left : Lit → Bool} {ss : List (Int × Int)} (h : CollN ks left ss) (hl : ∀ kl, left kl = false) : ss.Perm (ks.map (·.1)) := by
  refine (List.perm_ext_iff_of_nodup h.1 hk.2).2 fun x => ⟨fun hm => ((h.2.2 x (h.2.1 x hm)).1 hm).1, fun hm => ?_⟩
  obtain ⟨p, hp, rfl⟩ := List.mem_map.1 hm
  exact (h.2.2 p.1 (hk.1 p hp)).2 ⟨hm, hl _⟩
end
end Go.Proofs
