import Derived.Test.YtjbekgjdempbiaaGreatDoorJSortBase
/-
  Look-ups in a map from names to pointers, at the operation; what a round must leave alone. No dump.
-/
namespace Go.Proofs
open Go.RowKit Go.Sort Go.Maps Go.WideMaps

theorem ksGet_mem {ks : List ((Int × Int) × Value)} {x : Int × Int} {b : Value} (h : ksGet ks x = some b) : (x, b) ∈ ks := by
  unfold ksGet at h
  cases hf : ks.find? (fun p => decide (p.1 = x)) with
  | none => simp [hf] at h
  | some p =>
    simp [hf] at h
    have h1 := List.mem_of_find?_eq_some hf
    have h2 := List.find?_some hf
    simp at h2
    obtain ⟨p1, p2⟩ := p
    simp at h h2
    subst h h2
    exact h1
theorem ksGet_none {ks : List ((Int × Int) × Value)} {x : Int × Int} : ksGet ks x = none ↔ ∀ p ∈ ks, p.1 ≠ x := by
  unfold ksGet
  simp [List.find?_eq_none]
theorem ksGet_of_mem {ks : List ((Int × Int) × Value)} (hk : KsOk ks) {x : Int × Int} {b : Value} (h : (x, b) ∈ ks) : ksGet ks x = some b := by
  induction ks with
  | nil => cases h
  | cons p ks ih =>
    rcases List.mem_cons.1 h with rfl | h'
    · simp [ksGet]
    · have hne : p.1 ≠ x := fun e => hk.fresh _ h' (by simpa using e.symm)
      have := ih hk.tail h'
      simpa [ksGet, hne] using this

section
variable {P : Program} {t : TypeId} {ks : List ((Int × Int) × Value)} {x : Int × Int}
theorem NmType.has_some (T : NmType P t) (hk : KsOk ks) (hx : NmWf x) {b : Value} (hg : ksGet ks x = some b) : Maps.has (mapD ks) (nmL x) = true :=
  (T.has_iff hk hx).2 (List.mem_map.2 ⟨_, ksGet_mem hg, rfl⟩)
theorem NmType.has_none (T : NmType P t) (hk : KsOk ks) (hx : NmWf x) (hg : ksGet ks x = none) : Maps.has (mapD ks) (nmL x) = false := by
  cases h : Maps.has (mapD ks) (nmL x) with
  | false => rfl
  | true =>
    obtain ⟨p, hp, e⟩ := List.mem_map.1 ((T.has_iff hk hx).1 h)
    exact absurd e (ksGet_none.1 hg p hp)

section
variable {w : World} {b n : Nat} {tm e : TypeId}
/-- 'v, ok := m[x]', there. -/
theorem NmType.look_hit (T : NmType P t) (hk : KsOk ks) (hx : NmWf x) (hown : w.ownsMap P t valR b n (mapD ks)) (ht : P.underlying tm = some (.map t e)) {z : Value} (hz : (zeroValue e).run P w = .ok z w) {pv : Value} (hg : ksGet ks x = some pv) :
    (Instr.lookup tm (.map (some b)) (nmV x) true).run P w = .ok (.tuple #[pv, .bool true]) w := by
  obtain ⟨v, ps, hrun, hv⟩ := hown.look_ok (Keyed.of_law T.law) ht hz (zd := .held z) (zp := []) rfl (T.keyOf hx)
  have h1 := T.atKey_mapD hx (.held z) ks hk
  rw [hg] at h1
  rw [show Lit.string (nmB x) = nmL x from rfl, h1] at hv
  rw [hrun, show Lit.string (nmB x) = nmL x from rfl, T.has_some hk hx hg, valR_held hv]
/-- .. and not there. -/
theorem NmType.look_miss (T : NmType P t) (hk : KsOk ks) (hx : NmWf x) (hown : w.ownsMap P t valR b n (mapD ks)) (ht : P.underlying tm = some (.map t e)) {z : Value} (hz : (zeroValue e).run P w = .ok z w) (hg : ksGet ks x = none) :
    (Instr.lookup tm (.map (some b)) (nmV x) true).run P w = .ok (.tuple #[z, .bool false]) w := by
  obtain ⟨v, ps, hrun, hv⟩ := hown.look_ok (Keyed.of_law T.law) ht hz (zd := .held z) (zp := []) rfl (T.keyOf hx)
  have h1 := T.atKey_mapD hx (.held z) ks hk
  rw [hg] at h1
  rw [show Lit.string (nmB x) = nmL x from rfl, h1] at hv
  rw [hrun, show Lit.string (nmB x) = nmL x from rfl, T.has_none hk hx hg, valR_held hv]
/-- 'm[x]', there. -/
theorem NmType.look1_hit (T : NmType P t) (hk : KsOk ks) (hx : NmWf x) (hown : w.ownsMap P t valR b n (mapD ks)) (ht : P.underlying tm = some (.map t e)) {z : Value} (hz : (zeroValue e).run P w = .ok z w) {pv : Value} (hg : ksGet ks x = some pv) :
    (Instr.lookup tm (.map (some b)) (nmV x) false).run P w = .ok pv w := by
  obtain ⟨v, ps, hrun, hv⟩ := hown.lookup (Keyed.of_law T.law) ht hz (zd := .held z) (zp := []) rfl (T.keyOf hx)
  have h1 := T.atKey_mapD hx (.held z) ks hk
  rw [hg] at h1
  rw [show Lit.string (nmB x) = nmL x from rfl, h1] at hv
  rw [hrun, valR_held hv]
end
end

/-- What a round leaves as it lies: maps and walks; cells of every type but some. -/
def Stays (bad : TypeId → Bool) : Obj → Bool
  | .cells _ t _ => !bad t
  | o => o.isWalk
structure KeepsT (bad : TypeId → Bool) (W W' : World) : Prop where
  size : W.heap.size ≤ W'.heap.size
  same : ∀ (k : Nat) (o : Obj), W.heap[k]? = some o → Stays bad o = true → W'.heap[k]? = some o
section
variable {bad : TypeId → Bool} {W W' W'' : World}
theorem KeepsT.refl (bad : TypeId → Bool) (W : World) : KeepsT bad W W := ⟨Nat.le_refl _, fun _ _ h _ => h⟩
theorem KeepsT.trans (h : KeepsT bad W W') (h' : KeepsT bad W' W'') : KeepsT bad W W'' := ⟨Nat.le_trans h.size h'.size, fun k o hk hs => h'.same k o (h.same k o hk hs) hs⟩
theorem KeepsT.grown {row : Option Nat} (hg : W.grownBy W' row) (hr : ∀ j, row = some j → ∀ o, W.heap[j]? = some o → Stays bad o = false) : KeepsT bad W W' :=
  ⟨hg.size, fun k o hk hs => (hg.block k (Array.getElem?_eq_some_iff.1 hk).1 (fun e => by have := hr k e.symm o hk; rw [hs] at this; cases this)).trans hk⟩
theorem KeepsT.alloc (W : World) (o : Obj) : KeepsT bad W (W.alloc o) := KeepsT.grown (World.grownBy_alloc W o none) (fun _ e => by cases e)
theorem KeepsT.below (h : Below W.heap.size W W') : KeepsT bad W W' := ⟨h.size, fun k _ hk _ => (h.block k (Array.getElem?_eq_some_iff.1 hk).1).trans hk⟩
theorem keepsT_t {A B C : World} (h : KeepsT bad A B) (k : KeepsT bad B C) : KeepsT bad A C := h.trans k
theorem keepsT_b {w : World} (W : World) (l : Nat) (o o' : Obj) (_ : w.heap.size ≤ l) (h : W.heap[l]? = some o) (h1 : o.isCells = false) (h2 : o.isWalk = false) : KeepsT bad W (W.putObj l o') :=
  KeepsT.grown (grownBy_putObj' W l o') (fun j e o2 ho => by
    cases e; rw [h] at ho; cases ho
    cases o <;> simp_all [Stays, Obj.isCells])
theorem KeepsT.box {B : Nat} {t : TypeId} {cs : Array Value} (h : KeepsT bad W W') (hb : BoxN W B t cs) (ht : bad t = false) : BoxN W' B t cs := h.same B _ hb (by simp [Stays, ht])
theorem KeepsT.map {H : Type} {P : Program} {k : TypeId} {R : Value → Option (DataW H × List MemPlace)} {b n : Nat} {D : DataW H} (h : KeepsT bad W W') (hm : W.ownsMap P k R b n D) : W'.ownsMap P k R b n D := by
  obtain ⟨es, clock, hb, F, hs, hD⟩ := hm
  exact ⟨es, clock, h.same b _ hb rfl, F, hs, hD⟩
theorem KeepsT.row {base : Nat} {e : TypeId} {size : Nat} {v : Value} {k : Nat} {xs : List Value} (h : KeepsT bad W W') (hr : W.ownsRow base e size v k xs) (he : bad e = false) : W'.ownsRow base e size v k xs := by
  refine ⟨hr.1, ?_⟩
  rcases hr.2 with hn | ⟨g, cap, cur, hv, hbg, hg, rest⟩
  · exact .inl hn
  · exact .inr ⟨g, cap, cur, hv, hbg, h.same g _ hg (by simp [Stays, he]), rest⟩
end
end Go.Proofs
