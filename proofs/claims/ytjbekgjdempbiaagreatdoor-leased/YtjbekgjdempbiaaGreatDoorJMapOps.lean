import Derived.Test.YtjbekgjdempbiaaGreatDoorJRangeO
import Derived.Shelf.SlSortCmp.NoneTotal
import Derived.Laws.OwnMore
/-
  Between append's words and the sort's, at names; no dump.
-/
namespace Go.Proofs
open Go.RowKit Go.Sort Go.Shelf

def flatN (ss : List (Int × Int)) : List Value := ss.flatMap encN
theorem flatN_snoc (ss : List (Int × Int)) (x : Int × Int) : flatN (ss ++ [x]) = flatN ss ++ [.int .i64 x.1, .int .u64 x.2] := by simp [flatN, encN]
theorem flatN_length (ss : List (Int × Int)) : (flatN ss).length = ss.length * 2 := by
  induction ss with
  | nil => rfl
  | cons x ss ih => simp [flatN, encN] at ih ⊢; omega
theorem get_flatN : ∀ (ss : List (Int × Int)) (t : Nat), t < ss.length * 2 → (flatN ss)[t]? = some ((encN (ss[t / 2]!))[t % 2]!)
  | [], t, h => by simp at h
  | x :: ss, 0, _ => by simp [flatN, encN]
  | x :: ss, 1, _ => by simp [flatN, encN]
  | x :: ss, t + 2, h => by
    have ih := get_flatN ss t (by simp at h; omega)
    have e1 : (t + 2) / 2 = t / 2 + 1 := by omega
    have e2 : (t + 2) % 2 = t % 2 := by omega
    rw [e1, e2]
    simpa [flatN, encN] using ih
theorem flatK_flatN (ss : List (Int × Int)) : flatK encN 2 ss.toArray = (flatN ss).toArray := by
  apply Array.ext'
  apply List.ext_getElem?
  intro t
  by_cases h : t < ss.length * 2
  · rw [show ((flatN ss).toArray.toList) = flatN ss from rfl, get_flatN ss t h]
    rw [Array.getElem?_toList, Array.getElem?_eq_getElem (by simpa using h), ← getElem!_pos _ t (by simpa using h), get_flatK encN 2 ss.toArray t (by simpa using h)]
    simp
  · rw [Array.getElem?_toList, Array.getElem?_eq_none (by simpa using Nat.le_of_not_lt h), List.getElem?_eq_none (by rw [show ((flatN ss).toArray.toList) = flatN ss from rfl, flatN_length]; omega)]

theorem holdsK_row {w : World} {g : Nat} {cur : Array Value} {e : TypeId} {ss : List (Int × Int)} (hb : w.heap[g]? = some (.cells cur e (0, 0))) (ht : cur.toList.take (ss.length * 2) = flatN ss) : HoldsK encN 2 w g 0 ss.toArray := by
  unfold HoldsK
  rw [flatK_flatN]
  intro j hj
  have hj' : j < ss.length * 2 := by simpa [flatN_length] using hj
  refine ⟨?_, by simp [World.frozen?, hb]⟩
  have h1 : (cur.toList.take (ss.length * 2))[j]? = (flatN ss)[j]? := by rw [ht]
  rw [List.getElem?_take_of_lt hj'] at h1
  have hj2 : j < (flatN ss).length := by rw [flatN_length]; exact hj'
  simp only [World.cell?, hb, Nat.zero_add]
  simp only [Option.isSome_none, Bool.false_eq_true, if_false]
  rw [← Array.getElem?_toList, h1]
  simp [hj2]

theorem heap_sortedK {w : World} {g n : Nat} {os : Array Obj} {cur : Array Value} {e : TypeId} {fr : Nat × Nat} (d : Array (Int × Int)) (hb : w.heap[g]? = some (.cells cur e fr)) :
    (sortWorldK encN 2 w g 0 n d os).heap[g]? = some (.cells (putCells id 0 (flatK encN 2 d) cur) e fr) := by
  have hg : g < w.heap.size := (Array.getElem?_eq_some_iff.1 hb).1
  unfold sortWorldK putRowK
  rw [heap_grow_old _ _ (by simpa using hg)]
  simp [putRow, mapBlock, Sort.ahead, Array.getElem?_modify, hb, onCells]

theorem grownBy_sortedK {w : World} {g n : Nat} {os : Array Obj} (d : Array (Int × Int)) : w.grownBy (sortWorldK encN 2 w g 0 n d os) (some g) := by
  unfold sortWorldK putRowK
  refine ⟨rfl, rfl, rfl, by simp, fun k hk hne => ?_⟩
  rw [heap_grow_old _ _ (by simpa using hk)]
  have : g ≠ k := fun e => hne (by rw [e])
  simp [putRow, mapBlock, Sort.ahead, Array.getElem?_modify, this]

theorem take_putCellsK (cur : Array Value) (ts : List Value) (h : ts.length ≤ cur.size) : (putCells id 0 ts.toArray cur).toList.take ts.length = ts := by
  apply List.ext_getElem?
  intro j
  by_cases hj : j < ts.length
  · rw [List.getElem?_take_of_lt hj, Array.getElem?_toList]
    simp [putCells, hj, show j < cur.size by omega]
  · rw [List.getElem?_take_eq_none (by omega), List.getElem?_eq_none (by omega)]

theorem ownsRow_sortedK {w : World} {base g cap n : Nat} {e : TypeId} {os : Array Obj} {cur : Array Value} {ss ts : List (Int × Int)} (hl : ts.length = ss.length) (hbase : base ≤ g) (hb : w.heap[g]? = some (.cells cur e (0, 0)))
    (h1 : ss.length ≤ cap) (h2 : cap ≤ maxLen) (h3 : cur.size = cap * 2) :
    (sortWorldK encN 2 w g 0 n ts.toArray os).ownsRow base e 2 (.slice (some ⟨g, 0, none⟩) ss.length cap) ss.length (flatN ts) :=
  ⟨by rw [flatN_length, hl], .inr ⟨g, cap, _, rfl, hbase, heap_sortedK _ hb, h1, h2, by simp [putCells, h3], by
    rw [flatK_flatN, ← hl, ← flatN_length]; exact take_putCellsK cur (flatN ts) (by rw [flatN_length]; omega)⟩⟩

theorem ltOf_cmpN (x y : Int × Int) : ltOf cmpN x y = decide (x.1 < y.1 ∨ x.1 = y.1 ∧ x.2 < y.2) := by
  unfold ltOf; exact decide_eq_decide.2 (cmpN_neg x y)
theorem swoN : SWO (ltOf cmpN) where
  irrefl x := by rw [ltOf_cmpN]; simp
  trans x y z h1 h2 := by rw [ltOf_cmpN] at *; simp at *; omega
  ntrans x y z h1 h2 := by rw [ltOf_cmpN] at *; simp at *; omega
theorem ltN_total (x y : Int × Int) (h1 : ltOf cmpN x y = false) (h2 : ltOf cmpN y x = false) : x = y := by
  rw [ltOf_cmpN] at *; simp at h1 h2; exact Prod.ext (by omega) (by omega)

/-- A list of names in their order. -/
def SortedN (L : List (Int × Int)) : Prop := L.Pairwise (fun x y => ltOf cmpN x y = true)
/-- PERMUTATIONS SORT TO THE ONE LIST THAT IS IN ORDER. -/
theorem mergeSort_names {ss L : List (Int × Int)} (hp : ss.Perm L) (hs : SortedN L) : ss.mergeSort (fun x y => !ltOf cmpN y x) = L := by
  have tr : ∀ a b c : Int × Int, (!ltOf cmpN b a) = true → (!ltOf cmpN c b) = true → (!ltOf cmpN c a) = true := fun a b c h1 h2 => by
    simp at *; exact swoN.ntrans c b a h2 h1
  have to : ∀ a b : Int × Int, ((!ltOf cmpN b a) || (!ltOf cmpN a b)) = true := fun a b => by
    rw [ltOf_cmpN, ltOf_cmpN]; simp; omega
  refine List.Perm.eq_of_pairwise (le := fun a b => (!ltOf cmpN b a) = true) (fun a b _ _ h1 h2 => ltN_total a b (by simpa using h2) (by simpa using h1)) (List.pairwise_mergeSort tr to ss) ?_ ((List.mergeSort_perm ss _).trans hp)
  refine hs.imp fun {a b} h => ?_
  rw [ltOf_cmpN] at *; simp at *; omega
end Go.Proofs

/-
  Look-ups in a map from names to pointers, at the operation; what a round must leave alone. No dump.
-/
namespace Go.Proofs
open Go.RowKit Go.Sort Go.Maps Go.WideMaps

theorem ksGet_mem {ks : List ((Int × Int) × Value)} {x : Int × Int} {b : Value} (h : ksGet ks x = some b) : (x, b) ∈ ks := by
  unfold ksGet at h
  cases hf : ks.find? (fun p => decide (p.1 = x)) with
  | none => simp [hf] at h
  | some p =>
    simp [hf] at h
    have h1 := List.mem_of_find?_eq_some hf
    have h2 := List.find?_some hf
    simp at h2
    obtain ⟨p1, p2⟩ := p
    simp at h h2
    subst h h2
    exact h1
theorem ksGet_none {ks : List ((Int × Int) × Value)} {x : Int × Int} : ksGet ks x = none ↔ ∀ p ∈ ks, p.1 ≠ x := by
  unfold ksGet
  simp [List.find?_eq_none]
theorem ksGet_of_mem {ks : List ((Int × Int) × Value)} (hk : KsOk ks) {x : Int × Int} {b : Value} (h : (x, b) ∈ ks) : ksGet ks x = some b := by
  induction ks with
  | nil => cases h
  | cons p ks ih =>
    rcases List.mem_cons.1 h with rfl | h'
    · simp [ksGet]
    · have hne : p.1 ≠ x := fun e => hk.fresh _ h' (by simpa using e.symm)
      have := ih hk.tail h'
      simpa [ksGet, hne] using this

section
variable {P : Program} {t : TypeId} {ks : List ((Int × Int) × Value)} {x : Int × Int}
theorem NmType.has_some (T : NmType P t) (hk : KsOk ks) (hx : NmWf x) {b : Value} (hg : ksGet ks x = some b) : Maps.has (mapD ks) (nmL x) = true :=
  (T.has_iff hk hx).2 (List.mem_map.2 ⟨_, ksGet_mem hg, rfl⟩)
theorem NmType.has_none (T : NmType P t) (hk : KsOk ks) (hx : NmWf x) (hg : ksGet ks x = none) : Maps.has (mapD ks) (nmL x) = false := by
  cases h : Maps.has (mapD ks) (nmL x) with
  | false => rfl
  | true =>
    obtain ⟨p, hp, e⟩ := List.mem_map.1 ((T.has_iff hk hx).1 h)
    exact absurd e (ksGet_none.1 hg p hp)

section
variable {w : World} {b n : Nat} {tm e : TypeId}
/-- 'v, ok := m[x]', there. -/
theorem NmType.look_hit (T : NmType P t) (hk : KsOk ks) (hx : NmWf x) (hown : w.ownsMap P t valR b n (mapD ks)) (ht : P.underlying tm = some (.map t e)) {z : Value} (hz : (zeroValue e).run P w = .ok z w) {pv : Value} (hg : ksGet ks x = some pv) :
    (Instr.lookup tm (.map (some b)) (nmV x) true).run P w = .ok (.tuple #[pv, .bool true]) w := by
  obtain ⟨v, ps, hrun, hv⟩ := hown.look_ok (Keyed.of_law T.law) ht hz (zd := .held z) (zp := []) rfl (T.keyOf hx)
  have h1 := T.atKey_mapD hx (.held z) ks hk
  rw [hg] at h1
  rw [show Lit.string (nmB x) = nmL x from rfl, h1] at hv
  rw [hrun, show Lit.string (nmB x) = nmL x from rfl, T.has_some hk hx hg, valR_held hv]
/-- .. and not there. -/
theorem NmType.look_miss (T : NmType P t) (hk : KsOk ks) (hx : NmWf x) (hown : w.ownsMap P t valR b n (mapD ks)) (ht : P.underlying tm = some (.map t e)) {z : Value} (hz : (zeroValue e).run P w = .ok z w) (hg : ksGet ks x = none) :
    (Instr.lookup tm (.map (some b)) (nmV x) true).run P w = .ok (.tuple #[z, .bool false]) w := by
  obtain ⟨v, ps, hrun, hv⟩ := hown.look_ok (Keyed.of_law T.law) ht hz (zd := .held z) (zp := []) rfl (T.keyOf hx)
  have h1 := T.atKey_mapD hx (.held z) ks hk
  rw [hg] at h1
  rw [show Lit.string (nmB x) = nmL x from rfl, h1] at hv
  rw [hrun, show Lit.string (nmB x) = nmL x from rfl, T.has_none hk hx hg, valR_held hv]
/-- 'm[x]', there. -/
theorem NmType.look1_hit (T : NmType P t) (hk : KsOk ks) (hx : NmWf x) (hown : w.ownsMap P t valR b n (mapD ks)) (ht : P.underlying tm = some (.map t e)) {z : Value} (hz : (zeroValue e).run P w = .ok z w) {pv : Value} (hg : ksGet ks x = some pv) :
    (Instr.lookup tm (.map (some b)) (nmV x) false).run P w = .ok pv w := by
  obtain ⟨v, ps, hrun, hv⟩ := hown.lookup (Keyed.of_law T.law) ht hz (zd := .held z) (zp := []) rfl (T.keyOf hx)
  have h1 := T.atKey_mapD hx (.held z) ks hk
  rw [hg] at h1
  rw [show Lit.string (nmB x) = nmL x from rfl, h1] at hv
  rw [hrun, valR_held hv]
end
end

/-- What a round leaves as it lies: maps and walks; cells of every type but some. -/
def Stays (bad : TypeId → Bool) : Obj → Bool
  | .cells _ t _ => !bad t
  | o => o.isWalk
structure KeepsT (bad : TypeId → Bool) (W W' : World) : Prop where
  size : W.heap.size ≤ W'.heap.size
  same : ∀ (k : Nat) (o : Obj), W.heap[k]? = some o → Stays bad o = true → W'.heap[k]? = some o
section
variable {bad : TypeId → Bool} {W W' W'' : World}
theorem KeepsT.refl (bad : TypeId → Bool) (W : World) : KeepsT bad W W := ⟨Nat.le_refl _, fun _ _ h _ => h⟩
theorem KeepsT.trans (h : KeepsT bad W W') (h' : KeepsT bad W' W'') : KeepsT bad W W'' := ⟨Nat.le_trans h.size h'.size, fun k o hk hs => h'.same k o (h.same k o hk hs) hs⟩
theorem KeepsT.grown {row : Option Nat} (hg : W.grownBy W' row) (hr : ∀ j, row = some j → ∀ o, W.heap[j]? = some o → Stays bad o = false) : KeepsT bad W W' :=
  ⟨hg.size, fun k o hk hs => (hg.block k (Array.getElem?_eq_some_iff.1 hk).1 (fun e => by have := hr k e.symm o hk; rw [hs] at this; cases this)).trans hk⟩
theorem KeepsT.alloc (W : World) (o : Obj) : KeepsT bad W (W.alloc o) := KeepsT.grown (World.grownBy_alloc W o none) (fun _ e => by cases e)
theorem KeepsT.below (h : Below W.heap.size W W') : KeepsT bad W W' := ⟨h.size, fun k _ hk _ => (h.block k (Array.getElem?_eq_some_iff.1 hk).1).trans hk⟩
theorem keepsT_t {A B C : World} (h : KeepsT bad A B) (k : KeepsT bad B C) : KeepsT bad A C := h.trans k
theorem keepsT_b {w : World} (W : World) (l : Nat) (o o' : Obj) (_ : w.heap.size ≤ l) (h : W.heap[l]? = some o) (h1 : o.isCells = false) (h2 : o.isWalk = false) : KeepsT bad W (W.putObj l o') :=
  KeepsT.grown (grownBy_putObj' W l o') (fun j e o2 ho => by
    cases e; rw [h] at ho; cases ho
    cases o <;> simp_all [Stays, Obj.isCells])
theorem KeepsT.box {B : Nat} {t : TypeId} {cs : Array Value} (h : KeepsT bad W W') (hb : BoxN W B t cs) (ht : bad t = false) : BoxN W' B t cs := h.same B _ hb (by simp [Stays, ht])
theorem KeepsT.map {H : Type} {P : Program} {k : TypeId} {R : Value → Option (DataW H × List MemPlace)} {b n : Nat} {D : DataW H} (h : KeepsT bad W W') (hm : W.ownsMap P k R b n D) : W'.ownsMap P k R b n D := by
  obtain ⟨es, clock, hb, F, hs, hD⟩ := hm
  exact ⟨es, clock, h.same b _ hb rfl, F, hs, hD⟩
theorem KeepsT.row {base : Nat} {e : TypeId} {size : Nat} {v : Value} {k : Nat} {xs : List Value} (h : KeepsT bad W W') (hr : W.ownsRow base e size v k xs) (he : bad e = false) : W'.ownsRow base e size v k xs := by
  refine ⟨hr.1, ?_⟩
  rcases hr.2 with hn | ⟨g, cap, cur, hv, hbg, hg, rest⟩
  · exact .inl hn
  · exact .inr ⟨g, cap, cur, hv, hbg, h.same g _ hg (by simp [Stays, he]), rest⟩
end
end Go.Proofs
