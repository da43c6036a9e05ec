import Derived.Test.YthifclklnopkfaaGreatDoorBase
import Derived.Shelf.SlSortCmp.NoneTotal
import Derived.Laws.OwnMore
/-
  Between append's words and the sort's, at names; no dump.
-/
namespace Go.Proofs
open Go.RowKit Go.Sort Go.Shelf

def flatN (ss : List (Int × Int)) : List Value := ss.flatMap encN
theorem flatN_snoc (ss : List (Int × Int)) (x : Int × Int) : flatN (ss ++ [x]) = flatN ss ++ [.int .i64 x.1, .int .u64 x.2] := by simp [flatN, encN]
theorem flatN_length (ss : List (Int × Int)) : (flatN ss).length = ss.length * 2 := by
  induction ss with
  | nil => rfl
  | cons x ss ih => simp [flatN, encN] at ih ⊢; omega
theorem get_flatN : ∀ (ss : List (Int × Int)) (t : Nat), t < ss.length * 2 → (flatN ss)[t]? = some ((encN (ss[t / 2]!))[t % 2]!)
  | [], t, h => by simp at h
  | x :: ss, 0, _ => by simp [flatN, encN]
  | x :: ss, 1, _ => by simp [flatN, encN]
  | x :: ss, t + 2, h => by
    have ih := get_flatN ss t (by simp at h; omega)
    have e1 : (t + 2) / 2 = t / 2 + 1 := by omega
    have e2 : (t + 2) % 2 = t % 2 := by omega
    rw [e1, e2]
    simpa [flatN, encN] using ih
theorem flatK_flatN (ss : List (Int × Int)) : flatK encN 2 ss.toArray = (flatN ss).toArray := by
  apply Array.ext'
  apply List.ext_getElem?
  intro t
  by_cases h : t < ss.length * 2
  · rw [show ((flatN ss).toArray.toList) = flatN ss from rfl, get_flatN ss t h]
    rw [Array.getElem?_toList, Array.getElem?_eq_getElem (by simpa using h), ← getElem!_pos _ t (by simpa using h), get_flatK encN 2 ss.toArray t (by simpa using h)]
    simp
  · rw [Array.getElem?_toList, Array.getElem?_eq_none (by simpa using Nat.le_of_not_lt h), List.getElem?_eq_none (by rw [show ((flatN ss).toArray.toList) = flatN ss from rfl, flatN_length]; omega)]

theorem holdsK_row {w : World} {g : Nat} {cur : Array Value} {e : TypeId} {ss : List (Int × Int)} (hb : w.heap[g]? = some (.cells cur e (0, 0))) (ht : cur.toList.take (ss.length * 2) = flatN ss) : HoldsK encN 2 w g 0 ss.toArray := by
  unfold HoldsK
  rw [flatK_flatN]
  intro j hj
  have hj' : j < ss.length * 2 := by simpa [flatN_length] using hj
  refine ⟨?_, by simp [World.frozen?, hb]⟩
  have h1 : (cur.toList.take (ss.length * 2))[j]? = (flatN ss)[j]? := by rw [ht]
  rw [List.getElem?_take_of_lt hj'] at h1
  have hj2 : j < (flatN ss).length := by rw [flatN_length]; exact hj'
  simp only [World.cell?, hb, Nat.zero_add]
  simp only [Option.isSome_none, Bool.false_eq_true, if_false]
  rw [← Array.getElem?_toList, h1]
  simp [hj2]

theorem heap_sortedK {w : World} {g n : Nat} {os : Array Obj} {cur : Array Value} {e : TypeId} {fr : Nat × Nat} (d : Array (Int × Int)) (hb : w.heap[g]? = some (.cells cur e fr)) :
    (sortWorldK encN 2 w g 0 n d os).heap[g]? = some (.cells (putCells id 0 (flatK encN 2 d) cur) e fr) := by
  have hg : g < w.heap.size := (Array.getElem?_eq_some_iff.1 hb).1
  unfold sortWorldK putRowK
  rw [heap_grow_old _ _ (by simpa using hg)]
  simp [putRow, mapBlock, Sort.ahead, Array.getElem?_modify, hb, onCells]

theorem grownBy_sortedK {w : World} {g n : Nat} {os : Array Obj} (d : Array (Int × Int)) : w.grownBy (sortWorldK encN 2 w g 0 n d os) (some g) := by
  unfold sortWorldK putRowK
  refine ⟨rfl, rfl, rfl, by simp, fun k hk hne => ?_⟩
  rw [heap_grow_old _ _ (by simpa using hk)]
  have : g ≠ k := fun e => hne (by rw [e])
  simp [putRow, mapBlock, Sort.ahead, Array.getElem?_modify, this]

theorem take_putCellsK (cur : Array Value) (ts : List Value) (h : ts.length ≤ cur.size) : (putCells id 0 ts.toArray cur).toList.take ts.length = ts := by
  apply List.ext_getElem?
  intro j
  by_cases hj : j < ts.length
  · rw [List.getElem?_take_of_lt hj, Array.getElem?_toList]
    simp [putCells, hj, show j < cur.size by omega]
  · rw [List.getElem?_take_eq_none (by omega), List.getElem?_eq_none (by omega)]

theorem ownsRow_sortedK {w : World} {base g cap n : Nat} {e : TypeId} {os : Array Obj} {cur : Array Value} {ss ts : List (Int × Int)} (hl : ts.length = ss.length) (hbase : base ≤ g) (hb : w.heap[g]? = some (.cells cur e (0, 0)))
    (h1 : ss.length ≤ cap) (h2 : cap ≤ maxLen) (h3 : cur.size = cap * 2) :
    (sortWorldK encN 2 w g 0 n ts.toArray os).ownsRow base e 2 (.slice (some ⟨g, 0, none⟩) ss.length cap) ss.length (flatN ts) :=
  ⟨by rw [flatN_length, hl], .inr ⟨g, cap, _, rfl, hbase, heap_sortedK _ hb, h1, h2, by simp [putCells, h3], by
    rw [flatK_flatN, ← hl, ← flatN_length]; exact take_putCellsK cur (flatN ts) (by rw [flatN_length]; omega)⟩⟩

theorem ltOf_cmpN (x y : Int × Int) : ltOf cmpN x y = decide (x.1 < y.1 ∨ x.1 = y.1 ∧ x.2 < y.2) := by
  unfold ltOf; exact decide_eq_decide.2 (cmpN_neg x y)
theorem swoN : SWO (ltOf cmpN) where
  irrefl x := by rw [ltOf_cmpN]; simp
  trans x y z h1 h2 := by rw [ltOf_cmpN] at *; simp at *; omega
  ntrans x y z h1 h2 := by rw [ltOf_cmpN] at *; simp at *; omega
theorem ltN_total (x y : Int × Int) (h1 : ltOf cmpN x y = false) (h2 : ltOf cmpN y x = false) : x = y := by
  rw [ltOf_cmpN] at *; simp at h1 h2; exact Prod.ext (by omega) (by omega)

/-- A list of names in their order. -/
def SortedN (L : List (Int × Int)) : Prop := L.Pairwise (fun x y => ltOf cmpN x y = true)
/-- PERMUTATIONS SORT TO THE ONE LIST THAT IS IN ORDER. -/
theorem mergeSort_names {ss L : List (Int × Int)} (hp : ss.Perm L) (hs : SortedN L) : ss.mergeSort (fun x y => !ltOf cmpN y x) = L := by
  have tr : ∀ a b c : Int × Int, (!ltOf cmpN b a) = true → (!ltOf cmpN c b) = true → (!ltOf cmpN c a) = true := fun a b c h1 h2 => by
    simp at *; exact swoN.ntrans c b a h2 h1
  have to : ∀ a b : Int × Int, ((!ltOf cmpN b a) || (!ltOf cmpN a b)) = true := fun a b => by
    rw [ltOf_cmpN, ltOf_cmpN]; simp; omega
  refine List.Perm.eq_of_pairwise (le := fun a b => (!ltOf cmpN b a) = true) (fun a b _ _ h1 h2 => ltN_total a b (by simpa using h2) (by simpa using h1)) (List.pairwise_mergeSort tr to ss) ?_ ((List.mergeSort_perm ss _).trans hp)
  refine hs.imp fun {a b} h => ?_
  rw [ltOf_cmpN] at *; simp at *; omega
end Go.Proofs
