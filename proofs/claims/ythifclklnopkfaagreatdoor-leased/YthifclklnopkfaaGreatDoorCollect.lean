import Derived.Test.YthifclklnopkfaaGreatDoorMapN
import Derived.Shelf.SlSortCmp.NoneTotal
import Derived.Laws.OwnMore
import Derived.Test.YthifclklnopkfaaGreatDoorProg
import Derived.RangeFuncNested
import Derived.RangeFuncBound
import Derived.RangeFuncCalls
import Derived.RangeFuncLeaves
import Derived.Shelf.Abstract
import Derived.Shelf.AbstractIn
import Derived.Shelf.RegionOpen
import Derived.Maps.AppendAt
import Derived.WalkKit
import Derived.WalkSmall
import Derived.OwnWalkIn
import Derived.TacticsInMore
import Derived.LoopNIn
import Derived.LoopIn
/-
  Between append's words and the sort's, at names; no dump.
-/
namespace Go.Proofs
open Go.RowKit Go.Sort Go.Shelf

def flatN (ss : List (Int × Int)) : List Value := ss.flatMap encN
theorem flatN_snoc (ss : List (Int × Int)) (x : Int × Int) : flatN (ss ++ [x]) = flatN ss ++ [.int .i64 x.1, .int .u64 x.2] := by simp [flatN, encN]
theorem flatN_length (ss : List (Int × Int)) : (flatN ss).length = ss.length * 2 := by
  induction ss with
  | nil => rfl
  | cons x ss ih => simp [flatN, encN] at ih ⊢; omega
theorem get_flatN : ∀ (ss : List (Int × Int)) (t : Nat), t < ss.length * 2 → (flatN ss)[t]? = some ((encN (ss[t / 2]!))[t % 2]!)
  | [], t, h => by simp at h
  | x :: ss, 0, _ => by simp [flatN, encN]
  | x :: ss, 1, _ => by simp [flatN, encN]
  | x :: ss, t + 2, h => by
    have ih := get_flatN ss t (by simp at h; omega)
    have e1 : (t + 2) / 2 = t / 2 + 1 := by omega
    have e2 : (t + 2) % 2 = t % 2 := by omega
    rw [e1, e2]
    simpa [flatN, encN] using ih
theorem flatK_flatN (ss : List (Int × Int)) : flatK encN 2 ss.toArray = (flatN ss).toArray := by
  apply Array.ext'
  apply List.ext_getElem?
  intro t
  by_cases h : t < ss.length * 2
  · rw [show ((flatN ss).toArray.toList) = flatN ss from rfl, get_flatN ss t h]
    rw [Array.getElem?_toList, Array.getElem?_eq_getElem (by simpa using h), ← getElem!_pos _ t (by simpa using h), get_flatK encN 2 ss.toArray t (by simpa using h)]
    simp
  · rw [Array.getElem?_toList, Array.getElem?_eq_none (by simpa using Nat.le_of_not_lt h), List.getElem?_eq_none (by rw [show ((flatN ss).toArray.toList) = flatN ss from rfl, flatN_length]; omega)]

theorem holdsK_row {w : World} {g : Nat} {cur : Array Value} {e : TypeId} {ss : List (Int × Int)} (hb : w.heap[g]? = some (.cells cur e (0, 0))) (ht : cur.toList.take (ss.length * 2) = flatN ss) : HoldsK encN 2 w g 0 ss.toArray := by
  unfold HoldsK
  rw [flatK_flatN]
  intro j hj
  have hj' : j < ss.length * 2 := by simpa [flatN_length] using hj
  refine ⟨?_, by simp [World.frozen?, hb]⟩
  have h1 : (cur.toList.take (ss.length * 2))[j]? = (flatN ss)[j]? := by rw [ht]
  rw [List.getElem?_take_of_lt hj'] at h1
  have hj2 : j < (flatN ss).length := by rw [flatN_length]; exact hj'
  simp only [World.cell?, hb, Nat.zero_add]
  simp only [Option.isSome_none, Bool.false_eq_true, if_false]
  rw [← Array.getElem?_toList, h1]
  simp [hj2]

theorem heap_sortedK {w : World} {g n : Nat} {os : Array Obj} {cur : Array Value} {e : TypeId} {fr : Nat × Nat} (d : Array (Int × Int)) (hb : w.heap[g]? = some (.cells cur e fr)) :
    (sortWorldK encN 2 w g 0 n d os).heap[g]? = some (.cells (putCells id 0 (flatK encN 2 d) cur) e fr) := by
  have hg : g < w.heap.size := (Array.getElem?_eq_some_iff.1 hb).1
  unfold sortWorldK putRowK
  rw [heap_grow_old _ _ (by simpa using hg)]
  simp [putRow, mapBlock, Sort.ahead, Array.getElem?_modify, hb, onCells]

theorem grownBy_sortedK {w : World} {g n : Nat} {os : Array Obj} (d : Array (Int × Int)) : w.grownBy (sortWorldK encN 2 w g 0 n d os) (some g) := by
  unfold sortWorldK putRowK
  refine ⟨rfl, rfl, rfl, by simp, fun k hk hne => ?_⟩
  rw [heap_grow_old _ _ (by simpa using hk)]
  have : g ≠ k := fun e => hne (by rw [e])
  simp [putRow, mapBlock, Sort.ahead, Array.getElem?_modify, this]

theorem take_putCellsK (cur : Array Value) (ts : List Value) (h : ts.length ≤ cur.size) : (putCells id 0 ts.toArray cur).toList.take ts.length = ts := by
  apply List.ext_getElem?
  intro j
  by_cases hj : j < ts.length
  · rw [List.getElem?_take_of_lt hj, Array.getElem?_toList]
    simp [putCells, hj, show j < cur.size by omega]
  · rw [List.getElem?_take_eq_none (by omega), List.getElem?_eq_none (by omega)]

theorem ownsRow_sortedK {w : World} {base g cap n : Nat} {e : TypeId} {os : Array Obj} {cur : Array Value} {ss ts : List (Int × Int)} (hl : ts.length = ss.length) (hbase : base ≤ g) (hb : w.heap[g]? = some (.cells cur e (0, 0)))
    (h1 : ss.length ≤ cap) (h2 : cap ≤ maxLen) (h3 : cur.size = cap * 2) :
    (sortWorldK encN 2 w g 0 n ts.toArray os).ownsRow base e 2 (.slice (some ⟨g, 0, none⟩) ss.length cap) ss.length (flatN ts) :=
  ⟨by rw [flatN_length, hl], .inr ⟨g, cap, _, rfl, hbase, heap_sortedK _ hb, h1, h2, by simp [putCells, h3], by
    rw [flatK_flatN, ← hl, ← flatN_length]; exact take_putCellsK cur (flatN ts) (by rw [flatN_length]; omega)⟩⟩

theorem ltOf_cmpN (x y : Int × Int) : ltOf cmpN x y = decide (x.1 < y.1 ∨ x.1 = y.1 ∧ x.2 < y.2) := by
  unfold ltOf; exact decide_eq_decide.2 (cmpN_neg x y)
theorem swoN : SWO (ltOf cmpN) where
  irrefl x := by rw [ltOf_cmpN]; simp
  trans x y z h1 h2 := by rw [ltOf_cmpN] at *; simp at *; omega
  ntrans x y z h1 h2 := by rw [ltOf_cmpN] at *; simp at *; omega
theorem ltN_total (x y : Int × Int) (h1 : ltOf cmpN x y = false) (h2 : ltOf cmpN y x = false) : x = y := by
  rw [ltOf_cmpN] at *; simp at h1 h2; exact Prod.ext (by omega) (by omega)

/-- A list of names in their order. -/
def SortedN (L : List (Int × Int)) : Prop := L.Pairwise (fun x y => ltOf cmpN x y = true)
/-- PERMUTATIONS SORT TO THE ONE LIST THAT IS IN ORDER. -/
theorem mergeSort_names {ss L : List (Int × Int)} (hp : ss.Perm L) (hs : SortedN L) : ss.mergeSort (fun x y => !ltOf cmpN y x) = L := by
  have tr : ∀ a b c : Int × Int, (!ltOf cmpN b a) = true → (!ltOf cmpN c b) = true → (!ltOf cmpN c a) = true := fun a b c h1 h2 => by
    simp at *; exact swoN.ntrans c b a h2 h1
  have to : ∀ a b : Int × Int, ((!ltOf cmpN b a) || (!ltOf cmpN a b)) = true := fun a b => by
    rw [ltOf_cmpN, ltOf_cmpN]; simp; omega
  refine List.Perm.eq_of_pairwise (le := fun a b => (!ltOf cmpN b a) = true) (fun a b _ _ h1 h2 => ltN_total a b (by simpa using h2) (by simpa using h1)) (List.pairwise_mergeSort tr to ss) ?_ ((List.mergeSort_perm ss _).trans hp)
  refine hs.imp fun {a b} h => ?_
  rw [ltOf_cmpN] at *; simp at *; omega
end Go.Proofs

/-
  slices.AppendSeq, slices.Collect at names.
-/
namespace Go.Proofs
open Go.RowKit Go.Maps Go.Sort Go.Shelf

attribute [local go_sem] Oper.semAt_some

theorem Tryz.infoName : (Tryz.prog.info? 97).map (fun i => (i.zero, i.size, i.bytes)) = some (some (.agg #[.int .i64 0, .int .u64 0]), 2, 16) := by kernel_rfl

set_option maxRecDepth 100000 in
set_option maxHeartbeats 2000000 in
theorem Tryz.appendSeq_in (n : Nat) (hn : 3 ≤ n) (g : Nat) (lb : Array Value) (eg : ∀ args w, (callFunc g args).run Tryz.prog w = .ok (.enter g args) w)
    (S Sp : List (Int × Int) → Prop) (N : Nat) (hN : N ≤ 1000) (w : World) (hseq : SeqStopsK Fence.wide (n - 1) Tryz.prog g lb (fun x => #[nmV x]) KeepsWalks S Sp N w) :
    CallsIn Fence.wide n Tryz.prog 170 #[.slice none 0 0, .func (.func g) #[] lb] w fun e w' => ∃ (v : Value) (ss : List (Int × Int)), e = .returned v ∧ S ss ∧ w'.ownsRow w.heap.size 97 2 v ss.length (flatN ss) ∧ (v = .slice none 0 0 ↔ ss = []) ∧ Below w.heap.size w w' := by
  have h1 : 1 ≤ n := by omega
  obtain ⟨i0, hi, hz0, hz1, hz2⟩ := info_parts Tryz.infoName
  refine callsIn_of_wp_marks Tryz.func170 rfl trivial ?_ rfl
  simp only [Tryz.ntmps170, List.size_toArray, List.length_cons, List.length_nil, Nat.reduceAdd, Nat.reduceSub, Array.replicate_succ, Array.replicate_zero, List.push_toArray, List.append_toArray, List.nil_append, List.cons_append]
  gi_wp2
  have bS := Boxed.new w 185 (.slice none 0 0)
  have hB0 : Below w.heap.size w (w.alloc (.cells #[.slice none 0 0] 185)) := (Below.refl _ w).alloc (Nat.le_refl _) _
  obtain ⟨W0, hW0⟩ : ∃ W0, w.alloc (.cells #[.slice none 0 0] 185) = W0 := ⟨_, rfl⟩
  have hsz : W0.heap.size = w.heap.size + 1 := by rw [← hW0]; simp
  rw [hW0] at bS hB0 ⊢
  clear hW0
  refine wpIn_rangeFunc_ownH rfl h1 (gf := g) (lb := lb) rfl trivial eg (hseq) walksK_t walksK_b hB0 (fun _ => rfl)
    (fun pre W => (∃ v, Boxed W w.heap.size 185 v ∧ W.ownsRow w.heap.size 97 2 v pre.length (flatN pre) ∧ (v = .slice none 0 0 ↔ pre = [])) ∧ Below w.heap.size w W)
    (fun _ _ _ => False)
    (OwnFrom.and (Own.from (holdsRow_own _ _ _ _ _ (fun pre : List (Int × Int) => pre.length) (fun pre => flatN pre) (fun pre v => (v = .slice none 0 0 ↔ pre = []))) _) (ownFrom_below (Nat.le_refl _) (by omega)))
    (fun _ _ _ _ _ hs _ _ => hs)
    ⟨⟨_, bS, World.ownsRow_nil _ _ _ _, by simp⟩, hB0⟩
    (fun x a' W => ∃ Bx, w.heap.size < Bx ∧ BoxN W Bx 97 #[.int .i64 x.1, .int .u64 x.2] ∧ a' = { tmps := #[.slice none 0 0, .func (.func g) #[] lb, .pointer (some ⟨w.heap.size, 0, none⟩), undef, .slice none 0 0, .pointer (some ⟨Bx, 0, none⟩), .func (.func g) #[] lb, .agg #[.int .i64 x.1, .int .u64 x.2], undef, undef, undef, undef, undef], defers := [] })
    (fun x a' _ X Y row hs hg hr => by obtain ⟨Bx, h1, h2, h3⟩ := hs; exact ⟨Bx, h1, boxN_own Bx 97 (fun (_ : Unit) => #[.int .i64 x.1, .int .u64 x.2]) () X Y row h2 hg (fun r e => (hr r e).2), h3⟩)
    ?assign ?body ?done ?stop
  case assign =>
    rintro l pre x W K ⟨⟨v, bS1, hr1, hnil⟩, hB1⟩ hK
    unfold nmV
    gi_wp2
    exact hK _ _ ((KeepsOthers.alloc _ _).from _) (KeepsWalks.alloc _ _) ⟨⟨v, bS1.alloc _, hr1.alloc _, hnil⟩, hB1.alloc hB1.size _⟩ ⟨W.heap.size, bS1.lt, BoxN.new W 97 _, rfl⟩
  case body =>
    rintro l pre x a' W hl ⟨r, hr⟩ ⟨⟨v, bS1, hr1, hnil⟩, hB1⟩ ⟨Bx, hBx, bX, rfl⟩ hlt
    have cS := bS1.cell
    have cX0 := bX.cell 0 (v := .int .i64 x.1) rfl
    have cX1 := bX.cell 1 (v := .int .u64 x.2) rfl
    gi_wp2_with (gi_at_builtin; refine wpListIn_append_own _ rfl _ _ 185 rfl w.heap.size 97 i0 _ 2 16 Tryz.underlying185 hi hz0 hz1 hz2 rfl (by decide) _ _ _ rfl (hr1.alloc _) ⟨W.heap.size, 0, none⟩ 1 1 [.int .i64 x.1, .int .u64 x.2] rfl rfl (cell_two_new _ _ _ _) (by simp [Value.oneCell']) (by unfold maxLen; omega) (by omega) (by have := hB1.size; simp; omega) ?_; intro v' w1 hown' hgrow hn'; obtain ⟨g', cap', rfl⟩ := ownsRow_succ hown'; obtain ⟨hv1, hv2, hr2, hk2, hb2⟩ := bS1.appended (by decide) hr1 hB1.size (Nat.le_refl _) hown' hgrow; have hc1 := hv1.cell; have hf1 := hv1.frozen)
    exact ⟨hk2.from _, hk2.walks, ⟨_, hv2, by rw [flatN_snoc, List.length_append]; exact hr2, by simp⟩, hB1.trans hb2⟩
  case done =>
    rintro D zs W hD hS ⟨⟨v, bS1, hr1, hnil⟩, hB1⟩ hK
    have cS := bS1.cell
    gi_wp2
    refine ⟨by simp, .inl ⟨_, _, rfl, run_takeDeferred hK, ?_⟩⟩
    exact ⟨_, results_tmp rfl _ _ _, v, zs, rfl, hS, ownsRow_putObj hr1 _ hK rfl, hnil, hB1.trans (belowK_b (w := w) (Nat.le_refl _) W D _ _ (by omega) hK rfl rfl)⟩
  case stop =>
    rintro D c pre W _ _ h _
    exact h.elim

set_option maxRecDepth 100000 in
set_option maxHeartbeats 1000000 in
theorem Tryz.collect_in (n : Nat) (hn : 4 ≤ n) (g : Nat) (lb : Array Value) (eg : ∀ args w, (callFunc g args).run Tryz.prog w = .ok (.enter g args) w)
    (S Sp : List (Int × Int) → Prop) (N : Nat) (hN : N ≤ 1000) (w : World) (hseq : SeqStopsK Fence.wide (n - 1 - 1) Tryz.prog g lb (fun x => #[nmV x]) KeepsWalks S Sp N w) :
    CallsIn Fence.wide n Tryz.prog 157 #[.func (.func g) #[] lb] w fun e w' => ∃ (v : Value) (ss : List (Int × Int)), e = .returned v ∧ S ss ∧ w'.ownsRow w.heap.size 97 2 v ss.length (flatN ss) ∧ (v = .slice none 0 0 ↔ ss = []) ∧ Below w.heap.size w w' := by
  have h1 : 1 ≤ n := by omega
  have hfn : Fence.wide.fn 170 := trivial
  have hA := fun W hs => Tryz.appendSeq_in (n - 1) (by omega) g lb eg S Sp N hN W hs
  refine callsIn_of_wp Tryz.func157 rfl trivial ?_ rfl
  simp only [Tryz.ntmps157, List.size_toArray, List.length_cons, List.length_nil, Nat.reduceAdd, Nat.reduceSub, Array.replicate_succ, Array.replicate_zero, List.push_toArray, List.append_toArray, List.nil_append, List.cons_append]
  gi_wp2_with (gi_at_call 170; refine (hA _ hseq).mono ?_; rintro e w' ⟨v, ss, rfl, hS, hrow, hnil, hb⟩)
  go_ret
  exact ⟨v, ss, rfl, hS, hrow, hnil, hb⟩
end Go.Proofs
