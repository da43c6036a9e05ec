import Derived.Test.YthifclklnopkfaaGreatDoorMapN
import Derived.Test.YthifclklnopkfaaGreatDoorProg
import Derived.RangeFuncSeq
import Derived.RangeFuncGives
import Derived.RangeFuncKeeps
import Derived.Sort.MapsRangeIn
import Derived.Shelf.Abstract
import Derived.Shelf.AbstractIn
import Derived.WalkKit
import Derived.OwnWalkIn
import Derived.TacticsInMore
import Derived.RegionIn
import Derived.LoopNIn
import Derived.LoopIn
/-
  maps.Keys at maps keyed by names: the iterator gives each key once, in some order.
-/
namespace Go.Proofs
open Go.RowKit Go.Maps Go.Sort Go.Shelf Go.WideMaps

theorem Tryz.laidOutK : laidOutB Tryz.prog = true := by kernel_rfl
theorem Tryz.rowName : (97 : TypeId) < Tryz.prog.types.size := of_decide_eq_true (by kernel_rfl)
theorem Tryz.keyAtName : Tryz.prog.keyTypeAt 2 97 = true := by kernel_rfl
theorem Tryz.keyTypeName : Tryz.prog.keyType 97 = true := by kernel_rfl
theorem Tryz.cellsName : Tryz.prog.cellsOf 97 = 2 := by kernel_rfl
theorem Tryz.cellsKind : Tryz.prog.cellsOf 95 = 1 := by kernel_rfl
theorem Tryz.cellsU64 : Tryz.prog.cellsOf 35 = 1 := by kernel_rfl
theorem Tryz.lawName : KeyLaw Tryz.prog 97 := by
  refine deep_law_laid Tryz.laidOutK (m := 2) (by omega) Tryz.rowName Tryz.keyAtName ?_
  rw [Tryz.underlying97]
theorem Tryz.nmType : NmType Tryz.prog 97 where
  law := Tryz.lawName
  key := Tryz.keyTypeName
  cells := Tryz.cellsName
  many := Nat.lt_of_le_of_lt (Nat.zero_le _) Tryz.rowName
  shape := ⟨_, _, Tryz.underlying97, by decide, by decide, rfl, rfl, Tryz.underlying95, Tryz.underlying35, Tryz.cellsKind, Tryz.cellsU64⟩
theorem Tryz.keyedName : Keyed Tryz.prog 97 := Keyed.of_law Tryz.nmType.law

set_option maxRecDepth 100000 in
set_option maxHeartbeats 1000000 in
/-- the iterator of maps.Keys. -/
theorem Tryz.mkeysTok1_in (F : Fence) (n : Nat) (h10 : F.fn 159) (hro : F.round = none) (hn : 1 ≤ n) (l Bm b nn : Nat) (ks : List ((Int × Int) × Nat)) (hk : KsOk ks) (J Jx : List (Int × Int) → World → Prop)
    (hY : ∀ pre x W, J pre W → pre.length < ks.length → YieldAt F (n - 1) Tryz.prog l #[nmV x] W fun e W' =>
      (e = .returned (.bool true) ∧ J (pre ++ [x]) W' ∧ KeepsWalks W W') ∨ (e = .returned (.bool false) ∧ Jx (pre ++ [x]) W'))
    (W : World) (hJ : AbidesFrom W.heap.size J) (hm : W.cell? ⟨Bm, 0, none⟩ = some (.map (some b))) (hown : W.ownsMap Tryz.prog 97 ptrR b nn (mapD ks)) (h0 : J [] W) :
    CallsIn F n Tryz.prog 159 #[.func (.yield l) #[] #[], .pointer (some ⟨Bm, 0, none⟩)] W fun e W' => (∃ v, e = .returned v) ∧ ((∃ ss : List (Int × Int), ss.Perm (ks.map (·.1)) ∧ J ss W') ∨ (∃ pre : List (Int × Int), True ∧ Jx pre W')) := by
  have hsz := Tryz.nmType.size_mapD ks hk
  refine callsIn_of_wp Tryz.func159 rfl h10 ?_ hro
  simp only [Tryz.ntmps159, List.size_toArray, List.length_cons, List.length_nil, Nat.reduceAdd, Nat.reduceSub, Array.replicate_succ, Array.replicate_zero, List.push_toArray, List.append_toArray, List.nil_append, List.cons_append]
  gi_wp2_with (first
    | (gi_at_range; refine wpListIn_range_own _ rfl _ 102 rfl 97 123 Tryz.keyedName Tryz.underlying102 _ b nn _ rfl hown ?_; intro w0 hrg0 hg0 hs0)
    | gi_in)
  go_frame
  gi_loopw [3] (fun _ wr => ∃ (left : Lit → Bool) (cnt : Nat) (ss : List (Int × Int)), wr.ranges Tryz.prog 97 ptrR b W.heap.size nn (mapD ks) left cnt ∧ ss.length + cnt ≤ ks.length ∧ CollN ks left ss ∧ J ss wr)
    (fun _ wr => wr.rangeLeft b W.heap.size)
  case atStart =>
    exact ⟨_, _, [], hrg0, by simp [hsz], CollN.start Tryz.nmType hk, hJ [] W w0 none h0 hg0 (fun r e => by cases e)⟩
  case round =>
    obtain ⟨left, cnt, ss, hrg, hcs, hC, hJs⟩ := hrel
    gi_wp2_with (first
      | (gi_at_next; refine wpListIn_next_ranges _ rfl _ rfl 97 Tryz.keyedName ptrR nmV (fun c : Option Nat => Value.pointer (c.map (⟨·, 0, none⟩))) (fun key kl hk => by obtain ⟨x, _, hx, _⟩ := Tryz.nmType.inv hk; exact ⟨x, hx⟩) (fun v _ h => ptrR_inv h) b W.heap.size nn _ _ _ rfl hrg ?_ ?_)
      | gi_in)
    · intro hc0 hl0
      gi_wp2
      go_end0
      exact ⟨⟨_, rfl⟩, .inl ⟨ss, hC.perm hk hl0, hJs⟩⟩
    · intro a1 a2 c kl yd yp w2 cnt2 hkey hlk hv hat hrg2 hlt hg2 hs2 hen
      obtain ⟨x, hx⟩ : ∃ x : Int × Int, x = (a1, a2) := ⟨_, rfl⟩
      rw [← hx] at hkey hen ⊢
      clear hx a1 a2
      obtain ⟨x', hw, ex, rfl⟩ := Tryz.nmType.inv hkey
      obtain rfl : x = x' := by
        simp only [nmV, Value.agg.injEq] at ex
        simp at ex
        exact Prod.ext ex.1 ex.2
      have hJ2 : J ss w2 := hJ ss wr w2 (some W.heap.size) hJs hg2 (fun r e => by cases e; exact ⟨Nat.le_refl _, hrg.iter_walk⟩)
      have hJ3 : J ss (w2.alloc (.cells #[.int .i64 x.1, .int .u64 x.2] 97)) := hJ ss w2 _ none hJ2 (World.grownBy_alloc _ _ _) (fun r e => by cases e)
      obtain ⟨fn, tmps, assign, body, hy, hR⟩ := hY ss x _ hJ3 (by omega)
      have hin : x ∈ ks.map (·.1) := (Tryz.nmType.has_iff hk hw).1 (has_true_of_atKey hat)
      have hC2 := hC.step Tryz.nmType hw hlk hin
      clear hs2
      unfold nmV at hy hen
      gi_wp2
      refine hR.mono ?_
      rintro e W3 (⟨rfl, hJ4, hk3⟩ | ⟨rfl, hJx3⟩)
      · gi_wp2
        have hrg3 := (hrg2.of_walks (KeepsWalks.alloc _ _)).of_walks hk3
        go_roundw
        case rel => exact ⟨_, cnt2, ss ++ [x], hrg3, by simp; omega, hC2, hJ4⟩
        case measure => rw [hrg3.left_eq, hrg.left_eq]; exact hlt
      · gi_wp2
        refine bodyPost_ret (results_none rfl _ _ _) rfl ?_
        exact ⟨⟨_, rfl⟩, .inr ⟨ss ++ [x], trivial, hJx3⟩⟩

theorem Tryz.mkeysTok_stops (n : Nat) (hn : 1 ≤ n) (Bm b nn : Nat) (ks : List ((Int × Int) × Nat)) (hk : KsOk ks) (w : World) (hBm : Bm < w.heap.size)
    (hm : w.cell? ⟨Bm, 0, none⟩ = some (.map (some b))) (hown : w.ownsMap Tryz.prog 97 ptrR b nn (mapD ks)) :
    SeqStopsK Fence.wide n Tryz.prog 159 #[.pointer (some ⟨Bm, 0, none⟩)] (fun x => #[nmV x]) KeepsWalks (fun ss => ss.Perm (ks.map (·.1))) (fun _ => True) ks.length w := fun l J Jx W hW hJ _ hY h0 => by
  have hown' : W.ownsMap Tryz.prog 97 ptrR b nn (mapD ks) := by
    have hbl := hown.lt
    obtain ⟨es, clock, hb, Ft, hs, hD⟩ := hown
    exact ⟨es, clock, (hW.block b hbl).trans hb, Ft, hs, hD⟩
  exact Tryz.mkeysTok1_in Fence.wide n trivial rfl hn l Bm b nn ks hk J Jx hY W hJ ((hW.cell (p := ⟨Bm, 0, none⟩) hBm).trans hm) hown' h0

set_option maxHeartbeats 1000000 in
theorem Tryz.mkeysTok (mb : Option Nat) (w : World) :
    Calls Tryz.prog 136 #[.map mb] w fun e w' => e = .returned (.func (.func 159) #[] #[.pointer (some ⟨w.heap.size, 0, none⟩)]) ∧ w' = w.alloc (.cells #[.map mb] 102) := by
  go_enter Tryz.func136, Tryz.ntmps136
  go_wp2
  go_ret
  exact ⟨rfl, rfl⟩
set_option maxRecDepth 100000 in
set_option maxHeartbeats 1000000 in
/-- the iterator of maps.Keys. -/
theorem Tryz.mkeysLea1_in (F : Fence) (n : Nat) (h10 : F.fn 160) (hro : F.round = none) (hn : 1 ≤ n) (l Bm b nn : Nat) (ks : List ((Int × Int) × Nat)) (hk : KsOk ks) (J Jx : List (Int × Int) → World → Prop)
    (hY : ∀ pre x W, J pre W → pre.length < ks.length → YieldAt F (n - 1) Tryz.prog l #[nmV x] W fun e W' =>
      (e = .returned (.bool true) ∧ J (pre ++ [x]) W' ∧ KeepsWalks W W') ∨ (e = .returned (.bool false) ∧ Jx (pre ++ [x]) W'))
    (W : World) (hJ : AbidesFrom W.heap.size J) (hm : W.cell? ⟨Bm, 0, none⟩ = some (.map (some b))) (hown : W.ownsMap Tryz.prog 97 ptrR b nn (mapD ks)) (h0 : J [] W) :
    CallsIn F n Tryz.prog 160 #[.func (.yield l) #[] #[], .pointer (some ⟨Bm, 0, none⟩)] W fun e W' => (∃ v, e = .returned v) ∧ ((∃ ss : List (Int × Int), ss.Perm (ks.map (·.1)) ∧ J ss W') ∨ (∃ pre : List (Int × Int), True ∧ Jx pre W')) := by
  have hsz := Tryz.nmType.size_mapD ks hk
  refine callsIn_of_wp Tryz.func160 rfl h10 ?_ hro
  simp only [Tryz.ntmps160, List.size_toArray, List.length_cons, List.length_nil, Nat.reduceAdd, Nat.reduceSub, Array.replicate_succ, Array.replicate_zero, List.push_toArray, List.append_toArray, List.nil_append, List.cons_append]
  gi_wp2_with (first
    | (gi_at_range; refine wpListIn_range_own _ rfl _ 103 rfl 97 109 Tryz.keyedName Tryz.underlying103 _ b nn _ rfl hown ?_; intro w0 hrg0 hg0 hs0)
    | gi_in)
  go_frame
  gi_loopw [3] (fun _ wr => ∃ (left : Lit → Bool) (cnt : Nat) (ss : List (Int × Int)), wr.ranges Tryz.prog 97 ptrR b W.heap.size nn (mapD ks) left cnt ∧ ss.length + cnt ≤ ks.length ∧ CollN ks left ss ∧ J ss wr)
    (fun _ wr => wr.rangeLeft b W.heap.size)
  case atStart =>
    exact ⟨_, _, [], hrg0, by simp [hsz], CollN.start Tryz.nmType hk, hJ [] W w0 none h0 hg0 (fun r e => by cases e)⟩
  case round =>
    obtain ⟨left, cnt, ss, hrg, hcs, hC, hJs⟩ := hrel
    gi_wp2_with (first
      | (gi_at_next; refine wpListIn_next_ranges _ rfl _ rfl 97 Tryz.keyedName ptrR nmV (fun c : Option Nat => Value.pointer (c.map (⟨·, 0, none⟩))) (fun key kl hk => by obtain ⟨x, _, hx, _⟩ := Tryz.nmType.inv hk; exact ⟨x, hx⟩) (fun v _ h => ptrR_inv h) b W.heap.size nn _ _ _ rfl hrg ?_ ?_)
      | gi_in)
    · intro hc0 hl0
      gi_wp2
      go_end0
      exact ⟨⟨_, rfl⟩, .inl ⟨ss, hC.perm hk hl0, hJs⟩⟩
    · intro a1 a2 c kl yd yp w2 cnt2 hkey hlk hv hat hrg2 hlt hg2 hs2 hen
      obtain ⟨x, hx⟩ : ∃ x : Int × Int, x = (a1, a2) := ⟨_, rfl⟩
      rw [← hx] at hkey hen ⊢
      clear hx a1 a2
      obtain ⟨x', hw, ex, rfl⟩ := Tryz.nmType.inv hkey
      obtain rfl : x = x' := by
        simp only [nmV, Value.agg.injEq] at ex
        simp at ex
        exact Prod.ext ex.1 ex.2
      have hJ2 : J ss w2 := hJ ss wr w2 (some W.heap.size) hJs hg2 (fun r e => by cases e; exact ⟨Nat.le_refl _, hrg.iter_walk⟩)
      have hJ3 : J ss (w2.alloc (.cells #[.int .i64 x.1, .int .u64 x.2] 97)) := hJ ss w2 _ none hJ2 (World.grownBy_alloc _ _ _) (fun r e => by cases e)
      obtain ⟨fn, tmps, assign, body, hy, hR⟩ := hY ss x _ hJ3 (by omega)
      have hin : x ∈ ks.map (·.1) := (Tryz.nmType.has_iff hk hw).1 (has_true_of_atKey hat)
      have hC2 := hC.step Tryz.nmType hw hlk hin
      clear hs2
      unfold nmV at hy hen
      gi_wp2
      refine hR.mono ?_
      rintro e W3 (⟨rfl, hJ4, hk3⟩ | ⟨rfl, hJx3⟩)
      · gi_wp2
        have hrg3 := (hrg2.of_walks (KeepsWalks.alloc _ _)).of_walks hk3
        go_roundw
        case rel => exact ⟨_, cnt2, ss ++ [x], hrg3, by simp; omega, hC2, hJ4⟩
        case measure => rw [hrg3.left_eq, hrg.left_eq]; exact hlt
      · gi_wp2
        refine bodyPost_ret (results_none rfl _ _ _) rfl ?_
        exact ⟨⟨_, rfl⟩, .inr ⟨ss ++ [x], trivial, hJx3⟩⟩

theorem Tryz.mkeysLea_stops (n : Nat) (hn : 1 ≤ n) (Bm b nn : Nat) (ks : List ((Int × Int) × Nat)) (hk : KsOk ks) (w : World) (hBm : Bm < w.heap.size)
    (hm : w.cell? ⟨Bm, 0, none⟩ = some (.map (some b))) (hown : w.ownsMap Tryz.prog 97 ptrR b nn (mapD ks)) :
    SeqStopsK Fence.wide n Tryz.prog 160 #[.pointer (some ⟨Bm, 0, none⟩)] (fun x => #[nmV x]) KeepsWalks (fun ss => ss.Perm (ks.map (·.1))) (fun _ => True) ks.length w := fun l J Jx W hW hJ _ hY h0 => by
  have hown' : W.ownsMap Tryz.prog 97 ptrR b nn (mapD ks) := by
    have hbl := hown.lt
    obtain ⟨es, clock, hb, Ft, hs, hD⟩ := hown
    exact ⟨es, clock, (hW.block b hbl).trans hb, Ft, hs, hD⟩
  exact Tryz.mkeysLea1_in Fence.wide n trivial rfl hn l Bm b nn ks hk J Jx hY W hJ ((hW.cell (p := ⟨Bm, 0, none⟩) hBm).trans hm) hown' h0

set_option maxHeartbeats 1000000 in
theorem Tryz.mkeysLea (mb : Option Nat) (w : World) :
    Calls Tryz.prog 138 #[.map mb] w fun e w' => e = .returned (.func (.func 160) #[] #[.pointer (some ⟨w.heap.size, 0, none⟩)]) ∧ w' = w.alloc (.cells #[.map mb] 103) := by
  go_enter Tryz.func138, Tryz.ntmps138
  go_wp2
  go_ret
  exact ⟨rfl, rfl⟩
end Go.Proofs
