import Derived.Test.YthifclklnopkfaaGreatDoorMapOps
import Derived.Test.YthifclklnopkfaaGreatDoorKeys
/-
  order.Walk at names: it hands its rounds the names in their order, each with its pointer.
-/
namespace Go.Proofs
open Go.RowKit Go.Maps Go.Sort Go.Shelf Go.WideMaps

attribute [local go_sem] Oper.semAt_some

theorem take_succ_get {α : Type} (l : List α) (k : Nat) (h : k < l.length) : l.take (k + 1) = l.take k ++ [l[k]] := by rw [List.take_succ_eq_append_getElem h]

theorem grown_of_below {w w' : World} (h : Below w.heap.size w w') : w.grownBy w' none := ⟨h.os, h.tape, h.output, h.size, fun k hk _ => h.block k hk⟩
theorem flatN_at (L : List (Int × Int)) (k : Nat) (h : k < L.length) : (flatN L)[k * 2]? = some (.int .i64 L[k].1) ∧ (flatN L)[k * 2 + 1]? = some (.int .u64 L[k].2) := by
  rw [get_flatN L (k * 2) (by omega), get_flatN L (k * 2 + 1) (by omega)]
  rw [show k * 2 / 2 = k from by omega, show k * 2 % 2 = 0 from by omega, show (k * 2 + 1) / 2 = k from by omega, show (k * 2 + 1) % 2 = 1 from by omega]
  rw [getElem!_pos L k h]
  exact ⟨rfl, rfl⟩

set_option maxRecDepth 100000 in
set_option maxHeartbeats 2000000 in
theorem Tryz.walkTok1_in (n : Nat) (hn : 1 ≤ n) (bad : TypeId → Bool) (hb1 : bad 97 = false) (hb2 : bad 102 = false) (l Bm b nn : Nat) (LK : List ((Int × Int) × Nat)) (hk : KsOk LK.reverse) (hL : SortedN (LK.map (·.1))) (hlen : LK.length ≤ 1000)
    (J Jx : List { p // p ∈ LK } → World → Prop)
    (hY : ∀ pre x W, J pre W → pre.length < LK.length → YieldAt Fence.wide (n - 1) Tryz.prog l #[nmV x.1.1, .pointer (some ⟨x.1.2, 0, none⟩)] W fun e W' =>
      (e = .returned (.bool true) ∧ J (pre ++ [x]) W' ∧ KeepsT bad W W') ∨ (e = .returned (.bool false) ∧ Jx (pre ++ [x]) W'))
    (W : World) (hJ : AbidesFrom W.heap.size J) (hbox : BoxN W Bm 102 #[.map (some b)]) (hown : W.ownsMap Tryz.prog 97 ptrR b nn (mapD LK.reverse)) (h0 : J [] W) :
    CallsIn Fence.wide n Tryz.prog 101 #[.func (.yield l) #[] #[], .pointer (some ⟨Bm, 0, none⟩)] W fun e W' => (∃ v, e = .returned v) ∧
      ((∃ ys, ys = LK.attach ∧ J ys W') ∨ (∃ pre, pre <+: LK.attach ∧ Jx pre W')) := by
  have hfn : Fence.wide.fn 102 := trivial
  have hcb := hbox.cell 0 (v := .map (some b)) rfl
  have hkeys := Tryz.keysTok b nn LK.reverse hk (LK.map (·.1)) hL (by rw [List.map_reverse]; exact List.reverse_perm _) (by simpa using hlen) W hown
  simp only [List.length_map] at hkeys
  refine callsIn_of_wp Tryz.func101 rfl trivial ?_ rfl
  simp only [Tryz.ntmps101, List.size_toArray, List.length_cons, List.length_nil, Nat.reduceAdd, Nat.reduceSub, Array.replicate_succ, Array.replicate_zero, List.push_toArray, List.append_toArray, List.nil_append, List.cons_append]
  gi_wp2_with (gi_at_call 102; refine (callsIn_wide.2 hkeys).mono ?_; rintro e w1 ⟨p, cap, rfl, hrow, hb⟩)
  clear hkeys
  have hJ1 : J [] w1 := hJ [] W w1 none h0 (grown_of_below hb) (fun r e => by cases e)
  have hbox1 : BoxN w1 Bm 102 #[.map (some b)] := hbox.below hb hbox.lt
  have hown1 : w1.ownsMap Tryz.prog 97 ptrR b nn (mapD LK.reverse) := (KeepsT.below (bad := bad) hb).map hown
  gi_loopw [10] (fun i wr => ∃ k : Nat, k ≤ LK.length ∧ i = .int .i64 k ∧ J (LK.attach.take k) wr ∧ KeepsT bad w1 wr) (fun i _ => LK.length - (intOf i).toNat)
  case atStart => exact ⟨0, Nat.zero_le _, rfl, hJ1, KeepsT.refl _ _⟩
  case round =>
    obtain ⟨k, hkl, rfl, hJ2, hkt⟩ := hrel
    by_cases hlt : k < LK.length
    · have hlt' : (k : Int) < (LK.length : Int) := by omega
      obtain ⟨g, rfl⟩ : ∃ g, p = some ⟨g, 0, none⟩ := by
        rcases hrow.2 with ⟨h, h0⟩ | ⟨g, _, _, h, _⟩
        · omega
        · simp at h; exact ⟨g, h.1⟩
      have hrow2 := hkt.row hrow hb1
      have hbox2 := hkt.box hbox1 hb2
      have hown2 := hkt.map hown1
      have hcb2 := hbox2.cell 0 (v := .map (some b)) rfl
      have hBl := hbox2.lt
      obtain ⟨f0, f1⟩ := flatN_at (LK.map (·.1)) k (by simpa using hlt)
      have c0 := hrow2.cellAt (k * 2) (by omega)
      have c1 := hrow2.cellAt (k * 2 + 1) (by omega)
      rw [f0] at c0
      rw [f1] at c1
      have hlta : k < LK.attach.length := by simpa using hlt
      have hts := take_succ_get LK.attach k hlta
      have hxe : LK[k] = LK.attach[k].1 := by simp
      simp only [List.getElem_map] at c0 c1
      rw [hxe] at c0 c1
      clear hxe
      generalize LK.attach[k] = xk at *
      have hmem : xk.1 ∈ LK := xk.2
      have hwf : NmWf xk.1.1 := hk.1 xk.1 (by simpa using hmem)
      have hget := ksGet_of_mem hk (x := xk.1.1) (b := xk.1.2) (by simpa using hmem)
      have hlook := Tryz.nmType.look_hit hk hwf (hown2.alloc (.cells #[.int .i64 xk.1.1.1, .int .u64 xk.1.1.2] 97)) Tryz.underlying102 (Tryz.zeroValue123 _) hget
      have hJ3 : J (LK.attach.take k) (wr.alloc (.cells #[.int .i64 xk.1.1.1, .int .u64 xk.1.1.2] 97)) := hJ _ wr _ none hJ2 (World.grownBy_alloc _ _ _) (fun r e => by cases e)
      obtain ⟨fn, tmps, assign, body, hy, hR⟩ := hY (LK.attach.take k) xk _ hJ3 (by rw [List.length_take]; omega)
      unfold nmV at hlook hy
      have hTS := Hid.intro hts
      clear hrow hrow2 hown hown1 hown2 hget hmem hk hL f0 f1 hY hts hcb
      gi_wp2
      refine hR.mono ?_
      rintro e W3 (⟨rfl, hJ4, hk3⟩ | ⟨rfl, hJx3⟩)
      · gi_wp2
        go_roundw
        case rel => exact ⟨k + 1, by omega, by go_num, by rw [show LK.attach.take (k + 1) = _ from hTS]; exact hJ4, (hkt.trans (KeepsT.alloc _ _)).trans hk3⟩
        case measure => simp [intOf]; omega
      · gi_wp2
        refine bodyPost_ret (results_none rfl _ _ _) rfl ?_
        exact ⟨⟨_, rfl⟩, .inr ⟨_, by rw [← show LK.attach.take (k + 1) = _ from hTS]; exact List.take_prefix _ _, hJx3⟩⟩
    · have hge : ¬ (k : Int) < (LK.length : Int) := by omega
      gi_wp2
      go_end0
      exact ⟨⟨_, rfl⟩, .inl (by rw [List.take_of_length_le (by rw [List.length_attach]; omega)] at hJ2; exact hJ2)⟩

theorem Tryz.walkTok_stops (n : Nat) (hn : 1 ≤ n) (bad : TypeId → Bool) (hb1 : bad 97 = false) (hb2 : bad 102 = false) (Bm b nn : Nat) (LK : List ((Int × Int) × Nat)) (hk : KsOk LK.reverse) (hL : SortedN (LK.map (·.1))) (hlen : LK.length ≤ 1000)
    (w : World) (hbox : BoxN w Bm 102 #[.map (some b)]) (hown : w.ownsMap Tryz.prog 97 ptrR b nn (mapD LK.reverse)) :
    SeqStopsK Fence.wide n Tryz.prog 101 #[.pointer (some ⟨Bm, 0, none⟩)] (fun x : { p // p ∈ LK } => #[nmV x.1.1, .pointer (some ⟨x.1.2, 0, none⟩)]) (KeepsT bad) (fun ys => ys = LK.attach) (fun pre => pre <+: LK.attach) LK.length w := fun l J Jx W hW hJ _ hY h0 =>
  Tryz.walkTok1_in n hn bad hb1 hb2 l Bm b nn LK hk hL hlen J Jx hY W hJ (hbox.below hW hbox.lt) ((KeepsT.below (bad := bad) hW).map hown) h0

set_option maxHeartbeats 1000000 in
theorem Tryz.walkTok (mb : Option Nat) (w : World) :
    Calls Tryz.prog 53 #[.map mb] w fun e w' => e = .returned (.func (.func 101) #[] #[.pointer (some ⟨w.heap.size, 0, none⟩)]) ∧ w' = w.alloc (.cells #[.map mb] 102) := by
  go_enter Tryz.func53, Tryz.ntmps53
  go_wp2
  go_ret
  exact ⟨rfl, rfl⟩
set_option maxRecDepth 100000 in
set_option maxHeartbeats 2000000 in
theorem Tryz.walkLea1_in (n : Nat) (hn : 1 ≤ n) (bad : TypeId → Bool) (hb1 : bad 97 = false) (hb2 : bad 103 = false) (l Bm b nn : Nat) (LK : List ((Int × Int) × Nat)) (hk : KsOk LK.reverse) (hL : SortedN (LK.map (·.1))) (hlen : LK.length ≤ 1000)
    (J Jx : List { p // p ∈ LK } → World → Prop)
    (hY : ∀ pre x W, J pre W → pre.length < LK.length → YieldAt Fence.wide (n - 1) Tryz.prog l #[nmV x.1.1, .pointer (some ⟨x.1.2, 0, none⟩)] W fun e W' =>
      (e = .returned (.bool true) ∧ J (pre ++ [x]) W' ∧ KeepsT bad W W') ∨ (e = .returned (.bool false) ∧ Jx (pre ++ [x]) W'))
    (W : World) (hJ : AbidesFrom W.heap.size J) (hbox : BoxN W Bm 103 #[.map (some b)]) (hown : W.ownsMap Tryz.prog 97 ptrR b nn (mapD LK.reverse)) (h0 : J [] W) :
    CallsIn Fence.wide n Tryz.prog 105 #[.func (.yield l) #[] #[], .pointer (some ⟨Bm, 0, none⟩)] W fun e W' => (∃ v, e = .returned v) ∧
      ((∃ ys, ys = LK.attach ∧ J ys W') ∨ (∃ pre, pre <+: LK.attach ∧ Jx pre W')) := by
  have hfn : Fence.wide.fn 106 := trivial
  have hcb := hbox.cell 0 (v := .map (some b)) rfl
  have hkeys := Tryz.keysLea b nn LK.reverse hk (LK.map (·.1)) hL (by rw [List.map_reverse]; exact List.reverse_perm _) (by simpa using hlen) W hown
  simp only [List.length_map] at hkeys
  refine callsIn_of_wp Tryz.func105 rfl trivial ?_ rfl
  simp only [Tryz.ntmps105, List.size_toArray, List.length_cons, List.length_nil, Nat.reduceAdd, Nat.reduceSub, Array.replicate_succ, Array.replicate_zero, List.push_toArray, List.append_toArray, List.nil_append, List.cons_append]
  gi_wp2_with (gi_at_call 106; refine (callsIn_wide.2 hkeys).mono ?_; rintro e w1 ⟨p, cap, rfl, hrow, hb⟩)
  clear hkeys
  have hJ1 : J [] w1 := hJ [] W w1 none h0 (grown_of_below hb) (fun r e => by cases e)
  have hbox1 : BoxN w1 Bm 103 #[.map (some b)] := hbox.below hb hbox.lt
  have hown1 : w1.ownsMap Tryz.prog 97 ptrR b nn (mapD LK.reverse) := (KeepsT.below (bad := bad) hb).map hown
  gi_loopw [10] (fun i wr => ∃ k : Nat, k ≤ LK.length ∧ i = .int .i64 k ∧ J (LK.attach.take k) wr ∧ KeepsT bad w1 wr) (fun i _ => LK.length - (intOf i).toNat)
  case atStart => exact ⟨0, Nat.zero_le _, rfl, hJ1, KeepsT.refl _ _⟩
  case round =>
    obtain ⟨k, hkl, rfl, hJ2, hkt⟩ := hrel
    by_cases hlt : k < LK.length
    · have hlt' : (k : Int) < (LK.length : Int) := by omega
      obtain ⟨g, rfl⟩ : ∃ g, p = some ⟨g, 0, none⟩ := by
        rcases hrow.2 with ⟨h, h0⟩ | ⟨g, _, _, h, _⟩
        · omega
        · simp at h; exact ⟨g, h.1⟩
      have hrow2 := hkt.row hrow hb1
      have hbox2 := hkt.box hbox1 hb2
      have hown2 := hkt.map hown1
      have hcb2 := hbox2.cell 0 (v := .map (some b)) rfl
      have hBl := hbox2.lt
      obtain ⟨f0, f1⟩ := flatN_at (LK.map (·.1)) k (by simpa using hlt)
      have c0 := hrow2.cellAt (k * 2) (by omega)
      have c1 := hrow2.cellAt (k * 2 + 1) (by omega)
      rw [f0] at c0
      rw [f1] at c1
      have hlta : k < LK.attach.length := by simpa using hlt
      have hts := take_succ_get LK.attach k hlta
      have hxe : LK[k] = LK.attach[k].1 := by simp
      simp only [List.getElem_map] at c0 c1
      rw [hxe] at c0 c1
      clear hxe
      generalize LK.attach[k] = xk at *
      have hmem : xk.1 ∈ LK := xk.2
      have hwf : NmWf xk.1.1 := hk.1 xk.1 (by simpa using hmem)
      have hget := ksGet_of_mem hk (x := xk.1.1) (b := xk.1.2) (by simpa using hmem)
      have hlook := Tryz.nmType.look_hit hk hwf (hown2.alloc (.cells #[.int .i64 xk.1.1.1, .int .u64 xk.1.1.2] 97)) Tryz.underlying103 (Tryz.zeroValue109 _) hget
      have hJ3 : J (LK.attach.take k) (wr.alloc (.cells #[.int .i64 xk.1.1.1, .int .u64 xk.1.1.2] 97)) := hJ _ wr _ none hJ2 (World.grownBy_alloc _ _ _) (fun r e => by cases e)
      obtain ⟨fn, tmps, assign, body, hy, hR⟩ := hY (LK.attach.take k) xk _ hJ3 (by rw [List.length_take]; omega)
      unfold nmV at hlook hy
      have hTS := Hid.intro hts
      clear hrow hrow2 hown hown1 hown2 hget hmem hk hL f0 f1 hY hts hcb
      gi_wp2
      refine hR.mono ?_
      rintro e W3 (⟨rfl, hJ4, hk3⟩ | ⟨rfl, hJx3⟩)
      · gi_wp2
        go_roundw
        case rel => exact ⟨k + 1, by omega, by go_num, by rw [show LK.attach.take (k + 1) = _ from hTS]; exact hJ4, (hkt.trans (KeepsT.alloc _ _)).trans hk3⟩
        case measure => simp [intOf]; omega
      · gi_wp2
        refine bodyPost_ret (results_none rfl _ _ _) rfl ?_
        exact ⟨⟨_, rfl⟩, .inr ⟨_, by rw [← show LK.attach.take (k + 1) = _ from hTS]; exact List.take_prefix _ _, hJx3⟩⟩
    · have hge : ¬ (k : Int) < (LK.length : Int) := by omega
      gi_wp2
      go_end0
      exact ⟨⟨_, rfl⟩, .inl (by rw [List.take_of_length_le (by rw [List.length_attach]; omega)] at hJ2; exact hJ2)⟩

theorem Tryz.walkLea_stops (n : Nat) (hn : 1 ≤ n) (bad : TypeId → Bool) (hb1 : bad 97 = false) (hb2 : bad 103 = false) (Bm b nn : Nat) (LK : List ((Int × Int) × Nat)) (hk : KsOk LK.reverse) (hL : SortedN (LK.map (·.1))) (hlen : LK.length ≤ 1000)
    (w : World) (hbox : BoxN w Bm 103 #[.map (some b)]) (hown : w.ownsMap Tryz.prog 97 ptrR b nn (mapD LK.reverse)) :
    SeqStopsK Fence.wide n Tryz.prog 105 #[.pointer (some ⟨Bm, 0, none⟩)] (fun x : { p // p ∈ LK } => #[nmV x.1.1, .pointer (some ⟨x.1.2, 0, none⟩)]) (KeepsT bad) (fun ys => ys = LK.attach) (fun pre => pre <+: LK.attach) LK.length w := fun l J Jx W hW hJ _ hY h0 =>
  Tryz.walkLea1_in n hn bad hb1 hb2 l Bm b nn LK hk hL hlen J Jx hY W hJ (hbox.below hW hbox.lt) ((KeepsT.below (bad := bad) hW).map hown) h0

set_option maxHeartbeats 1000000 in
theorem Tryz.walkLea (mb : Option Nat) (w : World) :
    Calls Tryz.prog 55 #[.map mb] w fun e w' => e = .returned (.func (.func 105) #[] #[.pointer (some ⟨w.heap.size, 0, none⟩)]) ∧ w' = w.alloc (.cells #[.map mb] 103) := by
  go_enter Tryz.func55, Tryz.ntmps55
  go_wp2
  go_ret
  exact ⟨rfl, rfl⟩
end Go.Proofs
