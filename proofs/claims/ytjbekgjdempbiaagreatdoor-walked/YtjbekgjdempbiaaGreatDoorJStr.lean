import Derived.Test.YtjbekgjdempbiaaGreatDoorJMapOps
import Derived.Test.YtjbekgjdempbiaaGreatDoorJKeys
import Derived.Test.YtjbekgjdempbiaaGreatDoorJLay
import Derived.Test.YtjbekgjdempbiaaGreatDoorJSortBase
import Derived.Lib.ItoaMem
import Derived.Lib.Walk
import Derived.WalkKit
import Derived.WalkSmall
import Derived.WalkSpells
import Derived.BigCall
import Derived.BigGuard
/-
  order.Walk at names: it hands its rounds the names in their order, each with its pointer.
-/
namespace Go.Proofs
open Go.RowKit Go.Maps Go.Sort Go.Shelf Go.WideMaps

attribute [local go_sem] Oper.semAt_some

theorem take_succ_get {α : Type} (l : List α) (k : Nat) (h : k < l.length) : l.take (k + 1) = l.take k ++ [l[k]] := by rw [List.take_succ_eq_append_getElem h]

theorem grown_of_below {w w' : World} (h : Below w.heap.size w w') : w.grownBy w' none := ⟨h.os, h.tape, h.output, h.size, fun k hk _ => h.block k hk⟩
theorem flatN_at (L : List (Int × Int)) (k : Nat) (h : k < L.length) : (flatN L)[k * 2]? = some (.int .i64 L[k].1) ∧ (flatN L)[k * 2 + 1]? = some (.int .u64 L[k].2) := by
  rw [get_flatN L (k * 2) (by omega), get_flatN L (k * 2 + 1) (by omega)]
  rw [show k * 2 / 2 = k from by omega, show k * 2 % 2 = 0 from by omega, show (k * 2 + 1) / 2 = k from by omega, show (k * 2 + 1) % 2 = 1 from by omega]
  rw [getElem!_pos L k h]
  exact ⟨rfl, rfl⟩

/-- the shape of a token's, a lease's value. -/
def ShTok (v : Value) : Prop := ∃ (ak au at_ tr : Int) (pd : Bool), v = .agg #[.int .i64 ak, .int .u64 au, .int .u64 at_, .int .i64 tr, .bool pd]
def ShLea (v : Value) : Prop := ∃ (ak au at_ tr : Int) (pd : Bool) (pth : ByteArray) (la : Int), v = .agg #[.int .i64 ak, .int .u64 au, .int .u64 at_, .int .i64 tr, .bool pd, .string pth, .int .u64 la]

set_option maxRecDepth 100000 in
set_option maxHeartbeats 2000000 in
theorem Tryz.walkTok1_in (n : Nat) (hn : 1 ≤ n) (bad : TypeId → Bool) (hb1 : bad 114 = false) (hb2 : bad 120 = false) (l Bm b nn : Nat) (LK : List ((Int × Int) × Value)) (hk : KsOk LK.reverse) (hL : SortedN (LK.map (·.1))) (hlen : LK.length ≤ 1000) (hsh : ∀ p ∈ LK, ShTok p.2)
    (J Jx : List { p // p ∈ LK } → World → Prop)
    (hY : ∀ pre x W, J pre W → pre.length < LK.length → YieldAt Fence.wide (n - 1) Tryz.prog l #[nmV x.1.1, x.1.2] W fun e W' =>
      (e = .returned (.bool true) ∧ J (pre ++ [x]) W' ∧ KeepsT bad W W') ∨ (e = .returned (.bool false) ∧ Jx (pre ++ [x]) W'))
    (W : World) (hJ : AbidesFrom W.heap.size J) (hbox : BoxN W Bm 120 #[.map (some b)]) (hown : W.ownsMap Tryz.prog 114 valR b nn (mapD LK.reverse)) (h0 : J [] W) :
    CallsIn Fence.wide n Tryz.prog 136 #[.func (.yield l) #[] #[], .pointer (some ⟨Bm, 0, none⟩)] W fun e W' => (∃ v, e = .returned v) ∧
      ((∃ ys, ys = LK.attach ∧ J ys W') ∨ (∃ pre, pre <+: LK.attach ∧ Jx pre W')) := by
  have hfn : Fence.wide.fn 137 := trivial
  have hcb := hbox.cell 0 (v := .map (some b)) rfl
  have hkeys := Tryz.keysTok b nn LK.reverse hk (LK.map (·.1)) hL (by rw [List.map_reverse]; exact List.reverse_perm _) (by simpa using hlen) W hown
  simp only [List.length_map] at hkeys
  refine callsIn_of_wp Tryz.func136 rfl trivial ?_ rfl
  simp only [Tryz.ntmps136, List.size_toArray, List.length_cons, List.length_nil, Nat.reduceAdd, Nat.reduceSub, Array.replicate_succ, Array.replicate_zero, List.push_toArray, List.append_toArray, List.nil_append, List.cons_append]
  gi_wp2_with (gi_at_call 137; refine (callsIn_wide.2 hkeys).mono ?_; rintro e w1 ⟨p, cap, rfl, hrow, hb⟩)
  clear hkeys
  have hJ1 : J [] w1 := hJ [] W w1 none h0 (grown_of_below hb) (fun r e => by cases e)
  have hbox1 : BoxN w1 Bm 120 #[.map (some b)] := hbox.below hb hbox.lt
  have hown1 : w1.ownsMap Tryz.prog 114 valR b nn (mapD LK.reverse) := (KeepsT.below (bad := bad) hb).map hown
  gi_loopw [10] (fun i wr => ∃ k : Nat, k ≤ LK.length ∧ i = .int .i64 k ∧ J (LK.attach.take k) wr ∧ KeepsT bad w1 wr) (fun i _ => LK.length - (intOf i).toNat)
  case atStart => exact ⟨0, Nat.zero_le _, rfl, hJ1, KeepsT.refl _ _⟩
  case round =>
    obtain ⟨k, hkl, rfl, hJ2, hkt⟩ := hrel
    by_cases hlt : k < LK.length
    · have hlt' : (k : Int) < (LK.length : Int) := by omega
      obtain ⟨g, rfl⟩ : ∃ g, p = some ⟨g, 0, none⟩ := by
        rcases hrow.2 with ⟨h, h0⟩ | ⟨g, _, _, h, _⟩
        · omega
        · simp at h; exact ⟨g, h.1⟩
      have hrow2 := hkt.row hrow hb1
      have hbox2 := hkt.box hbox1 hb2
      have hown2 := hkt.map hown1
      have hcb2 := hbox2.cell 0 (v := .map (some b)) rfl
      have hBl := hbox2.lt
      obtain ⟨f0, f1⟩ := flatN_at (LK.map (·.1)) k (by simpa using hlt)
      have c0 := hrow2.cellAt (k * 2) (by omega)
      have c1 := hrow2.cellAt (k * 2 + 1) (by omega)
      rw [f0] at c0
      rw [f1] at c1
      have hlta : k < LK.attach.length := by simpa using hlt
      have hts := take_succ_get LK.attach k hlta
      have hxe : LK[k] = LK.attach[k].1 := by simp
      simp only [List.getElem_map] at c0 c1
      rw [hxe] at c0 c1
      clear hxe
      generalize LK.attach[k] = xk at *
      have hmem : xk.1 ∈ LK := xk.2
      have hwf : NmWf xk.1.1 := hk.1 xk.1 (by simpa using hmem)
      have hget := ksGet_of_mem hk (x := xk.1.1) (b := xk.1.2) (by simpa using hmem)
      have hlook := Tryz.nmType.look_hit hk hwf (hown2.alloc (.cells #[.int .i64 xk.1.1.1, .int .u64 xk.1.1.2] 114)) Tryz.underlying120 (Tryz.zeroValue153 _) hget
      obtain ⟨ak, au, at_, tr, pd, hsv⟩ := hsh xk.1 hmem
      have hJ2' : J (LK.attach.take k) (wr.alloc (.cells #[.int .i64 xk.1.1.1, .int .u64 xk.1.1.2] 114)) := hJ _ wr _ none hJ2 (World.grownBy_alloc _ _ _) (fun r e => by cases e)
      have hJ3 : J (LK.attach.take k) ((wr.alloc (.cells #[.int .i64 xk.1.1.1, .int .u64 xk.1.1.2] 114)).alloc (.cells #[.int .i64 ak, .int .u64 au, .int .u64 at_, .int .i64 tr, .bool pd] 153)) := hJ _ _ _ none hJ2' (World.grownBy_alloc _ _ _) (fun r e => by cases e)
      obtain ⟨fn, tmps, assign, body, hy, hR⟩ := hY (LK.attach.take k) xk _ hJ3 (by rw [List.length_take]; omega)
      unfold nmV at hlook hy
      rw [hsv] at hlook hy
      have hTS := Hid.intro hts
      clear hrow hrow2 hown hown1 hown2 hget hmem hk hL f0 f1 hY hts hcb hsv hJ2'
      gi_wp2
      refine hR.mono ?_
      rintro e W3 (⟨rfl, hJ4, hk3⟩ | ⟨rfl, hJx3⟩)
      · gi_wp2
        go_roundw
        case rel => exact ⟨k + 1, by omega, by go_num, by rw [show LK.attach.take (k + 1) = _ from hTS]; exact hJ4, ((hkt.trans (KeepsT.alloc _ _)).trans (KeepsT.alloc _ _)).trans hk3⟩
        case measure => simp [intOf]; omega
      · gi_wp2
        refine bodyPost_ret (results_none rfl _ _ _) rfl ?_
        exact ⟨⟨_, rfl⟩, .inr ⟨_, by rw [← show LK.attach.take (k + 1) = _ from hTS]; exact List.take_prefix _ _, hJx3⟩⟩
    · have hge : ¬ (k : Int) < (LK.length : Int) := by omega
      gi_wp2
      go_end0
      exact ⟨⟨_, rfl⟩, .inl (by rw [List.take_of_length_le (by rw [List.length_attach]; omega)] at hJ2; exact hJ2)⟩

theorem Tryz.walkTok_stops (n : Nat) (hn : 1 ≤ n) (bad : TypeId → Bool) (hb1 : bad 114 = false) (hb2 : bad 120 = false) (Bm b nn : Nat) (LK : List ((Int × Int) × Value)) (hk : KsOk LK.reverse) (hL : SortedN (LK.map (·.1))) (hlen : LK.length ≤ 1000) (hsh : ∀ p ∈ LK, ShTok p.2)
    (w : World) (hbox : BoxN w Bm 120 #[.map (some b)]) (hown : w.ownsMap Tryz.prog 114 valR b nn (mapD LK.reverse)) :
    SeqStopsK Fence.wide n Tryz.prog 136 #[.pointer (some ⟨Bm, 0, none⟩)] (fun x : { p // p ∈ LK } => #[nmV x.1.1, x.1.2]) (KeepsT bad) (fun ys => ys = LK.attach) (fun pre => pre <+: LK.attach) LK.length w := fun l J Jx W hW hJ _ hY h0 =>
  Tryz.walkTok1_in n hn bad hb1 hb2 l Bm b nn LK hk hL hlen hsh J Jx hY W hJ (hbox.below hW hbox.lt) ((KeepsT.below (bad := bad) hW).map hown) h0

set_option maxHeartbeats 1000000 in
theorem Tryz.walkTok (mb : Option Nat) (w : World) :
    Calls Tryz.prog 79 #[.map mb] w fun e w' => e = .returned (.func (.func 136) #[] #[.pointer (some ⟨w.heap.size, 0, none⟩)]) ∧ w' = w.alloc (.cells #[.map mb] 120) := by
  go_enter Tryz.func79, Tryz.ntmps79
  go_wp2
  go_ret
  exact ⟨rfl, rfl⟩
set_option maxRecDepth 100000 in
set_option maxHeartbeats 2000000 in
theorem Tryz.walkLea1_in (n : Nat) (hn : 1 ≤ n) (bad : TypeId → Bool) (hb1 : bad 114 = false) (hb2 : bad 121 = false) (l Bm b nn : Nat) (LK : List ((Int × Int) × Value)) (hk : KsOk LK.reverse) (hL : SortedN (LK.map (·.1))) (hlen : LK.length ≤ 1000) (hsh : ∀ p ∈ LK, ShLea p.2)
    (J Jx : List { p // p ∈ LK } → World → Prop)
    (hY : ∀ pre x W, J pre W → pre.length < LK.length → YieldAt Fence.wide (n - 1) Tryz.prog l #[nmV x.1.1, x.1.2] W fun e W' =>
      (e = .returned (.bool true) ∧ J (pre ++ [x]) W' ∧ KeepsT bad W W') ∨ (e = .returned (.bool false) ∧ Jx (pre ++ [x]) W'))
    (W : World) (hJ : AbidesFrom W.heap.size J) (hbox : BoxN W Bm 121 #[.map (some b)]) (hown : W.ownsMap Tryz.prog 114 valR b nn (mapD LK.reverse)) (h0 : J [] W) :
    CallsIn Fence.wide n Tryz.prog 139 #[.func (.yield l) #[] #[], .pointer (some ⟨Bm, 0, none⟩)] W fun e W' => (∃ v, e = .returned v) ∧
      ((∃ ys, ys = LK.attach ∧ J ys W') ∨ (∃ pre, pre <+: LK.attach ∧ Jx pre W')) := by
  have hfn : Fence.wide.fn 140 := trivial
  have hcb := hbox.cell 0 (v := .map (some b)) rfl
  have hkeys := Tryz.keysLea b nn LK.reverse hk (LK.map (·.1)) hL (by rw [List.map_reverse]; exact List.reverse_perm _) (by simpa using hlen) W hown
  simp only [List.length_map] at hkeys
  refine callsIn_of_wp Tryz.func139 rfl trivial ?_ rfl
  simp only [Tryz.ntmps139, List.size_toArray, List.length_cons, List.length_nil, Nat.reduceAdd, Nat.reduceSub, Array.replicate_succ, Array.replicate_zero, List.push_toArray, List.append_toArray, List.nil_append, List.cons_append]
  gi_wp2_with (gi_at_call 140; refine (callsIn_wide.2 hkeys).mono ?_; rintro e w1 ⟨p, cap, rfl, hrow, hb⟩)
  clear hkeys
  have hJ1 : J [] w1 := hJ [] W w1 none h0 (grown_of_below hb) (fun r e => by cases e)
  have hbox1 : BoxN w1 Bm 121 #[.map (some b)] := hbox.below hb hbox.lt
  have hown1 : w1.ownsMap Tryz.prog 114 valR b nn (mapD LK.reverse) := (KeepsT.below (bad := bad) hb).map hown
  gi_loopw [10] (fun i wr => ∃ k : Nat, k ≤ LK.length ∧ i = .int .i64 k ∧ J (LK.attach.take k) wr ∧ KeepsT bad w1 wr) (fun i _ => LK.length - (intOf i).toNat)
  case atStart => exact ⟨0, Nat.zero_le _, rfl, hJ1, KeepsT.refl _ _⟩
  case round =>
    obtain ⟨k, hkl, rfl, hJ2, hkt⟩ := hrel
    by_cases hlt : k < LK.length
    · have hlt' : (k : Int) < (LK.length : Int) := by omega
      obtain ⟨g, rfl⟩ : ∃ g, p = some ⟨g, 0, none⟩ := by
        rcases hrow.2 with ⟨h, h0⟩ | ⟨g, _, _, h, _⟩
        · omega
        · simp at h; exact ⟨g, h.1⟩
      have hrow2 := hkt.row hrow hb1
      have hbox2 := hkt.box hbox1 hb2
      have hown2 := hkt.map hown1
      have hcb2 := hbox2.cell 0 (v := .map (some b)) rfl
      have hBl := hbox2.lt
      obtain ⟨f0, f1⟩ := flatN_at (LK.map (·.1)) k (by simpa using hlt)
      have c0 := hrow2.cellAt (k * 2) (by omega)
      have c1 := hrow2.cellAt (k * 2 + 1) (by omega)
      rw [f0] at c0
      rw [f1] at c1
      have hlta : k < LK.attach.length := by simpa using hlt
      have hts := take_succ_get LK.attach k hlta
      have hxe : LK[k] = LK.attach[k].1 := by simp
      simp only [List.getElem_map] at c0 c1
      rw [hxe] at c0 c1
      clear hxe
      generalize LK.attach[k] = xk at *
      have hmem : xk.1 ∈ LK := xk.2
      have hwf : NmWf xk.1.1 := hk.1 xk.1 (by simpa using hmem)
      have hget := ksGet_of_mem hk (x := xk.1.1) (b := xk.1.2) (by simpa using hmem)
      have hlook := Tryz.nmType.look_hit hk hwf (hown2.alloc (.cells #[.int .i64 xk.1.1.1, .int .u64 xk.1.1.2] 114)) Tryz.underlying121 (Tryz.zeroValue131 _) hget
      obtain ⟨ak, au, at_, tr, pd, pth, la, hsv⟩ := hsh xk.1 hmem
      have hJ2' : J (LK.attach.take k) (wr.alloc (.cells #[.int .i64 xk.1.1.1, .int .u64 xk.1.1.2] 114)) := hJ _ wr _ none hJ2 (World.grownBy_alloc _ _ _) (fun r e => by cases e)
      have hJ3 : J (LK.attach.take k) ((wr.alloc (.cells #[.int .i64 xk.1.1.1, .int .u64 xk.1.1.2] 114)).alloc (.cells #[.int .i64 ak, .int .u64 au, .int .u64 at_, .int .i64 tr, .bool pd, .string pth, .int .u64 la] 131)) := hJ _ _ _ none hJ2' (World.grownBy_alloc _ _ _) (fun r e => by cases e)
      obtain ⟨fn, tmps, assign, body, hy, hR⟩ := hY (LK.attach.take k) xk _ hJ3 (by rw [List.length_take]; omega)
      unfold nmV at hlook hy
      rw [hsv] at hlook hy
      have hTS := Hid.intro hts
      clear hrow hrow2 hown hown1 hown2 hget hmem hk hL f0 f1 hY hts hcb hsv hJ2'
      gi_wp2
      refine hR.mono ?_
      rintro e W3 (⟨rfl, hJ4, hk3⟩ | ⟨rfl, hJx3⟩)
      · gi_wp2
        go_roundw
        case rel => exact ⟨k + 1, by omega, by go_num, by rw [show LK.attach.take (k + 1) = _ from hTS]; exact hJ4, ((hkt.trans (KeepsT.alloc _ _)).trans (KeepsT.alloc _ _)).trans hk3⟩
        case measure => simp [intOf]; omega
      · gi_wp2
        refine bodyPost_ret (results_none rfl _ _ _) rfl ?_
        exact ⟨⟨_, rfl⟩, .inr ⟨_, by rw [← show LK.attach.take (k + 1) = _ from hTS]; exact List.take_prefix _ _, hJx3⟩⟩
    · have hge : ¬ (k : Int) < (LK.length : Int) := by omega
      gi_wp2
      go_end0
      exact ⟨⟨_, rfl⟩, .inl (by rw [List.take_of_length_le (by rw [List.length_attach]; omega)] at hJ2; exact hJ2)⟩

theorem Tryz.walkLea_stops (n : Nat) (hn : 1 ≤ n) (bad : TypeId → Bool) (hb1 : bad 114 = false) (hb2 : bad 121 = false) (Bm b nn : Nat) (LK : List ((Int × Int) × Value)) (hk : KsOk LK.reverse) (hL : SortedN (LK.map (·.1))) (hlen : LK.length ≤ 1000) (hsh : ∀ p ∈ LK, ShLea p.2)
    (w : World) (hbox : BoxN w Bm 121 #[.map (some b)]) (hown : w.ownsMap Tryz.prog 114 valR b nn (mapD LK.reverse)) :
    SeqStopsK Fence.wide n Tryz.prog 139 #[.pointer (some ⟨Bm, 0, none⟩)] (fun x : { p // p ∈ LK } => #[nmV x.1.1, x.1.2]) (KeepsT bad) (fun ys => ys = LK.attach) (fun pre => pre <+: LK.attach) LK.length w := fun l J Jx W hW hJ _ hY h0 =>
  Tryz.walkLea1_in n hn bad hb1 hb2 l Bm b nn LK hk hL hlen hsh J Jx hY W hJ (hbox.below hW hbox.lt) ((KeepsT.below (bad := bad) hW).map hown) h0

set_option maxHeartbeats 1000000 in
theorem Tryz.walkLea (mb : Option Nat) (w : World) :
    Calls Tryz.prog 81 #[.map mb] w fun e w' => e = .returned (.func (.func 139) #[] #[.pointer (some ⟨w.heap.size, 0, none⟩)]) ∧ w' = w.alloc (.cells #[.map mb] 121) := by
  go_enter Tryz.func81, Tryz.ntmps81
  go_wp2
  go_ret
  exact ⟨rfl, rfl⟩
end Go.Proofs

/-
  strconv.FormatUint at base 10; (Name).String.
-/
namespace Go.Proofs
open Go.RowKit Go.Sort Go.Lib Go.Shelf

/-- the package variables that the calls read. -/
structure Tryz.Env (w : World) : Prop where
  tab : Lib.TabIs Tryz.prog w "internal/strconv.uint64pow10" .u64 Lib.pow10Tab
  syn : ∃ tp p, w.var? Tryz.prog "strconv.ErrSyntax" = some #[.iface tp p]
  rng : ∃ tp p, w.var? Tryz.prog "strconv.ErrRange" = some #[.iface tp p]
theorem Tryz.gTab : Tryz.prog.globalNamed "internal/strconv.uint64pow10" = some 3 := by kernel_rfl
theorem Tryz.gSyn : Tryz.prog.globalNamed "strconv.ErrSyntax" = some 1 := by kernel_rfl
theorem Tryz.gRng : Tryz.prog.globalNamed "strconv.ErrRange" = some 2 := by kernel_rfl
theorem Tryz.Env.below {w w' : World} {B : Nat} (h : Tryz.Env w) (hb : Below B w w') (hB : 6 ≤ B) : Tryz.Env w' := by
  obtain ⟨h1, ⟨t2, p2, h2⟩, ⟨t3, p3, h3⟩⟩ := h
  exact ⟨var?_below hb Tryz.gTab (by omega) h1, ⟨t2, p2, var?_below hb Tryz.gSyn (by omega) h2⟩, ⟨t3, p3, var?_below hb Tryz.gRng (by omega) h3⟩⟩

theorem Grew.below {w w' : World} (h : Grew w w') : Below w.heap.size w w' := by
  obtain ⟨q, os, rfl⟩ := h
  refine ⟨rfl, rfl, rfl, by simp [grow, World.drewN], fun k hk => ?_⟩
  show (w.heap ++ os)[k]? = w.heap[k]?
  rw [Array.getElem?_append_left hk]

theorem zeros24_holds (w : World) (T : TypeId) (nd : Nat) (hs : nd ≤ 24) : Holds (fun (b : UInt8) => Value.int .u8 (b.toNat : Int)) (w.alloc (.cells Lib.zeros24 T)) w.heap.size 0 (Array.replicate nd (0 : UInt8)) := fun j hj => by
  have hj' : j < nd := by simpa using hj
  refine ⟨?_, World.frozen?_alloc_new _ _ _ _⟩
  rw [World.cell?_alloc_new, Lib.zeros24_at _ (by omega), getElem!_pos _ j hj]
  simp

set_option maxHeartbeats 1000000 in
theorem Tryz.fmtSmall (u : Nat) (hu : u < 100) (w : World) :
    Calls Tryz.prog 164 #[.int .u64 u, .int .i64 10] w fun e w' => e = .returned (.string ⟨(Lib.decDigits u).toArray⟩) ∧ w' = w := by
  have hs := fun W => Any.internal_strconv_small Tryz.lays283 u hu W
  change ∀ W, Calls Tryz.prog 195 _ _ _ at hs
  have hlt : (u : Int) < 100 := by omega
  go_enter Tryz.func164, Tryz.ntmps164
  go_wp2_with (go_at_call 195; refine (hs _).mono ?_; rintro e w' ⟨rfl, rfl⟩)
  go_ret
  exact ⟨rfl, rfl⟩

set_option maxRecDepth 100000 in
set_option maxHeartbeats 2000000 in
theorem Tryz.fmtGreat (u : Nat) (hu : 100 ≤ u) (hu64 : u < 18446744073709551616) (w : World) (hE : Tryz.Env w) :
    Calls Tryz.prog 164 #[.int .u64 u, .int .i64 10] w fun e w' => e = .returned (.string ⟨(Lib.decDigits u).toArray⟩) ∧ Below w.heap.size w w' := by
  have hge : ¬ (u : Int) < 100 := by omega
  have hnd20 : Lib.nDigits u ≤ 20 := by have := Lib.numDigits_eq u (by omega) hu64; split at this <;> omega
  have hal : Tryz.prog.arrayLen 291 = 24 := by simp [Program.arrayLen, Tryz.underlying291]
  have hsl : ∀ W, (Instr.sliceAt 291 (.pointer (some ⟨w.heap.size, 0, none⟩)) none (some (.int .i64 (Lib.nDigits u : Int))) none).run Tryz.prog W = .ok (.slice (some ⟨w.heap.size, 0, none⟩) (Lib.nDigits u) 24) W := fun W => by
    rw [run_sliceAt_array_h W 291 ⟨w.heap.size, 0, none⟩ (by simp [Program.arrayLen, Program.elem, Tryz.underlying291]) .i64 (Lib.nDigits u : Int) (by omega) (by rw [hal]; omega)]
    go_simp
  have hH0 := zeros24_holds w 291 (Lib.nDigits u) (by omega)
  have hnum := Any.internal_strconv_numDigits Tryz.laysM284 u (by omega) hu64 _ (Lib.tabIs_alloc hE.tab (.cells Lib.zeros24 291))
  change Calls Tryz.prog 196 _ _ _ at hnum
  have hfmt := Any.internal_strconv_formatBase10 Tryz.lays285 w.heap.size 0 24 u (Array.replicate (Lib.nDigits u) 0) (w.alloc (.cells Lib.zeros24 291)) hH0 (by rw [Array.size_replicate]; exact Lib.lt_pow_nDigits u) hu64 (by rw [Array.size_replicate]; omega)
  change Calls Tryz.prog 197 _ _ _ at hfmt
  rw [Array.size_replicate] at hfmt
  have HH0 := Lib.hid hH0
  clear hH0 hal
  go_enter Tryz.func164, Tryz.ntmps164
  go_wp2_with (first
    | (go_at_call 196; refine hnum.mono ?_; rintro e w' ⟨rfl, rfl⟩))
  refine hfmt.mono ?_
  rintro e w' ⟨rfl, k, v', dk, rfl, hF⟩
  have hcv : (convert 267 9 (.slice (some ⟨w.heap.size, 0, none⟩) (Lib.nDigits u) 24)).run Tryz.prog ((putRow (fun (b : UInt8) => Value.int .u8 (b.toNat : Int)) (w.alloc (.cells Lib.zeros24 291)) w.heap.size 0 dk).drewN k) = .ok (.string ⟨(Lib.decDigits u).toArray⟩) ((putRow (fun (b : UInt8) => Value.int .u8 (b.toNat : Int)) (w.alloc (.cells Lib.zeros24 291)) w.heap.size 0 dk).drewN k) := by
    have h := run_convert_bytes_back (P := Tryz.prog) ((putRow (fun (b : UInt8) => Value.int .u8 (b.toNat : Int)) (w.alloc (.cells Lib.zeros24 291)) w.heap.size 0 dk).drewN k) 267 9 5 ⟨w.heap.size, 0, none⟩ 24 (Lib.decDigits u) Tryz.underlying267 Tryz.underlying5 Tryz.underlying9 (fun j hj => by
      rw [Lib.row_is_numeral hF j hj, Lib.add_plain, World.cell?_drewN]
      exact cell?_putRow (fun (b : UInt8) => Value.int .u8 (b.toNat : Int)) _ w.heap.size 0 _ dk HH0.out (by rw [hF.size, Array.size_replicate]) j (by rw [hF.size]; rw [Lib.decDigits_length] at hj; exact hj))
    rw [Lib.decDigits_length] at h
    exact h
  have hfin : Hid (Below w.heap.size w ((putRow (fun (b : UInt8) => Value.int .u8 (b.toNat : Int)) (w.alloc (.cells Lib.zeros24 291)) w.heap.size 0 dk).drewN k)) := by
    rw [alloc_eq_grow]
    obtain ⟨os', _, e⟩ := putRow_grow_new (fun (b : UInt8) => Value.int .u8 (b.toNat : Int)) w #[.cells Lib.zeros24 291] w.heap.size 0 dk (Nat.le_refl _)
    rw [e]
    exact Grew.below ⟨k, os', rfl⟩
  go_wp2
  go_ret
  exact ⟨rfl, hfin⟩

/-- what (Name).String writes. -/
def nmStr (k : Int) (u : Nat) : List UInt8 := if k = 1 then 116 :: Lib.decDigits u else if k = 2 then 108 :: Lib.decDigits u else []

theorem Tryz.fmt (u : Nat) (hu64 : u < 18446744073709551616) (w : World) (hE : Tryz.Env w) :
    Calls Tryz.prog 164 #[.int .u64 u, .int .i64 10] w fun e w' => e = .returned (.string ⟨(Lib.decDigits u).toArray⟩) ∧ Below w.heap.size w w' := by
  by_cases h : u < 100
  · exact (Tryz.fmtSmall u h w).mono fun _ _ ⟨h1, h2⟩ => ⟨h1, by rw [h2]; exact Below.refl _ _⟩
  · exact Tryz.fmtGreat u (by omega) hu64 w hE

set_option maxHeartbeats 1000000 in
theorem Tryz.fmtUint (u : Nat) (hu64 : u < 18446744073709551616) (w : World) (hE : Tryz.Env w) :
    Calls Tryz.prog 122 #[.int .u64 u, .int .i64 10] w fun e w' => e = .returned (.string ⟨(Lib.decDigits u).toArray⟩) ∧ Below w.heap.size w w' := by
  have hs := Tryz.fmt u hu64 w hE
  generalize Lib.decDigits u = ds at *
  go_enter Tryz.func122, Tryz.ntmps122
  go_wp2_with (go_at_call 164; refine hs.mono ?_; rintro e w' ⟨rfl, hb⟩)
  go_ret
  exact ⟨rfl, hb⟩

theorem ret_str {a b : ByteArray} (h : a = b) : Ending.returned (.string a) = .returned (.string b) := by rw [h]
theorem bytes_cons (c : UInt8) (ds : List UInt8) : (⟨#[c]⟩ : ByteArray) ++ ⟨ds.toArray⟩ = ⟨(c :: ds).toArray⟩ := by
  apply ByteArray.ext
  simp

theorem decDigits_len (u : Nat) (hu64 : u < 18446744073709551616) : (Lib.decDigits u).length ≤ 20 := by
  rw [Lib.decDigits_length]
  by_cases h : u = 0
  · subst h; rw [← Lib.decDigits_length, Lib.decDigits]; simp
  · have := Lib.numDigits_eq u (by omega) hu64; split at this <;> omega

set_option maxHeartbeats 1000000 in
theorem Tryz.nameString (k : Int) (u : Nat) (hu64 : u < 18446744073709551616) (w : World) (hE : Tryz.Env w) (h6 : 6 ≤ w.heap.size) :
    Calls Tryz.prog 68 #[.agg #[.int .i64 k, .int .u64 u]] w fun e w' => e = .returned (.string ⟨(nmStr k u).toArray⟩) ∧ Below w.heap.size w w' := by
  have hB0 : Below w.heap.size w (w.alloc (.cells #[.int .i64 k, .int .u64 u] 114)) := (Below.refl _ w).alloc (Nat.le_refl _) _
  have hs := Tryz.fmtUint u hu64 (w.alloc (.cells #[.int .i64 k, .int .u64 u] 114)) (hE.below hB0 h6)
  have hl := decDigits_len u hu64
  by_cases h1 : k = 1
  · have hfin : Hid (nmStr k u = 116 :: Lib.decDigits u) := by show _ = _; simp [nmStr, h1]
    have h1' : (k == 1) = true := by simp [h1]
    generalize Lib.decDigits u = ds at *
    generalize nmStr k u = r at *
    clear h1
    go_enter Tryz.func68, Tryz.ntmps68
    go_wp2_with (go_at_call 122; refine hs.mono ?_; rintro e w' ⟨rfl, hb⟩)
    go_ret
    exact ⟨ret_str (b := ⟨r.toArray⟩) ((bytes_cons 116 ds).trans (by rw [show r = 116 :: ds from hfin])), hB0.trans (hb.mono (by simp))⟩
  · have h1' : (k == 1) = false := by simp [h1]
    by_cases h2 : k = 2
    · have hfin : Hid (nmStr k u = 108 :: Lib.decDigits u) := by show _ = _; simp [nmStr, h2]
      have h2' : (k == 2) = true := by simp [h2]
      generalize Lib.decDigits u = ds at *
      generalize nmStr k u = r at *
      clear h1 h2
      go_enter Tryz.func68, Tryz.ntmps68
      go_wp2_with (go_at_call 122; refine hs.mono ?_; rintro e w' ⟨rfl, hb⟩)
      go_ret
      exact ⟨ret_str (b := ⟨r.toArray⟩) ((bytes_cons 108 ds).trans (by rw [show r = 108 :: ds from hfin])), hB0.trans (hb.mono (by simp))⟩
    · have hfin : Hid (nmStr k u = []) := by show _ = _; simp [nmStr, h1, h2]
      have h2' : (k == 2) = false := by simp [h2]
      generalize nmStr k u = r at *
      clear h1 h2 hs hl
      go_enter Tryz.func68, Tryz.ntmps68
      go_wp2
      go_ret
      exact ⟨ret_str (a := ⟨#[]⟩) (b := ⟨r.toArray⟩) (by rw [show r = [] from hfin]), hB0⟩
end Go.Proofs
