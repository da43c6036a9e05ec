import Derived.Test.YthifclklnopkfaaGreatDoorLay
import Derived.Test.YthifclklnopkfaaGreatDoorCmp
import Derived.Test.YthifclklnopkfaaGreatDoorCollect
import Derived.Test.YthifclklnopkfaaGreatDoorKeysIter
/-
  slices.SortFunc, slices.SortedFunc, order.Keys at names.
-/
namespace Go.Proofs
open Go.RowKit Go.Maps Go.Sort Go.Shelf Go.Lib

theorem Tryz.enters137 : ∀ args w, (callFunc 137 args).run Tryz.prog w = .ok (.enter 137 args) w := enters_of Tryz.func137 (by kernel_rfl) rfl
theorem Tryz.enters139 : ∀ args w, (callFunc 139 args).run Tryz.prog w = .ok (.enter 139 args) w := enters_of Tryz.func139 (by kernel_rfl) rfl
theorem Tryz.enters159 : ∀ args w, (callFunc 159 args).run Tryz.prog w = .ok (.enter 159 args) w := enters_of Tryz.func159 (by kernel_rfl) rfl
theorem Tryz.enters160 : ∀ args w, (callFunc 160 args).run Tryz.prog w = .ok (.enter 160 args) w := enters_of Tryz.func160 (by kernel_rfl) rfl

/-- slices.SortFunc against whatever order that is the names'. -/
theorem Tryz.sortFunc (gc : Nat) (egc : ∀ args w, (callFunc gc args).run Tryz.prog w = .ok (.enter gc args) w)
    (hc : ∀ (x y : Int × Int) (w : World), Calls Tryz.prog gc #[.agg #[.int .i64 x.1, .int .u64 x.2], .agg #[.int .i64 y.1, .int .u64 y.2]] w fun e w' => e = .returned (.int .i64 (cmpN x y)) ∧ Grew w w')
    (blk cap : Nat) (ss : List (Int × Int)) (w : World) (hH : HoldsK encN 2 w blk 0 ss.toArray) (hblk : blk < w.heap.size) (hsz : ss.length < 4611686018427387904) :
    Calls Tryz.prog 158 #[.slice (some ⟨blk, 0, none⟩) ss.length cap, .func (.func gc) #[] #[]] w fun e w' =>
      e = .returned (.tuple #[]) ∧ ∃ n os, w' = sortWorldK encN 2 w blk 0 n (ss.mergeSort fun x y => !ltOf cmpN y x).toArray os :=
  AnyQ.slices_SortFunc_total Tryz.sortN 2 Tryz.isAgg97 Tryz.sizeOf97 encN (fun _ => rfl) (fun x v hv => by simp [encN] at hv; rcases hv with rfl | rfl <;> rfl) cmpN swoN gc #[] blk 0 cap ss.toArray w egc
    (fun m os dk _ x y => hc x y _) hH hblk (by simpa using hsz) ltN_total

theorem ownsRow_lower {W : World} {base base' : Nat} {e : TypeId} {size : Nat} {v : Value} {k : Nat} {xs : List Value} (h : W.ownsRow base e size v k xs) (hb : base' ≤ base) : W.ownsRow base' e size v k xs := by
  refine ⟨h.1, ?_⟩
  rcases h.2 with hn | ⟨g, cap, cur, hv, hbg, rest⟩
  · exact .inl hn
  · exact .inr ⟨g, cap, cur, hv, Nat.le_trans hb hbg, rest⟩
theorem Hid.intro {p : Prop} (h : p) : Hid p := h
theorem Hid.elim {p : Prop} (h : Hid p) : p := h
theorem Tryz.sortFunc_none (gc : Nat) (p : Option Addr) (cap : Nat) (w : World) :
    Calls Tryz.prog 158 #[.slice p 0 cap, .func (.func gc) #[] #[]] w fun e w' => e = .returned (.tuple #[]) ∧ w' = w :=
  AnyF.slices_SortFunc_none Tryz.sortN p cap (.func (.func gc) #[] #[]) w

set_option maxRecDepth 100000 in
set_option maxHeartbeats 1000000 in
theorem Tryz.sortedFunc (gc : Nat) (egc : ∀ args w, (callFunc gc args).run Tryz.prog w = .ok (.enter gc args) w)
    (hc : ∀ (x y : Int × Int) (w : World), Calls Tryz.prog gc #[.agg #[.int .i64 x.1, .int .u64 x.2], .agg #[.int .i64 y.1, .int .u64 y.2]] w fun e w' => e = .returned (.int .i64 (cmpN x y)) ∧ Grew w w')
    (g : Nat) (lb : Array Value) (eg : ∀ args w, (callFunc g args).run Tryz.prog w = .ok (.enter g args) w)
    (S Sp : List (Int × Int) → Prop) (N : Nat) (hN : N ≤ 1000) (w : World) (hseq : SeqStopsK Fence.wide 2 Tryz.prog g lb (fun x => #[nmV x]) KeepsWalks S Sp N w) (hlenS : ∀ ss, S ss → ss.length ≤ N) :
    Calls Tryz.prog 135 #[.func (.func g) #[] lb, .func (.func gc) #[] #[]] w fun e w' => ∃ (v : Value) (ss : List (Int × Int)), e = .returned v ∧ S ss ∧
      w'.ownsRow w.heap.size 97 2 v ss.length (flatN (ss.mergeSort fun x y => !ltOf cmpN y x)) ∧ (v = .slice none 0 0 ↔ ss = []) ∧ Below w.heap.size w w' := by
  have hC := callsIn_wide.1 (Tryz.collect_in 4 (by omega) g lb eg S Sp N hN w hseq)
  have hS := Hid.intro (fun blk cap ss W h1 h2 h3 => Tryz.sortFunc gc egc hc blk cap ss W h1 h2 h3)
  have hS0 := fun W => Tryz.sortFunc_none gc none 0 W
  clear hc egc eg hseq
  go_enter Tryz.func135, Tryz.ntmps135
  go_wp2_with (go_at_call 157; refine hC.mono ?_; rintro e W ⟨v, ss, rfl, hS1, hrow, hnil, hb⟩)
  rcases hrow.2 with ⟨rfl, hz⟩ | ⟨gb, cap, cur, rfl, hbase, hgb, r1, r2, r3, r4⟩
  · have hss : ss = [] := List.eq_nil_of_length_eq_zero hz
    subst hss
    go_wp2_with (go_at_call 158; refine (hS0 _).mono ?_; rintro e w' ⟨rfl, rfl⟩)
    go_ret
    exact ⟨.slice none 0 0, [], rfl, hS1, by simpa [flatN] using hrow, by simp, hb⟩
  · have hgl : gb < W.heap.size := (Array.getElem?_eq_some_iff.1 hgb).1
    have cS := hS gb cap ss W (holdsK_row hgb r4) hgl (by have := hlenS ss hS1; omega)
    clear hS hS0
    go_wp2_with (go_at_call 158; refine cS.mono ?_; rintro e w' ⟨rfl, nn, os, rfl⟩)
    go_ret
    exact ⟨_, ss, rfl, hS1, ownsRow_sortedK (by simp) hbase hgb r1 r2 r3, hnil, hb.grown (grownBy_sortedK _) hb.size (fun j hj => by cases hj; exact hbase)⟩

set_option maxRecDepth 100000 in
set_option maxHeartbeats 1000000 in
/-- order.Keys: the names of the map, in their order, in a slice of the call's own. -/
theorem Tryz.keysTok (b nn : Nat) (ks : List ((Int × Int) × Nat)) (hk : KsOk ks) (L : List (Int × Int)) (hL : SortedN L) (hp : (ks.map (·.1)).Perm L) (hlen : ks.length ≤ 1000) (w : World) (hown : w.ownsMap Tryz.prog 97 ptrR b nn (mapD ks)) :
    Calls Tryz.prog 102 #[.map (some b)] w fun e w' => ∃ (p : Option Addr) (cap : Nat), e = .returned (.slice p L.length cap) ∧ w'.ownsRow w.heap.size 97 2 (.slice p L.length cap) L.length (flatN L) ∧ Below w.heap.size w w' := by
  have hm := fun W => Tryz.mkeysTok (some b) W
  have hbox := (BoxN.new w 102 #[.map (some b)]).cell 0 (v := .map (some b)) rfl
  have hseq := Tryz.mkeysTok_stops 2 (by omega) w.heap.size b nn ks hk (w.alloc (.cells #[.map (some b)] 102)) (by simp) hbox (hown.alloc _)
  have hS := Tryz.sortedFunc 137 Tryz.enters137 Tryz.keysTok1 159 #[.pointer (some ⟨w.heap.size, 0, none⟩)] Tryz.enters159 _ _ ks.length hlen _ hseq (fun ss h => by rw [h.length_eq]; simp)
  have hB0 : Below w.heap.size w (w.alloc (.cells #[.map (some b)] 102)) := (Below.refl _ w).alloc (Nat.le_refl _) _
  clear hseq hbox hown
  go_enter Tryz.func102, Tryz.ntmps102
  go_wp2_with (first
    | (go_at_call 136; refine (hm _).mono ?_; rintro e w' ⟨rfl, rfl⟩)
    | (go_at_call 135; refine hS.mono ?_; rintro e w' ⟨v, ss, rfl, hS1, hrow, hnil, hb⟩))
  go_ret
  have hpp := hS1.trans hp
  have hms := mergeSort_names hpp hL
  rw [hms, hpp.length_eq] at hrow
  clear hnil
  have hrow' := ownsRow_lower hrow (base' := w.heap.size) (by simp)
  obtain ⟨p, cap, rfl⟩ : ∃ (p : Option Addr) (cap : Nat), v = .slice p L.length cap := by
    rcases hrow.2 with ⟨rfl, h0⟩ | ⟨g, cap, _, rfl, _⟩
    · exact ⟨none, 0, by rw [h0]⟩
    · exact ⟨_, cap, rfl⟩
  exact ⟨p, cap, rfl, hrow', hB0.trans (hb.mono (by simp))⟩
set_option maxRecDepth 100000 in
set_option maxHeartbeats 1000000 in
/-- order.Keys: the names of the map, in their order, in a slice of the call's own. -/
theorem Tryz.keysLea (b nn : Nat) (ks : List ((Int × Int) × Nat)) (hk : KsOk ks) (L : List (Int × Int)) (hL : SortedN L) (hp : (ks.map (·.1)).Perm L) (hlen : ks.length ≤ 1000) (w : World) (hown : w.ownsMap Tryz.prog 97 ptrR b nn (mapD ks)) :
    Calls Tryz.prog 106 #[.map (some b)] w fun e w' => ∃ (p : Option Addr) (cap : Nat), e = .returned (.slice p L.length cap) ∧ w'.ownsRow w.heap.size 97 2 (.slice p L.length cap) L.length (flatN L) ∧ Below w.heap.size w w' := by
  have hm := fun W => Tryz.mkeysLea (some b) W
  have hbox := (BoxN.new w 103 #[.map (some b)]).cell 0 (v := .map (some b)) rfl
  have hseq := Tryz.mkeysLea_stops 2 (by omega) w.heap.size b nn ks hk (w.alloc (.cells #[.map (some b)] 103)) (by simp) hbox (hown.alloc _)
  have hS := Tryz.sortedFunc 139 Tryz.enters139 Tryz.keysLea1 160 #[.pointer (some ⟨w.heap.size, 0, none⟩)] Tryz.enters160 _ _ ks.length hlen _ hseq (fun ss h => by rw [h.length_eq]; simp)
  have hB0 : Below w.heap.size w (w.alloc (.cells #[.map (some b)] 103)) := (Below.refl _ w).alloc (Nat.le_refl _) _
  clear hseq hbox hown
  go_enter Tryz.func106, Tryz.ntmps106
  go_wp2_with (first
    | (go_at_call 138; refine (hm _).mono ?_; rintro e w' ⟨rfl, rfl⟩)
    | (go_at_call 135; refine hS.mono ?_; rintro e w' ⟨v, ss, rfl, hS1, hrow, hnil, hb⟩))
  go_ret
  have hpp := hS1.trans hp
  have hms := mergeSort_names hpp hL
  rw [hms, hpp.length_eq] at hrow
  clear hnil
  have hrow' := ownsRow_lower hrow (base' := w.heap.size) (by simp)
  obtain ⟨p, cap, rfl⟩ : ∃ (p : Option Addr) (cap : Nat), v = .slice p L.length cap := by
    rcases hrow.2 with ⟨rfl, h0⟩ | ⟨g, cap, _, rfl, _⟩
    · exact ⟨none, 0, by rw [h0]⟩
    · exact ⟨_, cap, rfl⟩
  exact ⟨p, cap, rfl, hrow', hB0.trans (hb.mono (by simp))⟩
end Go.Proofs
