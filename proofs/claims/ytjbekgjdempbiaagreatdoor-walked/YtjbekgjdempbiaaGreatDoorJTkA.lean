import Derived.Test.YtjbekgjdempbiaaGreatDoorJQueJ
import Derived.Test.YtjbekgjdempbiaaGreatDoorJSys
import Derived.Test.YtjbekgjdempbiaaGreatDoorJRefI
import Derived.Test.YtjbekgjdempbiaaGreatDoorJVIssue
/-
  The queue, with whatever is in it: Pop.
-/
namespace Go.Proofs
open Go.RowKit Go.Sort Go.Lib Go.Shelf

set_option maxRecDepth 100000 in
set_option maxHeartbeats 2000000 in
theorem Tryz.qPopNil (vb : Nat) (v : Value) (w : World) (hv : v = .slice none 0 0 ∨ ∃ g cap, v = .slice (some ⟨g, 0, none⟩) 0 cap) (c7 : w.cell? ⟨vb, 8, none⟩ = some v) :
    Calls Tryz.prog 76 #[.pointer (some ⟨vb, 8, none⟩)] w fun e w' => e = .returned (.tuple #[.agg #[.int .u64 0, .int .i64 0, .int .u64 0], .bool false]) ∧ Below w.heap.size w w' := by
  have lv : vb < w.heap.size := World.block_lt_of_cell? w _ c7
  have hb : Below w.heap.size w ((w.alloc (.cells #[.int .u64 0, .int .i64 0, .int .u64 0] 144)).alloc (.cells #[.int .u64 0, .int .i64 0, .int .u64 0] 144)) := ((Below.refl _ w).alloc (Nat.le_refl _) _).alloc (by simp) _
  rcases hv with rfl | ⟨g, cap, rfl⟩
  all_goals
    go_enter Tryz.func76, Tryz.ntmps76
    go_wp2
    go_step3
    go_wp2
    rw [Exit.noGoto_ret]
    exact bodyPost_ret (v := .tuple #[.agg #[.int .u64 0, .int .i64 0, .int .u64 0], .bool false]) (by simp [results, Tryz.results76, go_sem]) rfl ⟨rfl, hb⟩

theorem two_cell (W : World) (t : TypeId) (p q : Nat) : ∀ j r : Nat, [p, q][j]? = some r → (W.alloc (.cells #[.int .i64 (p : Int), .int .i64 (q : Int)] t)).cell? ⟨W.heap.size, j, none⟩ = some (.int .i64 (r : Int)) := fun j r hr => by
  match j, hr with
  | 0, hr =>
    obtain rfl : p = r := by simpa using hr
    exact (BoxN.new W t #[.int .i64 (p : Int), .int .i64 (q : Int)]).cell 0 rfl
  | 1, hr =>
    obtain rfl : q = r := by simpa using hr
    exact (BoxN.new W t #[.int .i64 (p : Int), .int .i64 (q : Int)]).cell 1 rfl
/-- what holds at the label of Pop. -/
def Tryz.FallJ (B vb : Nat) (cs : Array Value) (w : World) (g m : Nat) (x : TurnD) (zs : List TurnD) (act : Act) (W : World) : Prop :=
  ∃ (a cap ib : Nat) (ys : List TurnD) (u8 u9 u10 u11 u12 u13 u14 u15 u16 u17 u18 u19 u20 u21 u22 u23 u24 u25 u26 u27 u28 u29 u30 u31 u32 u33 u34 u35 u36 u37 u38 u39 u40 u41 u42 u43 u44 u45 u46 u47 u48 u49 u50 u51 u52 u53 : Value), act = { tmps := #[.pointer (some ⟨vb, 8, none⟩), undef, .pointer (some ⟨w.heap.size, 0, none⟩), .bool false, undef, .int .i64 (m : Int), .pointer (some ⟨ib, 0, none⟩), .int .i64 (a : Int), u8, u9, u10, u11, u12, u13, u14, u15, u16, u17, u18, u19, u20, u21, u22, u23, u24, u25, u26, u27, u28, u29, u30, u31, u32, u33, u34, u35, u36, u37, u38, u39, u40, u41, u42, u43, u44, u45, u46, u47, u48, u49, u50, u51, u52, u53], defers := [] } ∧ FallH ys a ∧ (a = 0 ∨ a < ys.length) ∧ ys.Perm zs ∧ Tryz.QV B vb cs g cap ys W ∧ BoxN W w.heap.size 144 #[.int .u64 0, .int .i64 0, .int .u64 0] ∧ BoxN W ib 144 x.cells ∧ w.heap.size < ib ∧ Spares [vb, g] w W

set_option maxRecDepth 100000 in
set_option maxHeartbeats 4000000 in
theorem Tryz.qPop (B vb g cap m : Nat) (xs : List TurnD) (cs : Array Value) (w : World) (hq : Tryz.QV B vb cs g cap xs w) (hH : Heap xs) (hm : xs.length = m + 1) (hlen : m ≤ 100) :
    Calls Tryz.prog 76 #[.pointer (some ⟨vb, 8, none⟩)] w fun e w' => e = .returned (.tuple #[.agg (getT xs 0).cells, .bool true]) ∧ ∃ cap' ys, Tryz.QV B vb cs g cap' ys w' ∧ Heap ys ∧ (getT xs 0 :: ys).Perm xs ∧ Spares [vb, g] w w' := by
  have hne := hq.ne
  have lv := hq.v.lt
  have lg : g < w.heap.size := (hq.row.lt g rfl).2
  have hB0 : Below w.heap.size w (w.alloc (.cells #[.int .u64 0, .int .i64 0, .int .u64 0] 144)) := (Below.refl _ w).alloc (Nat.le_refl _) _
  have b0 := BoxN.new w 144 #[.int .u64 0, .int .i64 0, .int .u64 0]
  have hq0 := hq.below hB0
  have hP := swapT_perm (xs := xs) (i := 0) (j := m) (by omega) (by omega)
  have hmg : getT (swapT xs 0 m) m = getT xs 0 := by rw [swapT_get (by omega) (by omega), if_pos rfl]
  have hF := FallH.start hH
  rw [show xs.length - 1 = m by omega] at hF
  have hzs : (getT xs 0 :: (swapT xs 0 m).take m).Perm xs := by
    refine List.Perm.trans ?_ hP
    have hl : (swapT xs 0 m).length = m + 1 := by rw [swapT_len, hm]
    have e : swapT xs 0 m = (swapT xs 0 m).take m ++ [getT xs 0] := by
      conv => lhs; rw [← List.take_of_length_le (l := swapT xs 0 m) (i := m + 1) (by omega)]
      rw [List.take_add_one, getT_some (by omega), hmg]
      rfl
    conv => rhs; rw [e]
    exact (List.perm_append_comm (l₁ := [getT xs 0]) (l₂ := (swapT xs 0 m).take m))
  have hSw := Tryz.qSwap B vb g cap xs.length xs 0 m _ hq0.cell hq0.row (by omega) (by omega)
  generalize hx : getT xs 0 = x at *
  go_enter Tryz.func76, Tryz.ntmps76
  go_wp2_with fail
  refine wp_scope_share 0 (Tryz.FallJ B vb cs w g m x ((swapT xs 0 m).take m)) (fun a _ => 1000 - (intOf (a.tmps.getD 7 undef)).toNat) rfl ?pass ?first
  case pass =>
    rintro _ W ⟨a, cap2, ib, ys, u8, u9, u10, u11, u12, u13, u14, u15, u16, u17, u18, u19, u20, u21, u22, u23, u24, u25, u26, u27, u28, u29, u30, u31, u32, u33, u34, u35, u36, u37, u38, u39, u40, u41, u42, u43, u44, u45, u46, u47, u48, u49, u50, u51, u52, u53, rfl, hFa, hal, hp, hqy, bR, bI, hib, hS⟩
    have hly : ys.length ≤ 100 := by have := hp.length_eq; rw [List.length_take, swapT_len] at this; omega
    have hB2 : Below W.heap.size W (W.alloc (.cells #[.int .i64 ((2 * a + 1 : Nat) : Int), .int .i64 ((2 * a + 2 : Nat) : Int)] 3)) := (Below.refl _ W).alloc (Nat.le_refl _) _
    have hL := Tryz.qLeast vb g cap2 W.heap.size ys a [2 * a + 1, 2 * a + 2] _ (hqy.qp.below hB2) (two_cell W 3 (2 * a + 1) (2 * a + 2)) (by
      by_cases h : a < ys.length
      · exact .inl h
      · refine .inr (fun p hp => ?_)
        simp only [List.mem_cons, List.not_mem_nil, or_false] at hp
        omega) (by simp) (by
      intro p hp
      simp only [List.mem_cons, List.not_mem_nil, or_false] at hp
      omega)
    have c1 : ((2 * a + 1 : Nat) : Int) = 2 * (a : Int) + 1 := by omega
    have c2 : ((2 * a + 2 : Nat) : Int) = 2 * (a : Int) + 2 := by omega
    rw [c1, c2] at hB2
    simp only [c1, c2] at hL
    have ha3 : (a : Int) ≤ 3000 := by omega
    have ha0 : (0 : Int) ≤ (a : Int) := by omega
    have lI := bI.lt
    have lR := bR.lt
    have lgW : g < W.heap.size := (hqy.row.lt g rfl).2
    have lvW := hqy.v.lt
    have hgR : w.heap.size ≠ g := by omega
    have hgI : ib ≠ g := by omega
    have hvI : vb ≠ w.heap.size := by omega
    clear c1 c2
    obtain ⟨x1, x2, x3⟩ := x
    simp only [TurnD.cells] at *
    by_cases hc : leastT ys a [2 * a + 1, 2 * a + 2] = a
    · have hdn := hFa.done hc
      rw [hc] at hL
      clear hFa
      go_wp2_with (go_at_call 133; refine hL.mono ?_; rintro e w2 ⟨rfl, hb2⟩; have hb3 := hB2.trans (hb2.mono (by simp)); have bI2 := bI.below hb3 lI; have bR2 := bR.below hb3 lR; have i0 := bI2.cell 0 (v := .int .u64 x1) rfl; have i1 := bI2.cell 1 (v := .int .i64 x2) rfl; have i2 := bI2.cell 2 (v := .int .u64 x3) rfl; have q0 := bR2.cell 0 (v := .int .u64 0) rfl; have q1 := bR2.cell 1 (v := .int .i64 0) rfl; have q2 := bR2.cell 2 (v := .int .u64 0) rfl; have f0 := bR2.frozen 0; have f1 := bR2.frozen 1; have f2 := bR2.frozen 2)
      simp only [Exit.jump]
      have b6 : BoxN _ w.heap.size 144 #[.int .u64 x1, .int .i64 x2, .int .u64 x3] := ((bR2.set 0 (.int .u64 x1)).set 1 (.int .i64 x2)).set 2 (.int .u64 x3)
      have hs6 : Spares [w.heap.size] w2 (((w2.setCell ⟨w.heap.size, 0, none⟩ (.int .u64 x1)).setCell ⟨w.heap.size, 1, none⟩ (.int .i64 x2)).setCell ⟨w.heap.size, 2, none⟩ (.int .u64 x3)) := (((Spares.of_below (Below.refl _ w2)).set (by simp) _ _).set (by simp) _ _).set (by simp) _ _
      have hq6 : Tryz.QV B vb cs g cap2 ys _ := ⟨hs6.box (hqy.below hb3).v (by simpa using hvI), hs6.row (hqy.below hb3).row (by simpa using Ne.symm hgR), hqy.h8⟩
      have hS6 := (hS.trans (Spares.of_below hb3)).thenG hs6 (.inr (Nat.le_refl _))
      generalize ((w2.setCell ⟨w.heap.size, 0, none⟩ (.int .u64 x1)).setCell ⟨w.heap.size, 1, none⟩ (.int .i64 x2)).setCell ⟨w.heap.size, 2, none⟩ (.int .u64 x3) = W6 at *
      have k0 := b6.cell 0 (v := .int .u64 x1) rfl
      have k1 := b6.cell 1 (v := .int .i64 x2) rfl
      have k2 := b6.cell 2 (v := .int .u64 x3) rfl
      exact bodyPost_ret (v := .tuple #[.agg #[.int .u64 x1, .int .i64 x2, .int .u64 x3], .bool true]) (by simp [results, Tryz.results76, go_sem, k0, k1, k2]) rfl ⟨rfl, cap2, ys, hq6, hdn, (List.Perm.cons _ hp).trans hzs, hS6⟩
    · obtain ⟨hac, hcl, hFc⟩ := hFa.step hc
      have hal2 : a < ys.length := by omega
      have hpm := (swapT_perm hcl hal2).trans hp
      have hSw2 := fun W' (hb : Below W.heap.size W W') => Tryz.qSwap B vb g cap2 ys.length ys (leastT ys a [2 * a + 1, 2 * a + 2]) a W' (hqy.below hb).cell (hqy.below hb).row hcl hal2
      generalize leastT ys a [2 * a + 1, 2 * a + 2] = c at *
      have hnq : ((c : Int) != (a : Int)) = true := by simp; omega
      have Hlt := hid_intro (And.intro hac hcl)
      have HF := hid_intro hFc
      clear hFa hc hFc hac
      go_wp2_with (go_at_call 133; refine hL.mono ?_; rintro e w2 ⟨rfl, hb2⟩; have hb3 := hB2.trans (hb2.mono (by simp)); have hSw3 := hSw2 w2 hb3)
      go_wp2_with (go_at_call 132; refine hSw3.mono ?_; rintro e w4 ⟨rfl, hr4, hs4⟩)
      go_step3
      obtain ⟨h1, h2⟩ := hid_elim Hlt
      refine ⟨rfl, ⟨c, cap2, ib, swapT ys c a, _, _, _, _, _, _, _, _, _, _, _, _, _, _, _, _, _, _, _, _, _, _, _, _, _, _, _, _, _, _, _, _, _, _, _, _, _, _, _, _, _, _, _, _, _, _, rfl, hid_elim HF, .inr (by rw [swapT_len]; exact h2), hpm, (hqy.below hb3).swapped hs4 (swapT_len _ _ _) hr4, hs4.box (bR.below hb3 lR) (by simpa using hgR), hs4.box (bI.below hb3 lI) (by simpa using hgI), hib, (hS.trans (Spares.of_below hb3)).thenG hs4 (.inl (by simp))⟩, ?_⟩
      simp [intOf]
      omega
  case first =>
    intro hpass
    have HP := hid_intro hpass
    clear hpass
    have c8 := hq0.cell
    rw [hm] at c8 hSw
    rw [show ((0 : Nat) : Int) = 0 from rfl] at hSw
    have hcap : m + 1 ≤ cap ∧ cap ≤ 9223372036854775807 := by
      obtain ⟨-, ⟨e1, -⟩ | ⟨g', cap', cur, e1, e2, e3, e4, e5, -⟩⟩ := hq.row
      · cases e1
      · cases e1
        unfold maxLen at e5
        omega
    obtain ⟨hcp, hcm⟩ := hcap
    have hsl : (swapT xs 0 m).length = m + 1 := by rw [swapT_len, hm]
    have hxm : (swapT xs 0 m)[m]? = some x := by rw [getT_some (by omega), hmg]
    have HH := hid_intro (And.intro hF (And.intro hm (And.intro hsl hxm)))
    obtain ⟨x1, x2, x3⟩ := x
    clear hF hH hP hzs hq hmg hx
    have lz : w.heap.size < (w.alloc (.cells #[.int .u64 0, .int .i64 0, .int .u64 0] 144)).heap.size := by simp
    clear hm hsl hxm
    go_wp2_with (first
      | (go_at_call 132; refine hSw.mono ?_; rintro e w1 ⟨rfl, r1, hs1⟩; have bV1 := hs1.box hq0.v (by simpa using hne); have b1 := hs1.box b0 (by simp; omega); have h81 := hq0.h8; obtain ⟨z0, z1, z2⟩ := row_three r1 (hid_elim HH).2.2.2; have c81 := (hid_elim HH).2.1 ▸ bV1.cell 8 (v := .slice (some ⟨g, 0, none⟩) xs.length cap) (by rw [Array.getElem?_setIfInBounds_self_of_lt h81]); clear c8)
      | (go_at_call 129; refine (Tryz.qCut B vb g cap m (swapT xs 0 m) _ (cell_later ((Below.refl _ w1).alloc (Nat.le_refl _) _) c81) ((bV1.alloc _).frozen 8) (r1.alloc _) hne hcp hcm).mono ?_; rintro e w2 ⟨rfl, wx, rx, hgx, rfl⟩))
    go_step3
    simp only [Exit.then]
    apply_assumption
    obtain ⟨hF, hm, hsl, -⟩ := hid_elim HH
    have lg1 : g < w1.heap.size := (r1.lt g rfl).2
    have lv1 := bV1.lt
    have l01 := b1.lt
    have hyl : ((swapT xs 0 m).take m).length = m := by rw [List.length_take, hsl]; omega
    have bV2 := ((bV1.alloc (.cells #[.int .u64 x1, .int .i64 x2, .int .u64 x3] 144)).kept hgx (by intro e; injection e with e; exact hne e)).set 8 (.slice (some ⟨g, 0, none⟩) m cap)
    rw [Array.setIfInBounds_setIfInBounds] at bV2
    have bR2 := ((b1.alloc (.cells #[.int .u64 x1, .int .i64 x2, .int .u64 x3] 144)).kept hgx (by intro e; injection e with e; omega)).other (B' := vb) (by omega) 8 (.slice (some ⟨g, 0, none⟩) m cap)
    have bI2 := ((BoxN.new w1 144 #[.int .u64 x1, .int .i64 x2, .int .u64 x3]).kept hgx (by intro e; injection e with e; omega)).other (B' := vb) (by omega) 8 (.slice (some ⟨g, 0, none⟩) m cap)
    have r2 := rx.kept (grown_set wx vb 8 (.slice (some ⟨g, 0, none⟩) m cap)) (.inr (by simp [Value.ownBlock]; exact fun e => hne e.symm))
    have hS2 : Spares [vb, g] w (wx.setCell ⟨vb, 8, none⟩ (.slice (some ⟨g, 0, none⟩) m cap)) := (((((Spares.of_below hB0).trans (hs1.mono (by simp))).alloc _).trans (Spares.of_grown hgx (by simp))).set (by simp) _ _)
    exact hid_elim HP _ _ ⟨0, cap, w1.heap.size, (swapT xs 0 m).take m, _, _, _, _, _, _, _, _, _, _, _, _, _, _, _, _, _, _, _, _, _, _, _, _, _, _, _, _, _, _, _, _, _, _, _, _, _, _, _, _, _, _, _, _, _, _, rfl, hF, .inl rfl, List.Perm.refl _, ⟨by rw [hyl]; exact bV2, by rw [hyl]; exact r2, h81⟩, bR2, bI2, by omega, hS2⟩
end Go.Proofs

/-
  plain's revoker: it notes what it is told, and fails as its bits say.
-/
namespace Go.Proofs
open Go.RowKit Go.Sort Go.Lib Go.Shelf Go.Maps Go.WideMaps

set_option maxRecDepth 100000 in
set_option maxHeartbeats 2000000 in
theorem Tryz.rvRevoke (B rb : Nat) (v : Value) (n : Nat) (xs : List Value) (f : Int) (hf0 : 0 ≤ f) (hf1 : f ≤ 18446744073709551615) (id : List UInt8) (w : World) (hR : BoxN w rb 88 #[v, .int .u64 f]) (hrow : w.ownsRow B 9 1 v n xs) (hB : B ≤ w.heap.size) (hn : n ≤ 1000) :
    Calls Tryz.prog 331 #[.pointer (some ⟨rb, 0, none⟩), .string ⟨id.toArray⟩] w fun e w' => e = .returned (.bool (!(f % 2 == 1))) ∧ ∃ g cap, BoxN w' rb 88 #[.slice (some ⟨g, 0, none⟩) (n + 1) cap, .int .u64 (f / 2)] ∧ w'.ownsRow B 9 1 (.slice (some ⟨g, 0, none⟩) (n + 1) cap) (n + 1) (xs ++ [.string ⟨id.toArray⟩]) ∧ rb ≠ g ∧ (v.ownBlock = some g ∨ w.heap.size ≤ g) ∧ Spares (rb :: v.ownBlock.toList) w w' := by
  obtain ⟨i0, hi, hz0, hz1, hz2⟩ := info_parts Tryz.strInfo
  have hnr := hR.not_row (e := 9) (by decide) hrow
  have lv := hR.lt
  have c0 := hR.cell 0 (v := v) rfl
  have ca := (hR.alloc (.cells #[.string ⟨id.toArray⟩] 9)).cell 0 (v := v) rfl
  have bS := BoxN.new w 9 #[.string ⟨id.toArray⟩]
  have hand := and_one_u64 f hf0 hf1
  clear hf0 hf1
  go_enter Tryz.func331, Tryz.ntmps331
  go_wp2_with (at_builtin; refine wpList_append_lies _ rfl _ _ 40 rfl B 9 i0 _ 1 16 Tryz.underlying40 hi hz0 hz1 hz2 rfl (by decide) _ _ _ rfl (hrow.alloc _) ⟨w.heap.size, 0, none⟩ 1 1 [.string ⟨id.toArray⟩] rfl rfl (World.news_of_block bS) (by simp [Value.oneCell']) (by omega) (by unfold maxLen; omega) (by omega) (by simp; omega) _ rfl ?_; intro g cap w1 hown hgrow hat hlt; have hR1 := (hR.alloc (.cells #[.string ⟨id.toArray⟩] 9)).kept hgrow hnr; have d0 := hR1.cell 0 (v := v) rfl; have d1 := hR1.cell 1 (v := .int .u64 f) rfl; have fz0 := hR1.frozen 0; have fz1 := hR1.frozen 1)
  have hg1 : (w.alloc (.cells #[.string ⟨id.toArray⟩] 9)).grownBy w1 v.ownBlock := hgrow
  have hat1 : v.ownBlock = some g ∨ g = (w.alloc (.cells #[.string ⟨id.toArray⟩] 9)).heap.size := hat
  clear hgrow hat
  rw [World.size_alloc] at hat1
  have hrg : rb ≠ g := by
    rcases hat1 with e | e
    · exact fun e' => hnr (by rw [e, e'])
    · omega
  have hwg : v.ownBlock = some g ∨ w.heap.size ≤ g := by
    rcases hat1 with e | e
    · exact .inl e
    · exact .inr (by omega)
  have hS : Spares (rb :: v.ownBlock.toList) w w1 := ((Spares.of_below (Below.refl _ w)).alloc _).trans (Spares.of_grown' hg1 (fun b hb => by rw [hb]; simp))
  go_ret
  exact ⟨rfl, g, cap, (hR1.set 0 (.slice (some ⟨g, 0, none⟩) (n + 1) cap)).set 1 (.int .u64 (f / 2)), (hown.kept (grown_set w1 rb 0 (.slice (some ⟨g, 0, none⟩) (n + 1) cap)) (.inr (by simp [Value.ownBlock]; exact fun e => hrg e.symm))).kept (grown_set _ rb 1 (.int .u64 (f / 2))) (.inr (by simp [Value.ownBlock]; exact fun e => hrg e.symm)), hrg, hwg, (hS.set (by simp) _ _).set (by simp) _ _⟩
end Go.Proofs

/-
  The document's answer: doom, Revoke, free, Tell.
-/
namespace Go.Proofs
open Go.RowKit Go.Sort Go.Lib Go.Shelf

/-- one cell of one thing is set anew. -/
theorem flatT_setF : ∀ (L : List ThingD) (i j : Nat) (t t' : ThingD) (v : Value), L[i]? = some t → j < 8 → t'.cells = t.cells.setIfInBounds j v → flatT (L.set i t') = (flatT L).set (i * 8 + j) v
  | [], _, _, _, _, _, h, _, _ => by simp at h
  | x :: xs, 0, j, t, t', v, h, hj, hc => by
    obtain rfl : x = t := by simpa using h
    show t'.cells.toList ++ flatT xs = (x.cells.toList ++ flatT xs).set (0 * 8 + j) _
    rw [List.set_append_left _ _ (by rw [ThingD.cells_size]; omega), hc, Array.toList_setIfInBounds, show 0 * 8 + j = j by omega]
  | x :: xs, i + 1, j, t, t', v, h, hj, hc => by
    show x.cells.toList ++ flatT (xs.set i t') = (x.cells.toList ++ flatT xs).set ((i + 1) * 8 + j) _
    rw [List.set_append_right _ _ (by rw [ThingD.cells_size]; omega), ThingD.cells_size, show (i + 1) * 8 + j - 8 = i * 8 + j by omega, flatT_setF xs i j t t' v (by simpa using h) hj hc]

theorem Tryz.RVAt.setF {B : Nat} {W : World} {vb g cap : Nat} {L : List ThingD} {tm tn ln : Int} (h : Tryz.RVAt B W vb g cap L tm tn ln) (hne : vb ≠ g) {i j : Nat} {t t' : ThingD} (hi : L[i]? = some t) (hj : j < 8) (v : Value) (hc : t'.cells = t.cells.setIfInBounds j v) (hn : t'.n = t.n) (ho : t'.of_ = t.of_) :
    Tryz.RVAt B (W.setCell ⟨g, i * 8 + j, none⟩ v) vb g cap (L.set i t') tm tn ln := by
  have hlen : (L.set i t').length = L.length := List.length_set ..
  have hmem : ∀ x ∈ L.set i t', x ∈ L ∨ x = t' := fun x hx => List.mem_or_eq_of_mem_set hx
  have htm : t ∈ L := List.mem_of_getElem? hi
  refine ⟨?_, ?_, ?_, ?_, ?_⟩
  · rw [hlen]; exact h.v.other hne _ _
  · rw [hlen]
    obtain ⟨h1, ⟨e1, -⟩ | ⟨g', cap', cur, e1, e2, e3, e4, e5, e6, e7⟩⟩ := h.row
    · cases e1
    · cases e1
      refine ⟨by rw [flatT_length, hlen], .inr ⟨g, cap, cur.setIfInBounds (i * 8 + j) v, rfl, e2, ?_, e4, e5, by simpa using e6, ?_⟩⟩
      · exact BoxN.set (W := W) (t := 105) (cs := cur) e3 (i * 8 + j) v
      · rw [Array.toList_setIfInBounds, List.take_set, e7, flatT_setF L i j t t' v hi hj hc]
  · rw [hlen]; exact h.lim
  · intro x hx; rcases hmem x hx with hx | rfl
    · exact h.num x hx
    · rw [hn]; exact h.num t htm
  · intro x hx; rcases hmem x hx with hx | rfl
    · exact h.ofs x hx
    · unfold ThingD.OfOk; rw [ho]; exact h.ofs t htm

/-- what becomes of a thing that is to go: if it is live, it is pending from now on. -/
def doomAt (tm : Int) (t : ThingD) : ThingD := if t.state tm = 1 then { t with doomed := true, at_ := tm } else t

theorem Tryz.RVAt.doomed1 {B : Nat} {W : World} {vb g cap : Nat} {L : List ThingD} {tm tn ln : Int} (h : Tryz.RVAt B W vb g cap L tm tn ln) (hne : vb ≠ g) {i : Nat} {t : ThingD} (hi : L[i]? = some t) :
    Tryz.RVAt B (W.setCell ⟨g, i * 8 + 6, none⟩ (.bool true)) vb g cap (L.set i { t with doomed := true }) tm tn ln :=
  h.setF hne hi (j := 6) (t' := { t with doomed := true }) (by omega) (.bool true) rfl rfl rfl
theorem Tryz.RVAt.doomed2 {B : Nat} {W : World} {vb g cap : Nat} {L : List ThingD} {tm tn ln : Int} {i : Nat} {t : ThingD} (h : Tryz.RVAt B W vb g cap (L.set i { t with doomed := true }) tm tn ln) (hne : vb ≠ g) (hi : L[i]? = some t) (hs : t.state tm = 1) :
    Tryz.RVAt B (W.setCell ⟨g, i * 8 + 4, none⟩ (.int .u64 tm)) vb g cap (L.set i (doomAt tm t)) tm tn ln := by
  have hil : i < L.length := (List.getElem?_eq_some_iff.1 hi).1
  have h2 := h.setF hne (i := i) (j := 4) (t := { t with doomed := true }) (t' := { t with doomed := true, at_ := tm }) (by simp [hil]) (by omega) (.int .u64 tm) rfl rfl rfl
  rw [List.set_set] at h2
  rw [doomAt, if_pos hs]
  exact h2

/-- what holds throughout the store of the time. -/
abbrev DoomP (g vb i : Nat) (s : Value) (tm : Int) (W : World) : Prop := W.cell? ⟨vb, 0, none⟩ = some s ∧ W.cell? ⟨vb, 1, none⟩ = some (.int .u64 tm) ∧ W.cell? ⟨g, i * 8 + 4, none⟩ = some (cellOr W ⟨g, i * 8 + 4, none⟩) ∧ W.frozen? ⟨g, i * 8 + 4, none⟩ = false
theorem Tryz.RVAt.doomP {B : Nat} {W : World} {vb g cap len : Nat} {L : List ThingD} {tm tn ln : Int} (h : Tryz.RVAt B W vb g cap L tm tn ln) (hl : L.length = len) {i : Nat} (hi : i < L.length) : DoomP g vb i (.slice (some ⟨g, 0, none⟩) len cap) tm W.drew := by
  subst hl
  obtain ⟨t, ht⟩ : ∃ t, L[i]? = some t := ⟨L[i], by simp [hi]⟩
  exact ⟨h.v.cell 0 rfl, h.v.cell 1 rfl, cellOr_some (by show (W.cell? _).isSome; rw [(h.cells ht).2.2.2.2.1]; rfl), h.frozenG _⟩

set_option maxRecDepth 100000 in
set_option maxHeartbeats 2000000 in
theorem Tryz.rDoom (B : Nat) (vb g cap : Nat) (L : List ThingD) (tm tn ln : Int) (w : World) (h : Tryz.RVAt B w vb g cap L tm tn ln) (hB : B ≤ w.heap.size) (hne : vb ≠ g) (i : Nat) (t : ThingD) (ht : L[i]? = some t) :
    Calls Tryz.prog 158 #[.pointer (some ⟨vb, 0, none⟩), .int .i64 i] w fun e w' => e = .returned (.tuple #[]) ∧ Tryz.RVAt B w' vb g cap (L.set i (doomAt tm t)) tm tn ln ∧ Below B w w' ∧ Spares [vb, g] w w' := by
  have hS := fun W (hb : Below w.heap.size w W) => Tryz.rState t vb tm W ((h.below hb).v.cell 1 (v := .int .u64 tm) rfl)
  simp only [ThingD.cells] at hS
  have hlim := h.lim
  have hil : i < L.length := (List.getElem?_eq_some_iff.1 ht).1
  have hgB : B ≤ g := (h.row.lt g rfl).1
  have hc := fun W (hb : Below w.heap.size w W) => (h.below hb).cells ht
  have hv := fun W (hb : Below w.heap.size w W) => (h.below hb).v.cell 0 (v := .slice (some ⟨g, 0, none⟩) L.length cap) rfl
  have hv1 := fun W (hb : Below w.heap.size w W) => (h.below hb).v.cell 1 (v := .int .u64 tm) rfl
  have hfz := fun W (hb : Below w.heap.size w W) => (h.below hb).frozenG (i * 8 + 4)
  have hfz6 := fun W (hb : Below w.heap.size w W) => (h.below hb).frozenG (i * 8 + 6)
  have hset1 := hid_intro (fun W (hb : Below w.heap.size w W) => (h.below hb).doomed1 hne ht)
  have hset2 := hid_intro (fun W (h' : Tryz.RVAt B W vb g cap (L.set i { t with doomed := true }) tm tn ln) (hs : t.state tm = 1) => h'.doomed2 hne ht hs)
  have hsame := hid_intro (fun W (hb : Below w.heap.size w W) (hs : ¬ t.state tm = 1) => (show Tryz.RVAt B W vb g cap (L.set i (doomAt tm t)) tm tn ln from by rw [doomAt, if_neg hs, set_same ht]; exact h.below hb))
  obtain ⟨x0, x1, x2, x3, x4, x5, x6, x7⟩ := hc w (Below.refl _ _)
  have v0 := hv w (Below.refl _ _)
  have v1 := hv1 w (Below.refl _ _)
  obtain ⟨len, hlen⟩ : ∃ len, L.length = len := ⟨_, rfl⟩
  rw [hlen] at hil hlim v0
  simp only [hlen] at hv
  have Hlen := hid_intro hlen
  clear hlen
  by_cases hs : t.state tm = 1
  · have hs' := hid_intro hs
    simp only [hs] at hS
    clear hs
    go_enter Tryz.func158, Tryz.ntmps158
    go_wp2_with (go_at_call 150; refine (hS _ (by first | exact Below.refl _ _ | exact ((Below.refl _ _).drew))).mono ?_; rintro e w1 ⟨rfl, hb1⟩; have y0 := hv w1 hb1; have fz6 := hfz6 w1 hb1)
    clear hS
    have r1 := hid_elim hset1 w1 hb1
    have r2 := hid_elim hset2 _ r1 (hid_elim hs')
    have p1 := r1.doomP (len := len) (i := i) (by rw [List.length_set]; exact hid_elim Hlen) (by rw [List.length_set, hid_elim Hlen]; exact hil)
    have p2 := r2.doomP (len := len) (i := i) (by rw [List.length_set]; exact hid_elim Hlen) (by rw [List.length_set, hid_elim Hlen]; exact hil)
    have R2 := hid_intro r2
    clear r1 r2
    go_region_held3 (DoomP g vb i (.slice (some ⟨g, 0, none⟩) len cap) tm) (first
      | with_reducible exact p1
      | with_reducible exact p2
      | with_reducible assumption) (fail)
    all_goals
      go_wp2
      go_end0
      exact ⟨rfl, (hid_elim R2).below (Grew.below (Grew.refl _).drew), (((hb1.mono hB).setCell (p := ⟨g, i * 8 + 6, none⟩) hgB _).setCell (p := ⟨g, i * 8 + 4, none⟩) hgB _).drew, (((Spares.of_below hb1).set (by simp) _ _).set (by simp) _ _).drew⟩
  · have hs' := hid_intro hs
    have h2 : (t.state tm == 1) = false := by simpa using hs
    clear hs
    generalize t.state tm = st at *
    go_enter Tryz.func158, Tryz.ntmps158
    go_wp2_with (go_at_call 150; refine (hS _ (by first | exact Below.refl _ _ | exact ((Below.refl _ _).drew))).mono ?_; rintro e w1 ⟨rfl, hb1⟩)
    go_end0
    exact ⟨rfl, hid_elim hsame _ hb1 (hid_elim hs'), hb1.mono hB, Spares.of_below hb1⟩

set_option maxRecDepth 100000 in
set_option maxHeartbeats 1000000 in
theorem Tryz.rTell (B : Nat) (vb g cap : Nat) (L : List ThingD) (tm tn ln : Int) (now : Int) (w : World) (h : Tryz.RVAt B w vb g cap L tm tn ln) (hvB : B ≤ vb) (hne : vb ≠ g) :
    Calls Tryz.prog 102 #[.pointer (some ⟨vb, 0, none⟩), .int .u64 now] w fun e w' => e = .returned (.tuple #[]) ∧ Tryz.RVAt B w' vb g cap L (max tm now) tn ln ∧ Below B w w' ∧ Spares [vb, g] w w' := by
  have v1 := h.v.cell 1 (v := .int .u64 tm) rfl
  have fz := h.v.frozen 1
  have hset : Hid (Tryz.RVAt B (w.setCell ⟨vb, 1, none⟩ (.int .u64 now)) vb g cap L now tn ln) := hid_intro ⟨h.v.set 1 (.int .u64 now), (Spares.set (bs := [vb]) (Spares.of_below (Below.refl _ w)) (by simp) _ _).row h.row (by simpa using Ne.symm hne), h.lim, h.num, h.ofs⟩
  by_cases hl : tm < now
  · have hm : Hid (max tm now = now) := hid_intro (by omega)
    go_enter Tryz.func102, Tryz.ntmps102
    go_wp2
    go_end0
    exact ⟨rfl, by rw [hid_elim hm]; exact hid_elim hset, (Below.refl _ _).setCell (p := ⟨vb, 1, none⟩) hvB _, (Spares.of_below (Below.refl _ _)).set (by simp) _ _⟩
  · have hm : Hid (max tm now = tm) := hid_intro (by omega)
    go_enter Tryz.func102, Tryz.ntmps102
    go_wp2
    go_end0
    exact ⟨rfl, by rw [hid_elim hm]; exact h, Below.refl _ _, Spares.of_below (Below.refl _ _)⟩

/-- nothing was made under it. -/
def freeI (n : Int) (L : List ThingD) : Bool := L.all (fun t => !(t.of_ == n))
set_option maxRecDepth 100000 in
set_option maxHeartbeats 2000000 in
theorem Tryz.rFree (B : Nat) (vb g cap : Nat) (L : List ThingD) (tm tn ln : Int) (n : Int) (w : World) (h : Tryz.RVAt B w vb g cap L tm tn ln) :
    Calls Tryz.prog 152 #[.pointer (some ⟨vb, 0, none⟩), .int .i64 n] w fun e w' => e = .returned (.bool (freeI n L)) ∧ w' = w := by
  have c0 := h.v.cell 0 (v := .slice (some ⟨g, 0, none⟩) L.length cap) rfl
  have hlim := h.lim
  obtain ⟨len, hlen⟩ : ∃ len, L.length = len := ⟨_, rfl⟩
  rw [hlen] at c0 hlim
  have Hlen := hid_intro hlen
  clear hlen
  go_enter Tryz.func152, Tryz.ntmps152
  go_wp2
  go_loopw [5] (fun i wr => ∃ k : Nat, k ≤ len ∧ i = .int .i64 k ∧ Hid (∀ x ∈ L.take k, x.of_ ≠ n) ∧ wr = w) (fun i _ => len - (intOf i).toNat)
  case atStart => exact ⟨0, Nat.zero_le _, rfl, hid_intro (by simp), rfl⟩
  case round =>
    obtain ⟨k, hk, rfl, hno, rfl⟩ := hrel
    by_cases hkl : k < len
    · obtain ⟨t, ht⟩ : ∃ t, L[k]? = some t := ⟨L[k]'(by have := hid_elim Hlen; omega), by simp [hid_elim Hlen, hkl]⟩
      obtain ⟨-, -, hc, -⟩ := h.cells ht
      have htk := hid_intro (take_get ht)
      have hmem := hid_intro (List.mem_of_getElem? ht)
      by_cases ho : t.of_ = n
      · have hres : Hid (freeI n L = false) := hid_intro (by
          rw [freeI, List.all_eq_false]; exact ⟨t, hid_elim hmem, by simp [ho]⟩)
        rw [ho] at hc
        clear ho
        go_wp2
        go_ret
        exact ⟨by rw [hid_elim hres]; rfl, rfl⟩
      · have hno' : Hid (∀ x ∈ L.take k ++ [t], x.of_ ≠ n) := hid_intro (fun x hx => by
          rcases List.mem_append.1 hx with hx | hx
          · exact hid_elim hno x hx
          · rw [List.mem_singleton.1 hx]; exact ho)
        have hne : (t.of_ == n) = false := by simpa using ho
        clear ho
        generalize t.of_ = o at *
        go_wp2
        go_roundw
        case rel => exact ⟨k + 1, by omega, rfl, by rw [hid_elim htk]; exact hno', by first | rfl | trivial⟩
        case measure => simp [intOf]; omega
    · obtain rfl : k = len := by omega
      have htk := hid_intro (take_all (Nat.le_of_eq (hid_elim Hlen)))
      have hres : Hid (freeI n L = true) := hid_intro (by
        have hh := hid_elim hno
        rw [hid_elim htk] at hh
        rw [freeI, List.all_eq_true]; intro x hx; simpa using hh x hx)
      go_wp2
      go_ret
      exact ⟨by rw [hid_elim hres]; rfl, rfl⟩
end Go.Proofs

/-
  The document's answer: Tried, where the revoker failed.
-/
namespace Go.Proofs
open Go.RowKit Go.Sort Go.Lib Go.Shelf

/-- the wait behind so many tries. -/
def waitN : Nat → Int
  | 0 => 2
  | 1 => 4
  | 2 => 8
  | 3 => 16
  | _ => 32
theorem waitN_lt {k : Nat} (h : k < 4) : waitN k < 32 ∧ 0 < waitN k ∧ waitN k * 2 = waitN (k + 1) := by
  match k, h with
  | 0, _ => decide
  | 1, _ => decide
  | 2, _ => decide
  | 3, _ => decide
theorem waitN_top {k : Nat} (h : 4 ≤ k) : waitN k = 32 := by
  match k, h with
  | k + 4, _ => rfl
theorem waitN_le (k : Nat) : 0 < waitN k ∧ waitN k ≤ 32 := by
  by_cases h : k < 4
  · have := waitN_lt h; omega
  · rw [waitN_top (by omega)]; omega

/-- a try that failed. -/
def failAt (tm : Int) (t : ThingD) : ThingD := { t with tries := t.tries + 1, doomed := true, at_ := plusI tm (waitN t.tries.toNat) }

theorem Tryz.RVAt.tried1 {B : Nat} {W : World} {vb g cap : Nat} {L : List ThingD} {tm tn ln : Int} (h : Tryz.RVAt B W vb g cap L tm tn ln) (hne : vb ≠ g) {i : Nat} {t : ThingD} (hi : L[i]? = some t) :
    Tryz.RVAt B ((W.setCell ⟨g, i * 8 + 7, none⟩ (.int .i64 (t.tries + 1))).setCell ⟨g, i * 8 + 6, none⟩ (.bool true)) vb g cap (L.set i { t with tries := t.tries + 1, doomed := true }) tm tn ln := by
  have hil : i < L.length := (List.getElem?_eq_some_iff.1 hi).1
  have h1 := h.setF hne hi (j := 7) (t' := { t with tries := t.tries + 1 }) (by omega) (.int .i64 (t.tries + 1)) rfl rfl rfl
  have h2 := h1.setF hne (i := i) (j := 6) (t := { t with tries := t.tries + 1 }) (t' := { t with tries := t.tries + 1, doomed := true }) (by simp [hil]) (by omega) (.bool true) rfl rfl rfl
  rw [List.set_set] at h2
  exact h2
theorem Tryz.RVAt.tried2 {B : Nat} {W : World} {vb g cap : Nat} {L : List ThingD} {tm tn ln : Int} {i : Nat} {t : ThingD} (h : Tryz.RVAt B W vb g cap (L.set i { t with tries := t.tries + 1, doomed := true }) tm tn ln) (hne : vb ≠ g) (hi : L[i]? = some t) :
    Tryz.RVAt B (W.setCell ⟨g, i * 8 + 4, none⟩ (.int .u64 (plusI tm (waitN t.tries.toNat)))) vb g cap (L.set i (failAt tm t)) tm tn ln := by
  have hil : i < L.length := (List.getElem?_eq_some_iff.1 hi).1
  have h2 := h.setF hne (i := i) (j := 4) (t := { t with tries := t.tries + 1, doomed := true }) (t' := failAt tm t) (by simp [hil]) (by omega) (.int .u64 (plusI tm (waitN t.tries.toNat))) rfl rfl rfl
  rw [List.set_set] at h2
  exact h2

set_option maxRecDepth 100000 in
set_option maxHeartbeats 4000000 in
theorem Tryz.rTried_fail (B : Nat) (vb g cap : Nat) (L : List ThingD) (tm tn ln : Int) (w : World) (h : Tryz.RVAt B w vb g cap L tm tn ln) (hB : B ≤ w.heap.size) (hne : vb ≠ g) (htm : 0 ≤ tm) (i : Nat) (t : ThingD) (ht : L[i]? = some t) (hr0 : 0 ≤ t.tries) (hr1 : t.tries < 1000000) :
    Calls Tryz.prog 107 #[.pointer (some ⟨vb, 0, none⟩), .int .i64 i, .bool false] w fun e w' => e = .returned (.tuple #[]) ∧ Tryz.RVAt B w' vb g cap (L.set i (failAt tm t)) tm tn ln ∧ Below B w w' ∧ Spares [vb, g] w w' := by
  have hlim := h.lim
  have hil : i < L.length := (List.getElem?_eq_some_iff.1 ht).1
  have hgB : B ≤ g := (h.row.lt g rfl).1
  obtain ⟨x0, x1, x2, x3, x4, x5, x6, x7⟩ := h.cells ht
  have v0 := h.v.cell 0 (v := .slice (some ⟨g, 0, none⟩) L.length cap) rfl
  have f7 := h.frozenG (i * 8 + 7)
  have f6 := h.frozenG (i * 8 + 6)
  have hP := fun W => Tryz.rPlus tm (waitN t.tries.toNat) htm (by have := waitN_le t.tries.toNat; omega) (by have := waitN_le t.tries.toNat; omega) W
  have r1 := h.tried1 hne ht
  have r2 := r1.tried2 hne ht
  have lv := h.v.lt
  obtain ⟨len, hlen⟩ : ∃ len, L.length = len := ⟨_, rfl⟩
  have p1 := r1.doomP (len := len) (i := i) (by rw [List.length_set]; exact hlen) (by rw [List.length_set]; exact hil)
  have p2 := r2.doomP (len := len) (i := i) (by rw [List.length_set]; exact hlen) (by rw [List.length_set]; exact hil)
  have R2 := hid_intro r2
  rw [hlen] at hil hlim v0
  clear hlen r1 r2
  obtain ⟨tr, htr⟩ : ∃ tr, t.tries = tr := ⟨_, rfl⟩
  rw [htr] at x7 hr0 hr1 hP p1 p2 R2
  have Htr := hid_intro htr
  clear htr
  go_enter Tryz.func107, Tryz.ntmps107
  go_wp2
  go_loopw [7, 8] (fun x i wr => ∃ k : Nat, (k : Int) ≤ tr ∧ k ≤ 4 ∧ i = .int .i64 k ∧ x = .int .u64 (waitN k) ∧ wr = w) (fun _ i _ => 4 - (intOf i).toNat)
  case atStart => exact ⟨0, by omega, by omega, rfl, rfl, rfl⟩
  case round =>
    obtain ⟨k, hk1, hk4, rfl, rfl, rfl⟩ := hrel
    by_cases hkt : (k : Int) < tr ∧ k < 4
    · obtain ⟨hkt, hk⟩ := hkt
      obtain ⟨hx, hx0, hx2⟩ := waitN_lt hk
      have HX := hid_intro hx2
      clear hx2
      generalize waitN k = x at *
      have hx2 : x * 2 < 18446744073709551616 := by omega
      go_wp2
      go_roundw
      case rel => exact ⟨k + 1, by omega, by omega, rfl, by rw [← hid_elim HX], by first | rfl | trivial⟩
      case measure => simp [intOf]; omega
    · have hwt : Hid (waitN k = waitN tr.toNat) := hid_intro (by
        by_cases h4 : k < 4
        · rw [show tr.toNat = k by omega]
        · rw [waitN_top (by omega), waitN_top (k := tr.toNat) (by omega)])
      have hxl := (waitN_le k).2
      have e := hid_elim hwt
      rw [← e] at hP p2 R2
      clear e
      by_cases hlt : (k : Int) < tr
      · have hx : waitN k = 32 := waitN_top (by omega)
        clear hwt hkt
        rw [hx] at hP p2 R2 hxl ⊢
        clear hx
        go_wp2
        go_region_held3 (DoomP g vb i (.slice (some ⟨g, 0, none⟩) len cap) tm) (first
          | with_reducible exact p1
          | with_reducible exact p2
          | with_reducible assumption) (first | (go_at_call 153; refine (hP _).mono ?_; rintro e w2 ⟨rfl, rfl⟩))
        all_goals
          go_wp2
          go_end0
          exact ⟨rfl, (hid_elim R2).below (Grew.below (Grew.refl _).drew), ((((Below.refl B wr).setCell (p := ⟨g, i * 8 + 7, none⟩) hgB _).setCell (p := ⟨g, i * 8 + 6, none⟩) hgB _).setCell (p := ⟨g, i * 8 + 4, none⟩) hgB _).drew, ((((Spares.of_below (Below.refl _ _)).set (by simp) _ _).set (by simp) _ _).set (by simp) _ _).drew⟩
      · clear hk4
        clear hwt hkt
        generalize waitN k = x at *
        go_wp2
        go_region_held3 (DoomP g vb i (.slice (some ⟨g, 0, none⟩) len cap) tm) (first
          | with_reducible exact p1
          | with_reducible exact p2
          | with_reducible assumption) (first | (go_at_call 153; refine (hP _).mono ?_; rintro e w2 ⟨rfl, rfl⟩))
        all_goals
          go_wp2
          go_end0
          exact ⟨rfl, (hid_elim R2).below (Grew.below (Grew.refl _).drew), ((((Below.refl B wr).setCell (p := ⟨g, i * 8 + 7, none⟩) hgB _).setCell (p := ⟨g, i * 8 + 6, none⟩) hgB _).setCell (p := ⟨g, i * 8 + 4, none⟩) hgB _).drew, ((((Spares.of_below (Below.refl _ _)).set (by simp) _ _).set (by simp) _ _).set (by simp) _ _).drew⟩
end Go.Proofs

/-
  The code: how long to wait; a try that failed.
-/
namespace Go.Proofs
open Go.RowKit Go.Sort Go.Lib Go.Shelf Go.Maps

set_option maxRecDepth 100000 in
set_option maxHeartbeats 2000000 in
theorem Tryz.wait (n : Nat) (f : Int) (hf : f = (n : Int) + 1) (hn : f ≤ 9223372036854775807) (w : World) : Calls Tryz.prog 199 #[.int .i64 f] w fun e w' => e = .returned (.int .u64 (waitN n)) ∧ w' = w := by
  have Hf := hid_intro hf
  obtain ⟨r, hr⟩ : ∃ r, waitN n = r := ⟨_, rfl⟩
  rw [hr]
  have Hr := hid_intro hr
  have h1 : 1 ≤ f := by omega
  clear hf hr
  go_enter Tryz.func199, Tryz.ntmps199
  go_wp2
  go_loopw [3, 4] (fun x i wr => ∃ k : Nat, (k : Int) + 1 ≤ f ∧ k ≤ 4 ∧ i = .int .i64 ((k : Int) + 1) ∧ x = .int .u64 (waitN k) ∧ wr = w) (fun _ i _ => 5 - (intOf i).toNat)
  case atStart => exact ⟨0, by omega, by omega, rfl, rfl, rfl⟩
  case round =>
    obtain ⟨k, hk, hk4, rfl, rfl, rfl⟩ := hrel
    by_cases hlt : (k : Int) + 1 < f
    · by_cases h4 : k < 4
      · obtain ⟨hx, hx0, hx2⟩ := waitN_lt h4
        have HX := hid_intro hx2
        generalize waitN k = x at *
        clear hx2
        go_wp2
        exact ⟨⟨k + 1, by omega, by omega, congrArg (Value.int .i64) (by omega), by rw [← hid_elim HX]; exact ⟨rfl, trivial⟩⟩, by simp [intOf]; omega⟩
      · have hx : waitN k = 32 := waitN_top (by omega)
        have hfin : Hid (32 = r) := hid_intro (by rw [← hid_elim Hr]; exact (waitN_top (by have := hid_elim Hf; omega)).symm)
        rw [hx]
        clear hx
        go_wp2
        go_ret
        exact ⟨ret_int (hid_elim hfin), rfl⟩
    · have hfin : Hid (waitN k = r) := hid_intro (by rw [← hid_elim Hr, show n = k by have := hid_elim Hf; omega])
      have hxl := waitN_le k
      generalize waitN k = x at *
      go_wp2
      go_ret
      exact ⟨ret_int (by rw [← hid_elim hfin]; omega), rfl⟩

set_option maxRecDepth 100000 in
set_option maxHeartbeats 2000000 in
/-- a token or lease, in a block of its own, was tried in vain. -/
theorem Tryz.eFail (b : Nat) (ty : TypeId) (ak au at_ tr tm : Int) (pd : Bool) (rest : List Value) (w : World) (hB : BoxN w b ty (#[.int .i64 ak, .int .u64 au, .int .u64 at_, .int .i64 tr, .bool pd] ++ rest.toArray)) (h0 : 0 ≤ tr) (h1 : tr < 9223372036854775807) (t0 : 0 ≤ tm) (t1 : tm ≤ 18446744073709551615) :
    Calls Tryz.prog 168 #[.pointer (some ⟨b, 0, none⟩), .int .u64 tm] w fun e w' => e = .returned (.tuple #[]) ∧ BoxN w' b ty (#[.int .i64 ak, .int .u64 au, .int .u64 (plusI tm (waitN tr.toNat)), .int .i64 (tr + 1), .bool true] ++ rest.toArray) ∧ Spares [b] w w' := by
  have hW := fun W => Tryz.wait tr.toNat (tr + 1) (by omega) (by omega) W
  have hwl := waitN_le tr.toNat
  have hL := fun W => Tryz.later tm (waitN tr.toNat) t0 t1 (by omega) (by omega) W
  generalize plusI tm (waitN tr.toNat) = at2 at *
  generalize waitN tr.toNat = wn at *
  have c2 := hB.cell 2 (v := .int .u64 at_) (by simp)
  have c3 := hB.cell 3 (v := .int .i64 tr) (by simp)
  have c4 := hB.cell 4 (v := .bool pd) (by simp)
  have f2 := hB.frozen 2
  have f3 := hB.frozen 3
  have f4 := hB.frozen 4
  have hfin := ((hB.set 4 (.bool true)).set 3 (.int .i64 (tr + 1))).set 2 (.int .u64 at2)
  have HF := hid_intro hfin
  clear hfin
  go_enter Tryz.func168, Tryz.ntmps168
  go_wp2_with (first
    | (go_at_call 199; refine (hW _).mono ?_; rintro e w1 ⟨rfl, rfl⟩)
    | (go_at_call 65; refine (hL _).mono ?_; rintro e w2 ⟨rfl, rfl⟩))
  go_end0
  refine ⟨rfl, ?_, (((Spares.of_below (Below.refl _ w)).set (by simp) _ _).set (by simp) _ _).set (by simp) _ _⟩
  have := hid_elim HF
  simpa using this
end Go.Proofs
