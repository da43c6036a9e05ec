import Derived.Test.YtjbekgjdempbiaaGreatDoorJLawA
import Derived.Test.YtjbekgjdempbiaaGreatDoorJRel
import Derived.Test.YtjbekgjdempbiaaGreatDoorJSpare
/-
  The statements' own functions: looks, changes, turned.
-/
namespace Go.Proofs
open Go.RowKit Go.Sort Go.Lib Go.Shelf Go.Maps

theorem tellI_le (tm : Int) (L : List ThingD) : (tellI tm L).length ≤ 2 * L.length := by
  have h1 := partI_le tm true L
  have h2 := partI_le tm false L
  simp only [tellI, List.length_append]; omega

set_option maxRecDepth 100000 in
set_option maxHeartbeats 2000000 in
theorem Tryz.changes (B B' va g cap vc g' cap' : Nat) (L L' : List ThingD) (tm tn ln tm' tn' ln' : Int) (w : World) (h : Tryz.RVAt B w va g cap L tm tn ln) (h' : Tryz.RVAt B' w vc g' cap' L' tm' tn' ln') :
    Calls Tryz.prog 113 #[.pointer (some ⟨va, 0, none⟩), .pointer (some ⟨vc, 0, none⟩)] w fun e w' => ∃ b, e = .returned (.bool b) ∧ Below w.heap.size w w' := by
  have hA := Tryz.rAll B va g cap L tm tn ln w h
  have hl := h.lim
  have hl' := h'.lim
  have ht := tellI_le tm L
  have ht' := tellI_le tm' L'
  go_enter Tryz.func113, Tryz.ntmps113
  go_wp2_with (first
    | (go_at_call_of 57 (Value.pointer (some ⟨va, 0, none⟩)); refine hA.mono ?_; rintro e w1 ⟨x, rfl, hr1, hb1⟩)
    | (go_at_call_of 57 (Value.pointer (some ⟨vc, 0, none⟩)); refine (Tryz.rAll B' vc g' cap' L' tm' tn' ln' w1 (h'.below hb1)).mono ?_; rintro e w2 ⟨y, rfl, hr2, hb2⟩)
    | (go_at_call 58; refine (Tryz.sameInfos _ _ _ _ _ _ _ _ w2 (ownsRow_below hr1 hb2) hr2 rfl rfl (by omega) (by omega)).mono ?_; rintro e w3 ⟨b, rfl, hb, hb3⟩))
  go_ret
  exact ⟨!b, rfl, hb1.trans ((hb2.mono hb1.size).trans (hb3.mono (Nat.le_trans hb1.size hb2.size)))⟩

set_option maxRecDepth 100000 in
set_option maxHeartbeats 2000000 in
theorem Tryz.looks (B wb hb va g cap vb mt ml : Nat) (vx : VX) (tm tn ln tn' ln' : Int) (tks : List TokE) (lks : List LeaE) (L : List ThingD) (dv rv c1 c2 c3 c4 : Value) (w : World) (hW : BoxN w wb 69 #[.pointer (some ⟨hb, 0, none⟩), c1, c2, c3, c4]) (hH : BoxN w hb 78 #[dv, rv, .pointer (some ⟨vb, 0, none⟩)]) (hV : Tryz.VaultAt w vb mt ml vx tm tn ln tks lks) (hR : Tryz.RVAt B w va g cap L tm tn' ln') (hl : Rel tks lks L) :
    Calls Tryz.prog 38 #[.pointer (some ⟨wb, 0, none⟩), .pointer (some ⟨va, 0, none⟩)] w fun e w' => e = .returned (.bool true) ∧ Below w.heap.size w w' := by
  have hA := callsIn_wide.1 (Tryz.hAll0 hb vb mt ml vx tm tn ln tks lks w dv rv hH hV)
  have hI := hl.infos tm
  have hN := hl.next tm
  rw [hI] at hA hN
  have hlim := hR.lim
  have ht := tellI_le tm L
  have hX := fun W (b : Below w.heap.size w W) => Tryz.hNext hb vb mt ml vx tm tn ln tks lks W dv rv (hH.below b hH.lt) (hV.below b)
  rw [hI, hN] at hX
  have hY := fun W (b : Below w.heap.size w W) => Tryz.rNext B va g cap L tm tn' ln' W (hR.below b)
  have hw0 := fun W (b : Below w.heap.size w W) => (hW.below b hW.lt).cell 0 (v := .pointer (some ⟨hb, 0, none⟩)) rfl
  have c0 := hw0 w (Below.refl _ _)
  clear hI hN
  generalize minT L = mm at *
  go_enter Tryz.func38, Tryz.ntmps38
  go_wp2_with (first
    | (go_at_call 24; refine hA.mono ?_; rintro e w1 ⟨x, rfl, hr1, hb1⟩)
    | (go_at_call 57; refine (Tryz.rAll B va g cap L tm tn' ln' w1 (hR.below hb1)).mono ?_; rintro e w2 ⟨y, rfl, hr2, hb2⟩)
    | (go_at_call 58; refine (Tryz.sameInfos _ _ _ _ _ _ _ _ w2 (ownsRow_below hr1 hb2) hr2 rfl rfl (by omega) (by omega)).mono ?_; rintro e w3 ⟨b, rfl, hsb, hb3⟩; obtain rfl := hsb rfl; have hb9 := hb1.trans ((hb2.mono hb1.size).trans (hb3.mono (Nat.le_trans hb1.size hb2.size))); have c9 := hw0 _ hb9)
    | (go_at_call 21; refine (hX _ hb9).mono ?_; rintro e w4 ⟨rfl, hb4⟩)
    | (go_at_call 59; refine (hY _ (hb9.trans (hb4.mono hb9.size))).mono ?_; rintro e w5 ⟨rfl, rfl⟩))
  go_ret
  exact ⟨rfl, hb9.trans (hb4.mono hb9.size)⟩

set_option maxHeartbeats 1000000 in
theorem Tryz.turned (wb nb : Nat) (k : Int) (tu : Bool) (c0 c1 c2 : Value) (sk : Bool) (w : World) (hW : BoxN w wb 69 #[c0, c1, c2, .bool sk, .bool false]) :
    Calls Tryz.prog 110 #[.pointer (some ⟨wb, 0, none⟩), .pointer (some ⟨nb, 0, none⟩), .int .i64 k, .int .i64 k, .bool tu] w fun e w' => e = .returned (.bool true) ∧ w' = w.setCell ⟨wb, 1, none⟩ (.pointer (some ⟨nb, 0, none⟩)) := by
  have h1 := hW.cell 1 (v := c1) rfl
  have h4 := hW.cell 4 (v := .bool false) rfl
  have f1 := hW.frozen 1
  by_cases hk : k = 0
  · subst hk
    cases tu
    all_goals
      go_enter Tryz.func110, Tryz.ntmps110
      go_wp2
      go_ret
      exact ⟨rfl, rfl⟩
  · have hk' : (k == 0) = false := by simpa using hk
    cases tu
    all_goals
      go_enter Tryz.func110, Tryz.ntmps110
      go_wp2
      go_ret
      exact ⟨by simp, rfl⟩
end Go.Proofs

/-
  The code: later, isLiveToken, liveLease, Authorize.
-/
namespace Go.Proofs
open Go.RowKit Go.Sort Go.Lib Go.Shelf Go.Maps

set_option maxHeartbeats 1000000 in
theorem Tryz.later (a b : Int) (ha : 0 ≤ a) (ha1 : a ≤ 18446744073709551615) (hb0 : 0 ≤ b) (hb : b ≤ 18446744073709551615) (w : World) :
    Calls Tryz.prog 65 #[.int .u64 a, .int .u64 b] w fun e w' => e = .returned (.int .u64 (plusI a b)) ∧ w' = w := by
  have hr : Hid (plusI a b = if 18446744073709551615 - b < a then 18446744073709551615 else a + b) := hid_intro rfl
  generalize plusI a b = r at *
  by_cases h : 18446744073709551615 - a < b
  · obtain rfl : r = 18446744073709551615 := by rw [hid_elim hr, if_pos (by omega)]
    clear hr
    go_enter Tryz.func65, Tryz.ntmps65
    go_wp2
    go_ret
    exact ⟨rfl, rfl⟩
  · obtain rfl : r = a + b := by rw [hid_elim hr, if_neg (by omega)]
    clear hr
    go_enter Tryz.func65, Tryz.ntmps65
    go_wp2
    go_ret
    exact ⟨ret_int (by omega), rfl⟩

theorem Tryz.zeroTok (w : World) : (zeroValue 153).run Tryz.prog w = .ok (.agg #[.int .i64 0, .int .u64 0, .int .u64 0, .int .i64 0, .bool false]) w := Tryz.zeroValue153 w
theorem Tryz.zeroLea (w : World) : (zeroValue 131).run Tryz.prog w = .ok (.agg #[.int .i64 0, .int .u64 0, .int .u64 0, .int .i64 0, .bool false, .string ⟨#[]⟩, .int .u64 0]) w := Tryz.zeroValue131 w

section
variable {W : World} {vb mt ml : Nat} {vx : VX} {tm tn ln : Int} {tks : List TokE} {lks : List LeaE}
theorem Tryz.VaultAt.lookT (h : Tryz.VaultAt W vb mt ml vx tm tn ln tks lks) {t : TokE} (ht : t ∈ tks) :
    (Instr.lookup 120 (.map (some mt)) (nmV (1, (t.n : Int))) true).run Tryz.prog W = .ok (.tuple #[.agg t.cells, .bool true]) W := by
  obtain ⟨n, _, hm⟩ := h.held.mapT
  exact Tryz.nmType.look_hit h.ok.ksT.1 (wfNm (.inl rfl) (h.ok.limT t ht).1) hm Tryz.underlying120 (Tryz.zeroTok _) (ksGet_of_mem h.ok.ksT.1 (List.mem_reverse.2 (List.mem_map.2 ⟨t, ht, rfl⟩)))
theorem Tryz.VaultAt.lookT_no (h : Tryz.VaultAt W vb mt ml vx tm tn ln tks lks) {x : Int × Int} (hx : NmWf x) (hn : ∀ t ∈ tks, x ≠ (1, (t.n : Int))) :
    (Instr.lookup 120 (.map (some mt)) (nmV x) true).run Tryz.prog W = .ok (.tuple #[.agg #[.int .i64 0, .int .u64 0, .int .u64 0, .int .i64 0, .bool false], .bool false]) W := by
  obtain ⟨n, _, hm⟩ := h.held.mapT
  refine Tryz.nmType.look_miss h.ok.ksT.1 hx hm Tryz.underlying120 (Tryz.zeroTok _) (ksGet_none.2 fun p hp e => ?_)
  obtain ⟨t, ht, rfl⟩ := List.mem_map.1 (List.mem_reverse.1 hp)
  exact hn t ht e.symm
theorem Tryz.VaultAt.lookL (h : Tryz.VaultAt W vb mt ml vx tm tn ln tks lks) {t : LeaE} (ht : t ∈ lks) :
    (Instr.lookup 121 (.map (some ml)) (nmV (2, (t.n : Int))) true).run Tryz.prog W = .ok (.tuple #[.agg t.cells, .bool true]) W := by
  obtain ⟨n, _, hm⟩ := h.held.mapL
  exact Tryz.nmType.look_hit h.ok.ksL.1 (wfNm (.inr rfl) (h.ok.limL t ht).1) hm Tryz.underlying121 (Tryz.zeroLea _) (ksGet_of_mem h.ok.ksL.1 (List.mem_reverse.2 (List.mem_map.2 ⟨t, ht, rfl⟩)))
theorem Tryz.VaultAt.lookL_no (h : Tryz.VaultAt W vb mt ml vx tm tn ln tks lks) {x : Int × Int} (hx : NmWf x) (hn : ∀ t ∈ lks, x ≠ (2, (t.n : Int))) :
    (Instr.lookup 121 (.map (some ml)) (nmV x) true).run Tryz.prog W = .ok (.tuple #[.agg #[.int .i64 0, .int .u64 0, .int .u64 0, .int .i64 0, .bool false, .string ⟨#[]⟩, .int .u64 0], .bool false]) W := by
  obtain ⟨n, _, hm⟩ := h.held.mapL
  refine Tryz.nmType.look_miss h.ok.ksL.1 hx hm Tryz.underlying121 (Tryz.zeroLea _) (ksGet_none.2 fun p hp e => ?_)
  obtain ⟨t, ht, rfl⟩ := List.mem_map.1 (List.mem_reverse.1 hp)
  exact hn t ht e.symm
theorem Tryz.VaultAt.alloc (h : Tryz.VaultAt W vb mt ml vx tm tn ln tks lks) (o : Obj) : Tryz.VaultAt (W.alloc o) vb mt ml vx tm tn ln tks lks := h.below ((Below.refl _ W).alloc (Nat.le_refl _) o)
end

/-- what a look-up in one of the vault's maps reads. -/
structure Tryz.LkP (vb c m nb : Nat) (tm : TypeId) (k u : Int) (r : Value) (W : World) : Prop where
  mp : W.cell? ⟨vb, c, none⟩ = some (.map (some m))
  n0 : W.cell? ⟨nb, 0, none⟩ = some (.int .i64 k)
  n1 : W.cell? ⟨nb, 1, none⟩ = some (.int .u64 u)
  lk : (Instr.lookup tm (.map (some m)) (.agg #[.int .i64 k, .int .u64 u]) true).run Tryz.prog W = .ok r W

set_option maxRecDepth 100000 in
set_option maxHeartbeats 2000000 in
theorem Tryz.isLive_any (vb mt : Nat) (x : Int × Int) (ak au at_ tr : Int) (pd b : Bool) (w : World) (hP : ∀ W, Below w.heap.size w W → W.cell? ⟨vb, 3, none⟩ = some (.map (some mt)) ∧ (Instr.lookup 120 (.map (some mt)) (nmV x) true).run Tryz.prog W = .ok (.tuple #[.agg #[.int .i64 ak, .int .u64 au, .int .u64 at_, .int .i64 tr, .bool pd], .bool b]) W) :
    Calls Tryz.prog 83 #[.pointer (some ⟨vb, 0, none⟩), nmV x] w fun e w' => e = .returned (.bool (b && !pd)) ∧ Below w.heap.size w w' := by
  have hB0 : Below w.heap.size w (w.alloc (.cells #[.int .i64 x.1, .int .u64 x.2] 114)) := (Below.refl _ w).alloc (Nat.le_refl _) _
  have bN := BoxN.new w 114 #[.int .i64 x.1, .int .u64 x.2]
  have hS : ∀ W, Below (w.heap.size + 1) (w.alloc (.cells #[.int .i64 x.1, .int .u64 x.2] 114)) W → Tryz.LkP vb 3 mt w.heap.size 120 x.1 x.2 (.tuple #[.agg #[.int .i64 ak, .int .u64 au, .int .u64 at_, .int .i64 tr, .bool pd], .bool b]) W := fun W hb => by
    have bN' := bN.below hb (by omega)
    obtain ⟨h1, h2⟩ := hP W (hB0.trans (hb.mono (by omega)))
    exact ⟨h1, bN'.cell 0 rfl, bN'.cell 1 rfl, h2⟩
  have hs0 : (w.alloc (.cells #[.int .i64 x.1, .int .u64 x.2] 114)).heap.size = w.heap.size + 1 := by simp
  unfold nmV
  go_enter Tryz.func83, Tryz.ntmps83
  go_wp2_with fail
  generalize w.alloc (.cells #[.int .i64 x.1, .int .u64 x.2] 114) = W1 at *
  have hb1 : Below (w.heap.size + 1) W1 W1.drew := (Below.refl _ _).drew
  refine wp_region_held_drew (S := Tryz.LkP vb 3 mt w.heap.size 120 x.1 x.2 (.tuple #[.agg #[.int .i64 ak, .int .u64 au, .int .u64 at_, .int .i64 tr, .bool pd], .bool b])) (by kernel_rfl) (hS _ hb1) (fun hS0 => ?_)
  refine wpAnyH_take (i := 0) (v := ?v0) rfl (by kernel_rfl) (by kernel_rfl) (by kernel_rfl) (fun _ _ _ h => h) (Or.inl ⟨by rfl, ?y0⟩) hS0 ?_
  case y0 => (intro w hSw; obtain ⟨q0, q1, q2, q3⟩ := hSw; go_simp; try with_reducible rfl)
  refine wpAnyH_take (i := 1) (v := ?v1) rfl (by kernel_rfl) (by kernel_rfl) (by kernel_rfl) (fun _ _ _ h => h) (Or.inl ⟨by rfl, ?y1⟩) hS0 ?_
  case y1 => (intro w hSw; obtain ⟨q0, q1, q2, q3⟩ := hSw; go_simp; try with_reducible rfl)
  refine wpAnyH_take (i := 2) (v := ?v2) rfl (by kernel_rfl) (by kernel_rfl) (by kernel_rfl) (fun _ _ _ h => h) (Or.inl ⟨by rfl, ?y2⟩) hS0 ?_
  case y2 => (intro w hSw; obtain ⟨q0, q1, q2, q3⟩ := hSw; go_simp; try with_reducible rfl)
  refine wpAnyH_take (i := 3) (v := ?v3) rfl (by kernel_rfl) (by kernel_rfl) (by kernel_rfl) (fun _ _ _ h => h) (Or.inl ⟨by rfl, ?y3⟩) hS0 ?_
  case y3 => (intro w hSw; obtain ⟨q0, q1, q2, q3⟩ := hSw; go_simp; try with_reducible rfl)
  refine wpAnyH_take (i := 4) (v := ?v4) rfl (by kernel_rfl) (by kernel_rfl) (by kernel_rfl) (fun _ _ _ h => h) (Or.inl ⟨by rfl, ?y4⟩) hS0 ?_
  case y4 => (intro w hSw; obtain ⟨q0, q1, q2, q3⟩ := hSw; go_simp; try with_reducible rfl)
  refine wpAnyH_take (i := 5) (v := ?v5) rfl (by kernel_rfl) (by kernel_rfl) (by kernel_rfl) (fun _ _ _ h => h) (Or.inl ⟨by rfl, ?y5⟩) hS0 ?_
  case y5 => (intro w hSw; obtain ⟨q0, q1, q2, q3⟩ := hSw; go_simp; try with_reducible rfl)
  refine wpAnyH_take (i := 6) (v := ?v6) rfl (by kernel_rfl) (by kernel_rfl) (by kernel_rfl) (fun _ _ _ h => h) (Or.inl ⟨by rfl, ?y6⟩) hS0 ?_
  case y6 => (intro w hSw; obtain ⟨q0, q1, q2, q3⟩ := hSw; go_simp; try with_reducible rfl)
  refine wpAnyH_take (i := 7) (v := ?v7) rfl (by kernel_rfl) (by kernel_rfl) (by kernel_rfl) (fun _ _ _ h => h) (Or.inl ⟨by rfl, ?y7⟩) hS0 ?_
  case y7 => (intro w hSw; obtain ⟨q0, q1, q2, q3⟩ := hSw; go_simp; try with_reducible rfl)
  refine wpAnyH_take (i := 8) (v := ?v8) rfl (by kernel_rfl) (by kernel_rfl) (by kernel_rfl) (fun _ _ _ h => h) (Or.inl ⟨by rfl, ?y8⟩) hS0 ?_
  case y8 => (intro w hSw; obtain ⟨q0, q1, q2, q3⟩ := hSw; go_simp; try with_reducible rfl)
  refine wpAnyH_ready (rs := [9]) (by kernel_rfl) (by simp) ?_
  refine AllReadyH.cons rfl (fun K hK => ?_) AllReadyH.nil
  go_simp
  refine hK.out _ _ (hS _ (hb1.alloc (by simp [hs0]) _)) (fun hS1 => ?_)
  clear hK K
  refine wpAnyH_ready (rs := [10]) (by kernel_rfl) (by simp) ?_
  refine AllReadyH.cons rfl (fun K hK => ?_) AllReadyH.nil
  go_simp
  have hb2 : Below (w.heap.size + 1) W1 (W1.alloc (.cells #[.int .i64 ak, .int .u64 au, .int .u64 at_, .int .i64 tr, .bool pd] 153)).drew := ((Below.refl _ _).alloc (by omega) _).drew
  have bT : BoxN (W1.alloc (.cells #[.int .i64 ak, .int .u64 au, .int .u64 at_, .int .i64 tr, .bool pd] 153)).drew (w.heap.size + 1) 153 #[.int .i64 ak, .int .u64 au, .int .u64 at_, .int .i64 tr, .bool pd] := by
    have h := BoxN.new W1 153 #[.int .i64 ak, .int .u64 au, .int .u64 at_, .int .i64 tr, .bool pd]
    rw [hs0] at h
    exact h
  refine hK.out _ _ (hS _ hb2) (fun hS2 => ?_)
  clear hK K
  refine wpAnyH_ready (rs := [11]) (by kernel_rfl) (by simp) ?_
  refine AllReadyH.cons rfl (fun K hK => ?_) AllReadyH.nil
  go_simp
  refine hK.out _ _ hS2 (fun _ => ?_)
  clear hK K
  refine wpAnyH_done (by kernel_rfl) ?_ _
  have hBf : Below w.heap.size w (W1.alloc (.cells #[.int .i64 ak, .int .u64 au, .int .u64 at_, .int .i64 tr, .bool pd] 153)).drew := hB0.trans (hb2.mono (by omega))
  clear hS hP hS0 hS1 hS2 hb1 hb2 hB0 bN
  generalize (W1.alloc (.cells #[.int .i64 ak, .int .u64 au, .int .u64 at_, .int .i64 tr, .bool pd] 153)).drew = W2 at *
  have hL := Tryz.entryLive (w.heap.size + 1) pd W2 (bT.cell 4 rfl)
  cases b
  · go_wp2_with (go_at_call 89; fail)
    go_ret
    exact ⟨rfl, hBf⟩
  · go_wp2_with (go_at_call 89; refine hL.mono ?_; rintro e w5 ⟨rfl, rfl⟩)
    go_ret
    exact ⟨by simp, hBf⟩

theorem Tryz.isLive_hit (vb mt ml : Nat) (vx : VX) (tm tn ln : Int) (tks : List TokE) (lks : List LeaE) (w : World) (hV : Tryz.VaultAt w vb mt ml vx tm tn ln tks lks) (t : TokE) (ht : t ∈ tks) :
    Calls Tryz.prog 83 #[.pointer (some ⟨vb, 0, none⟩), nmV (1, (t.n : Int))] w fun e w' => e = .returned (.bool (!t.pd)) ∧ Below w.heap.size w w' := by
  have h := Tryz.isLive_any vb mt (1, (t.n : Int)) t.ak t.au t.at_ t.tr t.pd true w (fun W hb => ⟨(hV.below hb).v.cell 3 rfl, (hV.below hb).lookT ht⟩)
  simpa using h
theorem Tryz.isLive_miss (vb mt ml : Nat) (vx : VX) (tm tn ln : Int) (tks : List TokE) (lks : List LeaE) (w : World) (hV : Tryz.VaultAt w vb mt ml vx tm tn ln tks lks) (x : Int × Int) (hx : NmWf x) (hn : ∀ t ∈ tks, x ≠ (1, (t.n : Int))) :
    Calls Tryz.prog 83 #[.pointer (some ⟨vb, 0, none⟩), nmV x] w fun e w' => e = .returned (.bool false) ∧ Below w.heap.size w w' := by
  have h := Tryz.isLive_any vb mt x 0 0 0 0 false false w (fun W hb => ⟨(hV.below hb).v.cell 3 rfl, (hV.below hb).lookT_no hx hn⟩)
  simpa using h
end Go.Proofs
