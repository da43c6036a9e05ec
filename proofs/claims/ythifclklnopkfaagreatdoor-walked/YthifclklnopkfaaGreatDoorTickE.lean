import Derived.Test.YthifclklnopkfaaGreatDoorTickD
/-
  The code: queueAll where one lease is due, and no token.
-/
namespace Go.Proofs
open Go.RowKit Go.Sort Go.Lib Go.Shelf Go.Maps Go.WideMaps

attribute [local go_sem] Oper.semAt_some

theorem Spares.keepsT {bad : TypeId → Bool} {bs : List Nat} {W W' : World} (hS : Spares bs W W') (hbs : ∀ b ∈ bs, ∃ t cs, BoxN W b t cs ∧ bad t = true) : KeepsT bad W W' :=
  ⟨hS.size, fun k o hk hs => by
    by_cases hm : k ∈ bs
    · obtain ⟨t, cs, hB, hb⟩ := hbs k hm
      rw [show W.heap[k]? = _ from hB] at hk
      cases hk
      simp [Stays, hb] at hs
    · exact (hS.block k (Array.getElem?_eq_some_iff.1 hk).1 hm).trans hk⟩
theorem Spares.keepsFrom {bs : List Nat} {W W' : World} (hS : Spares bs W W') (hbs : ∀ b ∈ bs, ∃ t cs, BoxN W b t cs) (B : Nat) : KeepsFrom B W W' :=
  ⟨hS.size, fun k o _ hk hs => by
    by_cases hm : k ∈ bs
    · obtain ⟨t, cs, hB⟩ := hbs k hm
      rw [show W.heap[k]? = _ from hB] at hk
      cases hk
      cases hs
    · exact (hS.block k (Array.getElem?_eq_some_iff.1 hk).1 hm).trans hk⟩

/-- what queueAll's rounds write. -/
def Tryz.badQ (t : TypeId) : Bool := t == 108 || t == 157
/-- one place stands in the queue. -/
def Tryz.Pushed (vb mt ml : Nat) (vx : VX) (tm tn ln : Int) (t : TurnD) (w V : World) : Prop :=
  ∃ g cap, BoxN V vb 108 (Tryz.vaultC { vx with due := .slice (some ⟨g, 0, none⟩) 1 cap } tm mt ml tn ln) ∧ V.ownsRow 6 157 3 (.slice (some ⟨g, 0, none⟩) 1 cap) 1 t.cells.toList ∧ vb ≠ g ∧ (vx.due.ownBlock = some g ∨ w.heap.size ≤ g) ∧ Spares (vb :: vx.due.ownBlock.toList) w V
theorem Tryz.Pushed.own {vb mt ml : Nat} {vx : VX} {tm tn ln : Int} {t : TurnD} {w V V' : World} (h : Tryz.Pushed vb mt ml vx tm tn ln t w V) {row : Option Nat} (hg : V.grownBy V' row) (hr : ∀ r, row = some r → w.heap.size ≤ r ∧ ∃ o : Obj, V.heap[r]? = some o ∧ o.isCells = false) : Tryz.Pushed vb mt ml vx tm tn ln t w V' := by
  obtain ⟨g, cap, h1, h2, h3, h4, h5⟩ := h
  have nb : ∀ {b : Nat} {t : TypeId} {cs : Array Value}, BoxN V b t cs → some b ≠ row := fun hB e => by
    obtain ⟨_, o, ho, hc⟩ := hr _ e.symm
    rw [show V.heap[_]? = _ from hB] at ho; cases ho; cases hc
  have hgb : ∃ cs, BoxN V g 157 cs := by
    rcases h2.2 with ⟨e, _⟩ | ⟨g', cap', cur, e, hbg, hg, _⟩
    · cases e
    · cases e; exact ⟨_, hg⟩
  obtain ⟨gcs, hgb⟩ := hgb
  exact ⟨g, cap, h1.kept hg (nb h1), h2.kept hg (.inr (nb hgb)), h3, h4, ⟨hg.os.trans h5.os, hg.tape.trans h5.tape, hg.output.trans h5.output, Nat.le_trans h5.size hg.size, fun k hk hn => (hg.block k (Nat.lt_of_lt_of_le hk h5.size) (fun e => by have := (hr k e.symm).1; omega)).trans (h5.block k hk hn)⟩⟩

set_option maxRecDepth 100000 in
set_option maxHeartbeats 4000000 in
theorem Tryz.queueAll1 (vb mt ml : Nat) (vx : VX) (tm : Int) (tn ln : Nat) (tks : List TokE) (l : LeaE) (w : World) (hV : Tryz.VFull w vb mt ml vx tm tn ln tks [l]) (hlive : ∀ t ∈ tks, t.pd = false) (hdue : decide (l.at_ ≤ tm) = true) (hrow : w.ownsRow 6 157 3 vx.due 0 []) :
    CallsIn Fence.wide 9 Tryz.prog 85 #[.pointer (some ⟨vb, 0, none⟩)] w fun e w' => e = .returned (.tuple #[]) ∧ Tryz.Pushed vb mt ml vx tm tn ln ⟨l.at_, 2, l.n⟩ w w' := by
  have hfw : Fence.wide.fn 53 := trivial
  have hfw2 : Fence.wide.fn 55 := trivial
  have v1 := hV.va.v.cell 2 (v := .map (some mt)) rfl
  have lv := hV.va.v.lt
  refine callsIn_of_wp_marks Tryz.func85 rfl trivial ?_ rfl
  simp only [Tryz.ntmps85, List.size_toArray, List.length_cons, List.length_nil, Nat.reduceAdd, Nat.reduceSub, Array.replicate_succ, Array.replicate_zero, List.push_toArray, List.append_toArray, List.nil_append, List.cons_append]
  gi_wp2_with (gi_at_call 53; refine (callsIn_wide.2 (Tryz.walkTok (some mt) _)).mono ?_; rintro e w' ⟨rfl, rfl⟩)
  obtain ⟨kT, sT⟩ := hV.va.ok.ksT
  obtain ⟨nT, hnT, mT⟩ := hV.va.held.mapT
  have bB := (BoxN.new w 62 #[.pointer (some ⟨vb, 0, none⟩)]).alloc (.cells #[.map (some mt)] 102)
  have bM := BoxN.new (w.alloc (.cells #[.pointer (some ⟨vb, 0, none⟩)] 62)) 102 #[.map (some mt)]
  have hB0 : Below w.heap.size w ((w.alloc (.cells #[.pointer (some ⟨vb, 0, none⟩)] 62)).alloc (.cells #[.map (some mt)] 102)) := ((Below.refl _ w).alloc (Nat.le_refl _) _).alloc (by simp) _
  have mT0 := (KeepsT.below (bad := Tryz.badQ) hB0).map mT
  have hsz : ((w.alloc (.cells #[.pointer (some ⟨vb, 0, none⟩)] 62)).alloc (.cells #[.map (some mt)] 102)).heap.size = w.heap.size + 2 := by simp
  rw [World.size_alloc] at bM
  have hV0 := hV.below hB0
  obtain ⟨W0, hW0⟩ : ∃ W0, (w.alloc (.cells #[.pointer (some ⟨vb, 0, none⟩)] 62)).alloc (.cells #[.map (some mt)] 102) = W0 := ⟨_, rfl⟩
  rw [hW0] at bB bM hB0 mT0 hsz hV0 ⊢
  clear hW0
  refine wpIn_rangeFunc_ownH rfl (by omega) (gf := 101) (lb := #[.pointer (some ⟨w.heap.size + 1, 0, none⟩)]) rfl trivial Tryz.enters101
    (Tryz.walkTok_stops 8 (by omega) Tryz.badQ (by decide) (by decide) (w.heap.size + 1) mt nT (tks.map TokE.key) kT sT (by have := hV.va.ok.lenT; simp; omega) W0 bM mT0) keepsT_t keepsT_b (Below.refl _ _) (fun _ => rfl)
    (fun _ V => Below W0.heap.size W0 V)
    (fun _ _ _ => False)
    (ownFrom_below (Nat.le_refl _) (Nat.le_refl _))
    (fun _ _ _ _ _ hs _ _ => hs)
    (Below.refl _ _)
    (fun x a' V => ∃ Bx, BoxN V Bx 97 #[.int .i64 x.1.1.1, .int .u64 x.1.1.2] ∧ a' = { tmps := #[.pointer (some ⟨vb, 0, none⟩), .pointer (some ⟨w.heap.size, 0, none⟩), .pointer (some ⟨Bx, 0, none⟩), undef, undef, .pointer (some ⟨vb, 0, none⟩), .pointer (some ⟨vb, 0, none⟩), .pointer (some ⟨vb, 2, none⟩), .map (some mt), .func (.func 101) #[] #[.pointer (some ⟨w.heap.size + 1, 0, none⟩)], .agg #[.int .i64 x.1.1.1, .int .u64 x.1.1.2], .pointer (some ⟨x.1.2, 0, none⟩), undef, undef, undef, undef, undef, undef, undef, undef, undef, undef, undef, undef, undef, undef, undef, undef, undef, undef, undef, undef, undef, undef, undef, undef, undef, undef, undef, undef, undef, undef, undef], defers := [] })
    (fun x a' _ X Y row hs hgr hr => by obtain ⟨Bx, h2, h3⟩ := hs; exact ⟨Bx, boxN_own Bx 97 (fun (_ : Unit) => #[.int .i64 x.1.1.1, .int .u64 x.1.1.2]) () X Y row h2 hgr (fun r e => (hr r e).2), h3⟩)
    ?assign ?body ?done ?stop
  case assign =>
    rintro ll pre x V K hI hK
    unfold nmV
    gi_wp2
    exact hK _ _ ((KeepsOthers.alloc _ _).from _) (KeepsT.alloc _ _) (hI.alloc hI.size _) ⟨V.heap.size, BoxN.new V 97 _, rfl⟩
  case body =>
    rintro ll pre x a' V hl ⟨r, hr⟩ hI ⟨Bx, bX, rfl⟩ hlt'
    obtain ⟨ht, hkx⟩ := tokOf_spec x
    obtain ⟨tk, htk⟩ : ∃ tk, tokOf x = tk := ⟨_, rfl⟩
    rw [htk] at ht hkx
    obtain ⟨x, hxm⟩ := x
    simp only at hkx
    subst hkx
    have x0 := bX.cell 0 (v := .int .i64 1) rfl
    have x1 := bX.cell 1 (v := .int .u64 (tk.n : Int)) rfl
    have bB1 := bB.below hI bB.lt
    have cB := bB1.cell 0 (v := .pointer (some ⟨vb, 0, none⟩)) rfl
    have hq := Tryz.queueTok_live vb mt ml vx tm tn ln tks [l] V (hV0.below hI).va tk ht (hlive tk ht)
    unfold nmV at hq
    have hfq : Fence.wide.fn 123 := trivial
    simp only [TokE.key]
    gi_wp2_with (gi_at_call 123; refine (callsIn_wide.2 hq).mono ?_; rintro e V2 ⟨rfl, hbV⟩)
    exact ⟨keepsFrom_below _ hbV, KeepsT.below hbV, hI.trans (hbV.mono hI.size)⟩
  case done =>
    rintro D1 zs V hD - hI hD1
    have hD1lt := (Array.getElem?_eq_some_iff.1 hD1).1
    have hVV := hV0.below hI
    have bB1 := bB.below hI bB.lt
    have cB := bB1.cell 0 (v := .pointer (some ⟨vb, 0, none⟩)) rfl
    have v2 := hVV.va.v.cell 3 (v := .map (some ml)) rfl
    gi_wp2_with (gi_at_call 55; refine (callsIn_wide.2 (Tryz.walkLea (some ml) _)).mono ?_; rintro e w' ⟨rfl, rfl⟩)
    clear v2 cB
    obtain ⟨kL, sL⟩ := hVV.va.ok.ksL
    obtain ⟨nL, hnL, mL⟩ := hVV.va.held.mapL
    have bM2 := BoxN.new V 103 #[.map (some ml)]
    have hB1 : Below V.heap.size V (V.alloc (.cells #[.map (some ml)] 103)) := (Below.refl _ V).alloc (Nat.le_refl _) _
    have mL1 := (KeepsT.below (bad := Tryz.badQ) hB1).map mL
    have hD2 : (V.alloc (.cells #[.map (some ml)] 103)).heap[D1]? = some (.deferred (some [])) := (hB1.block D1 hD1lt).trans hD1
    have hs1 : (V.alloc (.cells #[.map (some ml)] 103)).heap.size = V.heap.size + 1 := by simp
    have hBw : Below w.heap.size w (V.alloc (.cells #[.map (some ml)] 103)) := (hB0.trans (hI.mono hB0.size)).trans (hB1.mono (by have := hI.size; omega))
    have hbx := bB1.below hB1 bB1.lt
    have hV1 := hVV.below hB1
    have hsV := hI.size
    obtain ⟨V1, hVe⟩ : ∃ V1, V.alloc (.cells #[.map (some ml)] 103) = V1 := ⟨_, rfl⟩
    rw [hVe] at bM2 hB1 mL1 hD2 hs1 hBw hbx hV1 ⊢
    clear hVe hVV bB1 hD1 mL
    refine wpIn_rangeFunc_ownH rfl (by omega) (gf := 105) (lb := #[.pointer (some ⟨V.heap.size, 0, none⟩)]) rfl trivial Tryz.enters105
      (Tryz.walkLea_stops 8 (by omega) Tryz.badQ (by decide) (by decide) V.heap.size ml nL (([l] : List LeaE).map LeaE.key) kL sL (by simp) V1 bM2 mL1) keepsT_t keepsT_b (Below.refl _ _) (fun _ => rfl)
      (fun pre X => X.heap[D1]? = some (.deferred (some [])) ∧ (pre = [] ∧ Below V1.heap.size V1 X ∨ pre ≠ [] ∧ Tryz.Pushed vb mt ml vx tm tn ln ⟨l.at_, 2, l.n⟩ w X))
      (fun _ _ _ => False)
      (fun pre X Y row hs hgr hr => ⟨own_low (β := Unit) D1 _ (by omega) () X Y row hs.1 hgr hr, by
        rcases hs.2 with ⟨e, h⟩ | ⟨e, h⟩
        · exact .inl ⟨e, ownFrom_below (β := Unit) (Nat.le_refl _) (Nat.le_refl _) () X Y row h hgr hr⟩
        · exact .inr ⟨e, h.own hgr (fun r e => ⟨by have := (hr r e).1; omega, (hr r e).2⟩)⟩⟩)
      (fun _ _ _ _ _ hs _ _ => hs)
      ⟨hD2, .inl ⟨rfl, Below.refl _ _⟩⟩
      (fun x a' X => ∃ Bx, BoxN X Bx 97 #[.int .i64 x.1.1.1, .int .u64 x.1.1.2] ∧ a' = { tmps := #[.pointer (some ⟨vb, 0, none⟩), .pointer (some ⟨w.heap.size, 0, none⟩), undef, .pointer (some ⟨Bx, 0, none⟩), .pointer (some ⟨x.1.2, 0, none⟩), .pointer (some ⟨vb, 0, none⟩), .pointer (some ⟨vb, 0, none⟩), .pointer (some ⟨vb, 2, none⟩), .map (some mt), .func (.func 101) #[] #[.pointer (some ⟨w.heap.size + 1, 0, none⟩)], undef, undef, undef, undef, undef, .pointer (some ⟨vb, 0, none⟩), .pointer (some ⟨vb, 0, none⟩), .pointer (some ⟨vb, 3, none⟩), .map (some ml), .func (.func 105) #[] #[.pointer (some ⟨V.heap.size, 0, none⟩)], .agg #[.int .i64 x.1.1.1, .int .u64 x.1.1.2], .pointer (some ⟨x.1.2, 0, none⟩), undef, undef, undef, undef, undef, undef, undef, undef, undef, undef, undef, undef, undef, undef, undef, undef, undef, undef, undef, undef, undef], defers := [] })
      (fun x a' _ X Y row hs hgr hr => by obtain ⟨Bx, h2, h3⟩ := hs; exact ⟨Bx, boxN_own Bx 97 (fun (_ : Unit) => #[.int .i64 x.1.1.1, .int .u64 x.1.1.2]) () X Y row h2 hgr (fun r e => (hr r e).2), h3⟩)
      ?assign2 ?body2 ?done2 ?stop2
    case assign2 =>
      rintro ll pre x X K ⟨hDX, hI2⟩ hK
      unfold nmV
      gi_wp2
      exact hK _ _ ((KeepsOthers.alloc _ _).from _) (KeepsT.alloc _ _) ⟨(Below.heap_alloc X _ D1 (Array.getElem?_eq_some_iff.1 hDX).1).trans hDX, hI2.imp (fun h => ⟨h.1, h.2.alloc h.2.size _⟩) (fun h => ⟨h.1, h.2.own (World.grownBy_alloc X _ none) (fun r e => by cases e)⟩)⟩ ⟨X.heap.size, BoxN.new X 97 _, rfl⟩
    case body2 =>
      rintro ll pre x a' V hl ⟨r, hr⟩ ⟨hDX, hI2⟩ ⟨Bx, bX, rfl⟩ hlt'
      have hp0 : pre = [] := by simpa using hlt'
      subst hp0
      have hIB : Below V1.heap.size V1 V := by
        rcases hI2 with ⟨_, h⟩ | ⟨e, _⟩
        · exact h
        · exact absurd rfl e
      clear hI2
      obtain ⟨x, hxm⟩ := x
      have hkx : x = l.key := by simpa using hxm
      subst hkx
      have hVX := hV1.below hIB
      have bL := hVX.va.held.lea l (by simp)
      have l2 := bL.cell 2 (v := .int .u64 l.at_) rfl
      have bB1 := hbx.below hIB hbx.lt
      have cB := bB1.cell 0 (v := .pointer (some ⟨vb, 0, none⟩)) rfl
      have cT := hVX.va.v.cell 1 (v := .int .u64 tm) rfl
      have x0 := bX.cell 0 (v := .int .i64 2) rfl
      have x1 := bX.cell 1 (v := .int .u64 (l.n : Int)) rfl
      have hBwX : Below w.heap.size w V := hBw.trans (hIB.mono hBw.size)
      have hfp : Fence.wide.fn 124 := trivial
      have hcall : ∀ m X, Below V.heap.size V X → CallsIn Fence.wide m Tryz.prog 124 #[.pointer (some ⟨vb, 7, none⟩), .agg #[.int .u64 l.at_, .int .i64 2, .int .u64 (l.n : Int)]] X fun e V3 => e = .returned (.tuple #[]) ∧ KeepsFrom V1.heap.size V V3 ∧ KeepsT Tryz.badQ V V3 ∧ Tryz.Pushed vb mt ml vx tm tn ln ⟨l.at_, 2, l.n⟩ w V3 ∧ V3.heap[D1]? = some (.deferred (some [])) := fun m X hbX => by
        have hVX1 := hVX.below hbX
        have hBX : Below w.heap.size w X := hBwX.trans (hbX.mono hBwX.size)
        have hr1 := ownsRow_below hrow hBX
        refine callsIn_wide.2 ((Tryz.qPush0 6 vb vx.due _ ⟨l.at_, 2, l.n⟩ X hVX1.va.v rfl hr1 hVX1.va.six).mono ?_)
        rintro e V3 ⟨rfl, g, cap, b3, r3, hvg, hwg, hs3⟩
        have hbs : ∀ b ∈ vb :: vx.due.ownBlock.toList, ∃ t cs, BoxN X b t cs ∧ Tryz.badQ t = true := fun b hb => by
          rcases List.mem_cons.1 hb with rfl | hb
          · exact ⟨_, _, hVX1.va.v, by decide⟩
          · rcases hr1.2 with ⟨e, _⟩ | ⟨g', cap', cur, e, hbg, hg, _⟩
            · rw [e] at hb; simp [Value.ownBlock] at hb
            · rw [e] at hb
              have e2 : b = g' := by simpa [Value.ownBlock] using hb
              subst e2
              exact ⟨_, _, hg, by decide⟩
        have kf := (keepsFrom_below 0 hbX).trans (hs3.keepsFrom (fun b hb => (hbs b hb).imp fun _ h => h.imp fun _ h => h.1) 0)
        exact ⟨rfl, keepsFrom_up kf (Nat.zero_le _), (KeepsT.below hbX).trans (hs3.keepsT hbs), ⟨g, cap, b3, r3, hvg, hwg.imp id (fun h => Nat.le_trans hBX.size h), (Spares.of_below hBX).trans hs3⟩, kf.same D1 _ (Nat.zero_le _) hDX rfl⟩
      clear hV1 hbx hVX bL bB1 hBwX hrow hV0 hV bB bM mT mT0 kT sT kL sL bM2 mL1 hB1 hBw
      simp only [LeaE.key]
      gi_wp2_with fail
      refine wpIn_region_any (by kernel_rfl) (wpAnyIn_inRound ll (by kernel_rfl) _ _ _ _ ?_)
      change wpAnyIn _ _ _ _ _ _ _ _ _ (World.drew _)
      refine wpAnyIn_take (i := 0) (v := .pointer (some ⟨l.blk, 0, none⟩)) rfl rfl (by kernel_rfl) (by kernel_rfl) (by kernel_rfl) (fun _ _ _ h => h) ⟨Or.inl ⟨by rfl, ?_⟩, fun _ => rfl⟩ ?_
      · intro w; go_simp
      refine wpAnyIn_take (i := 1) (v := .pointer (some ⟨l.blk, 0, none⟩)) rfl rfl (by kernel_rfl) (by kernel_rfl) (by kernel_rfl) (fun _ _ _ h => h) ⟨Or.inl ⟨by rfl, ?_⟩, fun _ => rfl⟩ ?_
      · intro w; go_simp
      refine wpAnyIn_take (i := 2) (v := .pointer (some ⟨l.blk, 0, none⟩)) rfl rfl (by kernel_rfl) (by kernel_rfl) (by kernel_rfl) (fun _ _ _ h => h) ⟨Or.inl ⟨by rfl, ?_⟩, fun _ => rfl⟩ ?_
      · intro w; go_simp
      refine wpAnyIn_take (i := 3) (v := .pointer (some ⟨l.blk, 2, none⟩)) rfl rfl (by kernel_rfl) (by kernel_rfl) (by kernel_rfl) (fun _ _ _ h => h) ⟨Or.inl ⟨by rfl, ?_⟩, fun _ => rfl⟩ ?_
      · intro w; go_simp
      refine wpAnyIn_ready (rs := [4, 5]) (by kernel_rfl) (by simp) ?_
      refine AllReadyIn.cons rfl (fun K hK => ?_) (AllReadyIn.cons rfl (fun K hK => ?_) (AllReadyIn.nil))
      · go_simp
        refine hK _ _ ?_
        clear hK K
        refine wpAnyIn_ready (rs := [5]) (by kernel_rfl) (by simp) ?_
        refine AllReadyIn.cons rfl (fun K hK => ?_) (AllReadyIn.nil)
        · go_simp
          refine hK _ _ ?_
          clear hK K
          refine wpAnyIn_take (i := 6) (v := .pointer (some ⟨vb, 0, none⟩)) rfl rfl (by kernel_rfl) (by kernel_rfl) (by kernel_rfl) (fun _ _ _ h => h) ⟨Or.inl ⟨by rfl, ?_⟩, fun _ => rfl⟩ ?_
          · intro w; go_simp
          refine wpAnyIn_take (i := 7) (v := .pointer (some ⟨vb, 1, none⟩)) rfl rfl (by kernel_rfl) (by kernel_rfl) (by kernel_rfl) (fun _ _ _ h => h) ⟨Or.inl ⟨by rfl, ?_⟩, fun _ => rfl⟩ ?_
          · intro w; go_simp
          refine wpAnyIn_ready (rs := [8]) (by kernel_rfl) (by simp) ?_
          refine AllReadyIn.cons rfl (fun K hK => ?_) (AllReadyIn.nil)
          · go_simp
            refine hK _ _ ?_
            clear hK K
            refine wpAnyIn_take (i := 9) (v := .bool true) rfl rfl (by kernel_rfl) (by kernel_rfl) (by kernel_rfl) (fun _ _ _ h => h) ⟨Or.inl ⟨by rfl, ?_⟩, fun _ => rfl⟩ ?_
            · intro w; go_simp
            refine wpAnyIn_done (by kernel_rfl) ?_ _
            gi_wp2_with fail
            refine wpIn_region_any (by kernel_rfl) (wpAnyIn_inRound ll (by kernel_rfl) _ _ _ _ ?_)
            change wpAnyIn _ _ _ _ _ _ _ _ _ (World.drew _)
            refine wpAnyIn_take (i := 3) (v := .pointer (some ⟨l.blk, 0, none⟩)) rfl rfl (by kernel_rfl) (by kernel_rfl) (by kernel_rfl) (fun _ _ _ h => h) ⟨Or.inl ⟨by rfl, ?_⟩, fun _ => rfl⟩ ?_
            · intro w; go_simp
            refine wpAnyIn_take (i := 4) (v := .pointer (some ⟨l.blk, 0, none⟩)) rfl rfl (by kernel_rfl) (by kernel_rfl) (by kernel_rfl) (fun _ _ _ h => h) ⟨Or.inl ⟨by rfl, ?_⟩, fun _ => rfl⟩ ?_
            · intro w; go_simp
            refine wpAnyIn_take (i := 5) (v := .pointer (some ⟨l.blk, 0, none⟩)) rfl rfl (by kernel_rfl) (by kernel_rfl) (by kernel_rfl) (fun _ _ _ h => h) ⟨Or.inl ⟨by rfl, ?_⟩, fun _ => rfl⟩ ?_
            · intro w; go_simp
            refine wpAnyIn_take (i := 6) (v := .pointer (some ⟨l.blk, 2, none⟩)) rfl rfl (by kernel_rfl) (by kernel_rfl) (by kernel_rfl) (fun _ _ _ h => h) ⟨Or.inl ⟨by rfl, ?_⟩, fun _ => rfl⟩ ?_
            · intro w; go_simp
            refine wpAnyIn_ready (rs := [0, 7, 8]) (by kernel_rfl) (by simp) ?_
            refine AllReadyIn.cons rfl (fun K hK => ?_) (AllReadyIn.cons rfl (fun K hK => ?_) (AllReadyIn.cons rfl (fun K hK => ?_) (AllReadyIn.nil)))
            · go_simp
              refine hK _ _ ?_
              clear hK K
              refine wpAnyIn_take (i := 1) (v := .pointer (some ⟨vb, 0, none⟩)) rfl rfl (by kernel_rfl) (by kernel_rfl) (by kernel_rfl) (fun _ _ _ h => h) ⟨Or.inl ⟨by rfl, ?_⟩, fun _ => rfl⟩ ?_
              · intro w; go_simp
              refine wpAnyIn_take (i := 2) (v := .pointer (some ⟨vb, 7, none⟩)) rfl rfl (by kernel_rfl) (by kernel_rfl) (by kernel_rfl) (fun _ _ _ h => h) ⟨Or.inl ⟨by rfl, ?_⟩, fun _ => rfl⟩ ?_
              · intro w; go_simp
              refine wpAnyIn_ready (rs := [7, 8]) (by kernel_rfl) (by simp) ?_
              refine AllReadyIn.cons rfl (fun K hK => ?_) (AllReadyIn.cons rfl (fun K hK => ?_) (AllReadyIn.nil))
              · go_simp
                refine hK _ _ ?_
                clear hK K
                refine wpAnyIn_ready (rs := [8]) (by kernel_rfl) (by simp) ?_
                refine AllReadyIn.cons rfl (fun K hK => ?_) (AllReadyIn.nil)
                · go_simp
                  refine hK _ _ ?_
                  clear hK K
                  refine wpAnyIn_take (i := 9) (v := .agg #[.int .u64 l.at_, .int .i64 2, .int .u64 (l.n : Int)]) rfl rfl (by kernel_rfl) (by kernel_rfl) (by kernel_rfl) (fun _ _ _ h => h) ⟨Or.inl ⟨by rfl, ?_⟩, fun _ => rfl⟩ ?_
                  · intro w; go_simp
                  refine wpAnyIn_ready (rs := [10]) (by kernel_rfl) (by simp) ?_
                  refine AllReadyIn.cons rfl (fun K hK => ?_) (AllReadyIn.nil)
                  · go_simp
                    refine (hcall _ _ (Grew.below ((Grew.refl V).drew).drew)).mono ?_
                    rintro e V3 ⟨rfl, k1, k2, k3, k4⟩
                    refine hK _ _ ?_
                    clear hK K
                    refine wpAnyIn_done (by kernel_rfl) ?_ _
                    gi_wp2
                    exact ⟨k1, k2, k4, .inr ⟨by simp, k3⟩⟩
              · go_simp
                refine hK _ _ ?_
                clear hK K
                refine wpAnyIn_ready (rs := [7]) (by kernel_rfl) (by simp) ?_
                refine AllReadyIn.cons rfl (fun K hK => ?_) (AllReadyIn.nil)
                · go_simp
                  refine hK _ _ ?_
                  clear hK K
                  refine wpAnyIn_take (i := 9) (v := .agg #[.int .u64 l.at_, .int .i64 2, .int .u64 (l.n : Int)]) rfl rfl (by kernel_rfl) (by kernel_rfl) (by kernel_rfl) (fun _ _ _ h => h) ⟨Or.inl ⟨by rfl, ?_⟩, fun _ => rfl⟩ ?_
                  · intro w; go_simp
                  refine wpAnyIn_ready (rs := [10]) (by kernel_rfl) (by simp) ?_
                  refine AllReadyIn.cons rfl (fun K hK => ?_) (AllReadyIn.nil)
                  · go_simp
                    refine (hcall _ _ (Grew.below ((Grew.refl V).drew).drew)).mono ?_
                    rintro e V3 ⟨rfl, k1, k2, k3, k4⟩
                    refine hK _ _ ?_
                    clear hK K
                    refine wpAnyIn_done (by kernel_rfl) ?_ _
                    gi_wp2
                    exact ⟨k1, k2, k4, .inr ⟨by simp, k3⟩⟩
            · go_simp
              refine hK _ _ ?_
              clear hK K
              refine wpAnyIn_ready (rs := [0, 8]) (by kernel_rfl) (by simp) ?_
              refine AllReadyIn.cons rfl (fun K hK => ?_) (AllReadyIn.cons rfl (fun K hK => ?_) (AllReadyIn.nil))
              · go_simp
                refine hK _ _ ?_
                clear hK K
                refine wpAnyIn_take (i := 1) (v := .pointer (some ⟨vb, 0, none⟩)) rfl rfl (by kernel_rfl) (by kernel_rfl) (by kernel_rfl) (fun _ _ _ h => h) ⟨Or.inl ⟨by rfl, ?_⟩, fun _ => rfl⟩ ?_
                · intro w; go_simp
                refine wpAnyIn_take (i := 2) (v := .pointer (some ⟨vb, 7, none⟩)) rfl rfl (by kernel_rfl) (by kernel_rfl) (by kernel_rfl) (fun _ _ _ h => h) ⟨Or.inl ⟨by rfl, ?_⟩, fun _ => rfl⟩ ?_
                · intro w; go_simp
                refine wpAnyIn_ready (rs := [8]) (by kernel_rfl) (by simp) ?_
                refine AllReadyIn.cons rfl (fun K hK => ?_) (AllReadyIn.nil)
                · go_simp
                  refine hK _ _ ?_
                  clear hK K
                  refine wpAnyIn_take (i := 9) (v := .agg #[.int .u64 l.at_, .int .i64 2, .int .u64 (l.n : Int)]) rfl rfl (by kernel_rfl) (by kernel_rfl) (by kernel_rfl) (fun _ _ _ h => h) ⟨Or.inl ⟨by rfl, ?_⟩, fun _ => rfl⟩ ?_
                  · intro w; go_simp
                  refine wpAnyIn_ready (rs := [10]) (by kernel_rfl) (by simp) ?_
                  refine AllReadyIn.cons rfl (fun K hK => ?_) (AllReadyIn.nil)
                  · go_simp
                    refine (hcall _ _ (Grew.below ((Grew.refl V).drew).drew)).mono ?_
                    rintro e V3 ⟨rfl, k1, k2, k3, k4⟩
                    refine hK _ _ ?_
                    clear hK K
                    refine wpAnyIn_done (by kernel_rfl) ?_ _
                    gi_wp2
                    exact ⟨k1, k2, k4, .inr ⟨by simp, k3⟩⟩
              · go_simp
                refine hK _ _ ?_
                clear hK K
                refine wpAnyIn_take (i := 9) (v := .agg #[.int .u64 l.at_, .int .i64 2, .int .u64 (l.n : Int)]) rfl rfl (by kernel_rfl) (by kernel_rfl) (by kernel_rfl) (fun _ _ _ h => h) ⟨Or.inl ⟨by rfl, ?_⟩, fun _ => rfl⟩ ?_
                · intro w; go_simp
                refine wpAnyIn_ready (rs := [0]) (by kernel_rfl) (by simp) ?_
                refine AllReadyIn.cons rfl (fun K hK => ?_) (AllReadyIn.nil)
                · go_simp
                  refine hK _ _ ?_
                  clear hK K
                  refine wpAnyIn_take (i := 1) (v := .pointer (some ⟨vb, 0, none⟩)) rfl rfl (by kernel_rfl) (by kernel_rfl) (by kernel_rfl) (fun _ _ _ h => h) ⟨Or.inl ⟨by rfl, ?_⟩, fun _ => rfl⟩ ?_
                  · intro w; go_simp
                  refine wpAnyIn_take (i := 2) (v := .pointer (some ⟨vb, 7, none⟩)) rfl rfl (by kernel_rfl) (by kernel_rfl) (by kernel_rfl) (fun _ _ _ h => h) ⟨Or.inl ⟨by rfl, ?_⟩, fun _ => rfl⟩ ?_
                  · intro w; go_simp
                  refine wpAnyIn_ready (rs := [10]) (by kernel_rfl) (by simp) ?_
                  refine AllReadyIn.cons rfl (fun K hK => ?_) (AllReadyIn.nil)
                  · go_simp
                    refine (hcall _ _ (Grew.below ((Grew.refl V).drew).drew)).mono ?_
                    rintro e V3 ⟨rfl, k1, k2, k3, k4⟩
                    refine hK _ _ ?_
                    clear hK K
                    refine wpAnyIn_done (by kernel_rfl) ?_ _
                    gi_wp2
                    exact ⟨k1, k2, k4, .inr ⟨by simp, k3⟩⟩
            · go_simp
              refine hK _ _ ?_
              clear hK K
              refine wpAnyIn_ready (rs := [0, 7]) (by kernel_rfl) (by simp) ?_
              refine AllReadyIn.cons rfl (fun K hK => ?_) (AllReadyIn.cons rfl (fun K hK => ?_) (AllReadyIn.nil))
              · go_simp
                refine hK _ _ ?_
                clear hK K
                refine wpAnyIn_take (i := 1) (v := .pointer (some ⟨vb, 0, none⟩)) rfl rfl (by kernel_rfl) (by kernel_rfl) (by kernel_rfl) (fun _ _ _ h => h) ⟨Or.inl ⟨by rfl, ?_⟩, fun _ => rfl⟩ ?_
                · intro w; go_simp
                refine wpAnyIn_take (i := 2) (v := .pointer (some ⟨vb, 7, none⟩)) rfl rfl (by kernel_rfl) (by kernel_rfl) (by kernel_rfl) (fun _ _ _ h => h) ⟨Or.inl ⟨by rfl, ?_⟩, fun _ => rfl⟩ ?_
                · intro w; go_simp
                refine wpAnyIn_ready (rs := [7]) (by kernel_rfl) (by simp) ?_
                refine AllReadyIn.cons rfl (fun K hK => ?_) (AllReadyIn.nil)
                · go_simp
                  refine hK _ _ ?_
                  clear hK K
                  refine wpAnyIn_take (i := 9) (v := .agg #[.int .u64 l.at_, .int .i64 2, .int .u64 (l.n : Int)]) rfl rfl (by kernel_rfl) (by kernel_rfl) (by kernel_rfl) (fun _ _ _ h => h) ⟨Or.inl ⟨by rfl, ?_⟩, fun _ => rfl⟩ ?_
                  · intro w; go_simp
                  refine wpAnyIn_ready (rs := [10]) (by kernel_rfl) (by simp) ?_
                  refine AllReadyIn.cons rfl (fun K hK => ?_) (AllReadyIn.nil)
                  · go_simp
                    refine (hcall _ _ (Grew.below ((Grew.refl V).drew).drew)).mono ?_
                    rintro e V3 ⟨rfl, k1, k2, k3, k4⟩
                    refine hK _ _ ?_
                    clear hK K
                    refine wpAnyIn_done (by kernel_rfl) ?_ _
                    gi_wp2
                    exact ⟨k1, k2, k4, .inr ⟨by simp, k3⟩⟩
              · go_simp
                refine hK _ _ ?_
                clear hK K
                refine wpAnyIn_take (i := 9) (v := .agg #[.int .u64 l.at_, .int .i64 2, .int .u64 (l.n : Int)]) rfl rfl (by kernel_rfl) (by kernel_rfl) (by kernel_rfl) (fun _ _ _ h => h) ⟨Or.inl ⟨by rfl, ?_⟩, fun _ => rfl⟩ ?_
                · intro w; go_simp
                refine wpAnyIn_ready (rs := [0]) (by kernel_rfl) (by simp) ?_
                refine AllReadyIn.cons rfl (fun K hK => ?_) (AllReadyIn.nil)
                · go_simp
                  refine hK _ _ ?_
                  clear hK K
                  refine wpAnyIn_take (i := 1) (v := .pointer (some ⟨vb, 0, none⟩)) rfl rfl (by kernel_rfl) (by kernel_rfl) (by kernel_rfl) (fun _ _ _ h => h) ⟨Or.inl ⟨by rfl, ?_⟩, fun _ => rfl⟩ ?_
                  · intro w; go_simp
                  refine wpAnyIn_take (i := 2) (v := .pointer (some ⟨vb, 7, none⟩)) rfl rfl (by kernel_rfl) (by kernel_rfl) (by kernel_rfl) (fun _ _ _ h => h) ⟨Or.inl ⟨by rfl, ?_⟩, fun _ => rfl⟩ ?_
                  · intro w; go_simp
                  refine wpAnyIn_ready (rs := [10]) (by kernel_rfl) (by simp) ?_
                  refine AllReadyIn.cons rfl (fun K hK => ?_) (AllReadyIn.nil)
                  · go_simp
                    refine (hcall _ _ (Grew.below ((Grew.refl V).drew).drew)).mono ?_
                    rintro e V3 ⟨rfl, k1, k2, k3, k4⟩
                    refine hK _ _ ?_
                    clear hK K
                    refine wpAnyIn_done (by kernel_rfl) ?_ _
                    gi_wp2
                    exact ⟨k1, k2, k4, .inr ⟨by simp, k3⟩⟩
      · go_simp
        refine hK _ _ ?_
        clear hK K
        refine wpAnyIn_take (i := 6) (v := .pointer (some ⟨vb, 0, none⟩)) rfl rfl (by kernel_rfl) (by kernel_rfl) (by kernel_rfl) (fun _ _ _ h => h) ⟨Or.inl ⟨by rfl, ?_⟩, fun _ => rfl⟩ ?_
        · intro w; go_simp
        refine wpAnyIn_take (i := 7) (v := .pointer (some ⟨vb, 1, none⟩)) rfl rfl (by kernel_rfl) (by kernel_rfl) (by kernel_rfl) (fun _ _ _ h => h) ⟨Or.inl ⟨by rfl, ?_⟩, fun _ => rfl⟩ ?_
        · intro w; go_simp
        refine wpAnyIn_ready (rs := [4, 8]) (by kernel_rfl) (by simp) ?_
        refine AllReadyIn.cons rfl (fun K hK => ?_) (AllReadyIn.cons rfl (fun K hK => ?_) (AllReadyIn.nil))
        · go_simp
          refine hK _ _ ?_
          clear hK K
          refine wpAnyIn_ready (rs := [8]) (by kernel_rfl) (by simp) ?_
          refine AllReadyIn.cons rfl (fun K hK => ?_) (AllReadyIn.nil)
          · go_simp
            refine hK _ _ ?_
            clear hK K
            refine wpAnyIn_take (i := 9) (v := .bool true) rfl rfl (by kernel_rfl) (by kernel_rfl) (by kernel_rfl) (fun _ _ _ h => h) ⟨Or.inl ⟨by rfl, ?_⟩, fun _ => rfl⟩ ?_
            · intro w; go_simp
            refine wpAnyIn_done (by kernel_rfl) ?_ _
            gi_wp2_with fail
            refine wpIn_region_any (by kernel_rfl) (wpAnyIn_inRound ll (by kernel_rfl) _ _ _ _ ?_)
            change wpAnyIn _ _ _ _ _ _ _ _ _ (World.drew _)
            refine wpAnyIn_take (i := 3) (v := .pointer (some ⟨l.blk, 0, none⟩)) rfl rfl (by kernel_rfl) (by kernel_rfl) (by kernel_rfl) (fun _ _ _ h => h) ⟨Or.inl ⟨by rfl, ?_⟩, fun _ => rfl⟩ ?_
            · intro w; go_simp
            refine wpAnyIn_take (i := 4) (v := .pointer (some ⟨l.blk, 0, none⟩)) rfl rfl (by kernel_rfl) (by kernel_rfl) (by kernel_rfl) (fun _ _ _ h => h) ⟨Or.inl ⟨by rfl, ?_⟩, fun _ => rfl⟩ ?_
            · intro w; go_simp
            refine wpAnyIn_take (i := 5) (v := .pointer (some ⟨l.blk, 0, none⟩)) rfl rfl (by kernel_rfl) (by kernel_rfl) (by kernel_rfl) (fun _ _ _ h => h) ⟨Or.inl ⟨by rfl, ?_⟩, fun _ => rfl⟩ ?_
            · intro w; go_simp
            refine wpAnyIn_take (i := 6) (v := .pointer (some ⟨l.blk, 2, none⟩)) rfl rfl (by kernel_rfl) (by kernel_rfl) (by kernel_rfl) (fun _ _ _ h => h) ⟨Or.inl ⟨by rfl, ?_⟩, fun _ => rfl⟩ ?_
            · intro w; go_simp
            refine wpAnyIn_ready (rs := [0, 7, 8]) (by kernel_rfl) (by simp) ?_
            refine AllReadyIn.cons rfl (fun K hK => ?_) (AllReadyIn.cons rfl (fun K hK => ?_) (AllReadyIn.cons rfl (fun K hK => ?_) (AllReadyIn.nil)))
            · go_simp
              refine hK _ _ ?_
              clear hK K
              refine wpAnyIn_take (i := 1) (v := .pointer (some ⟨vb, 0, none⟩)) rfl rfl (by kernel_rfl) (by kernel_rfl) (by kernel_rfl) (fun _ _ _ h => h) ⟨Or.inl ⟨by rfl, ?_⟩, fun _ => rfl⟩ ?_
              · intro w; go_simp
              refine wpAnyIn_take (i := 2) (v := .pointer (some ⟨vb, 7, none⟩)) rfl rfl (by kernel_rfl) (by kernel_rfl) (by kernel_rfl) (fun _ _ _ h => h) ⟨Or.inl ⟨by rfl, ?_⟩, fun _ => rfl⟩ ?_
              · intro w; go_simp
              refine wpAnyIn_ready (rs := [7, 8]) (by kernel_rfl) (by simp) ?_
              refine AllReadyIn.cons rfl (fun K hK => ?_) (AllReadyIn.cons rfl (fun K hK => ?_) (AllReadyIn.nil))
              · go_simp
                refine hK _ _ ?_
                clear hK K
                refine wpAnyIn_ready (rs := [8]) (by kernel_rfl) (by simp) ?_
                refine AllReadyIn.cons rfl (fun K hK => ?_) (AllReadyIn.nil)
                · go_simp
                  refine hK _ _ ?_
                  clear hK K
                  refine wpAnyIn_take (i := 9) (v := .agg #[.int .u64 l.at_, .int .i64 2, .int .u64 (l.n : Int)]) rfl rfl (by kernel_rfl) (by kernel_rfl) (by kernel_rfl) (fun _ _ _ h => h) ⟨Or.inl ⟨by rfl, ?_⟩, fun _ => rfl⟩ ?_
                  · intro w; go_simp
                  refine wpAnyIn_ready (rs := [10]) (by kernel_rfl) (by simp) ?_
                  refine AllReadyIn.cons rfl (fun K hK => ?_) (AllReadyIn.nil)
                  · go_simp
                    refine (hcall _ _ (Grew.below ((Grew.refl V).drew).drew)).mono ?_
                    rintro e V3 ⟨rfl, k1, k2, k3, k4⟩
                    refine hK _ _ ?_
                    clear hK K
                    refine wpAnyIn_done (by kernel_rfl) ?_ _
                    gi_wp2
                    exact ⟨k1, k2, k4, .inr ⟨by simp, k3⟩⟩
              · go_simp
                refine hK _ _ ?_
                clear hK K
                refine wpAnyIn_ready (rs := [7]) (by kernel_rfl) (by simp) ?_
                refine AllReadyIn.cons rfl (fun K hK => ?_) (AllReadyIn.nil)
                · go_simp
                  refine hK _ _ ?_
                  clear hK K
                  refine wpAnyIn_take (i := 9) (v := .agg #[.int .u64 l.at_, .int .i64 2, .int .u64 (l.n : Int)]) rfl rfl (by kernel_rfl) (by kernel_rfl) (by kernel_rfl) (fun _ _ _ h => h) ⟨Or.inl ⟨by rfl, ?_⟩, fun _ => rfl⟩ ?_
                  · intro w; go_simp
                  refine wpAnyIn_ready (rs := [10]) (by kernel_rfl) (by simp) ?_
                  refine AllReadyIn.cons rfl (fun K hK => ?_) (AllReadyIn.nil)
                  · go_simp
                    refine (hcall _ _ (Grew.below ((Grew.refl V).drew).drew)).mono ?_
                    rintro e V3 ⟨rfl, k1, k2, k3, k4⟩
                    refine hK _ _ ?_
                    clear hK K
                    refine wpAnyIn_done (by kernel_rfl) ?_ _
                    gi_wp2
                    exact ⟨k1, k2, k4, .inr ⟨by simp, k3⟩⟩
            · go_simp
              refine hK _ _ ?_
              clear hK K
              refine wpAnyIn_ready (rs := [0, 8]) (by kernel_rfl) (by simp) ?_
              refine AllReadyIn.cons rfl (fun K hK => ?_) (AllReadyIn.cons rfl (fun K hK => ?_) (AllReadyIn.nil))
              · go_simp
                refine hK _ _ ?_
                clear hK K
                refine wpAnyIn_take (i := 1) (v := .pointer (some ⟨vb, 0, none⟩)) rfl rfl (by kernel_rfl) (by kernel_rfl) (by kernel_rfl) (fun _ _ _ h => h) ⟨Or.inl ⟨by rfl, ?_⟩, fun _ => rfl⟩ ?_
                · intro w; go_simp
                refine wpAnyIn_take (i := 2) (v := .pointer (some ⟨vb, 7, none⟩)) rfl rfl (by kernel_rfl) (by kernel_rfl) (by kernel_rfl) (fun _ _ _ h => h) ⟨Or.inl ⟨by rfl, ?_⟩, fun _ => rfl⟩ ?_
                · intro w; go_simp
                refine wpAnyIn_ready (rs := [8]) (by kernel_rfl) (by simp) ?_
                refine AllReadyIn.cons rfl (fun K hK => ?_) (AllReadyIn.nil)
                · go_simp
                  refine hK _ _ ?_
                  clear hK K
                  refine wpAnyIn_take (i := 9) (v := .agg #[.int .u64 l.at_, .int .i64 2, .int .u64 (l.n : Int)]) rfl rfl (by kernel_rfl) (by kernel_rfl) (by kernel_rfl) (fun _ _ _ h => h) ⟨Or.inl ⟨by rfl, ?_⟩, fun _ => rfl⟩ ?_
                  · intro w; go_simp
                  refine wpAnyIn_ready (rs := [10]) (by kernel_rfl) (by simp) ?_
                  refine AllReadyIn.cons rfl (fun K hK => ?_) (AllReadyIn.nil)
                  · go_simp
                    refine (hcall _ _ (Grew.below ((Grew.refl V).drew).drew)).mono ?_
                    rintro e V3 ⟨rfl, k1, k2, k3, k4⟩
                    refine hK _ _ ?_
                    clear hK K
                    refine wpAnyIn_done (by kernel_rfl) ?_ _
                    gi_wp2
                    exact ⟨k1, k2, k4, .inr ⟨by simp, k3⟩⟩
              · go_simp
                refine hK _ _ ?_
                clear hK K
                refine wpAnyIn_take (i := 9) (v := .agg #[.int .u64 l.at_, .int .i64 2, .int .u64 (l.n : Int)]) rfl rfl (by kernel_rfl) (by kernel_rfl) (by kernel_rfl) (fun _ _ _ h => h) ⟨Or.inl ⟨by rfl, ?_⟩, fun _ => rfl⟩ ?_
                · intro w; go_simp
                refine wpAnyIn_ready (rs := [0]) (by kernel_rfl) (by simp) ?_
                refine AllReadyIn.cons rfl (fun K hK => ?_) (AllReadyIn.nil)
                · go_simp
                  refine hK _ _ ?_
                  clear hK K
                  refine wpAnyIn_take (i := 1) (v := .pointer (some ⟨vb, 0, none⟩)) rfl rfl (by kernel_rfl) (by kernel_rfl) (by kernel_rfl) (fun _ _ _ h => h) ⟨Or.inl ⟨by rfl, ?_⟩, fun _ => rfl⟩ ?_
                  · intro w; go_simp
                  refine wpAnyIn_take (i := 2) (v := .pointer (some ⟨vb, 7, none⟩)) rfl rfl (by kernel_rfl) (by kernel_rfl) (by kernel_rfl) (fun _ _ _ h => h) ⟨Or.inl ⟨by rfl, ?_⟩, fun _ => rfl⟩ ?_
                  · intro w; go_simp
                  refine wpAnyIn_ready (rs := [10]) (by kernel_rfl) (by simp) ?_
                  refine AllReadyIn.cons rfl (fun K hK => ?_) (AllReadyIn.nil)
                  · go_simp
                    refine (hcall _ _ (Grew.below ((Grew.refl V).drew).drew)).mono ?_
                    rintro e V3 ⟨rfl, k1, k2, k3, k4⟩
                    refine hK _ _ ?_
                    clear hK K
                    refine wpAnyIn_done (by kernel_rfl) ?_ _
                    gi_wp2
                    exact ⟨k1, k2, k4, .inr ⟨by simp, k3⟩⟩
            · go_simp
              refine hK _ _ ?_
              clear hK K
              refine wpAnyIn_ready (rs := [0, 7]) (by kernel_rfl) (by simp) ?_
              refine AllReadyIn.cons rfl (fun K hK => ?_) (AllReadyIn.cons rfl (fun K hK => ?_) (AllReadyIn.nil))
              · go_simp
                refine hK _ _ ?_
                clear hK K
                refine wpAnyIn_take (i := 1) (v := .pointer (some ⟨vb, 0, none⟩)) rfl rfl (by kernel_rfl) (by kernel_rfl) (by kernel_rfl) (fun _ _ _ h => h) ⟨Or.inl ⟨by rfl, ?_⟩, fun _ => rfl⟩ ?_
                · intro w; go_simp
                refine wpAnyIn_take (i := 2) (v := .pointer (some ⟨vb, 7, none⟩)) rfl rfl (by kernel_rfl) (by kernel_rfl) (by kernel_rfl) (fun _ _ _ h => h) ⟨Or.inl ⟨by rfl, ?_⟩, fun _ => rfl⟩ ?_
                · intro w; go_simp
                refine wpAnyIn_ready (rs := [7]) (by kernel_rfl) (by simp) ?_
                refine AllReadyIn.cons rfl (fun K hK => ?_) (AllReadyIn.nil)
                · go_simp
                  refine hK _ _ ?_
                  clear hK K
                  refine wpAnyIn_take (i := 9) (v := .agg #[.int .u64 l.at_, .int .i64 2, .int .u64 (l.n : Int)]) rfl rfl (by kernel_rfl) (by kernel_rfl) (by kernel_rfl) (fun _ _ _ h => h) ⟨Or.inl ⟨by rfl, ?_⟩, fun _ => rfl⟩ ?_
                  · intro w; go_simp
                  refine wpAnyIn_ready (rs := [10]) (by kernel_rfl) (by simp) ?_
                  refine AllReadyIn.cons rfl (fun K hK => ?_) (AllReadyIn.nil)
                  · go_simp
                    refine (hcall _ _ (Grew.below ((Grew.refl V).drew).drew)).mono ?_
                    rintro e V3 ⟨rfl, k1, k2, k3, k4⟩
                    refine hK _ _ ?_
                    clear hK K
                    refine wpAnyIn_done (by kernel_rfl) ?_ _
                    gi_wp2
                    exact ⟨k1, k2, k4, .inr ⟨by simp, k3⟩⟩
              · go_simp
                refine hK _ _ ?_
                clear hK K
                refine wpAnyIn_take (i := 9) (v := .agg #[.int .u64 l.at_, .int .i64 2, .int .u64 (l.n : Int)]) rfl rfl (by kernel_rfl) (by kernel_rfl) (by kernel_rfl) (fun _ _ _ h => h) ⟨Or.inl ⟨by rfl, ?_⟩, fun _ => rfl⟩ ?_
                · intro w; go_simp
                refine wpAnyIn_ready (rs := [0]) (by kernel_rfl) (by simp) ?_
                refine AllReadyIn.cons rfl (fun K hK => ?_) (AllReadyIn.nil)
                · go_simp
                  refine hK _ _ ?_
                  clear hK K
                  refine wpAnyIn_take (i := 1) (v := .pointer (some ⟨vb, 0, none⟩)) rfl rfl (by kernel_rfl) (by kernel_rfl) (by kernel_rfl) (fun _ _ _ h => h) ⟨Or.inl ⟨by rfl, ?_⟩, fun _ => rfl⟩ ?_
                  · intro w; go_simp
                  refine wpAnyIn_take (i := 2) (v := .pointer (some ⟨vb, 7, none⟩)) rfl rfl (by kernel_rfl) (by kernel_rfl) (by kernel_rfl) (fun _ _ _ h => h) ⟨Or.inl ⟨by rfl, ?_⟩, fun _ => rfl⟩ ?_
                  · intro w; go_simp
                  refine wpAnyIn_ready (rs := [10]) (by kernel_rfl) (by simp) ?_
                  refine AllReadyIn.cons rfl (fun K hK => ?_) (AllReadyIn.nil)
                  · go_simp
                    refine (hcall _ _ (Grew.below ((Grew.refl V).drew).drew)).mono ?_
                    rintro e V3 ⟨rfl, k1, k2, k3, k4⟩
                    refine hK _ _ ?_
                    clear hK K
                    refine wpAnyIn_done (by kernel_rfl) ?_ _
                    gi_wp2
                    exact ⟨k1, k2, k4, .inr ⟨by simp, k3⟩⟩
        · go_simp
          refine hK _ _ ?_
          clear hK K
          refine wpAnyIn_ready (rs := [4]) (by kernel_rfl) (by simp) ?_
          refine AllReadyIn.cons rfl (fun K hK => ?_) (AllReadyIn.nil)
          · go_simp
            refine hK _ _ ?_
            clear hK K
            refine wpAnyIn_take (i := 9) (v := .bool true) rfl rfl (by kernel_rfl) (by kernel_rfl) (by kernel_rfl) (fun _ _ _ h => h) ⟨Or.inl ⟨by rfl, ?_⟩, fun _ => rfl⟩ ?_
            · intro w; go_simp
            refine wpAnyIn_done (by kernel_rfl) ?_ _
            gi_wp2_with fail
            refine wpIn_region_any (by kernel_rfl) (wpAnyIn_inRound ll (by kernel_rfl) _ _ _ _ ?_)
            change wpAnyIn _ _ _ _ _ _ _ _ _ (World.drew _)
            refine wpAnyIn_take (i := 3) (v := .pointer (some ⟨l.blk, 0, none⟩)) rfl rfl (by kernel_rfl) (by kernel_rfl) (by kernel_rfl) (fun _ _ _ h => h) ⟨Or.inl ⟨by rfl, ?_⟩, fun _ => rfl⟩ ?_
            · intro w; go_simp
            refine wpAnyIn_take (i := 4) (v := .pointer (some ⟨l.blk, 0, none⟩)) rfl rfl (by kernel_rfl) (by kernel_rfl) (by kernel_rfl) (fun _ _ _ h => h) ⟨Or.inl ⟨by rfl, ?_⟩, fun _ => rfl⟩ ?_
            · intro w; go_simp
            refine wpAnyIn_take (i := 5) (v := .pointer (some ⟨l.blk, 0, none⟩)) rfl rfl (by kernel_rfl) (by kernel_rfl) (by kernel_rfl) (fun _ _ _ h => h) ⟨Or.inl ⟨by rfl, ?_⟩, fun _ => rfl⟩ ?_
            · intro w; go_simp
            refine wpAnyIn_take (i := 6) (v := .pointer (some ⟨l.blk, 2, none⟩)) rfl rfl (by kernel_rfl) (by kernel_rfl) (by kernel_rfl) (fun _ _ _ h => h) ⟨Or.inl ⟨by rfl, ?_⟩, fun _ => rfl⟩ ?_
            · intro w; go_simp
            refine wpAnyIn_ready (rs := [0, 7, 8]) (by kernel_rfl) (by simp) ?_
            refine AllReadyIn.cons rfl (fun K hK => ?_) (AllReadyIn.cons rfl (fun K hK => ?_) (AllReadyIn.cons rfl (fun K hK => ?_) (AllReadyIn.nil)))
            · go_simp
              refine hK _ _ ?_
              clear hK K
              refine wpAnyIn_take (i := 1) (v := .pointer (some ⟨vb, 0, none⟩)) rfl rfl (by kernel_rfl) (by kernel_rfl) (by kernel_rfl) (fun _ _ _ h => h) ⟨Or.inl ⟨by rfl, ?_⟩, fun _ => rfl⟩ ?_
              · intro w; go_simp
              refine wpAnyIn_take (i := 2) (v := .pointer (some ⟨vb, 7, none⟩)) rfl rfl (by kernel_rfl) (by kernel_rfl) (by kernel_rfl) (fun _ _ _ h => h) ⟨Or.inl ⟨by rfl, ?_⟩, fun _ => rfl⟩ ?_
              · intro w; go_simp
              refine wpAnyIn_ready (rs := [7, 8]) (by kernel_rfl) (by simp) ?_
              refine AllReadyIn.cons rfl (fun K hK => ?_) (AllReadyIn.cons rfl (fun K hK => ?_) (AllReadyIn.nil))
              · go_simp
                refine hK _ _ ?_
                clear hK K
                refine wpAnyIn_ready (rs := [8]) (by kernel_rfl) (by simp) ?_
                refine AllReadyIn.cons rfl (fun K hK => ?_) (AllReadyIn.nil)
                · go_simp
                  refine hK _ _ ?_
                  clear hK K
                  refine wpAnyIn_take (i := 9) (v := .agg #[.int .u64 l.at_, .int .i64 2, .int .u64 (l.n : Int)]) rfl rfl (by kernel_rfl) (by kernel_rfl) (by kernel_rfl) (fun _ _ _ h => h) ⟨Or.inl ⟨by rfl, ?_⟩, fun _ => rfl⟩ ?_
                  · intro w; go_simp
                  refine wpAnyIn_ready (rs := [10]) (by kernel_rfl) (by simp) ?_
                  refine AllReadyIn.cons rfl (fun K hK => ?_) (AllReadyIn.nil)
                  · go_simp
                    refine (hcall _ _ (Grew.below ((Grew.refl V).drew).drew)).mono ?_
                    rintro e V3 ⟨rfl, k1, k2, k3, k4⟩
                    refine hK _ _ ?_
                    clear hK K
                    refine wpAnyIn_done (by kernel_rfl) ?_ _
                    gi_wp2
                    exact ⟨k1, k2, k4, .inr ⟨by simp, k3⟩⟩
              · go_simp
                refine hK _ _ ?_
                clear hK K
                refine wpAnyIn_ready (rs := [7]) (by kernel_rfl) (by simp) ?_
                refine AllReadyIn.cons rfl (fun K hK => ?_) (AllReadyIn.nil)
                · go_simp
                  refine hK _ _ ?_
                  clear hK K
                  refine wpAnyIn_take (i := 9) (v := .agg #[.int .u64 l.at_, .int .i64 2, .int .u64 (l.n : Int)]) rfl rfl (by kernel_rfl) (by kernel_rfl) (by kernel_rfl) (fun _ _ _ h => h) ⟨Or.inl ⟨by rfl, ?_⟩, fun _ => rfl⟩ ?_
                  · intro w; go_simp
                  refine wpAnyIn_ready (rs := [10]) (by kernel_rfl) (by simp) ?_
                  refine AllReadyIn.cons rfl (fun K hK => ?_) (AllReadyIn.nil)
                  · go_simp
                    refine (hcall _ _ (Grew.below ((Grew.refl V).drew).drew)).mono ?_
                    rintro e V3 ⟨rfl, k1, k2, k3, k4⟩
                    refine hK _ _ ?_
                    clear hK K
                    refine wpAnyIn_done (by kernel_rfl) ?_ _
                    gi_wp2
                    exact ⟨k1, k2, k4, .inr ⟨by simp, k3⟩⟩
            · go_simp
              refine hK _ _ ?_
              clear hK K
              refine wpAnyIn_ready (rs := [0, 8]) (by kernel_rfl) (by simp) ?_
              refine AllReadyIn.cons rfl (fun K hK => ?_) (AllReadyIn.cons rfl (fun K hK => ?_) (AllReadyIn.nil))
              · go_simp
                refine hK _ _ ?_
                clear hK K
                refine wpAnyIn_take (i := 1) (v := .pointer (some ⟨vb, 0, none⟩)) rfl rfl (by kernel_rfl) (by kernel_rfl) (by kernel_rfl) (fun _ _ _ h => h) ⟨Or.inl ⟨by rfl, ?_⟩, fun _ => rfl⟩ ?_
                · intro w; go_simp
                refine wpAnyIn_take (i := 2) (v := .pointer (some ⟨vb, 7, none⟩)) rfl rfl (by kernel_rfl) (by kernel_rfl) (by kernel_rfl) (fun _ _ _ h => h) ⟨Or.inl ⟨by rfl, ?_⟩, fun _ => rfl⟩ ?_
                · intro w; go_simp
                refine wpAnyIn_ready (rs := [8]) (by kernel_rfl) (by simp) ?_
                refine AllReadyIn.cons rfl (fun K hK => ?_) (AllReadyIn.nil)
                · go_simp
                  refine hK _ _ ?_
                  clear hK K
                  refine wpAnyIn_take (i := 9) (v := .agg #[.int .u64 l.at_, .int .i64 2, .int .u64 (l.n : Int)]) rfl rfl (by kernel_rfl) (by kernel_rfl) (by kernel_rfl) (fun _ _ _ h => h) ⟨Or.inl ⟨by rfl, ?_⟩, fun _ => rfl⟩ ?_
                  · intro w; go_simp
                  refine wpAnyIn_ready (rs := [10]) (by kernel_rfl) (by simp) ?_
                  refine AllReadyIn.cons rfl (fun K hK => ?_) (AllReadyIn.nil)
                  · go_simp
                    refine (hcall _ _ (Grew.below ((Grew.refl V).drew).drew)).mono ?_
                    rintro e V3 ⟨rfl, k1, k2, k3, k4⟩
                    refine hK _ _ ?_
                    clear hK K
                    refine wpAnyIn_done (by kernel_rfl) ?_ _
                    gi_wp2
                    exact ⟨k1, k2, k4, .inr ⟨by simp, k3⟩⟩
              · go_simp
                refine hK _ _ ?_
                clear hK K
                refine wpAnyIn_take (i := 9) (v := .agg #[.int .u64 l.at_, .int .i64 2, .int .u64 (l.n : Int)]) rfl rfl (by kernel_rfl) (by kernel_rfl) (by kernel_rfl) (fun _ _ _ h => h) ⟨Or.inl ⟨by rfl, ?_⟩, fun _ => rfl⟩ ?_
                · intro w; go_simp
                refine wpAnyIn_ready (rs := [0]) (by kernel_rfl) (by simp) ?_
                refine AllReadyIn.cons rfl (fun K hK => ?_) (AllReadyIn.nil)
                · go_simp
                  refine hK _ _ ?_
                  clear hK K
                  refine wpAnyIn_take (i := 1) (v := .pointer (some ⟨vb, 0, none⟩)) rfl rfl (by kernel_rfl) (by kernel_rfl) (by kernel_rfl) (fun _ _ _ h => h) ⟨Or.inl ⟨by rfl, ?_⟩, fun _ => rfl⟩ ?_
                  · intro w; go_simp
                  refine wpAnyIn_take (i := 2) (v := .pointer (some ⟨vb, 7, none⟩)) rfl rfl (by kernel_rfl) (by kernel_rfl) (by kernel_rfl) (fun _ _ _ h => h) ⟨Or.inl ⟨by rfl, ?_⟩, fun _ => rfl⟩ ?_
                  · intro w; go_simp
                  refine wpAnyIn_ready (rs := [10]) (by kernel_rfl) (by simp) ?_
                  refine AllReadyIn.cons rfl (fun K hK => ?_) (AllReadyIn.nil)
                  · go_simp
                    refine (hcall _ _ (Grew.below ((Grew.refl V).drew).drew)).mono ?_
                    rintro e V3 ⟨rfl, k1, k2, k3, k4⟩
                    refine hK _ _ ?_
                    clear hK K
                    refine wpAnyIn_done (by kernel_rfl) ?_ _
                    gi_wp2
                    exact ⟨k1, k2, k4, .inr ⟨by simp, k3⟩⟩
            · go_simp
              refine hK _ _ ?_
              clear hK K
              refine wpAnyIn_ready (rs := [0, 7]) (by kernel_rfl) (by simp) ?_
              refine AllReadyIn.cons rfl (fun K hK => ?_) (AllReadyIn.cons rfl (fun K hK => ?_) (AllReadyIn.nil))
              · go_simp
                refine hK _ _ ?_
                clear hK K
                refine wpAnyIn_take (i := 1) (v := .pointer (some ⟨vb, 0, none⟩)) rfl rfl (by kernel_rfl) (by kernel_rfl) (by kernel_rfl) (fun _ _ _ h => h) ⟨Or.inl ⟨by rfl, ?_⟩, fun _ => rfl⟩ ?_
                · intro w; go_simp
                refine wpAnyIn_take (i := 2) (v := .pointer (some ⟨vb, 7, none⟩)) rfl rfl (by kernel_rfl) (by kernel_rfl) (by kernel_rfl) (fun _ _ _ h => h) ⟨Or.inl ⟨by rfl, ?_⟩, fun _ => rfl⟩ ?_
                · intro w; go_simp
                refine wpAnyIn_ready (rs := [7]) (by kernel_rfl) (by simp) ?_
                refine AllReadyIn.cons rfl (fun K hK => ?_) (AllReadyIn.nil)
                · go_simp
                  refine hK _ _ ?_
                  clear hK K
                  refine wpAnyIn_take (i := 9) (v := .agg #[.int .u64 l.at_, .int .i64 2, .int .u64 (l.n : Int)]) rfl rfl (by kernel_rfl) (by kernel_rfl) (by kernel_rfl) (fun _ _ _ h => h) ⟨Or.inl ⟨by rfl, ?_⟩, fun _ => rfl⟩ ?_
                  · intro w; go_simp
                  refine wpAnyIn_ready (rs := [10]) (by kernel_rfl) (by simp) ?_
                  refine AllReadyIn.cons rfl (fun K hK => ?_) (AllReadyIn.nil)
                  · go_simp
                    refine (hcall _ _ (Grew.below ((Grew.refl V).drew).drew)).mono ?_
                    rintro e V3 ⟨rfl, k1, k2, k3, k4⟩
                    refine hK _ _ ?_
                    clear hK K
                    refine wpAnyIn_done (by kernel_rfl) ?_ _
                    gi_wp2
                    exact ⟨k1, k2, k4, .inr ⟨by simp, k3⟩⟩
              · go_simp
                refine hK _ _ ?_
                clear hK K
                refine wpAnyIn_take (i := 9) (v := .agg #[.int .u64 l.at_, .int .i64 2, .int .u64 (l.n : Int)]) rfl rfl (by kernel_rfl) (by kernel_rfl) (by kernel_rfl) (fun _ _ _ h => h) ⟨Or.inl ⟨by rfl, ?_⟩, fun _ => rfl⟩ ?_
                · intro w; go_simp
                refine wpAnyIn_ready (rs := [0]) (by kernel_rfl) (by simp) ?_
                refine AllReadyIn.cons rfl (fun K hK => ?_) (AllReadyIn.nil)
                · go_simp
                  refine hK _ _ ?_
                  clear hK K
                  refine wpAnyIn_take (i := 1) (v := .pointer (some ⟨vb, 0, none⟩)) rfl rfl (by kernel_rfl) (by kernel_rfl) (by kernel_rfl) (fun _ _ _ h => h) ⟨Or.inl ⟨by rfl, ?_⟩, fun _ => rfl⟩ ?_
                  · intro w; go_simp
                  refine wpAnyIn_take (i := 2) (v := .pointer (some ⟨vb, 7, none⟩)) rfl rfl (by kernel_rfl) (by kernel_rfl) (by kernel_rfl) (fun _ _ _ h => h) ⟨Or.inl ⟨by rfl, ?_⟩, fun _ => rfl⟩ ?_
                  · intro w; go_simp
                  refine wpAnyIn_ready (rs := [10]) (by kernel_rfl) (by simp) ?_
                  refine AllReadyIn.cons rfl (fun K hK => ?_) (AllReadyIn.nil)
                  · go_simp
                    refine (hcall _ _ (Grew.below ((Grew.refl V).drew).drew)).mono ?_
                    rintro e V3 ⟨rfl, k1, k2, k3, k4⟩
                    refine hK _ _ ?_
                    clear hK K
                    refine wpAnyIn_done (by kernel_rfl) ?_ _
                    gi_wp2
                    exact ⟨k1, k2, k4, .inr ⟨by simp, k3⟩⟩
    case done2 =>
      rintro D2 ys X hD2' rfl ⟨hDX, hI2⟩ hK
      have hPu : Tryz.Pushed vb mt ml vx tm tn ln ⟨l.at_, 2, l.n⟩ w X := by
        rcases hI2 with ⟨e, _⟩ | ⟨_, h⟩
        · simp at e
        · exact h
      clear hI2
      gi_wp2
      have hKd : (X.putObj D2 (.deferred none)).heap[D1]? = some (.deferred (some [])) := (World.putObj_heap_other (by omega)).trans hDX
      refine ⟨by simp, .inl ⟨_, _, rfl, run_takeDeferred hK, ⟨by simp, .inl ⟨_, _, rfl, run_takeDeferred hKd, ?_⟩⟩⟩⟩
      have j1 := hPu.own (grownBy_putObj' X D2 (.deferred none)) (fun r e => by cases e; exact ⟨by omega, _, hK, rfl⟩)
      have j2 := j1.own (grownBy_putObj' _ D1 (.deferred none)) (fun r e => by cases e; exact ⟨by omega, _, hKd, rfl⟩)
      exact ⟨_, results_none rfl _ _ _, rfl, j2⟩
    case stop2 =>
      rintro D c pre X _ _ h _
      exact h.elim
  case stop =>
    rintro D c pre V _ _ h _
    exact h.elim
end Go.Proofs
