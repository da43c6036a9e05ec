import Derived.Test.YthifclklnopkfaaGreatDoorTickE
import Derived.Defers
/-
  The code: what Tick's walk wants: the vault's own cells turned; the closure that it defers.
-/
namespace Go.Proofs
open Go.RowKit Go.Sort Go.Lib Go.Shelf Go.Maps Go.WideMaps

theorem Spares.shed {bs bs' : List Nat} {W W' : World} (h : Spares bs W W') (hb : ∀ b ∈ bs, b ∈ bs' ∨ W.heap.size ≤ b) : Spares bs' W W' :=
  ⟨h.os, h.tape, h.output, h.size, fun k hk hn => h.block k hk (fun hm => (hb k hm).elim hn (fun e => by omega))⟩

section
variable {W W' : World} {vb mt ml : Nat} {vx : VX} {tm : Int} {tn ln : Nat} {tks : List TokE} {lks : List LeaE}
/-- the vault's own cells, and blocks of other types, may turn. -/
theorem Tryz.VFull.reV (h : Tryz.VFull W vb mt ml vx tm tn ln tks lks) {bs : List Nat} (hS : Spares (vb :: bs) W W') (hbs : ∀ b ∈ bs, 6 ≤ b ∧ ∃ t cs, BoxN W b t cs ∧ t ≠ 108 ∧ t ≠ 133 ∧ t ≠ 114) (vx' : VX) (tm' : Int) (h0 : 0 ≤ tm') (h1 : tm' ≤ 18446744073709551615) (hbox : BoxN W' vb 108 (Tryz.vaultC vx' tm' mt ml tn ln)) : Tryz.VFull W' vb mt ml vx' tm' tn ln tks lks := by
  have h6 : ∀ b ∈ vb :: bs, 6 ≤ b := fun b hb => by
    rcases List.mem_cons.1 hb with rfl | hb
    · exact h.v6
    · exact (hbs b hb).1
  have hb6 : Below 6 W W' := hS.below h.va.six h6
  have nb : ∀ {b : Nat} {t : TypeId} {cs : Array Value}, BoxN W b t cs → (t = 133 ∨ t = 114) → b ∉ vb :: bs := fun hB ht hm => by
    rcases List.mem_cons.1 hm with rfl | hm
    · rcases ht with rfl | rfl
      · exact hB.ne h.va.v (by decide) rfl
      · exact hB.ne h.va.v (by decide) rfl
    · obtain ⟨-, t', cs', hB', h1, h2, h3⟩ := hbs _ hm
      have e := (show W.heap[_]? = _ from hB).symm.trans hB'
      simp only [Option.some.injEq, Obj.cells.injEq] at e
      rcases ht with rfl | rfl
      · exact h2 e.2.1.symm
      · exact h3 e.2.1.symm
  obtain ⟨⟨n, hn1, hm⟩, ⟨n', hn', hm'⟩, ht, hle⟩ := h.va.held
  have nm : ∀ {b n : Nat} {D : DataW Unit}, W.ownsMap Tryz.prog 97 ptrR b n D → b ∉ vb :: bs := fun hM hmem => by
    rcases List.mem_cons.1 hmem with rfl | hmem
    · exact h.va.v.ne_map hM rfl
    · obtain ⟨-, t', cs', hB', -⟩ := hbs _ hmem
      exact hB'.ne_map hM rfl
  exact ⟨⟨hbox, ⟨⟨n, hn1, hS.map hm (nm hm)⟩, ⟨n', hn', hS.map hm' (nm hm')⟩, fun t htm => hS.box (ht t htm) (nb (ht t htm) (.inl rfl)), fun l hlm => hS.box (hle l hlm) (nb (hle l hlm) (.inr rfl))⟩, h.va.ok, h.va.env.below hb6 (Nat.le_refl _), Nat.le_trans h.va.six hS.size⟩, h.bt, h.bl, h.nt, h.nl, h0, h1, h.mne, h.v6, h.m6, h.l6, h.tb6, h.lb6⟩
end
/-- blocks of other types than the revoker's may turn. -/
theorem Tryz.RevAt.spares {W W' : World} {rb : Nat} {f : Int} {v : Value} {n : Nat} {xs : List Value} (h : Tryz.RevAt W rb f v n xs) {bs : List Nat} (hS : Spares bs W W') (hbs : ∀ b ∈ bs, ∃ t cs, BoxN W b t cs ∧ t ≠ 78 ∧ t ≠ 9) : Tryz.RevAt W' rb f v n xs := by
  have nb : ∀ {b : Nat} {t : TypeId} {cs : Array Value}, BoxN W b t cs → (t = 78 ∨ t = 9) → b ∉ bs := fun hB ht hm => by
    obtain ⟨t', cs', hB', h1, h2⟩ := hbs _ hm
    have e := (show W.heap[_]? = _ from hB).symm.trans hB'
    simp only [Option.some.injEq, Obj.cells.injEq] at e
    rcases ht with rfl | rfl
    · exact h1 e.2.1.symm
    · exact h2 e.2.1.symm
  refine ⟨hS.box h.box (nb h.box (.inl rfl)), ⟨h.row.1, ?_⟩, h.r6⟩
  rcases h.row.2 with hn | ⟨g, cap, cur, e1, e2, e3, e4⟩
  · exact .inl hn
  · exact .inr ⟨g, cap, cur, e1, e2, hS.box (t := 9) (cs := cur) e3 (nb (show BoxN W g 9 cur from e3) (.inr rfl)), e4⟩
/-- .. and of an empty row of places. -/
theorem Tryz.nilRow_spares {W W' : World} {v : Value} (h : W.ownsRow 6 157 3 v 0 []) {bs : List Nat} (hS : Spares bs W W') (hbs : ∀ b, v.ownBlock = some b → b ∉ bs) : W'.ownsRow 6 157 3 v 0 [] := by
  refine ⟨h.1, ?_⟩
  rcases h.2 with hn | ⟨g, cap, cur, e1, e2, e3, e4⟩
  · exact .inl hn
  · exact .inr ⟨g, cap, cur, e1, e2, hS.box (t := 157) (cs := cur) e3 (hbs g (by rw [e1]; rfl)), e4⟩
theorem Tryz.nilRow_of {W : World} {v : Value} (h : W.ownsRow 6 157 3 v 0 []) : NilRow v := by
  rcases h.2 with ⟨e, _⟩ | ⟨g, cap, cur, e, _⟩
  · exact .inl e
  · exact .inr ⟨g, cap, e⟩
theorem Tryz.row_box {W : World} {v : Value} {n : Nat} {xs : List Value} (h : W.ownsRow 6 157 3 v n xs) {b : Nat} (hb : v.ownBlock = some b) : 6 ≤ b ∧ ∃ cs, BoxN W b 157 cs := by
  rcases h.2 with ⟨e, _⟩ | ⟨g, cap, cur, e, h6, hg, _⟩
  · rw [e] at hb; cases hb
  · rw [e] at hb
    have e2 : g = b := by simpa [Value.ownBlock] using hb
    subst e2
    exact ⟨h6, _, hg⟩

set_option maxHeartbeats 1000000 in
theorem Tryz.vTick1 (vb Bv : Nat) (v t : Value) (u : FrameMode) (w : World) (hv : NilRow v) (cB : w.cell? ⟨Bv, 0, none⟩ = some (.pointer (some ⟨vb, 0, none⟩))) (c6 : w.cell? ⟨vb, 6, none⟩ = some t) (f6 : w.frozen? ⟨vb, 6, none⟩ = false) (c7 : w.cell? ⟨vb, 7, none⟩ = some v) (f7 : w.frozen? ⟨vb, 7, none⟩ = false) (hne : Bv ≠ vb) :
    CallsD Tryz.prog 83 #[.pointer (some ⟨Bv, 0, none⟩)] u w fun e u' w' => u' = u ∧ (e = .returned (.tuple #[]) ∧ w' = (w.setCell ⟨vb, 6, none⟩ (.bool false)).setCell ⟨vb, 7, none⟩ v) := by
  have c7' : (w.setCell ⟨vb, 6, none⟩ (.bool false)).cell? ⟨vb, 7, none⟩ = some v := (World.cell?_setCell_other _ _ _ _ (by simp)).trans c7
  have f7' : (w.setCell ⟨vb, 6, none⟩ (.bool false)).frozen? ⟨vb, 7, none⟩ = false := by rw [World.frozen?_setCell]; exact f7
  have cB' : (w.setCell ⟨vb, 6, none⟩ (.bool false)).cell? ⟨Bv, 0, none⟩ = some (.pointer (some ⟨vb, 0, none⟩)) := (World.cell?_setCell_far _ _ _ _ (fun e => hne e.symm)).trans cB
  have hE := Tryz.qEmpty0 vb v _ hv c7' f7'
  go_enter_d Tryz.func83, Tryz.ntmps83
  go_wp2_with (go_at_call 84; refine hE.mono ?_; rintro e w1 ⟨rfl, rfl⟩)
  go_end0
  exact ⟨rfl, rfl⟩
end Go.Proofs

/-
  The code: Tick where one lease is there, and due, and the revoker does not fail.
-/
namespace Go.Proofs
open Go.RowKit Go.Sort Go.Lib Go.Shelf Go.Maps Go.WideMaps

theorem BoxN.type_eq {W : World} {b : Nat} {t t' : TypeId} {cs cs' : Array Value} (h : BoxN W b t cs) (h' : BoxN W b t' cs') : t = t' := by
  have e := (show W.heap[b]? = _ from h).symm.trans h'
  simp only [Option.some.injEq, Obj.cells.injEq] at e
  exact e.2.1
/-- the blocks that such a Tick may turn. -/
def tickB (vb mt ml rb : Nat) (v due : Value) : List Nat := vb :: mt :: ml :: (revB rb v ++ due.ownBlock.toList)

set_option maxRecDepth 100000 in
set_option maxHeartbeats 4000000 in
theorem Tryz.vTick_ok (vb mt ml rb : Nat) (vx : VX) (tm : Int) (tn ln : Nat) (tks : List TokE) (l : LeaE) (w : World) (hV : Tryz.VFull w vb mt ml vx tm tn ln tks [l]) (hrv : vx.rv = .iface 61 (.pointer (some ⟨rb, 0, none⟩))) (htk : vx.tk = false) (hrow : w.ownsRow 6 157 3 vx.due 0 [])
    (f : Int) (hf0 : 0 ≤ f) (hf1 : f ≤ 18446744073709551615) (hfe : (f % 2 == 1) = false) (v : Value) (n : Nat) (xs : List Value) (hn : n ≤ 1000) (hR : Tryz.RevAt w rb f v n xs) (up : TokE) (hup : up ∈ tks) (hlive : ∀ t ∈ tks, t.pd = false) (hak : l.ak = 1) (hau : l.au = up.n)
    (now : Int) (hn0 : 0 ≤ now) (hn1 : now ≤ 18446744073709551615) (hdue : decide (l.at_ ≤ max tm now) = true) :
    Calls Tryz.prog 44 #[.pointer (some ⟨vb, 0, none⟩), .int .u64 now] w fun e w' => e = .returned .nilIface ∧ ∃ vx' g cap, Tryz.VFull w' vb mt ml vx' (max tm now) tn ln tks [] ∧ vx'.rv = vx.rv ∧ vx'.tk = false ∧ w'.ownsRow 6 157 3 vx'.due 0 [] ∧ Tryz.RevAt w' rb (f / 2) (.slice (some ⟨g, 0, none⟩) (n + 1) cap) (n + 1) (xs ++ [.string ⟨(nmStr 2 l.n).toArray⟩]) ∧ Spares (tickB vb mt ml rb v vx.due) w w' := by
  have lv := hV.va.v.lt
  have t0 := hV.t0
  have t1 := hV.t1
  have hmf : ∀ (fn : Fn) (first cap : Array Value) (w : World), (Instr.makeFunc fn first cap).run Tryz.prog w = .ok (.func fn first cap) w := fun _ _ _ _ => rfl
  have c1 := hV.va.v.cell 1 (v := .int .u64 tm) rfl
  have f1 := hV.va.v.frozen 1
  have h0' : 0 ≤ max tm now := by omega
  have h1' : max tm now ≤ 18446744073709551615 := by omega
  have hty : ∀ b ∈ revB rb v, 6 ≤ b ∧ ∃ t cs, BoxN w b t cs ∧ t ≠ 108 ∧ t ≠ 133 ∧ t ≠ 114 ∧ t ≠ 157 := fun b hb => by
    obtain ⟨h6, t, cs, hB, ht⟩ := hR.types b hb
    exact ⟨h6, t, cs, hB, by rcases ht with rfl | rfl <;> decide, by rcases ht with rfl | rfl <;> decide, by rcases ht with rfl | rfl <;> decide, by rcases ht with rfl | rfl <;> decide⟩
  have bV1 : BoxN ((w.setCell ⟨vb, 1, none⟩ (.int .u64 (max tm now))).alloc (.cells #[.pointer (some ⟨vb, 0, none⟩)] 62)).drew vb 108 (Tryz.vaultC vx (max tm now) mt ml tn ln) := (hV.va.v.set 1 (.int .u64 (max tm now))).alloc _
  have bB1 : BoxN ((w.setCell ⟨vb, 1, none⟩ (.int .u64 (max tm now))).alloc (.cells #[.pointer (some ⟨vb, 0, none⟩)] 62)).drew w.heap.size 62 #[.pointer (some ⟨vb, 0, none⟩)] := by
    have h : BoxN ((w.setCell ⟨vb, 1, none⟩ (.int .u64 (max tm now))).alloc (.cells #[.pointer (some ⟨vb, 0, none⟩)] 62)) w.heap.size 62 #[.pointer (some ⟨vb, 0, none⟩)] := by simpa using BoxN.new (w.setCell ⟨vb, 1, none⟩ (.int .u64 (max tm now))) 62 #[.pointer (some ⟨vb, 0, none⟩)]
    exact h
  have hS1 : Spares [vb] w ((w.setCell ⟨vb, 1, none⟩ (.int .u64 (max tm now))).alloc (.cells #[.pointer (some ⟨vb, 0, none⟩)] 62)).drew := (((Spares.of_below (Below.refl _ w)).set (by simp) _ _).alloc _).drew
  go_enter_defers Tryz.func44, Tryz.ntmps44
  go_wp2_with fail
  go_region
  generalize ((w.setCell ⟨vb, 1, none⟩ (.int .u64 (max tm now))).alloc (.cells #[.pointer (some ⟨vb, 0, none⟩)] 62)).drew = W1 at *
  have hV1 := hV.reV hS1 (fun b hb => by cases hb) vx (max tm now) h0' h1' bV1
  have hR1 := hR.spares hS1 (fun b hb => by obtain rfl := List.mem_singleton.1 hb; exact ⟨_, _, hV.va.v, by decide, by decide⟩)
  have hrow1 := Tryz.nilRow_spares hrow hS1 (fun b hb hm => by
    obtain ⟨-, cs, hB⟩ := Tryz.row_box hrow hb
    exact hB.ne hV.va.v (by decide) (List.mem_singleton.1 hm))
  have hne : w.heap.size ≠ vb := by omega
  have c6 := bV1.cell 6 (v := .bool false) (by rw [← htk]; rfl)
  have f6 := bV1.frozen 6
  have cB1 := bB1.cell 0 (v := .pointer (some ⟨vb, 0, none⟩)) rfl
  have bV2 : BoxN (W1.setCell ⟨vb, 6, none⟩ (.bool true)) vb 108 (Tryz.vaultC { vx with tk := true } (max tm now) mt ml tn ln) := bV1.set 6 (.bool true)
  have bB2 := bB1.other hne 6 (.bool true)
  have cB2 := bB2.cell 0 (v := .pointer (some ⟨vb, 0, none⟩)) rfl
  have hS2 : Spares [vb] W1 (W1.setCell ⟨vb, 6, none⟩ (.bool true)) := (Spares.of_below (Below.refl _ W1)).set (by simp) _ _
  have hV2 := hV1.reV hS2 (fun b hb => by cases hb) { vx with tk := true } (max tm now) h0' h1' bV2
  have hR2 := hR1.spares hS2 (fun b hb => by obtain rfl := List.mem_singleton.1 hb; exact ⟨_, _, hV1.va.v, by decide, by decide⟩)
  have hrow2 := Tryz.nilRow_spares hrow1 hS2 (fun b hb hm => by
    obtain ⟨-, cs, hB⟩ := Tryz.row_box hrow1 hb
    exact hB.ne hV1.va.v (by decide) (List.mem_singleton.1 hm))
  have hQ := callsIn_wide.1 (Tryz.queueAll1 vb mt ml { vx with tk := true } (max tm now) tn ln tks l _ hV2 hlive hdue hrow2)
  go_wp2_with (first
    | (go_at_call 85; refine hQ.mono ?_; rintro e W3 ⟨rfl, g, cap, bV3, r3, hvg, hwg, hs3⟩; have bB3 := hs3.box bB2 (fun hm => by
        rcases List.mem_cons.1 hm with e | hm
        · exact hne e
        · obtain ⟨-, cs, hB⟩ := Tryz.row_box hrow2 (by simpa using hm)
          exact bB2.ne hB (by decide) rfl); have cB3 := bB3.cell 0 (v := .pointer (some ⟨vb, 0, none⟩)) rfl))
  have hcap : 1 ≤ cap := by
    rcases r3.2 with ⟨e, _⟩ | ⟨g', cap', cur, e, _, _, hc, _⟩
    · cases e
    · cases e; exact hc
  have hdt : ∀ b ∈ vx.due.ownBlock.toList, 6 ≤ b ∧ ∃ cs, BoxN (W1.setCell ⟨vb, 6, none⟩ (.bool true)) b 157 cs := fun b hb => Tryz.row_box hrow2 (by simpa using hb)
  have hV3 := hV2.reV hs3 (fun b hb => by obtain ⟨h6, cs, hB⟩ := hdt b hb; exact ⟨h6, _, _, hB, by decide, by decide, by decide⟩) { vx with tk := true, due := .slice (some ⟨g, 0, none⟩) 1 cap } (max tm now) h0' h1' bV3
  have hR3 := hR2.spares hs3 (fun b hb => by
    rcases List.mem_cons.1 hb with rfl | hb
    · exact ⟨_, _, hV2.va.v, by decide, by decide⟩
    · obtain ⟨h6, cs, hB⟩ := hdt b hb
      exact ⟨_, _, hB, by decide, by decide⟩)
  obtain ⟨g6, gcs, hgb⟩ := Tryz.row_box r3 (b := g) rfl
  refine (Tryz.qPop1 6 vb g cap _ ⟨l.at_, 2, l.n⟩ W3 bV3 rfl r3 hvg hcap).mono ?_
  rintro e W4 ⟨rfl, bV4, r4, hs4⟩
  have hV4 := hV3.reV hs4 (fun b hb => by obtain rfl := List.mem_singleton.1 hb; exact ⟨g6, _, _, hgb, by decide, by decide, by decide⟩) { vx with tk := true, due := .slice (some ⟨g, 0, none⟩) 0 cap } (max tm now) h0' h1' bV4
  have hR4 := hR3.spares hs4 (fun b hb => by
    rcases List.mem_cons.1 hb with rfl | hb
    · exact ⟨_, _, hV3.va.v, by decide, by decide⟩
    · obtain rfl := List.mem_singleton.1 hb
      exact ⟨_, _, hgb, by decide, by decide⟩)
  have bB4 := hs4.box bB3 (fun hm => by
    rcases List.mem_cons.1 hm with e | hm
    · exact hne e
    · obtain rfl := List.mem_singleton.1 hm
      exact bB3.ne hgb (by decide) rfl)
  have hS4 : Hid (Spares (tickB vb mt ml rb v vx.due) w W4) := hid_intro (((((hS1.trans hS2).mono (fun b hb => by obtain rfl := List.mem_singleton.1 hb; simp [tickB])).trans (hs3.mono (fun b hb => by
    rcases List.mem_cons.1 hb with rfl | hb
    · simp [tickB]
    · simp only [tickB, List.mem_cons, List.mem_append]; exact .inr (.inr (.inr (.inr hb)))))).mono (bs' := g :: tickB vb mt ml rb v vx.due) (fun b hb => List.mem_cons_of_mem _ hb)).trans (hs4.mono (fun b hb => by
    rcases List.mem_cons.1 hb with rfl | hb
    · simp [tickB]
    · obtain rfl := List.mem_singleton.1 hb; simp)) |>.shed (fun b hb => by
    rcases List.mem_cons.1 hb with rfl | hb
    · rcases hwg with e | e
      · left; simp only [tickB, List.mem_cons, List.mem_append]; right; right; right; right; simpa using e
      · right
        have := hS1.size
        have : W1.heap.size ≤ b := by simpa using e
        omega
    · exact .inl hb))
  clear hs3 hs4 hS1 hS2 hQ bV1 bV2 bV3 bB1 bB2 bB3 cB1 cB2 cB3 c6 f6 c1 f1 hrow1 hrow2 hV1 hV2 hV3 hR1 hR2 hR3 hdt hgb r3 hwg hrow hR
  have cB4 := bB4.cell 0 (v := .pointer (some ⟨vb, 0, none⟩)) rfl
  have hB5 : Below W4.heap.size W4 (W4.alloc (.cells #[.int .u64 l.at_, .int .i64 2, .int .u64 (l.n : Int)] 157)) := (Below.refl _ W4).alloc (Nat.le_refl _) _
  have hV5 := hV4.below hB5
  have hR5 := hR4.below hB5
  have bB5 := bB4.below hB5 bB4.lt
  have cB5 := bB5.cell 0 (v := .pointer (some ⟨vb, 0, none⟩)) rfl
  have bT5 := BoxN.new W4 157 #[.int .u64 l.at_, .int .i64 2, .int .u64 (l.n : Int)]
  have q51 := bT5.cell 1 (v := .int .i64 2) rfl
  have q52 := bT5.cell 2 (v := .int .u64 (l.n : Int)) rfl
  have r5 := ownsRow_below r4 hB5
  have hTry := Tryz.try_ok vb mt ml rb _ _ tn ln tks l _ hV5 hrv f hf0 hf1 hfe v n xs hn hR5 up hup (hlive up hup) hak hau
  unfold nmV at hTry
  simp only [TurnD.cells]
  go_wp2_with fail
  have hnt : ∀ {b : Nat} {t : TypeId} {cs : Array Value}, BoxN (W4.alloc (.cells #[.int .u64 l.at_, .int .i64 2, .int .u64 (l.n : Int)] 157)) b t cs → t ≠ 78 → t ≠ 9 → b ∉ mt :: ml :: revB rb v := fun hB h1 h2 hm => by
    obtain ⟨⟨k1, -, hm1⟩, ⟨k2, -, hm2⟩, -, -⟩ := hV5.va.held
    rcases List.mem_cons.1 hm with e | hm
    · exact hB.ne_map hm1 e.symm
    · rcases List.mem_cons.1 hm with e | hm
      · exact hB.ne_map hm2 e.symm
      · obtain ⟨-, t', cs', hB', ht⟩ := hR5.types _ hm
        have e := hB.type_eq hB'
        rcases ht with rfl | rfl
        · exact h1 e
        · exact h2 e
  refine wp_loop_rounds 2 ?_
  rw [rounds_succ]
  go_wp2_with (go_at_call 87; refine hTry.mono ?_; rintro e W6 ⟨rfl, hV6, ⟨g2, cap2, hR6⟩, hs6⟩; have bT6 := hs6.box bT5 (hnt bT5 (by decide) (by decide)); have bB6 := hs6.box bB5 (hnt bB5 (by decide) (by decide)); have u0 := bT6.cell 0 (v := .int .u64 l.at_) rfl; have u1 := bT6.cell 1 (v := .int .i64 2) rfl; have u2 := bT6.cell 2 (v := .int .u64 (l.n : Int)) rfl; have cB6 := bB6.cell 0 (v := .pointer (some ⟨vb, 0, none⟩)) rfl; have lB6 := bB6.lt)
  have hB7 : Below W6.heap.size W6 (W6.alloc (.cells #[.int .u64 l.at_, .int .i64 2, .int .u64 (l.n : Int)] 157)) := (Below.refl _ W6).alloc (Nat.le_refl _) _
  have r6 := Tryz.nilRow_spares r5 hs6 (fun b hb => by
    obtain ⟨-, cs, hB⟩ := Tryz.row_box r5 hb
    exact hnt hB (by decide) (by decide))
  have hS6 : Hid (Spares (tickB vb mt ml rb v vx.due) w W6) := hid_intro (((hid_elim hS4).alloc _).trans (hs6.mono (fun b hb => by
    simp only [tickB, List.mem_cons, List.mem_append] at hb ⊢
    rcases hb with h | h | h
    · exact .inr (.inl h)
    · exact .inr (.inr (.inl h))
    · exact .inr (.inr (.inr (.inl h))))))
  refine (Tryz.qPop0 vb _ _ (.inr ⟨g, cap, rfl⟩) ((hV6.below hB7).va.v.cell 7 (v := .slice (some ⟨g, 0, none⟩) 0 cap) rfl)).mono ?_
  rintro e W8 ⟨rfl, hb8⟩
  have hb68 : Below W6.heap.size W6 W8 := hB7.trans (hb8.mono hB7.size)
  have hV8 := hV6.below hb68
  have hR8 := hR6.below hb68
  have bB8 := bB6.below hb68 bB6.lt
  have r8 := ownsRow_below r6 hb68
  have bT8 := (BoxN.new W6 157 #[.int .u64 l.at_, .int .i64 2, .int .u64 (l.n : Int)]).below hb8 (by simp)
  have hS8 : Hid (Spares (tickB vb mt ml rb v vx.due) w W8) := hid_intro ((hid_elim hS6).trans (Spares.of_below hb68))
  have g6' := (r6.lt g rfl).2
  have hw6 := (hid_elim hS6).size
  clear hs6 hS6 hS4 hB7 hb8 hb68 hV6 hR6 bB6 r6 bT6 u0 u1 u2 cB6 hTry hV5 hR5 bB5 cB5 bT5 q51 q52 r5 hnt hV4 hR4 bB4 cB4 r4 bV4 hB5
  have z0 := bT8.cell 0 (v := .int .u64 l.at_) rfl
  have z1 := bT8.cell 1 (v := .int .i64 2) rfl
  have z2 := bT8.cell 2 (v := .int .u64 (l.n : Int)) rfl
  have fz0 := bT8.frozen 0
  have fz1 := bT8.frozen 1
  have fz2 := bT8.frozen 2
  go_wp2
  have hS9 : Spares [W6.heap.size] W8 (((W8.setCell ⟨W6.heap.size, 0, none⟩ (.int .u64 0)).setCell ⟨W6.heap.size, 1, none⟩ (.int .i64 0)).setCell ⟨W6.heap.size, 2, none⟩ (.int .u64 0)) := ((((Spares.of_below (Below.refl _ W8)).set (by simp) _ _).set (by simp) _ _).set (by simp) _ _)
  have h86 : 6 ≤ W6.heap.size := by have := hV.va.six; omega
  have hV9 := hV8.spares hS9 (fun b hb => by obtain rfl := List.mem_singleton.1 hb; exact ⟨h86, _, _, bT8, by decide, by decide, by decide⟩)
  have hR9 := hR8.spares hS9 (fun b hb => by obtain rfl := List.mem_singleton.1 hb; exact ⟨_, _, bT8, by decide, by decide⟩)
  have bB9 := hS9.box bB8 (fun hm => by have := List.mem_singleton.1 hm; omega)
  have r9 := Tryz.nilRow_spares r8 hS9 (fun b hb hm => by
    have e1 := List.mem_singleton.1 hm
    have e2 : g = b := by simpa [Value.ownBlock] using hb
    omega)
  have hSw := hid_intro (((hid_elim hS8).mono (bs' := W6.heap.size :: tickB vb mt ml rb v vx.due) (fun b hb => List.mem_cons_of_mem _ hb)).trans (hS9.mono (fun b hb => by obtain rfl := List.mem_singleton.1 hb; simp)) |>.shed (bs' := tickB vb mt ml rb v vx.due) (fun b hb => by
    rcases List.mem_cons.1 hb with rfl | hb
    · exact .inr hw6
    · exact .inl hb))
  clear hS9 hS8 z0 z1 z2 fz0 fz1 fz2 bT8 r8 bB8 hR8 hV8
  generalize ((W8.setCell ⟨W6.heap.size, 0, none⟩ (.int .u64 0)).setCell ⟨W6.heap.size, 1, none⟩ (.int .i64 0)).setCell ⟨W6.heap.size, 2, none⟩ (.int .u64 0) = W9 at *
  rw [rounds_succ]
  go_wp2
  have bV9 := hV9.va.v
  refine leaves_cons (f := 83) (args := #[.pointer (some ⟨w.heap.size, 0, none⟩)]) (by simp) (by simp [invoke, go_sem]) ?_
  refine (Tryz.vTick1 vb w.heap.size (.slice (some ⟨g, 0, none⟩) 0 cap) (.bool true) .returning W9 (.inr ⟨g, cap, rfl⟩) (bB9.cell 0 rfl) (bV9.cell 6 rfl) (bV9.frozen 6) (bV9.cell 7 rfl) (bV9.frozen 7) hne).mono ?_
  rintro e u' w'' ⟨rfl, rfl, rfl⟩
  have bV10 : BoxN ((W9.setCell ⟨vb, 6, none⟩ (.bool false)).setCell ⟨vb, 7, none⟩ (.slice (some ⟨g, 0, none⟩) 0 cap)) vb 108 (Tryz.vaultC { vx with tk := false, due := .slice (some ⟨g, 0, none⟩) 0 cap } (max tm now) mt ml tn ln) := (bV9.set 6 (.bool false)).set 7 (.slice (some ⟨g, 0, none⟩) 0 cap)
  have hS10 : Spares [vb] W9 ((W9.setCell ⟨vb, 6, none⟩ (.bool false)).setCell ⟨vb, 7, none⟩ (.slice (some ⟨g, 0, none⟩) 0 cap)) := ((Spares.of_below (Below.refl _ W9)).set (by simp) _ _).set (by simp) _ _
  have hV10 := hV9.reV hS10 (fun b hb => by cases hb) { vx with tk := false, due := .slice (some ⟨g, 0, none⟩) 0 cap } (max tm now) h0' h1' bV10
  have hR10 := hR9.spares hS10 (fun b hb => by obtain rfl := List.mem_singleton.1 hb; exact ⟨_, _, bV9, by decide, by decide⟩)
  have r10 := Tryz.nilRow_spares r9 hS10 (fun b hb hm => by
    have e1 := List.mem_singleton.1 hm
    have e2 : g = b := by simpa [Value.ownBlock] using hb
    exact hvg (by rw [← e1, e2]))
  exact ⟨_, results_tmp rfl _ _ _, rfl, _, g2, cap2, hV10, rfl, rfl, r10, hR10, (hid_elim hSw).trans (hS10.mono (fun b hb => by obtain rfl := List.mem_singleton.1 hb; simp [tickB]))⟩
end Go.Proofs
