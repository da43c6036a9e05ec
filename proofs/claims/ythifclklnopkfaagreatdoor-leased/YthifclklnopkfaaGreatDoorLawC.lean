import Derived.Test.YthifclklnopkfaaGreatDoorLawA
import Derived.Test.YthifclklnopkfaaGreatDoorRel
import Derived.Test.YthifclklnopkfaaGreatDoorSpare
import Derived.Test.YthifclklnopkfaaGreatDoorHostC
/-
  The statements' own functions: looks, changes, turned.
-/
namespace Go.Proofs
open Go.RowKit Go.Sort Go.Lib Go.Shelf Go.Maps

theorem tellI_le (tm : Int) (L : List ThingD) : (tellI tm L).length ≤ 2 * L.length := by
  have h1 := partI_le tm true L
  have h2 := partI_le tm false L
  simp only [tellI, List.length_append]; omega

set_option maxRecDepth 100000 in
set_option maxHeartbeats 2000000 in
theorem Tryz.changes (B B' va g cap vc g' cap' : Nat) (L L' : List ThingD) (tm tn ln tm' tn' ln' : Int) (w : World) (h : Tryz.RVAt B w va g cap L tm tn ln) (h' : Tryz.RVAt B' w vc g' cap' L' tm' tn' ln') :
    Calls Tryz.prog 72 #[.pointer (some ⟨va, 0, none⟩), .pointer (some ⟨vc, 0, none⟩)] w fun e w' => ∃ b, e = .returned (.bool b) ∧ Below w.heap.size w w' := by
  have hA := Tryz.rAll B va g cap L tm tn ln w h
  have hl := h.lim
  have hl' := h'.lim
  have ht := tellI_le tm L
  have ht' := tellI_le tm' L'
  go_enter Tryz.func72, Tryz.ntmps72
  go_wp2_with (first
    | (go_at_call_of 33 (Value.pointer (some ⟨va, 0, none⟩)); refine hA.mono ?_; rintro e w1 ⟨x, rfl, hr1, hb1⟩)
    | (go_at_call_of 33 (Value.pointer (some ⟨vc, 0, none⟩)); refine (Tryz.rAll B' vc g' cap' L' tm' tn' ln' w1 (h'.below hb1)).mono ?_; rintro e w2 ⟨y, rfl, hr2, hb2⟩)
    | (go_at_call 34; refine (Tryz.sameInfos _ _ _ _ _ _ _ _ w2 (ownsRow_below hr1 hb2) hr2 rfl rfl (by omega) (by omega)).mono ?_; rintro e w3 ⟨b, rfl, hb, hb3⟩))
  go_ret
  exact ⟨!b, rfl, hb1.trans ((hb2.mono hb1.size).trans (hb3.mono (Nat.le_trans hb1.size hb2.size)))⟩

set_option maxRecDepth 100000 in
set_option maxHeartbeats 2000000 in
theorem Tryz.looks (B wb hb va g cap vb mt ml : Nat) (vx : VX) (tm tn ln tn' ln' : Int) (tks : List TokE) (lks : List LeaE) (L : List ThingD) (dv rv c1 c2 c3 c4 : Value) (w : World) (hW : BoxN w wb 48 #[.pointer (some ⟨hb, 0, none⟩), c1, c2, c3, c4]) (hH : BoxN w hb 64 #[dv, rv, .pointer (some ⟨vb, 0, none⟩)]) (hV : Tryz.VaultAt w vb mt ml vx tm tn ln tks lks) (hR : Tryz.RVAt B w va g cap L tm tn' ln') (hl : Rel tks lks L) :
    Calls Tryz.prog 20 #[.pointer (some ⟨wb, 0, none⟩), .pointer (some ⟨va, 0, none⟩)] w fun e w' => e = .returned (.bool true) ∧ Below w.heap.size w w' := by
  have hA := callsIn_wide.1 (Tryz.hAll0 hb vb mt ml vx tm tn ln tks lks w dv rv hH hV)
  have hI := hl.infos tm
  have hN := hl.next tm
  rw [hI] at hA hN
  have hlim := hR.lim
  have ht := tellI_le tm L
  have hX := fun W (b : Below w.heap.size w W) => Tryz.hNext hb vb mt ml vx tm tn ln tks lks W dv rv (hH.below b hH.lt) (hV.below b)
  rw [hI, hN] at hX
  have hY := fun W (b : Below w.heap.size w W) => Tryz.rNext B va g cap L tm tn' ln' W (hR.below b)
  have hw0 := fun W (b : Below w.heap.size w W) => (hW.below b hW.lt).cell 0 (v := .pointer (some ⟨hb, 0, none⟩)) rfl
  have c0 := hw0 w (Below.refl _ _)
  clear hI hN
  generalize minT L = mm at *
  go_enter Tryz.func20, Tryz.ntmps20
  go_wp2_with (first
    | (go_at_call 14; refine hA.mono ?_; rintro e w1 ⟨x, rfl, hr1, hb1⟩)
    | (go_at_call 33; refine (Tryz.rAll B va g cap L tm tn' ln' w1 (hR.below hb1)).mono ?_; rintro e w2 ⟨y, rfl, hr2, hb2⟩)
    | (go_at_call 34; refine (Tryz.sameInfos _ _ _ _ _ _ _ _ w2 (ownsRow_below hr1 hb2) hr2 rfl rfl (by omega) (by omega)).mono ?_; rintro e w3 ⟨b, rfl, hsb, hb3⟩; obtain rfl := hsb rfl; have hb9 := hb1.trans ((hb2.mono hb1.size).trans (hb3.mono (Nat.le_trans hb1.size hb2.size))); have c9 := hw0 _ hb9)
    | (go_at_call 35; refine (hX _ hb9).mono ?_; rintro e w4 ⟨rfl, hb4⟩)
    | (go_at_call 36; refine (hY _ (hb9.trans (hb4.mono hb9.size))).mono ?_; rintro e w5 ⟨rfl, rfl⟩))
  go_ret
  exact ⟨rfl, hb9.trans (hb4.mono hb9.size)⟩

set_option maxHeartbeats 1000000 in
theorem Tryz.turned (wb nb : Nat) (k : Int) (tu : Bool) (c0 c1 c2 : Value) (sk : Bool) (w : World) (hW : BoxN w wb 48 #[c0, c1, c2, .bool sk, .bool false]) :
    Calls Tryz.prog 69 #[.pointer (some ⟨wb, 0, none⟩), .pointer (some ⟨nb, 0, none⟩), .int .i64 k, .int .i64 k, .bool tu] w fun e w' => e = .returned (.bool true) ∧ w' = w.setCell ⟨wb, 1, none⟩ (.pointer (some ⟨nb, 0, none⟩)) := by
  have h1 := hW.cell 1 (v := c1) rfl
  have h4 := hW.cell 4 (v := .bool false) rfl
  have f1 := hW.frozen 1
  by_cases hk : k = 0
  · subst hk
    cases tu
    all_goals
      go_enter Tryz.func69, Tryz.ntmps69
      go_wp2
      go_ret
      exact ⟨rfl, rfl⟩
  · have hk' : (k == 0) = false := by simpa using hk
    cases tu
    all_goals
      go_enter Tryz.func69, Tryz.ntmps69
      go_wp2
      go_ret
      exact ⟨by simp, rfl⟩
end Go.Proofs

/-
  The statements' own functions: a request (ask), what it wants of both sides.
-/
namespace Go.Proofs
open Go.RowKit Go.Sort Go.Lib Go.Shelf Go.Maps

/-- a step of a script. -/
structure StepD where
  kind : Int
  s : List UInt8
  t : List UInt8
  a : Int
  b : Int
  f : Int
  fl : Int
  fu : Int
  ke : Int
  pa : Int
def StepD.cells (x : StepD) : Array Value := #[.int .i64 x.kind, .string ⟨x.s.toArray⟩, .string ⟨x.t.toArray⟩, .int .u64 x.a, .int .u64 x.b, .int .u64 x.f, .int .i64 x.fl, .int .i64 x.fu, .int .i64 x.ke, .int .i64 x.pa]

theorem Tryz.RVAt.lower {B B' : Nat} {W : World} {vb g cap : Nat} {L : List ThingD} {tm tn ln : Int} (h : Tryz.RVAt B W vb g cap L tm tn ln) (hB : B' ≤ B) : Tryz.RVAt B' W vb g cap L tm tn ln := by
  refine ⟨h.v, ?_, h.lim, h.num, h.ofs⟩
  obtain ⟨h1, ⟨e1, -⟩ | ⟨g', cap', cur, e1, e2, e3⟩⟩ := h.row
  · cases e1
  · exact ⟨h1, .inr ⟨g', cap', cur, e1, by omega, e3⟩⟩
theorem Tryz.RVAt.gbox {B : Nat} {W : World} {vb g cap : Nat} {L : List ThingD} {tm tn ln : Int} (h : Tryz.RVAt B W vb g cap L tm tn ln) : ∃ cur, BoxN W g 82 cur := by
  obtain ⟨h1, ⟨e1, -⟩ | ⟨g', cap', cur, e1, e2, e3, -⟩⟩ := h.row
  · cases e1
  · cases e1
    exact ⟨cur, e3⟩
theorem Tryz.RVAt.ne {B : Nat} {W : World} {vb g cap : Nat} {L : List ThingD} {tm tn ln : Int} (h : Tryz.RVAt B W vb g cap L tm tn ln) : vb ≠ g := by
  obtain ⟨cur, hc⟩ := h.gbox
  exact h.v.ne hc (by decide)
theorem Tryz.RVAt.spares {B : Nat} {W W' : World} {vb g cap : Nat} {L : List ThingD} {tm tn ln : Int} {bs : List Nat} (h : Tryz.RVAt B W vb g cap L tm tn ln) (hs : Spares bs W W') (h1 : vb ∉ bs) (h2 : g ∉ bs) : Tryz.RVAt B W' vb g cap L tm tn ln :=
  ⟨hs.box h.v h1, hs.row h.row h2, h.lim, h.num, h.ofs⟩
/-- a turn of blocks of other types leaves the host and its vault. -/
theorem Tryz.Sys.other {W W' : World} {hb db rb vb mt ml : Nat} {vx : VX} {tm : Int} {tn ln : Nat} {tks : List TokE} {lks : List LeaE} {bs : List Nat} (h : Tryz.Sys W hb db rb vb mt ml vx tm tn ln tks lks) (hs : Spares bs W W')
    (hq : ∀ b ∈ bs, 6 ≤ b ∧ ∃ t cs, BoxN W b t cs ∧ t ≠ 64 ∧ t ≠ 76 ∧ t ≠ 108 ∧ t ≠ 133 ∧ t ≠ 114) : Tryz.Sys W' hb db rb vb mt ml vx tm tn ln tks lks := by
  obtain ⟨m1, m2, p, hd⟩ := h.disk
  have hb6 := hs.below (B := 6) h.v.va.six (fun b hm => (hq b hm).1)
  obtain ⟨⟨n, hn, hm⟩, ⟨n', hn', hm'⟩, ht, hle⟩ := h.v.va.held
  have nm : ∀ b ∈ bs, b ≠ mt ∧ b ≠ ml := fun b hbm => by
    obtain ⟨-, t, cs, hB, -⟩ := hq b hbm
    exact ⟨fun e => hB.ne_map hm e.symm, fun e => hB.ne_map hm' e.symm⟩
  refine ⟨hs.box h.host (fun hm => by obtain ⟨-, t, cs, hB, h1, -⟩ := hq _ hm; exact hB.ne h.host h1 rfl), ⟨m1, m2, p, hs.box hd (fun hm => by obtain ⟨-, t, cs, hB, -, h1, -⟩ := hq _ hm; exact hB.ne hd h1 rfl)⟩, { h.v with va := ⟨hs.box h.v.va.v (fun hm => by obtain ⟨-, t, cs, hB, -, -, h1, -⟩ := hq _ hm; exact hB.ne h.v.va.v h1 rfl), ⟨⟨n, hn, hs.map hm (fun hx => (nm _ hx).1 rfl)⟩, ⟨n', hn', hs.map hm' (fun hx => (nm _ hx).2 rfl)⟩, fun t htm => hs.box (ht t htm) (fun hx => by obtain ⟨-, t', cs, hB, -, -, -, h1, -⟩ := hq _ hx; exact hB.ne (ht t htm) h1 rfl), fun l hl => hs.box (hle l hl) (fun hx => by obtain ⟨-, t', cs, hB, -, -, -, -, h1⟩ := hq _ hx; exact hB.ne (hle l hl) h1 rfl)⟩, h.v.va.ok, h.v.va.env.below hb6 (Nat.le_refl _), Nat.le_trans h.v.va.six hs.size⟩ }, h.err.below hb6, h.h6, h.d6⟩

abbrev AskP (wb hb sb : Nat) (st : StepD) (W : World) : Prop :=
  (W.cell? ⟨wb, 0, none⟩ = some (.pointer (some ⟨hb, 0, none⟩)) ∧ W.cell? ⟨sb, 1, none⟩ = some (.string ⟨st.s.toArray⟩) ∧ W.cell? ⟨sb, 2, none⟩ = some (.string ⟨st.t.toArray⟩) ∧ W.cell? ⟨sb, 3, none⟩ = some (.int .u64 st.a) ∧ W.cell? ⟨sb, 4, none⟩ = some (.int .u64 st.b)) ∧
  (W.cell? ⟨sb, 6, none⟩ = some (.int .i64 st.fl) ∧ W.cell? ⟨sb, 7, none⟩ = some (.int .i64 st.fu) ∧ W.cell? ⟨sb, 8, none⟩ = some (.int .i64 st.ke) ∧ W.cell? ⟨sb, 9, none⟩ = some (.int .i64 st.pa))
theorem AskP.mk' {wb hb sb : Nat} {st : StepD} {W : World} {t t' : TypeId} {c1 c2 c3 c4 : Value} (hW : BoxN W wb t #[.pointer (some ⟨hb, 0, none⟩), c1, c2, c3, c4]) (hS : BoxN W sb t' st.cells) : AskP wb hb sb st W :=
  ⟨⟨hW.cell 0 rfl, hS.cell 1 rfl, hS.cell 2 rfl, hS.cell 3 rfl, hS.cell 4 rfl⟩, hS.cell 6 rfl, hS.cell 7 rfl, hS.cell 8 rfl, hS.cell 9 rfl⟩
theorem AskP.drew {wb hb sb : Nat} {st : StepD} {W : World} (h : AskP wb hb sb st W) : AskP wb hb sb st W.drew := h

/-- what a request leaves. -/
structure Tryz.After (w : World) (B wb hb db rb vb mt ml : Nat) (vx : VX) (tm : Int) (Q : Nat → Nat → List TokE → List LeaE → Prop) (Q2 : List ThingD → Int → Int → Prop) (bs : List Nat) (w' : World) : Prop where
  ex : ∃ tn ln tks lks L tr lr nb g cap, Q tn ln tks lks ∧ Q2 L tr lr ∧ Tryz.Sys w' hb db rb vb mt ml vx tm tn ln tks lks ∧ Tryz.RVAt B w' nb g cap L tm tr lr ∧ BoxN w' wb 48 #[.pointer (some ⟨hb, 0, none⟩), .pointer (some ⟨nb, 0, none⟩), .pointer none, .bool false, .bool false]
  sp : Spares (wb :: db :: bs) w w'
end Go.Proofs
