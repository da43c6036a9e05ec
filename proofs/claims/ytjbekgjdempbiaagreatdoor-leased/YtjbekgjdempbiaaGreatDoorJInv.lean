import Derived.Test.YtjbekgjdempbiaaGreatDoorJCodeA
import Derived.Test.YtjbekgjdempbiaaGreatDoorJHostW
import Derived.Test.YtjbekgjdempbiaaGreatDoorJIsW
import Derived.Test.YtjbekgjdempbiaaGreatDoorJRel
import Derived.Test.YtjbekgjdempbiaaGreatDoorJNext
/-
  The statements' own functions: a request (ask), what it wants of both sides.
-/
namespace Go.Proofs
open Go.RowKit Go.Sort Go.Lib Go.Shelf Go.Maps

/-- a step of a script. -/
structure StepD where
  kind : Int
  s : List UInt8
  t : List UInt8
  a : Int
  b : Int
  f : Int
  fl : Int
  fu : Int
  ke : Int
  pa : Int
def StepD.cells (x : StepD) : Array Value := #[.int .i64 x.kind, .string ⟨x.s.toArray⟩, .string ⟨x.t.toArray⟩, .int .u64 x.a, .int .u64 x.b, .int .u64 x.f, .int .i64 x.fl, .int .i64 x.fu, .int .i64 x.ke, .int .i64 x.pa]

theorem Tryz.RVAt.lower {B B' : Nat} {W : World} {vb g cap : Nat} {L : List ThingD} {tm tn ln : Int} (h : Tryz.RVAt B W vb g cap L tm tn ln) (hB : B' ≤ B) : Tryz.RVAt B' W vb g cap L tm tn ln := by
  refine ⟨h.v, ?_, h.lim, h.num, h.ofs⟩
  obtain ⟨h1, ⟨e1, -⟩ | ⟨g', cap', cur, e1, e2, e3⟩⟩ := h.row
  · cases e1
  · exact ⟨h1, .inr ⟨g', cap', cur, e1, by omega, e3⟩⟩
theorem Tryz.RVAt.gbox {B : Nat} {W : World} {vb g cap : Nat} {L : List ThingD} {tm tn ln : Int} (h : Tryz.RVAt B W vb g cap L tm tn ln) : ∃ cur, BoxN W g 105 cur := by
  obtain ⟨h1, ⟨e1, -⟩ | ⟨g', cap', cur, e1, e2, e3, -⟩⟩ := h.row
  · cases e1
  · cases e1
    exact ⟨cur, e3⟩
theorem Tryz.RVAt.glow {B : Nat} {W : World} {vb g cap : Nat} {L : List ThingD} {tm tn ln : Int} (h : Tryz.RVAt B W vb g cap L tm tn ln) : B ≤ g := by
  obtain ⟨h1, ⟨e1, -⟩ | ⟨g', cap', cur, e1, e2, e3, -⟩⟩ := h.row
  · cases e1
  · cases e1
    exact e2
theorem Tryz.RVAt.ne {B : Nat} {W : World} {vb g cap : Nat} {L : List ThingD} {tm tn ln : Int} (h : Tryz.RVAt B W vb g cap L tm tn ln) : vb ≠ g := by
  obtain ⟨cur, hc⟩ := h.gbox
  exact h.v.ne hc (by decide)
theorem Tryz.RVAt.spares {B : Nat} {W W' : World} {vb g cap : Nat} {L : List ThingD} {tm tn ln : Int} {bs : List Nat} (h : Tryz.RVAt B W vb g cap L tm tn ln) (hs : Spares bs W W') (h1 : vb ∉ bs) (h2 : g ∉ bs) : Tryz.RVAt B W' vb g cap L tm tn ln :=
  ⟨hs.box h.v h1, hs.row h.row h2, h.lim, h.num, h.ofs⟩
/-- its blocks are the statements' own. -/
theorem Tryz.RVAt.foreign {B : Nat} {W : World} {vb g cap : Nat} {L : List ThingD} {tm tn ln : Int} (h : Tryz.RVAt B W vb g cap L tm tn ln) (hB : 9 ≤ B) (hv : 9 ≤ vb) : Tryz.Foreign W vb ∧ Tryz.Foreign W g := by
  obtain ⟨cur, hc⟩ := h.gbox
  have := h.glow
  exact ⟨⟨hv, _, _, h.v, by decide⟩, ⟨by omega, _, _, hc, by decide⟩⟩
theorem Tryz.Foreign.of {W : World} {b : Nat} {t : TypeId} {cs : Array Value} (h : BoxN W b t cs) (hb : 9 ≤ b) (ht : Tryz.foreign t = true) : Tryz.Foreign W b := ⟨hb, _, _, h, ht⟩

abbrev AskP (wb hb sb : Nat) (st : StepD) (W : World) : Prop :=
  (W.cell? ⟨wb, 0, none⟩ = some (.pointer (some ⟨hb, 0, none⟩)) ∧ W.cell? ⟨sb, 1, none⟩ = some (.string ⟨st.s.toArray⟩) ∧ W.cell? ⟨sb, 2, none⟩ = some (.string ⟨st.t.toArray⟩) ∧ W.cell? ⟨sb, 3, none⟩ = some (.int .u64 st.a) ∧ W.cell? ⟨sb, 4, none⟩ = some (.int .u64 st.b)) ∧
  (W.cell? ⟨sb, 6, none⟩ = some (.int .i64 st.fl) ∧ W.cell? ⟨sb, 7, none⟩ = some (.int .i64 st.fu) ∧ W.cell? ⟨sb, 8, none⟩ = some (.int .i64 st.ke) ∧ W.cell? ⟨sb, 9, none⟩ = some (.int .i64 st.pa))
theorem AskP.mk' {wb hb sb : Nat} {st : StepD} {W : World} {t t' : TypeId} {c1 c2 c3 c4 : Value} (hW : BoxN W wb t #[.pointer (some ⟨hb, 0, none⟩), c1, c2, c3, c4]) (hS : BoxN W sb t' st.cells) : AskP wb hb sb st W :=
  ⟨⟨hW.cell 0 rfl, hS.cell 1 rfl, hS.cell 2 rfl, hS.cell 3 rfl, hS.cell 4 rfl⟩, hS.cell 6 rfl, hS.cell 7 rfl, hS.cell 8 rfl, hS.cell 9 rfl⟩
theorem AskP.drew {wb hb sb : Nat} {st : StepD} {W : World} (h : AskP wb hb sb st W) : AskP wb hb sb st W.drew := h

/-- what a request leaves. -/
structure Tryz.After (w : World) (B wb hb : Nat) (tm : Int) (HP' : World → Prop) (Q2 : List ThingD → Int → Int → Prop) (w' : World) : Prop where
  hp : HP' w'
  ex : ∃ L tr lr nb g cap, Q2 L tr lr ∧ Tryz.RVAt B w' nb g cap L tm tr lr ∧ B ≤ nb ∧ BoxN w' wb 69 #[.pointer (some ⟨hb, 0, none⟩), .pointer (some ⟨nb, 0, none⟩), .pointer none, .bool false, .bool false]
  bel : Below B w w'
end Go.Proofs

/-
  A request that turns something: Token.
-/
namespace Go.Proofs
open Go.RowKit Go.Sort Go.Lib Go.Shelf Go.Maps

set_option maxRecDepth 100000 in
set_option maxHeartbeats 4000000 in
theorem Tryz.askToken (B wb hb ra g cap : Nat) (tm : Int) (L : List ThingD) (tr lr : Int) (w : World) (HP HP' : World → Prop) (lo1 : Tryz.Lone HP) (lo2 : Tryz.Lone HP') (hP : HP w) (hR : Tryz.RVAt B w ra g cap L tm tr lr) (hpos : 0 < L.length) (hW : BoxN w wb 69 #[.pointer (some ⟨hb, 0, none⟩), .pointer (some ⟨ra, 0, none⟩), .pointer none, .bool false, .bool false]) (hB : B ≤ w.heap.size) (hB9 : 9 ≤ B) (hwb : B ≤ wb) (hra : B ≤ ra)
    (ss tt : List UInt8) (aa bb ff fl fu ke pa : Int) (k : Int) (rs : List UInt8) (hkr : k ≠ 0 → rs = []) (Q2 : List ThingD → Int → Int → Prop)
    (hH : ∀ W, w.heap.size ≤ W.heap.size → HP W → Calls Tryz.prog 25 #[.pointer (some ⟨hb, 0, none⟩), .string ⟨ss.toArray⟩, .agg #[.int .i64 fl, .int .i64 fu, .int .i64 ke, .int .i64 pa]] W fun e w' => e = .returned (.tuple #[.string ⟨rs.toArray⟩, .int .i64 k]) ∧ HP' w' ∧ Tryz.HostSp B W w')
    (hC : ∀ B' W nb g' cap', B' ≤ W.heap.size → B' ≤ nb → Tryz.RVAt B' W nb g' cap' L tm tr lr → Calls Tryz.prog 109 #[.pointer (some ⟨nb, 0, none⟩), .string ⟨ss.toArray⟩] W fun e w' => ∃ g2 cap2 L2 tr2 lr2, Q2 L2 tr2 lr2 ∧ e = .returned (.tuple #[.string ⟨rs.toArray⟩, .int .i64 k]) ∧ Tryz.RVAt B' w' nb g2 cap2 L2 tm tr2 lr2 ∧ Spares [nb, g'] W w') :
    Calls Tryz.prog 62 #[.pointer (some ⟨wb, 0, none⟩), .agg (StepD.cells ⟨1, ss, tt, aa, bb, ff, fl, fu, ke, pa⟩)] w fun e w' => e = .returned (.bool true) ∧ Tryz.After w B wb hb tm HP' Q2 w' := by
  have lW := hW.lt
  have hb0 : Below w.heap.size w (w.alloc (.cells (StepD.cells ⟨1, ss, tt, aa, bb, ff, fl, fu, ke, pa⟩) 72)) := (Below.refl _ w).alloc (Nat.le_refl _) _
  have bS := BoxN.new w 72 (StepD.cells ⟨1, ss, tt, aa, bb, ff, fl, fu, ke, pa⟩)
  have bW0 := hW.alloc (.cells (StepD.cells ⟨1, ss, tt, aa, bb, ff, fl, fu, ke, pa⟩) 72)
  have hCp := Tryz.rCopy B ra g cap L tm tr lr _ (hR.below hb0) hpos
  rw [World.size_alloc] at hCp
  have w1c := bW0.cell 1 (v := .pointer (some ⟨ra, 0, none⟩)) rfl
  have s0c := bS.cell 0 (v := .int .i64 1) rfl
  obtain ⟨kz, hkz⟩ : ∃ kz : Bool, (k != 0) = kz := ⟨_, rfl⟩
  have hkz' : (k == 0) = !kz := by rw [← hkz]; simp [bne]
  have Hkz : Hid (kz = true → rs = []) := hid_intro (fun e => hkr (by rw [e] at hkz; simpa using hkz))
  clear hkr
  simp only [StepD.cells] at *
  cases kz
  all_goals
    try (have hzz := hid_elim Hkz rfl)
    try subst hzz
    go_enter Tryz.func62, Tryz.ntmps62
    go_wp2_with (first
      | (go_at_call 106; refine hCp.mono ?_; rintro e w1 ⟨g', cap', rfl, hR1, hb1⟩; have bS1 := bS.below hb1 (by simp); have s01 := bS1.cell 0 (v := .int .i64 1) rfl))
    have hb1' : Below w.heap.size w w1 := hb0.trans (hb1.mono (by omega))
    have bW1 := bW0.below hb1 (by omega)
    have hP1 : AskP wb hb w.heap.size ⟨1, ss, tt, aa, bb, ff, fl, fu, ke, pa⟩ w1 := AskP.mk' bW1 bS1
    have hh1 : HP w1.drew := lo1.below hP hb1'.drew
    have hg'l := hR1.glt
    have hg'b : w.heap.size + 1 ≤ g' := (hR1.row.lt g' rfl).1
    have hH1 := hH w1.drew (by have := hb1'.size; exact this) hh1
    have hRo1 : Tryz.RVAt B w1.drew ra g cap L tm tr lr := hR.below hb1'.drew
    have hRn1 : Tryz.RVAt (w.heap.size + 1) w1.drew (w.heap.size + 1) g' cap' L tm tr lr := hR1.below (Below.refl _ _).drew
    have fW : Tryz.Foreign w1.drew wb := ⟨by omega, _, _, bW1, by decide⟩
    have fS : Tryz.Foreign w1.drew w.heap.size := ⟨by omega, _, _, bS1, by decide⟩
    obtain ⟨fA, fG⟩ := hRo1.foreign hB9 (by omega)
    obtain ⟨fN, fH⟩ := hRn1.foreign (by omega) (by omega)
    simp only [AskP] at hP1
    go_region_held3 (AskP wb hb w.heap.size ⟨1, ss, tt, aa, bb, ff, fl, fu, ke, pa⟩) (first
      | with_reducible exact AskP.drew hP1
      | with_reducible assumption) (first | (go_at_call 25; refine hH1.mono ?_; rintro e w2 ⟨rfl, hp2, hs, hsp2, hso⟩; have bW2 := Spares.box (W := w1.drew) hsp2 bW1 (fun hx => (hso _ hx).2 fW); have bS2 := Spares.box (W := w1.drew) hsp2 bS1 (fun hx => (hso _ hx).2 fS); have hP2 := AskP.mk' (st := ⟨1, ss, tt, aa, bb, ff, fl, fu, ke, pa⟩) bW2 bS2))
    have hRn2 : Tryz.RVAt (w.heap.size + 1) w2 (w.heap.size + 1) g' cap' L tm tr lr := hRn1.spares hsp2 (fun hx => (hso _ hx).2 fN) (fun hx => (hso _ hx).2 fH)
    have hC2 := hC (w.heap.size + 1) w2 (w.heap.size + 1) g' cap' (by have := hRn2.v.lt; omega) (Nat.le_refl _) hRn2
    obtain ⟨⟨q0, q1, q2, q3, q4⟩, q6, q7, q8, q9⟩ := hP2
    have hgd := hRn2.gbox
    have lra := hR.v.lt
    have lgg := hR.glt
    have hRo2 : Tryz.RVAt B w2 ra g cap L tm tr lr := hRo1.spares hsp2 (fun hx => (hso _ hx).2 fA) (fun hx => (hso _ hx).2 fG)
    have hbB2 : Below B w w2 := (hb1'.mono hB).drew.trans (hsp2.below (by have := hb1'.size; exact Nat.le_trans hB this) (fun b hb => (hso b hb).1))
    have HBB := hid_intro hbB2
    clear hP1 hCp hH hC hH1 w1c s0c s01 hsp2 hso hbB2
    go_wp2_with (first
      | (go_at_call 109; refine hC2.mono ?_; rintro e w3 ⟨g2, cap2, L2, tr2, lr2, hQ2, rfl, hR3, hsp3⟩; have bW3 := hsp3.box bW2 (fun hx => by rcases List.mem_cons.1 hx with e | e; omega; have := List.mem_singleton.1 e; omega); have hTu := Tryz.turned wb (w.heap.size + 1) k true _ _ _ _ w3 bW3)
      | (go_at_call 110; refine hTu.mono ?_; rintro e w4 ⟨rfl, rfl⟩))
    go_ret
    refine ⟨by first | rfl | simp, ?_⟩
    obtain ⟨cur, hcur⟩ := hgd
    have hp3 : HP' w3 := lo2.other hp2 hsp3 (fun b hb => by
      rcases List.mem_cons.1 hb with rfl | hb
      · exact Tryz.Foreign.of hRn2.v (by omega) (by decide)
      · rw [List.mem_singleton.1 hb]; exact Tryz.Foreign.of hcur (by omega) (by decide))
    have hsp4 : Spares [wb] w3 (w3.setCell ⟨wb, 1, none⟩ (.pointer (some ⟨w.heap.size + 1, 0, none⟩))) := (Spares.of_below (Below.refl _ _)).set (by simp) _ _
    have nW : wb ≠ g2 := fun e => by obtain ⟨c, hc⟩ := hR3.gbox; exact bW3.ne hc (by decide) e
    have hp4 : HP' (w3.setCell ⟨wb, 1, none⟩ (.pointer (some ⟨w.heap.size + 1, 0, none⟩))) := lo2.other hp3 hsp4 (fun b hb => by rw [List.mem_singleton.1 hb]; exact Tryz.Foreign.of bW3 (by omega) (by decide))
    have hR4 := (Tryz.RVAt.spares hR3 hsp4 (by simp; omega) (by simpa using Ne.symm nW)).lower (B' := B) (by omega)
    have hB3 : Below B w w3 := (hid_elim HBB).trans (hsp3.below (by have := hRn2.v.lt; omega) (fun b hb => by
      rcases List.mem_cons.1 hb with rfl | hb
      · omega
      · rw [List.mem_singleton.1 hb]; omega))
    exact ⟨hp4, ⟨L2, tr2, lr2, _, g2, cap2, hQ2, hR4, by omega, bW3.set 1 _⟩, hB3.setCell (p := ⟨wb, 1, none⟩) hwb _⟩
end Go.Proofs

/-
  What is live on both sides; paths.
-/
namespace Go.Proofs
open Go.RowKit Go.Sort Go.Lib Go.Shelf Go.Maps

theorem pstep_lt {c : UInt8} {o b : Bool} (h : pstep (some o) c = some b) : c.toNat < 128 := by
  by_cases h47 : c.toNat = 47
  · omega
  · simp only [pstep, if_neg h47] at h
    by_cases hn : nameCh c = true
    · simp [nameCh] at hn
      omega
    · rw [if_neg hn] at h; cases h
theorem pfold_ascii : ∀ (s : List UInt8) (o b : Bool), s.foldl pstep (some o) = some b → ∀ c ∈ s, c.toNat < 128
  | [], _, _, _, _, h => by cases h
  | a :: s, o, b, hf, c, hc => by
    rw [List.foldl_cons] at hf
    cases hp : pstep (some o) a with
    | none => rw [hp, pstep_none] at hf; cases hf
    | some o' =>
      rcases List.mem_cons.1 hc with rfl | hc
      · exact pstep_lt hp
      · rw [hp] at hf
        exact pfold_ascii s o' b hf c hc
theorem path_ok {s : List UInt8} (h : pathI s = true) : s.length ≤ 24 ∧ Ascii s := by
  unfold pathI at h
  rw [Bool.and_eq_true] at h
  exact ⟨by simpa using h.2, pfold_ascii s false true (by simpa using h.1)⟩

section
variable {vb mt ml : Nat} {vx : VX} {tm tn ln : Int} {tks : List TokE} {lks : List LeaE} {L : List ThingD}
theorem state_tok {tm : Int} {t : TokE} (h : (thT t).state tm = 1) : t.pd = false := by
  cases hp : t.pd
  · rfl
  · simp [ThingD.state, thT, hp] at h
theorem state_lea {tm : Int} {l : LeaE} : (thL l).state tm = 1 ↔ (!l.pd && decide (tm < l.at_)) = true := by
  cases hp : l.pd
  · simp [ThingD.state, thL, hp]
  · simp [ThingD.state, thL, hp]

theorem Tryz.tokLive (w : World) (hV : Tryz.VaultAt w vb mt ml vx tm tn ln tks lks) (hl : Rel tks lks L) (id : List UInt8) :
    Calls Tryz.prog 83 #[.pointer (some ⟨vb, 0, none⟩), nmV (parseN id)] w fun e w' => e = .returned (.bool (decide (0 ≤ liveI tm id true L))) ∧ Below w.heap.size w w' := by
  rcases liveI_cases tm id true L with ⟨i, t, ht, hid, htk, hst, hli⟩ | hli
  · have hm := List.mem_of_getElem? ht
    obtain ⟨a, ha, rfl⟩ := hl.tok_mem hm htk
    have hp := liveI_hit (L := L) hid htk (hl.num hV.ok hm) hli
    rw [hp, hli]
    have h := Tryz.isLive_hit vb mt ml vx tm tn ln tks lks w hV a ha
    rw [state_tok hst] at h
    refine h.mono ?_
    rintro e w' ⟨rfl, hb⟩
    exact ⟨by simp, hb⟩
  · rw [hli]
    have hno : ∀ a ∈ tks, a.pd = false → parseN id ≠ (1, (a.n : Int)) := fun a ha hp => hl.live_miss hV.ok hli (hl.mem_tok ha) rfl (by simp [ThingD.state, thT, hp])
    by_cases he : ∃ a ∈ tks, parseN id = (1, (a.n : Int))
    · obtain ⟨a, ha, hp⟩ := he
      have hpd : a.pd = true := by
        cases h : a.pd
        · exact absurd hp (hno a ha h)
        · rfl
      rw [hp]
      have h := Tryz.isLive_hit vb mt ml vx tm tn ln tks lks w hV a ha
      rw [hpd] at h
      refine h.mono ?_
      rintro e w' ⟨rfl, hb⟩
      exact ⟨by simp, hb⟩
    · have h := Tryz.isLive_miss vb mt ml vx tm tn ln tks lks w hV (parseN id) (parseN_wf id) (fun a ha e => he ⟨a, ha, e⟩)
      refine h.mono ?_
      rintro e w' ⟨rfl, hb⟩
      exact ⟨by simp, hb⟩
theorem leaLive_hit (ok : ListsOk tks lks) (hl : Rel tks lks L) {id : List UInt8} {i : Nat} {t : ThingD} (ht : L[i]? = some t) (hid : t.id = id) (htk : t.token = false) (hst : t.state tm = 1) (hli : liveI tm id false L = i) :
    ∃ (k : Nat) (l : LeaE), lks[k]? = some l ∧ thL l = t ∧ parseN id = (2, (l.n : Int)) ∧ (!l.pd && decide (tm < l.at_)) = true ∧ ∀ a : Int, Rel tks (lks.set k { l with at_ := a }) (L.set i { t with at_ := a }) := by
  obtain ⟨k, l, hk, rfl, hr⟩ := hl.lea_at ht htk
  exact ⟨k, l, hk, rfl, liveI_hit (L := L) hid htk (hl.num ok (List.mem_of_getElem? ht)) hli, state_lea.1 hst, hr⟩
/-- a lease that is not live: whatever the code has in hand. -/
theorem Tryz.leaLive_miss (hok : ListsOk tks lks) (hl : Rel tks lks L) (id : List UInt8) (hli : liveI tm id false L = -1) :
    ∃ (ak au at_ tr : Int) (pd : Bool) (lp : List UInt8) (la : Int), ∀ w, Tryz.VaultAt w vb mt ml vx tm tn ln tks lks → Calls Tryz.prog 71 #[.pointer (some ⟨vb, 0, none⟩), nmV (parseN id)] w fun e w' => e = .returned (.tuple #[.agg #[.int .i64 ak, .int .u64 au, .int .u64 at_, .int .i64 tr, .bool pd, .string ⟨lp.toArray⟩, .int .u64 la], .bool false]) ∧ Below w.heap.size w w' := by
  have hno : ∀ a ∈ lks, (!a.pd && decide (tm < a.at_)) = true → parseN id ≠ (2, (a.n : Int)) := fun a ha hp => hl.live_miss hok hli (hl.mem_lea ha) rfl (state_lea.2 hp)
  by_cases he : ∃ a ∈ lks, parseN id = (2, (a.n : Int))
  · obtain ⟨a, ha, hp⟩ := he
    refine ⟨a.ak, a.au, a.at_, a.tr, a.pd, a.pth, a.last, fun w hV => ?_⟩
    have h := Tryz.liveLease_hit vb mt ml vx tm tn ln tks lks w hV a ha
    have hf : (!a.pd && decide (tm < a.at_)) = false := by
      cases hb : (!a.pd && decide (tm < a.at_))
      · rfl
      · exact absurd hp (hno a ha hb)
    rw [hf] at h
    rw [hp]
    exact h
  · refine ⟨0, 0, 0, 0, false, [], 0, fun w hV => Tryz.liveLease_miss vb mt ml vx tm tn ln tks lks w hV (parseN id) (parseN_wf id) (fun a ha e => he ⟨a, ha, e⟩)⟩
end
end Go.Proofs

/-
  What holds ahead of and behind each step; a request keeps it: CreateToken.
-/
namespace Go.Proofs
open Go.RowKit Go.Sort Go.Lib Go.Shelf Go.Maps

/-- how great all is. -/
structure Nums (N : Nat) (σ : SS) : Prop where
  nt : σ.s.tks.length ≤ 10
  nl : σ.s.lks.length ≤ 14
  pos : 0 < σ.s.tks.length
  tn : σ.s.tn ≤ N
  ln : σ.s.ln ≤ N
  c : σ.c.length ≤ N * 40000000
theorem Nums.more {N M : Nat} {σ : SS} (h : Nums N σ) (hM : N ≤ M) : Nums M σ := ⟨h.nt, h.nl, h.pos, Nat.le_trans h.tn hM, Nat.le_trans h.ln hM, Nat.le_trans h.c (Nat.mul_le_mul_right _ hM)⟩
theorem Nums.small {N : Nat} {σ : SS} (h : Nums N σ) (hN : N < 20000) : σ.c.length ≤ 900000000000 := Nat.le_trans h.c (by omega)
structure Tryz.Inv (w0 : World) (B N wb hb : Nat) (W : World) : Prop where
  bel : Below B w0 W
  hB : B ≤ W.heap.size
  bw : B ≤ wb
  ex : ∃ rb σ ra g cap L, Tryz.Sys B W hb rb σ ∧ Tryz.RVAt B W ra g cap L σ.tm ((σ.s.tn + 1 : Nat) : Int) ((σ.s.ln + 1 : Nat) : Int) ∧ Rel σ.s.tks σ.s.lks L ∧ BoxN W wb 69 #[.pointer (some ⟨hb, 0, none⟩), .pointer (some ⟨ra, 0, none⟩), .pointer none, .bool false, .bool false] ∧ Nums N σ ∧ B ≤ ra
section
variable {w0 W W' : World} {B N wb hb : Nat}
theorem Tryz.Inv.below (h : Tryz.Inv w0 B N wb hb W) (hb' : Below W.heap.size W W') : Tryz.Inv w0 B N wb hb W' := by
  obtain ⟨rb, σ, ra, g, cap, L, h1, h2, h3, h4, h5, h6⟩ := h.ex
  exact ⟨h.bel.trans (hb'.mono h.hB), Nat.le_trans h.hB hb'.size, h.bw, ⟨rb, σ, ra, g, cap, L, h1.below hb', h2.below hb', h3, h4.below hb' h4.lt, h5, h6⟩⟩
theorem Tryz.Inv.more (h : Tryz.Inv w0 B N wb hb W) {M : Nat} (hM : N ≤ M) : Tryz.Inv w0 B M wb hb W := by
  obtain ⟨rb, σ, ra, g, cap, L, h1, h2, h3, h4, h5, h6⟩ := h.ex
  exact ⟨h.bel, h.hB, h.bw, ⟨rb, σ, ra, g, cap, L, h1, h2, h3, h4, h5.more hM, h6⟩⟩
theorem Tryz.Inv.nine (h : Tryz.Inv w0 B N wb hb W) : 9 ≤ B := by
  obtain ⟨rb, σ, ra, g, cap, L, h1, -⟩ := h.ex
  exact h1.b9
/-- behind a request. -/
theorem Tryz.After.inv {w : World} {M : Nat} {rb : Nat} {Q : SS → Prop} {Q2 : List ThingD → Int → Int → Prop} {tm : Int} (hA : Tryz.After w B wb hb tm (fun W => ∃ σ, Q σ ∧ Tryz.Sys B W hb rb σ) Q2 W) (hI : Tryz.Inv w0 B N wb hb w)
    (hQ : ∀ σ L tr lr, Q σ → Q2 L tr lr → σ.tm = tm ∧ Rel σ.s.tks σ.s.lks L ∧ tr = ((σ.s.tn + 1 : Nat) : Int) ∧ lr = ((σ.s.ln + 1 : Nat) : Int) ∧ Nums M σ) : Tryz.Inv w0 B M wb hb W := by
  obtain ⟨σ, q1, hS⟩ := hA.hp
  obtain ⟨L, tr, lr, nb, g, cap, q2, hR, hnb, hW⟩ := hA.ex
  obtain ⟨rfl, r1, rfl, rfl, r4⟩ := hQ _ _ _ _ q1 q2
  exact ⟨hI.bel.trans hA.bel, Nat.le_trans hI.hB hA.bel.size, hI.bw, ⟨rb, σ, nb, g, cap, L, hS, hR, r1, hW, r4, hnb⟩⟩
/-- a request that is answered by an error, or turns nothing, on both sides. -/
theorem Tryz.hostSame {rb : Nat} {σ : SS} {w w' : World} {r : Value} {e : Ending} (hS : Tryz.Sys B w hb rb σ) {Q : SS → Prop} (h : e = .returned r ∧ (∃ σ', (Q σ' ∧ σ'.k = σ.k ∧ σ'.vx = σ.vx) ∧ Tryz.Sys B w' hb rb σ') ∧ Spares σ.k.turns w w') : e = .returned r ∧ (∃ σ', Q σ' ∧ Tryz.Sys B w' hb rb σ') ∧ Tryz.HostSp B w w' := by
  obtain ⟨rfl, ⟨σ', ⟨hQ, -, -⟩, hS'⟩, hs⟩ := h
  exact ⟨rfl, ⟨σ', hQ, hS'⟩, hS.sp hs⟩
theorem Tryz.vSame {σ : SS} {w w' : World} {r : Value} {e : Ending} (hW : Tryz.Whole w σ.k σ.vx σ.tm σ.s σ.c (-1) (-1)) (h : e = .returned r ∧ Below w.heap.size w w') : e = .returned r ∧ (∃ σ' l f, (σ' = σ ∧ σ'.k = σ.k ∧ σ'.vx = σ.vx) ∧ Tryz.Whole w' σ.k σ'.vx σ'.tm σ'.s σ'.c l f) ∧ Spares σ.k.turns w w' := by
  obtain ⟨rfl, hb⟩ := h
  exact ⟨rfl, ⟨σ, -1, -1, ⟨rfl, rfl, rfl⟩, hW.below hb⟩, Spares.of_below hb⟩
end

set_option maxHeartbeats 1000000 in
theorem Tryz.okToken {w0 : World} {B N wb hb : Nat} (w : World) (hI : Tryz.Inv w0 B N wb hb w) (hN : N < 20000) (ss tt : List UInt8) (hss : ss.length ≤ 1000000) (aa bb ff ke pa : Int) :
    Calls Tryz.prog 62 #[.pointer (some ⟨wb, 0, none⟩), .agg (StepD.cells ⟨1, ss, tt, aa, bb, ff, -1, -1, ke, pa⟩)] w fun e w' => e = .returned (.bool true) ∧ Tryz.Inv w0 B (N + 1) wb hb w' := by
  obtain ⟨rb, σ, ra, g, cap, L, hS, hR, hl, hW, hn, hra⟩ := hI.ex
  have hok := hS.wh.v.va.ok
  have hpos : 0 < L.length := by rw [hl.len]; have := hn.pos; omega
  have hlen : L.length < 100 := by rw [hl.len]; have := hn.nt; have := hn.nl; omega
  have b9 := hS.b9
  have hcs := hn.small hN
  have hnm := hn.more (Nat.le_succ N)
  have hFt : ∀ W, Tryz.Whole W σ.k σ.vx σ.tm σ.s σ.c (-1) (-1) → ∀ W', Below W.heap.size W W' → Calls Tryz.prog 83 #[.pointer (some ⟨σ.k.vb, 0, none⟩), nmV (parseN ss)] W' fun e w' => e = .returned (.bool (decide (0 ≤ liveI σ.tm ss true L))) ∧ Below W'.heap.size W' w' := fun W hV W' hb' => Tryz.tokLive W' (hV.v.va.below hb') hl ss
  rcases liveI_cases σ.tm ss true L with ⟨i, t, ht, hid, htk, hst, hli⟩ | hli
  · have hm := List.mem_of_getElem? ht
    have hp := liveI_hit (L := L) hid htk (hl.num hok hm) hli
    have hdec : decide (0 ≤ liveI σ.tm ss true L) = true := by rw [hli]; simp
    rw [hdec] at hFt
    by_cases h10 : σ.s.tks.length = 10
    · have hA := Tryz.askToken B wb hb ra g cap σ.tm L _ _ w _ _ (Tryz.loneSys B hb rb σ) (Tryz.loneEx B hb rb (fun σ' => σ' = σ)) hS hR hpos hW hI.hB b9 hI.bw hra ss tt aa bb ff (-1) (-1) ke pa 4 [] (fun _ => rfl) (fun a b c => a = L ∧ b = ((σ.s.tn + 1 : Nat) : Int) ∧ c = ((σ.s.ln + 1 : Nat) : Int))
        (fun W _ hS' => (Tryz.hCreate B hb rb σ W hS' ss ke pa (.string ⟨#[]⟩) (Tryz.errV 4) 4 (Tryz.toldK 4 (.inr (by simp [ErrK]))) _ (fun W' _ hV => (Tryz.vCreate_many σ.k.vb σ.k.mt σ.k.ml σ.vx σ.tm σ.s.tn σ.s.ln σ.s.tks σ.s.lks W' hV.v.va ss hss (hFt W' hV) (by omega)).mono (fun _ _ h => Tryz.vSame hV h))).mono (fun _ _ h => Tryz.hostSame hS' h))
        (fun B' W nb g' cap' _ _ hR' => (Tryz.rCreate_many B' nb g' cap' L σ.tm _ _ ss W hR' i hli (by rw [hl.countT]; exact h10)).mono (by rintro e w' ⟨rfl, hb'⟩; exact ⟨g', cap', L, _, _, ⟨rfl, rfl, rfl⟩, rfl, hR'.below hb', Spares.of_below hb'⟩))
      refine hA.mono ?_
      rintro e w' ⟨rfl, hA'⟩
      exact ⟨rfl, hA'.inv hI (by rintro _ _ _ _ rfl ⟨rfl, rfl, rfl⟩; exact ⟨rfl, hl, rfl, rfl, hnm⟩)⟩
    · have hlt10 : σ.s.tks.length < 10 := by have := hn.nt; omega
      have htn := hn.tn
      have hkl : (keepLine σ.tm [.tok (newT (σ.s.tn + 1) t.n)]).length ≤ 1300000 := keepLine_len hS.wh.v.t0 hS.wh.v.t1 (s := σ.s) ⟨⟨⟨show (0 : Int) ≤ 18446744073709551615 by decide, show (18446744073709551615 : Int) ≤ 18446744073709551615 by decide, show (-9223372036854775808 : Int) ≤ 0 by decide, show (0 : Int) ≤ 9223372036854775807 by decide⟩, .inr (fun x hx => by have := hS.wh.v.nt x hx; show x.n < σ.s.tn + 1; omega), by omega, show σ.s.tn + 1 < u64lim by unfold u64lim; omega, hl.num hok hm⟩, trivial⟩ (by simp)
      have hA := Tryz.askToken B wb hb ra g cap σ.tm L _ _ w _ _ (Tryz.loneSys B hb rb σ) (Tryz.loneEx B hb rb (fun σ' => σ' = ⟨σ.k, σ.vx, σ.tm, ⟨σ.s.tn + 1, σ.s.ln, σ.s.tks ++ [newT (σ.s.tn + 1) t.n], σ.s.lks⟩, σ.c ++ keepLine σ.tm [.tok (newT (σ.s.tn + 1) t.n)]⟩)) hS hR hpos hW hI.hB b9 hI.bw hra ss tt aa bb ff (-1) (-1) ke pa 0 (nmStr 1 (σ.s.tn + 1)) (fun h => absurd rfl h) (fun a b c => a = L ++ [newTok (σ.s.tn + 1) t.n] ∧ b = ((σ.s.tn + 1 + 1 : Nat) : Int) ∧ c = ((σ.s.ln + 1 : Nat) : Int))
        (fun W _ hS' => (Tryz.hCreate B hb rb σ W hS' ss ke pa (.string ⟨(nmStr 1 (σ.s.tn + 1)).toArray⟩) (Tryz.errV 0) 0 (Tryz.toldK 0 (.inl rfl)) _ (fun W' _ hV => (Tryz.vCreate_ok σ.k σ.vx σ.tm σ.s σ.c (-1) (-1) W' hV (by decide) (by decide) (by decide) (by decide) hcs ss hss t.n (hl.num hok hm) hp (hFt W' hV) hlt10 (by omega)).mono (by rintro e w' ⟨rfl, hV', hs'⟩; exact ⟨rfl, ⟨_, _, _, ⟨rfl, rfl, rfl⟩, hV'⟩, hs'⟩))).mono (fun _ _ h => Tryz.hostSame hS' h))
        (fun B' W nb g' cap' hBW hBn hR' => (Tryz.rCreate_ok B' nb g' cap' L σ.tm _ (σ.s.tn + 1) ss W hR' hBn hR'.ne hBW (by omega) hlen i t ht hli (by rw [hl.countT]; exact h10)).mono (by
          rintro e w' ⟨g2, cap2, rfl, hR2, -, -, hs2⟩
          refine ⟨g2, cap2, _, _, _, ⟨rfl, rfl, rfl⟩, ?_, hR2, hs2⟩
          have : (newTok (σ.s.tn + 1) t.n).id = nmStr 1 (σ.s.tn + 1) := ThingD.id_nm _
          rw [this]))
      refine hA.mono ?_
      rintro e w' ⟨rfl, hA'⟩
      refine ⟨rfl, hA'.inv hI ?_⟩
      rintro _ _ _ _ rfl ⟨rfl, rfl, rfl⟩
      refine ⟨rfl, hl.snocT (newT (σ.s.tn + 1) t.n) rfl, rfl, rfl, ⟨?_, hn.nl, ?_, ?_, ?_, ?_⟩⟩
      · simp; omega
      · simp
      · show σ.s.tn + 1 ≤ N + 1; omega
      · have := hn.ln; show σ.s.ln ≤ N + 1; omega
      · have := hn.c; simp only [List.length_append]; omega
  · have hdec : decide (0 ≤ liveI σ.tm ss true L) = false := by rw [hli]; simp
    rw [hdec] at hFt
    have hA := Tryz.askToken B wb hb ra g cap σ.tm L _ _ w _ _ (Tryz.loneSys B hb rb σ) (Tryz.loneEx B hb rb (fun σ' => σ' = σ)) hS hR hpos hW hI.hB b9 hI.bw hra ss tt aa bb ff (-1) (-1) ke pa 1 [] (fun _ => rfl) (fun a b c => a = L ∧ b = ((σ.s.tn + 1 : Nat) : Int) ∧ c = ((σ.s.ln + 1 : Nat) : Int))
      (fun W _ hS' => (Tryz.hCreate B hb rb σ W hS' ss ke pa (.string ⟨#[]⟩) (Tryz.errV 1) 1 (Tryz.toldK 1 (.inr (by simp [ErrK]))) _ (fun W' _ hV => (Tryz.vCreate_miss σ.k.vb σ.k.mt σ.k.ml σ.vx σ.tm σ.s.tn σ.s.ln σ.s.tks σ.s.lks W' hV.v.va ss hss (hFt W' hV)).mono (fun _ _ h => Tryz.vSame hV h))).mono (fun _ _ h => Tryz.hostSame hS' h))
      (fun B' W nb g' cap' _ _ hR' => (Tryz.rCreate_miss B' nb g' cap' L σ.tm _ _ ss W hR' hli).mono (by rintro e w' ⟨rfl, hb'⟩; exact ⟨g', cap', L, _, _, ⟨rfl, rfl, rfl⟩, rfl, hR'.below hb', Spares.of_below hb'⟩))
    refine hA.mono ?_
    rintro e w' ⟨rfl, hA'⟩
    exact ⟨rfl, hA'.inv hI (by rintro _ _ _ _ rfl ⟨rfl, rfl, rfl⟩; exact ⟨rfl, hl, rfl, rfl, hnm⟩)⟩
end Go.Proofs
