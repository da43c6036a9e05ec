import Derived.Test.YtjbekgjdempbiaaGreatDoorJLawJ
import Derived.Test.YtjbekgjdempbiaaGreatDoorJSortN
import Derived.Test.YtjbekgjdempbiaaGreatDoorJHOpen
import Derived.Deep.Slices
import Derived.ChangeArms
import Derived.SizedLaws
/-
  plays: the whole script, for whatever kinds.
-/
namespace Go.Proofs
open Go.RowKit Go.Sort Go.Lib Go.Shelf Go.Maps

def StepOk (st : StepD) : Prop := (0 ≤ st.a ∧ st.a ≤ 18446744073709551615) ∧ (0 ≤ st.b ∧ st.b ≤ 18446744073709551615)
def StepSmall (st : StepD) : Prop := st.s.length + st.t.length ≤ 16384

/-- a vault that is opened, and the document's beside it. -/
theorem Tryz.Inv.start {w0 W : World} {B hb rb ra g : Nat} {k : Blk} {vx : VX} {tm : Int} (hbel : Below B w0 W) (hB : B ≤ W.heap.size) (hS : Tryz.Sys B W hb rb ⟨k, vx, tm, ⟨0, 0, [rootE], []⟩, []⟩) (hR : Tryz.RVAt B W ra g 1 [rootT] tm 1 1) (hra : B ≤ ra) :
    Tryz.Inv w0 B 0 W.heap.size hb (W.alloc (.cells #[.pointer (some ⟨hb, 0, none⟩), .pointer (some ⟨ra, 0, none⟩), .pointer none, .bool false, .bool false] 69)) := by
  have hba : Below W.heap.size W (W.alloc (.cells #[.pointer (some ⟨hb, 0, none⟩), .pointer (some ⟨ra, 0, none⟩), .pointer none, .bool false, .bool false] 69)) := (Below.refl _ W).alloc (Nat.le_refl _) _
  have hrel : Rel [rootE] [] [rootT] := ⟨rfl, rfl, fun t ht => by rw [List.mem_singleton.1 ht]; exact .inr rfl, fun l hl => (by cases hl)⟩
  exact ⟨hbel.trans (hba.mono hB), by simp; omega, hB, ⟨rb, _, ra, g, 1, _, hS.below hba, hR.below hba, hrel, BoxN.new W _ _, ⟨by simp, by simp, by simp, by simp, by simp, by simp⟩, hra⟩⟩
theorem Tryz.Inv.looksAt {w0 : World} {B N wb hb ra : Nat} {W : World} (h : Tryz.Inv w0 B N wb hb W) (hc : W.cell? ⟨wb, 1, none⟩ = some (.pointer (some ⟨ra, 0, none⟩))) :
    Calls Tryz.prog 38 #[.pointer (some ⟨wb, 0, none⟩), .pointer (some ⟨ra, 0, none⟩)] W fun e w' => e = .returned (.bool true) ∧ Below W.heap.size W w' := by
  obtain ⟨rb, σ, ra', g, cap, L, hS, hR, hl, hW, -⟩ := h.ex
  have h1 := hW.cell 1 (v := .pointer (some ⟨ra', 0, none⟩)) rfl
  rw [hc] at h1
  obtain rfl : ra = ra' := by simpa using h1
  exact Tryz.looks B wb hb ra g cap σ.k.vb σ.k.mt σ.k.ml σ.vx σ.tm σ.s.tn σ.s.ln _ _ σ.s.tks σ.s.lks L _ _ _ _ _ _ W hW hS.host hS.wh.v.va hR hl

/-- is the kind among the first j? -/
def inB (ks : List Int) (kind : Int) (j : Nat) : Bool := (ks.take j).any (fun k => kind == k)
theorem inB_succ {ks : List Int} {kind v : Int} {j : Nat} (h : ks[j]? = some v) : inB ks kind (j + 1) = (inB ks kind j || kind == v) := by
  unfold inB
  rw [List.take_add_one, h]
  simp
theorem inB_all {ks : List Int} {kind : Int} (h : inB ks kind ks.length = true) : kind ∈ ks := by
  unfold inB at h
  rw [List.take_length] at h
  obtain ⟨k, hk, e⟩ := List.any_eq_true.1 h
  have : kind = k := by simpa using e
  rw [this]; exact hk
def KindsAt (W : World) (kb : Nat) (ks : List Int) : Prop := ∀ j v, ks[j]? = some v → W.cell? ⟨kb, j, none⟩ = some (.int .i64 v)
theorem KindsAt.below {W W' : World} {kb B : Nat} {ks : List Int} (h : KindsAt W kb ks) (hb : Below B W W') (hB : kb < B) : KindsAt W' kb ks := fun j v hv => (hb.cell (p := ⟨kb, j, none⟩) hB).trans (h j v hv)

/-- what a statement keeps true from step to step. -/
structure Tryz.Keeps (w : World) (S : List StepD) (ks : List Int) (failing : Bool) (I : Nat → Nat → Nat → World → Prop) : Prop where
  bel : ∀ {wb hb k W}, I wb hb k W → Below w.heap.size w W
  later : ∀ {wb hb k W W'}, I wb hb k W → Below W.heap.size W W' → I wb hb k W'
  more : ∀ {wb hb k W}, I wb hb k W → I wb hb (k + 1) W
  start : ∀ {wb hb W}, Tryz.Inv w w.heap.size 0 wb hb W → I wb hb 0 W
  step : ∀ {wb hb k W st}, k < 16384 → st ∈ S → StepSmall st → StepOk st → st.kind ∈ ks → I wb hb k W → Calls Tryz.prog 39 #[.pointer (some ⟨wb, 0, none⟩), .agg (StepD.cells st), .bool failing] W fun e w' => e = .returned (.bool true) ∧ I wb hb (k + 1) w'

set_option maxRecDepth 100000 in
set_option maxHeartbeats 4000000 in
theorem Tryz.playsG (p : Option Addr) (cap kb : Nat) (ks : List Int) (failing : Bool) (S : List StepD) (I : Nat → Nat → Nat → World → Prop) (w : World) (hS : SliceAt w p S) (hpl : S ≠ [] → ∀ a, p = some a → a.block < w.heap.size) (hl : S.length ≤ 281474976710656) (hz : ∀ st ∈ S, st.s.length ≤ 281474976710656 ∧ st.t.length ≤ 281474976710656) (hok : ∀ st ∈ S, StepOk st) (hK : KindsAt w kb ks) (hkb : kb < w.heap.size) (hkl : ks.length ≤ 20) (h9 : 9 ≤ w.heap.size) (hE : Tryz.Env w) (hT : Tryz.ErrT w) (hI : Tryz.Keeps w S ks failing I) :
    Calls Tryz.prog 14 #[.slice p S.length cap, .slice (some ⟨kb, 0, none⟩) ks.length ks.length, .bool failing] w fun e w' => e = .returned (.bool true) ∧ Below w.heap.size w w' := by
  have hSm := Tryz.small p cap S w hS hl hz
  have hWl := fun W => Tryz.well W
  unfold fallV at hWl
  have hOp := fun (W : World) (hb db rb md mn : Nat) (hBW : Below 9 w W) (h1 : w.heap.size ≤ W.heap.size) (bH : BoxN W hb 78 #[.pointer (some ⟨db, 0, none⟩), .pointer (some ⟨rb, 0, none⟩), .pointer none]) (hD : Tryz.DiskAt W db md mn none none (.slice none 0 0) (-1) (-1)) (bR : BoxN W rb 88 #[.slice none 0 0, .int .u64 0]) (hlo : w.heap.size ≤ hb ∧ w.heap.size ≤ db ∧ w.heap.size ≤ rb ∧ w.heap.size ≤ md ∧ w.heap.size ≤ mn) => Tryz.hOpen0 w.heap.size hb db rb md mn _ _ _ (-1) (-1) 7 0 0 W bH hD bR hlo h1 h9 (hE.below (hBW.mono (by decide)) (Nat.le_refl _)) (hT.below hBW) (by decide) (by decide)
  unfold fallV at hOp
  obtain ⟨len, hlen⟩ : ∃ len, S.length = len := ⟨_, rfl⟩
  rw [hlen] at hSm ⊢
  have Hlen := hid_intro hlen
  clear hlen hl
  obtain ⟨kn, hkn⟩ : ∃ kn, ks.length = kn := ⟨_, rfl⟩
  rw [hkn] at hkl ⊢
  have Hkn := hid_intro hkn
  clear hkn
  go_enter Tryz.func14, Tryz.ntmps14
  go_upto_region 2 with (go_at_call 34; refine hSm.mono ?_; rintro e w1 ⟨b, rfl, hsm, hb1⟩)
  cases b
  · go_wp2
    go_ret
    exact ⟨rfl, hb1⟩
  · obtain ⟨hl, hz2⟩ := hsm rfl
    have l0 := hb1.size
    go_wp2_with (first
      | (go_at_call 35; refine (Tryz.newHost _).mono ?_; rintro e w2 ⟨hb, db, rb, md, mn, rfl, bH, hD, bR, hlo, hb2⟩; have bel2 := hb1.trans (hb2.mono l0))
      | (go_at_call 16; refine (hWl _).mono ?_; rintro e w3 ⟨rfl, hb3⟩; have bel3 := bel2.trans (hb3.mono bel2.size); have hlo3 : w.heap.size ≤ hb ∧ w.heap.size ≤ db ∧ w.heap.size ≤ rb ∧ w.heap.size ≤ md ∧ w.heap.size ≤ mn := by omega)
      | (go_at_call 33; refine (hOp w3 hb db rb md mn (bel3.mono h9) bel3.size (bH.below hb3 bH.lt) (hD.below hb3) (bR.below hb3 bR.lt) hlo3).mono ?_; rintro e w4 ⟨rfl, ⟨k, vx, hS4⟩, hb4⟩; have bel4 := bel3.trans hb4)
      | (go_at_call 36; refine (Tryz.hIs hb _ _ _ w4 hS4.host).mono ?_; rintro e w5 ⟨rfl, rfl⟩)
      | (go_at_call 37; refine (Tryz.rNew 7 _).mono ?_; rintro e w6 ⟨rfl, hR6, hb6⟩; have bel6 := bel4.trans (hb6.mono bel4.size); have hIn := Tryz.Inv.start bel6 bel6.size (hS4.below hb6) (hR6.lower bel4.size) (by have := bel4.size; omega))
      | (go_at_call 38; refine (hIn.looksAt (BoxN.cell (BoxN.new w6 69 _) 1 rfl)).mono ?_; rintro e w7 ⟨rfl, hb7⟩))
    have hI7 := hI.start (hIn.below hb7)
    generalize w6.heap.size = wb at *
    clear hIn hb7 hb6 hR6 bel6 hS4 hb4 bel4 bel3 hlo3 hb3 bel2 bH hD bR hb2 hSm hOp hWl hsm
    have HI := hid_intro hI
    clear hI
    go_loopw [7, 12] (fun ok i wr => ∃ k : Nat, k ≤ len ∧ i = .int .i64 k ∧ ok = .bool true ∧ I wb hb k wr) (fun _ i _ => len - (intOf i).toNat)
    case atStart => exact ⟨0, Nat.zero_le _, rfl, rfl, hI7⟩
    case round =>
      obtain ⟨k, hk, rfl, rfl, hIk⟩ := hrel
      by_cases hkl2 : k < len
      · obtain ⟨st, hst⟩ : ∃ st, S[k]? = some st := ⟨S[k]'(by have := hid_elim Hlen; omega), by have := hid_elim Hlen; simp [this, hkl2]⟩
        have hmem := List.mem_of_getElem? hst
        have hne : S ≠ [] := fun e => by rw [e] at hst; simp at hst
        obtain ⟨b, off, rfl, hsc⟩ := hS.resolve_left hne
        have hbl : b < w.heap.size := hpl hne _ rfl
        have hSt := fun W (h : I wb hb k W) (hin : st.kind ∈ ks) => (hid_elim HI).step (by omega) hmem (hz2 st hmem) (hok st hmem) hin h
        have hcs := fun W (h : I wb hb k W) => (hsc.below ((hid_elim HI).bel h) hbl) k st hst
        have hks := fun W (h : I wb hb k W) => hK.below ((hid_elim HI).bel h) hkb
        obtain ⟨kind, ss, tt, aa, bb, ff, fl, fu, ke, pa⟩ := st
        simp only [StepD.cells] at hSt hcs
        have Hst := hid_intro hst
        clear hst hok hz hz2 hsc hK hE hT
        go_wp2
        go_loopw [13, 14] (fun inn j wq => ∃ jj : Nat, jj ≤ kn ∧ j = .int .i64 jj ∧ inn = .bool (inB ks kind jj) ∧ I wb hb k wq) (fun _ j _ => kn - (intOf j).toNat)
        case atStart => exact ⟨0, by omega, rfl, rfl, hIk⟩
        case round =>
          obtain ⟨jj, hjj, rfl, rfl, hIq⟩ := hrel
          by_cases hj4 : jj < kn
          · obtain ⟨v, hv⟩ : ∃ v, ks[jj]? = some v := ⟨ks[jj]'(by have := hid_elim Hkn; omega), by have := hid_elim Hkn; simp [this, hj4]⟩
            have hkk := hks _ hIq jj v hv
            obtain ⟨y0, -⟩ := hcs _ hIq
            have hsu := hid_intro (inB_succ (kind := kind) hv)
            clear hv
            generalize inB ks kind jj = ib at *
            cases ib
            · go_wp2
              go_quiet (fail)
              go_wp2
              exact ⟨⟨jj + 1, by omega, rfl, by rw [hid_elim hsu]; simp, (hid_elim HI).later hIq (below_drewN (Below.refl _ _) _)⟩, by simp [intOf]; omega⟩
            · go_wp2
              go_quiet (fail)
              go_wp2
              exact ⟨⟨jj + 1, by omega, rfl, by rw [hid_elim hsu]; simp, (hid_elim HI).later hIq (below_drewN (Below.refl _ _) _)⟩, by simp [intOf]; omega⟩
          · obtain rfl : jj = kn := by omega
            have hib : Hid (inB ks kind jj = true → kind ∈ ks) := hid_intro (fun e => inB_all (by rw [hid_elim Hkn]; exact e))
            obtain ⟨y0, y1, y2, y3, y4, y5, y6, y7, y8, y9⟩ := hcs _ hIq
            have hSt1 := hSt _ hIq
            clear hSt hcs hks
            generalize inB ks kind jj = ib at *
            cases ib
            · go_wp2
              go_roundw
              case rel => exact ⟨k + 1, by omega, rfl, rfl, (hid_elim HI).more hIq⟩
              case measure => simp [intOf]; omega
            · have hSt2 := hSt1 (hid_elim hib rfl)
              clear hSt1
              go_wp2_with (go_at_call 39; refine hSt2.mono ?_; rintro e w8 ⟨rfl, hI8⟩)
              go_roundw
              case rel => exact ⟨k + 1, by omega, rfl, rfl, hI8⟩
              case measure => simp [intOf]; omega
      · obtain rfl : k = len := by omega
        go_wp2
        go_ret
        exact ⟨rfl, (hid_elim HI).bel hIk⟩

theorem SliceAt.below {W W' : World} {p : Option Addr} {S : List StepD} (h : SliceAt W p S) {B : Nat} (hb : Below B W W') (hp : S ≠ [] → ∀ a, p = some a → a.block < B) : SliceAt W' p S := by
  rcases h with h | ⟨b, off, rfl, h⟩
  · exact .inl h
  · by_cases hS : S = []
    · exact .inl hS
    · exact .inr ⟨b, off, rfl, h.below hb (hp hS _ rfl)⟩
end Go.Proofs

/-
  Leased, walked.
-/
namespace Go.Proofs
open Go.RowKit Go.Sort Go.Lib Go.Shelf Go.Maps

theorem Tryz.okAny {w0 : World} {B N wb hb : Nat} (w : World) (hI : Tryz.Inv w0 B N wb hb w) (hN : N < 16384) (st : StepD) (hk : st.kind ∈ [1, 2, 3, 4]) (hz : StepSmall st) (ho : StepOk st) :
    Calls Tryz.prog 62 #[.pointer (some ⟨wb, 0, none⟩), .agg (StepD.cells ⟨st.kind, st.s, st.t, st.a, st.b, st.f, -1, -1, 0, 0⟩)] w fun e w' => e = .returned (.bool true) ∧ Tryz.Inv w0 B (N + 1) wb hb w' := by
  obtain ⟨kind, ss, tt, aa, bb, ff, fl, fu, ke, pa⟩ := st
  obtain ⟨⟨o1, o2⟩, o3, o4⟩ := ho
  unfold StepSmall at hz
  simp only at hz o1 o2 o3 o4 hk ⊢
  simp only [List.mem_cons, List.not_mem_nil, or_false] at hk
  rcases hk with rfl | rfl | rfl | rfl
  · exact Tryz.okToken w hI (by omega) ss tt (by omega) aa bb ff 0 0
  · exact Tryz.okIssue w hI (by omega) ss tt (by omega) (by omega) aa bb ff 0 0 o1 o2 o3 o4
  · exact Tryz.okRenew w hI (by omega) ss tt (by omega) aa bb ff 0 0 o1 o2
  · exact Tryz.okAuth w hI ss tt (by omega) aa bb ff (-1) (-1) 0 0
theorem Tryz.keepsLeased (w : World) (S : List StepD) : Tryz.Keeps w S [1, 2, 3, 4] false (fun wb hb k W => Tryz.Inv w w.heap.size k wb hb W) where
  bel h := h.bel
  later h hb := h.below hb
  more h := h.more (by omega)
  start h := h
  step := fun {wb hb k W st} hk _ hz ho hin h => by
    have h8 : (st.kind == 8) = false := by
      simp only [List.mem_cons, List.not_mem_nil, or_false] at hin
      simp; omega
    have h10 : (st.kind == 10) = false := by
      simp only [List.mem_cons, List.not_mem_nil, or_false] at hin
      simp; omega
    exact Tryz.step W h st.kind h8 h10 st.s st.t st.a st.b st.f st.fl st.fu st.ke st.pa (fun W' h' => Tryz.okAny W' h' hk st hin hz ho)

set_option maxHeartbeats 1000000 in
theorem Tryz.leased (p : Option Addr) (cap : Nat) (S : List StepD) (w : World) (hS : SliceAt w p S) (hpl : S ≠ [] → ∀ a, p = some a → a.block < w.heap.size) (hl : S.length ≤ 281474976710656) (hz : ∀ st ∈ S, st.s.length ≤ 281474976710656 ∧ st.t.length ≤ 281474976710656) (hok : ∀ st ∈ S, StepOk st) (h9 : 9 ≤ w.heap.size) (hE : Tryz.Env w) (hT : Tryz.ErrT w) :
    Calls Tryz.prog 3 #[.slice p S.length cap] w fun e w' => e = .returned (.bool true) ∧ Below w.heap.size w w' := by
  have hb0 : Below w.heap.size w (w.alloc (.cells #[.int .i64 1, .int .i64 2, .int .i64 3, .int .i64 4] 3)) := (Below.refl _ w).alloc (Nat.le_refl _) _
  have bK := BoxN.new w 3 #[.int .i64 1, .int .i64 2, .int .i64 3, .int .i64 4]
  have hP := Tryz.playsG p cap w.heap.size [1, 2, 3, 4] false S _ _ (hS.below hb0 hpl) (fun hne a e => by have := hpl hne a e; simp; omega) hl hz hok (fun j v hv => bK.cell j (by
    match j, hv with
    | 0, hv | 1, hv | 2, hv | 3, hv => simpa using hv)) bK.lt (by decide) (by simp; omega) (hE.below hb0 (Nat.le_trans (by decide) h9)) (hT.below (hb0.mono h9)) (Tryz.keepsLeased _ S)
  go_enter Tryz.func3, Tryz.ntmps3
  go_wp2_with (go_at_call 14; refine hP.mono ?_; rintro e w1 ⟨rfl, hb1⟩)
  go_ret
  exact ⟨rfl, hb0.trans (hb1.mono (by simp))⟩
end Go.Proofs

/-
  A script that came in, opened.
-/
namespace Go.Proofs
open Go.RowKit Go.Sort Go.Lib Go.Shelf Go.Maps

theorem Tryz.cellsStep : Tryz.prog.cellsOf 72 = 10 := by kernel_rfl
theorem Tryz.cellsFall : Tryz.prog.cellsOf 29 = 4 := by kernel_rfl
theorem Tryz.cellsInt : Tryz.prog.cellsOf 3 = 1 := by kernel_rfl
theorem Tryz.cellsStr : Tryz.prog.cellsOf 9 = 1 := by kernel_rfl

theorem list10 {α : Type} {l : List α} (h : l.length = 10) : ∃ a b c d e f g i j k, l = [a, b, c, d, e, f, g, i, j, k] := by
  match l, h with
  | [a, b, c, d, e, f, g, i, j, k], _ => exact ⟨a, b, c, d, e, f, g, i, j, k, rfl⟩
theorem u64_range {z : Int} (h : (Lit.int .u64 z).wf = true) : 0 ≤ z ∧ z ≤ 18446744073709551615 := by
  simp [Lit.wf, IntKind.min, IntKind.max, IntKind.bits, IntKind.signed] at h
  omega
theorem weightsAll_mem {H : Type} {P : Program} {e : TypeId} : ∀ (l : List (DataW H)) (d : DataW H) (x : Nat), d ∈ l → x ∈ d.weights P e → x ∈ DataW.weightsAll P e l
  | [], _, _, h, _ => by cases h
  | a :: l, d, x, h, hx => by
    simp only [DataW.weightsAll]
    rcases List.mem_cons.1 h with rfl | h
    · exact List.mem_append_left _ hx
    · exact List.mem_append_right _ (weightsAll_mem l d x h hx)

set_option maxHeartbeats 1000000 in
/-- a step, read. -/
theorem Tryz.openStep {H : Type} {enc : TypeId × Value → H} {w : World} {base : Nat} {sp : Nat → Bool} {held : Bool} {fuel : Nat} {cs : List Value} {x : DataW H × List MemPlace} (h : DataW.trod enc Tryz.prog w base sp held fuel 72 cs = some x) :
    ∃ st : StepD, cs = st.cells.toList ∧ StepOk st ∧ st.s.length ∈ x.1.weights Tryz.prog 72 ∧ st.t.length ∈ x.1.weights Tryz.prog 72 := by
  obtain ⟨xs, n, -, rfl, hl, hlen, hf⟩ := DataW.trod_struct Tryz.underlying72 h
  rw [Tryz.cellsStep] at hl
  obtain ⟨c0, c1, c2, c3, c4, c5, c6, c7, c8, c9, rfl⟩ := list10 hl
  have hlen7 : xs.length = 7 := hlen
  obtain ⟨y0, y1, y2, y3, y4, y5, y6, rfl⟩ : ∃ y0 y1 y2 y3 y4 y5 y6, xs = [y0, y1, y2, y3, y4, y5, y6] := by
    match xs, hlen7 with
    | [y0, y1, y2, y3, y4, y5, y6], _ => exact ⟨y0, y1, y2, y3, y4, y5, y6, rfl⟩
  have f0 := hf 0 _ rfl
  have f1 := hf 1 _ rfl
  have f2 := hf 2 _ rfl
  have f3 := hf 3 _ rfl
  have f4 := hf 4 _ rfl
  have f5 := hf 5 _ rfl
  have f6 := hf 6 _ rfl
  simp [Tryz.cellsInt, Tryz.cellsStr, Tryz.cellsU64, Tryz.cellsFall] at f0 f1 f2 f3 f4 f5 f6
  obtain ⟨z0, e0, -, -⟩ := DataW.trod_int Tryz.underlying3 f0
  obtain ⟨s1, e1, r1, -⟩ := DataW.trod_string Tryz.underlying9 f1
  obtain ⟨s2, e2, r2, -⟩ := DataW.trod_string Tryz.underlying9 f2
  obtain ⟨z3, e3, -, k3⟩ := DataW.trod_int Tryz.underlying31 f3
  obtain ⟨z4, e4, -, k4⟩ := DataW.trod_int Tryz.underlying31 f4
  obtain ⟨z5, e5, -, -⟩ := DataW.trod_int Tryz.underlying31 f5
  obtain ⟨us, m, -, -, -, hus, hg⟩ := DataW.trod_struct Tryz.underlying29 f6
  have hus4 : us.length = 4 := hus
  obtain ⟨u0, u1, u2, u3, rfl⟩ : ∃ u0 u1 u2 u3, us = [u0, u1, u2, u3] := by
    match us, hus4 with
    | [u0, u1, u2, u3], _ => exact ⟨u0, u1, u2, u3, rfl⟩
  have g0 := hg 0 _ rfl
  have g1 := hg 1 _ rfl
  have g2 := hg 2 _ rfl
  have g3 := hg 3 _ rfl
  simp [Tryz.cellsInt] at g0 g1 g2 g3
  obtain ⟨z6, e6, -, -⟩ := DataW.trod_int Tryz.underlying3 g0
  obtain ⟨z7, e7, -, -⟩ := DataW.trod_int Tryz.underlying3 g1
  obtain ⟨z8, e8, -, -⟩ := DataW.trod_int Tryz.underlying3 g2
  obtain ⟨z9, e9, -, -⟩ := DataW.trod_int Tryz.underlying3 g3
  simp at e0 e1 e2 e3 e4 e5 e6 e7 e8 e9
  subst e0 e1 e2 e3 e4 e5 e6 e7 e8 e9
  obtain ⟨⟨l1⟩⟩ := s1
  obtain ⟨⟨l2⟩⟩ := s2
  refine ⟨⟨z0, l1, l2, z3, z4, z5, z6, z7, z8, z9⟩, rfl, ⟨u64_range k3, u64_range k4⟩, ?_, ?_⟩
  · simp [DataW.weights, Tryz.underlying72, DataW.weightsEach, r1, r2]
  · simp [DataW.weights, Tryz.underlying72, DataW.weightsEach, r1, r2]

theorem skolem {α : Type} (d : α) {n : Nat} {p : Nat → α → Prop} (h : ∀ i, i < n → ∃ x, p i x) : ∃ f : Nat → α, ∀ i, i < n → p i (f i) := by
  classical
  exact ⟨fun i => if hi : i < n then Classical.choose (h i hi) else d, fun i hi => by
    show p i (if hi : i < n then Classical.choose (h i hi) else d)
    rw [dif_pos hi]
    exact Classical.choose_spec (h i hi)⟩

/-- a script, read. -/
theorem Tryz.openScript {H : Type} {enc : TypeId × Value → H} {w : World} {base fuel : Nat} {held : Bool} {p : Option Addr} {len cap : Nat} {x : DataW H × List MemPlace} (h : DataW.trod enc Tryz.prog w base (fun _ => true) held fuel 22 [.slice p len cap] = some x) (hsz : ∀ y ∈ x.1.weights Tryz.prog 22, y ≤ reachBytes) :
    ∃ S : List StepD, S.length = len ∧ SliceAt w p S ∧ (S ≠ [] → ∀ a, p = some a → a.block < w.heap.size) ∧ S.length ≤ 281474976710656 ∧ (∀ st ∈ S, st.s.length ≤ 281474976710656 ∧ st.t.length ≤ 281474976710656) ∧ ∀ st ∈ S, StepOk st := by
  have hrb : reachBytes ≤ 281474976710656 := by decide
  rcases Go.Deep.open_slice Tryz.underlying22 h with ⟨e, -⟩ | ⟨a, len', cap', m, n, D, Pl, e, -, hl, -, hm, rfl, hx⟩
  · simp at e
    obtain ⟨rfl, rfl, rfl⟩ := e
    exact ⟨[], rfl, .inl rfl, fun h => absurd rfl h, by simp, by simp, by simp⟩
  · simp at e
    obtain ⟨rfl, rfl, rfl⟩ := e
    simp at hm
    subst hm
    obtain ⟨f, hf⟩ := skolem (⟨0, [], [], 0, 0, 0, 0, 0, 0, 0⟩ : StepD) (n := m) (p := fun i st => w.cells? base (a.add (i * 10)) 10 = some st.cells.toList ∧ StepOk st ∧ st.s.length ∈ (D i).weights Tryz.prog 72 ∧ st.t.length ∈ (D i).weights Tryz.prog 72) (fun i hi => by
      obtain ⟨cs', hc, ht⟩ := hx i hi
      obtain ⟨st, rfl, h1, h2, h3⟩ := Tryz.openStep ht
      rw [Tryz.cellsStep] at hc
      exact ⟨st, hc, h1, h2, h3⟩)
    have hlen : len ≤ 281474976710656 := by
      have := hsz ((((List.range len).map D).length + ((List.range (m - len)).map fun j => D (len + j)).length) * Tryz.prog.bytesOf 72) (by simp [DataW.weights, Tryz.underlying22])
      have hby : Tryz.prog.bytesOf 72 = 96 := by kernel_rfl
      rw [hby] at this
      simp at this
      omega
    have hS : ∀ (i : Nat) (st : StepD), ((List.range len).map f)[i]? = some st → i < len ∧ st = f i := fun i st hi => by
      by_cases hil : i < len
      · simp [hil] at hi
        exact ⟨hil, hi.symm⟩
      · simp [hil] at hi
    have hmem : ∀ st ∈ (List.range len).map f, ∃ i, i < len ∧ st = f i := fun st hst => by
      obtain ⟨i, hi, rfl⟩ := List.mem_map.1 hst
      exact ⟨i, List.mem_range.1 hi, rfl⟩
    have hw : ∀ i, i < len → ∀ y ∈ (D i).weights Tryz.prog 72, y ≤ 281474976710656 := fun i hi y hy => by
      have : y ∈ (DataW.slice ((List.range len).map D) ((List.range (m - len)).map fun j => D (len + j))).weights Tryz.prog 22 := by
        simp only [DataW.weights, Tryz.underlying22]
        exact List.mem_cons_of_mem _ (List.mem_append_left _ (weightsAll_mem _ (D i) y (List.mem_map.2 ⟨i, List.mem_range.2 hi, rfl⟩) hy))
      exact Nat.le_trans (hsz y this) hrb
    obtain ⟨b, off, spot⟩ := a
    refine ⟨(List.range len).map f, by simp, ?_, fun hne a' ha' => ?_, by simpa using hlen, fun st hst => ?_, fun st hst => ?_⟩
    · by_cases h0 : len = 0
      · exact .inl (by simp [h0])
      · have hc0 := (World.cells?_some (hf 0 (by omega)).1).2.2 0 (by omega)
        have hspot : spot = none := by simpa [Addr.add] using World.cell?_spot (show w.cell? _ = some _ from hc0)
        subst hspot
        refine .inr ⟨b, off, rfl, fun i st hi => ?_⟩
        obtain ⟨hil, rfl⟩ := hS i st hi
        have hc := (World.cells?_some (hf i (by omega)).1).2.2
        have hcc : ∀ j, j < 10 → w.cell? ⟨b, off + i * 10 + j, none⟩ = (f i).cells.toList[j]? := fun j hj => by
          have := hc j hj
          rw [Lib.add_plain, Lib.add_plain] at this
          exact this
        exact ⟨hcc 0 (by omega), hcc 1 (by omega), hcc 2 (by omega), hcc 3 (by omega), hcc 4 (by omega), hcc 5 (by omega), hcc 6 (by omega), hcc 7 (by omega), hcc 8 (by omega), hcc 9 (by omega)⟩
    · cases ha'
      have h0 : 0 < len := by
        rcases Nat.eq_zero_or_pos len with h | h
        · exact absurd (by simp [h]) hne
        · exact h
      exact World.cells?_block (hf 0 (by omega)).1 (by omega)
    · obtain ⟨i, hi, rfl⟩ := hmem st hst
      obtain ⟨-, -, h1, h2⟩ := hf i (by omega)
      exact ⟨hw i hi _ h1, hw i hi _ h2⟩
    · obtain ⟨i, hi, rfl⟩ := hmem st hst
      exact (hf i (by omega)).2.1
end Go.Proofs
