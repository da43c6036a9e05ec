import Derived.Test.YthifclklnopkfaaGreatDoorLawC
import Derived.Test.YthifclklnopkfaaGreatDoorLawJ
import Derived.Deep.Slices
import Derived.ChangeArms
import Derived.SizedLaws
/-
  small: how great a script is.
-/
namespace Go.Proofs
open Go.RowKit Go.Sort Go.Lib Go.Shelf Go.Maps

/-- a script in memory. -/
def ScriptAt (W : World) (b off : Nat) (S : List StepD) : Prop := ∀ (i : Nat) (st : StepD), S[i]? = some st →
  W.cell? ⟨b, off + i * 10, none⟩ = some (.int .i64 st.kind) ∧ W.cell? ⟨b, off + i * 10 + 1, none⟩ = some (.string ⟨st.s.toArray⟩) ∧ W.cell? ⟨b, off + i * 10 + 2, none⟩ = some (.string ⟨st.t.toArray⟩) ∧ W.cell? ⟨b, off + i * 10 + 3, none⟩ = some (.int .u64 st.a) ∧ W.cell? ⟨b, off + i * 10 + 4, none⟩ = some (.int .u64 st.b) ∧ W.cell? ⟨b, off + i * 10 + 5, none⟩ = some (.int .u64 st.f) ∧
  W.cell? ⟨b, off + i * 10 + 6, none⟩ = some (.int .i64 st.fl) ∧ W.cell? ⟨b, off + i * 10 + 7, none⟩ = some (.int .i64 st.fu) ∧ W.cell? ⟨b, off + i * 10 + 8, none⟩ = some (.int .i64 st.ke) ∧ W.cell? ⟨b, off + i * 10 + 9, none⟩ = some (.int .i64 st.pa)
theorem ScriptAt.below {W W' : World} {b off B : Nat} {S : List StepD} (h : ScriptAt W b off S) (hb : Below B W W') (hB : b < B) : ScriptAt W' b off S := fun i st hi => by
  obtain ⟨h0, h1, h2, h3, h4, h5, h6, h7, h8, h9⟩ := h i st hi
  have c : ∀ o, W'.cell? ⟨b, o, none⟩ = W.cell? ⟨b, o, none⟩ := fun o => hb.cell (p := ⟨b, o, none⟩) hB
  exact ⟨(c _).trans h0, (c _).trans h1, (c _).trans h2, (c _).trans h3, (c _).trans h4, (c _).trans h5, (c _).trans h6, (c _).trans h7, (c _).trans h8, (c _).trans h9⟩
/-- the steps lie where the slice says: nowhere, or there. -/
def SliceAt (W : World) (p : Option Addr) (S : List StepD) : Prop := (S = [] ) ∨ ∃ b off, p = some ⟨b, off, none⟩ ∧ ScriptAt W b off S

def szS (st : StepD) : Nat := st.s.length + st.t.length
def totS (S : List StepD) (k : Nat) : Nat := S.length + ((S.take k).map szS).sum
theorem totS_succ {S : List StepD} {k : Nat} {st : StepD} (h : S[k]? = some st) : totS S (k + 1) = totS S k + st.s.length + st.t.length := by
  unfold totS
  rw [take_get h, List.map_append, List.sum_append]
  simp [szS]; omega
theorem le_sum_mem : ∀ (l : List Nat) (x : Nat), x ∈ l → x ≤ l.sum
  | [], _, h => by cases h
  | a :: l, x, h => by
    rw [List.sum_cons]
    rcases List.mem_cons.1 h with rfl | h
    · omega
    · have := le_sum_mem l x h; omega
theorem totS_le (S : List StepD) (st : StepD) (h : st ∈ S) : st.s.length + st.t.length ≤ totS S S.length := by
  unfold totS
  rw [List.take_length]
  have : szS st ∈ S.map szS := List.mem_map.2 ⟨st, h, rfl⟩
  have h2 := le_sum_mem _ _ this
  unfold szS at h2 ⊢
  omega

set_option maxRecDepth 100000 in
set_option maxHeartbeats 4000000 in
theorem Tryz.small (p : Option Addr) (cap : Nat) (S : List StepD) (w : World) (hS : SliceAt w p S) (hl : S.length ≤ 281474976710656) (hz : ∀ st ∈ S, st.s.length ≤ 281474976710656 ∧ st.t.length ≤ 281474976710656) :
    Calls Tryz.prog 15 #[.slice p S.length cap] w fun e w' => ∃ b, e = .returned (.bool b) ∧ (b = true → S.length ≤ 16384 ∧ ∀ st ∈ S, st.s.length + st.t.length ≤ 16384) ∧ Below w.heap.size w w' := by
  obtain ⟨len, hlen⟩ : ∃ len, S.length = len := ⟨_, rfl⟩
  rw [hlen] at hl ⊢
  have Hlen := hid_intro hlen
  clear hlen
  go_enter Tryz.func15, Tryz.ntmps15
  go_wp2
  go_loopw [3, 4] (fun n i wr => ∃ k nn : Nat, k ≤ len ∧ i = .int .i64 k ∧ n = .int .i64 nn ∧ Hid (nn = totS S k) ∧ nn ≤ 562949953437696 ∧ Below w.heap.size w wr) (fun _ i _ => len - (intOf i).toNat)
  case atStart => exact ⟨0, len, Nat.zero_le _, rfl, rfl, hid_intro (by simp [totS, hid_elim Hlen]), by omega, Below.refl _ _⟩
  case round =>
    obtain ⟨k, nn, hk, rfl, rfl, ht, hbd, hBw⟩ := hrel
    by_cases hkl : k < len
    · by_cases hn : nn ≤ 16384
      · obtain ⟨st, hst⟩ : ∃ st, S[k]? = some st := ⟨S[k]'(by have := hid_elim Hlen; omega), by have := hid_elim Hlen; simp [this, hkl]⟩
        have hne : S ≠ [] := fun e => by rw [e] at hst; simp at hst
        obtain ⟨b, off, rfl, hsc⟩ := hS.resolve_left hne
        obtain ⟨x0, x1, x2, -⟩ := hsc k st hst
        have hbl : b < w.heap.size := World.block_lt_of_cell? _ _ x0
        obtain ⟨y0, y1, y2, -⟩ := (hsc.below hBw hbl) k st hst
        obtain ⟨z1, z2⟩ := hz st (List.mem_of_getElem? hst)
        have hts := hid_intro (totS_succ hst)
        generalize st.s = ss at *
        generalize st.t = tt at *
        go_wp2
        go_quiet (fail)
        go_wp2
        exact ⟨⟨k + 1, nn + ss.length + tt.length, by omega, rfl, congrArg (Value.int .i64) (by omega), hid_intro (by rw [hid_elim hts, ← hid_elim ht]), by omega, below_drewN hBw _⟩, by simp [intOf]; omega⟩
      · have hn' : ¬ (nn : Int) ≤ 16384 := by omega
        go_wp2
        go_ret
        exact .inl ⟨rfl, hBw⟩
    · obtain rfl : k = len := by omega
      go_wp2
      go_ret
      refine ⟨decide ((nn : Int) ≤ 16384), rfl, fun h => ?_, hBw⟩
      have h1 : (nn : Int) ≤ 16384 := by simpa using h
      have h2 := hid_elim ht
      have h3 := hid_elim Hlen
      refine ⟨?_, fun st hst => ?_⟩
      · unfold totS at h2; omega
      · have := totS_le S st hst
        rw [h3] at this
        omega
end Go.Proofs

/-
  plays: the whole script.
-/
namespace Go.Proofs
open Go.RowKit Go.Sort Go.Lib Go.Shelf Go.Maps

def StepOk (st : StepD) : Prop := (0 ≤ st.a ∧ st.a ≤ 18446744073709551615) ∧ (0 ≤ st.b ∧ st.b ≤ 18446744073709551615)

theorem Tryz.okAny {w0 : World} {B N wb hb : Nat} (w : World) (hI : Tryz.Inv w0 B N wb hb w) (hN : N < 1000000) (kind : Int) (h1 : 1 ≤ kind) (h4 : kind ≤ 4) (ss tt : List UInt8) (hz : ss.length + tt.length ≤ 16384) (aa bb ff fl fu ke pa : Int) (ha0 : 0 ≤ aa) (ha1 : aa ≤ 18446744073709551615) (hb0 : 0 ≤ bb) (hb1 : bb ≤ 18446744073709551615) :
    Calls Tryz.prog 40 #[.pointer (some ⟨wb, 0, none⟩), .agg (StepD.cells ⟨kind, ss, tt, aa, bb, ff, fl, fu, ke, pa⟩)] w fun e w' => e = .returned (.bool true) ∧ Tryz.Inv w0 B (N + 1) wb hb w' := by
  have hk : kind = 1 ∨ kind = 2 ∨ kind = 3 ∨ kind = 4 := by omega
  rcases hk with rfl | rfl | rfl | rfl
  · exact Tryz.okToken w hI hN ss tt (by omega) aa bb ff fl fu ke pa
  · exact Tryz.okIssue w hI hN ss tt (by omega) (by omega) aa bb ff fl fu ke pa ha0 ha1 hb0 hb1
  · exact Tryz.okRenew w hI ss tt (by omega) aa bb ff fl fu ke pa ha0 ha1
  · exact Tryz.okAuth w hI ss tt (by omega) aa bb ff fl fu ke pa

/-- a vault that is opened, and the document's beside it. -/
theorem Tryz.Inv.start {w0 W : World} {B hb db rb vb mt ml bt n ra g : Nat} {m1 m2 p : Value} (hbel : Below B w0 W) (hB : B ≤ W.heap.size) (b6 : 6 ≤ B) (hE : Tryz.Env w0) (hT : Tryz.ErrT w0)
    (bH : BoxN W hb 64 #[.pointer (some ⟨db, 0, none⟩), .pointer (some ⟨rb, 0, none⟩), .pointer (some ⟨vb, 0, none⟩)]) (bD : BoxN W db 76 #[m1, m2, p, .int .i64 (-1), .int .i64 (-1), .bool false])
    (bV : BoxN W vb 108 #[.iface 61 (.pointer (some ⟨rb, 0, none⟩)), .int .u64 7, .map (some mt), .map (some ml), .int .u64 0, .int .u64 0, .bool false, .slice none 0 0])
    (hM : W.ownsMap Tryz.prog 97 ptrR mt n (mapD [((1, 0), bt)])) (hn : n ≤ 1) (hL : W.ownsMap Tryz.prog 97 ptrR ml 0 (.map [])) (bT : BoxN W bt 133 #[.int .i64 0, .int .u64 0, .int .u64 18446744073709551615, .int .i64 0, .bool false])
    (hR : Tryz.RVAt B W ra g 1 [rootT] 7 1 1) (l1 : B ≤ hb) (l2 : B ≤ db) (hlow : B ≤ vb ∧ B ≤ mt ∧ B ≤ ml ∧ B ≤ bt ∧ mt ≠ ml) :
    Tryz.Inv w0 B 0 W.heap.size hb (W.alloc (.cells #[.pointer (some ⟨hb, 0, none⟩), .pointer (some ⟨ra, 0, none⟩), .pointer none, .bool false, .bool false] 48)) := by
  obtain ⟨q1, q2, q3, q4, q5⟩ := hlow
  have hb6 : Below 6 w0 W := hbel.mono b6
  have hok : ListsOk [⟨0, 0, 0, 18446744073709551615, 0, false, bt⟩] [] := ⟨by simp, by simp, by simp, by simp, fun t ht => by rw [List.mem_singleton.1 ht]; exact ⟨by show (0 : Nat) < u64lim; decide, by show (0 : Nat) < u64lim; decide⟩, fun l hl => (by cases hl)⟩
  have hV : Tryz.VFull W vb mt ml ⟨.iface 61 (.pointer (some ⟨rb, 0, none⟩)), false, .slice none 0 0⟩ 7 0 0 [⟨0, 0, 0, 18446744073709551615, 0, false, bt⟩] [] :=
    ⟨⟨bV, ⟨⟨n, by omega, hM⟩, ⟨0, by omega, hL⟩, fun t ht => by rw [List.mem_singleton.1 ht]; exact bT, fun l hl => (by cases hl)⟩, hok, hE.below hb6 (Nat.le_refl _), by omega⟩, by simp, by simp, fun t ht => by rw [List.mem_singleton.1 ht]; exact Nat.le_refl _, fun l hl => (by cases hl), by decide, by decide, q5, by omega, by omega, by omega, fun t ht => by rw [List.mem_singleton.1 ht]; show 6 ≤ bt; omega, fun l hl => (by cases hl)⟩
  have hS : Tryz.Sys W hb db rb vb mt ml ⟨.iface 61 (.pointer (some ⟨rb, 0, none⟩)), false, .slice none 0 0⟩ 7 0 0 [⟨0, 0, 0, 18446744073709551615, 0, false, bt⟩] [] :=
    ⟨bH, ⟨m1, m2, p, bD⟩, hV, hT.below hb6, by omega, by omega⟩
  have hba : Below W.heap.size W (W.alloc (.cells #[.pointer (some ⟨hb, 0, none⟩), .pointer (some ⟨ra, 0, none⟩), .pointer none, .bool false, .bool false] 48)) := (Below.refl _ W).alloc (Nat.le_refl _) _
  have hrel : Rel [⟨0, 0, 0, 18446744073709551615, 0, false, bt⟩] [] [rootT] := ⟨rfl, rfl, fun t ht => by rw [List.mem_singleton.1 ht]; exact .inr rfl, fun l hl => (by cases hl)⟩
  exact ⟨hbel.trans (hba.mono hB), by simp; omega, b6, hB, ⟨db, rb, vb, mt, ml, ra, g, 1, _, 0, 0, _, _, _, hS.below hba, hR.below hba, hrel, BoxN.new W _ _, ⟨by simp, by simp, Nat.le_refl _, Nat.le_refl _, by simp⟩, ⟨l2, q1, q2, q3, fun l hl => (by cases hl)⟩⟩⟩
end Go.Proofs

/-
  plays, walked; Leased.
-/
namespace Go.Proofs
open Go.RowKit Go.Sort Go.Lib Go.Shelf Go.Maps

def KindsAt (W : World) (kb : Nat) : Prop := W.cell? ⟨kb, 0, none⟩ = some (.int .i64 1) ∧ W.cell? ⟨kb, 1, none⟩ = some (.int .i64 2) ∧ W.cell? ⟨kb, 2, none⟩ = some (.int .i64 3) ∧ W.cell? ⟨kb, 3, none⟩ = some (.int .i64 4)
theorem KindsAt.get {W : World} {kb : Nat} (h : KindsAt W kb) {j : Nat} (hj : j < 4) : W.cell? ⟨kb, j, none⟩ = some (.int .i64 ((j : Int) + 1)) := by
  obtain ⟨h0, h1, h2, h3⟩ := h
  match j, hj with
  | 0, _ => exact h0
  | 1, _ => exact h1
  | 2, _ => exact h2
  | 3, _ => exact h3
theorem KindsAt.below {W W' : World} {kb B : Nat} (h : KindsAt W kb) (hb : Below B W W') (hB : kb < B) : KindsAt W' kb := by
  obtain ⟨h0, h1, h2, h3⟩ := h
  have c : ∀ o, W'.cell? ⟨kb, o, none⟩ = W.cell? ⟨kb, o, none⟩ := fun o => hb.cell (p := ⟨kb, o, none⟩) hB
  exact ⟨(c _).trans h0, (c _).trans h1, (c _).trans h2, (c _).trans h3⟩

theorem Tryz.Inv.looksAt {w0 : World} {B N wb hb ra : Nat} {W : World} (h : Tryz.Inv w0 B N wb hb W) (hc : W.cell? ⟨wb, 1, none⟩ = some (.pointer (some ⟨ra, 0, none⟩))) :
    Calls Tryz.prog 20 #[.pointer (some ⟨wb, 0, none⟩), .pointer (some ⟨ra, 0, none⟩)] W fun e w' => e = .returned (.bool true) ∧ Below W.heap.size W w' := by
  obtain ⟨db, rb, vb, mt, ml, ra', g, cap, vx, tn, ln, tks, lks, L, hS, hR, hl, hW, -⟩ := h.ex
  have h1 := hW.cell 1 (v := .pointer (some ⟨ra', 0, none⟩)) rfl
  rw [hc] at h1
  obtain rfl : ra = ra' := by simpa using h1
  exact Tryz.looks B wb hb ra g cap vb mt ml vx 7 tn ln _ _ tks lks L _ _ _ _ _ _ W hW hS.host hS.v.va hR hl

def inB (kind : Int) (j : Nat) : Bool := decide (1 ≤ kind ∧ kind ≤ (j : Int))
theorem inB_succ (kind : Int) (j : Nat) : inB kind (j + 1) = (inB kind j || kind == (j : Int) + 1) := by
  unfold inB
  rw [Bool.eq_iff_iff]
  simp
  omega

set_option maxRecDepth 100000 in
set_option maxHeartbeats 4000000 in
theorem Tryz.playsLeased (p : Option Addr) (cap kb : Nat) (S : List StepD) (w : World) (hS : SliceAt w p S) (hpl : S ≠ [] → ∀ a, p = some a → a.block < w.heap.size) (hl : S.length ≤ 281474976710656) (hz : ∀ st ∈ S, st.s.length ≤ 281474976710656 ∧ st.t.length ≤ 281474976710656) (hok : ∀ st ∈ S, StepOk st) (hK : KindsAt w kb) (h6 : 6 ≤ w.heap.size) (hE : Tryz.Env w) (hT : Tryz.ErrT w) :
    Calls Tryz.prog 9 #[.slice p S.length cap, .slice (some ⟨kb, 0, none⟩) 4 4, .bool false] w fun e w' => e = .returned (.bool true) ∧ Below w.heap.size w w' := by
  have hSm := Tryz.small p cap S w hS hl hz
  have hkb : kb < w.heap.size := World.block_lt_of_cell? _ _ hK.1
  have hWl := fun W => Tryz.well W
  unfold fallV at hWl
  have hOp := fun (W : World) (hb db rb : Nat) (m1 m2 : Value) (bH : BoxN W hb 64 #[.pointer (some ⟨db, 0, none⟩), .pointer (some ⟨rb, 0, none⟩), .pointer none]) (bD : BoxN W db 76 #[m1, m2, .slice none 0 0, .int .i64 (-1), .int .i64 (-1), .bool false]) (l1 : w.heap.size ≤ hb) (l2 : w.heap.size ≤ db) => Tryz.hOpen w.heap.size hb db rb _ _ _ _ _ _ 7 (-1) (-1) 0 0 W bH bD l1 l2
  unfold fallV at hOp
  obtain ⟨len, hlen⟩ : ∃ len, S.length = len := ⟨_, rfl⟩
  rw [hlen] at hSm ⊢
  have Hlen := hid_intro hlen
  clear hlen hl
  go_enter Tryz.func9, Tryz.ntmps9
  go_upto_region 2 with (go_at_call 15; refine hSm.mono ?_; rintro e w1 ⟨b, rfl, hsm, hb1⟩)
  cases b
  · go_wp2
    go_ret
    exact ⟨rfl, hb1⟩
  · obtain ⟨hl, hz2⟩ := hsm rfl
    have l0 := hb1.size
    go_wp2_with (first
      | (go_at_call 16; refine (Tryz.newHost _).mono ?_; rintro e w2 ⟨hb, db, rb, m1, m2, rfl, bH, bD, bR, l1, l2, l3, hb2⟩)
      | (go_at_call 11; refine (hWl _).mono ?_; rintro e w3 ⟨rfl, hb3⟩; have bH3 := bH.below hb3 bH.lt; have bD3 := bD.below hb3 bD.lt)
      | (go_at_call 17; refine (hOp w3 hb db rb m1 m2 bH3 bD3 (by omega) (by omega)).mono ?_; rintro e w4 ⟨vb, mt, ml, bt, n, rfl, bH4, bD4, bV4, hM4, hn4, hL4, bT4, hb4, hlow⟩)
      | (go_at_call 18; refine (Tryz.hIs hb _ _ _ w4 bH4).mono ?_; rintro e w5 ⟨rfl, rfl⟩)
      | (go_at_call 19; refine (Tryz.rNew 7 _).mono ?_; rintro e w6 ⟨rfl, hR6, hb6⟩; have bel6 := ((hb1.trans ((hb2.mono l0).trans ((hb3.mono (Nat.le_trans l0 hb2.size)).trans hb4)))); have hB6 := Nat.le_trans bel6.size hb6.size; have hIn := Tryz.Inv.start (bel6.trans (hb6.mono bel6.size)) hB6 h6 hE hT (bH4.below hb6 bH4.lt) (bD4.below hb6 bD4.lt) (bV4.below hb6 bV4.lt) (ownsMap_below hM4 hb6) hn4 (ownsMap_below hL4 hb6) (bT4.below hb6 bT4.lt) (hR6.lower bel6.size) (by omega) (by omega) hlow)
      | (go_at_call 20; refine (hIn.looksAt (BoxN.cell (BoxN.new w6 48 _) 1 rfl)).mono ?_; rintro e w7 ⟨rfl, hb7⟩))
    have hI7 := hIn.below hb7
    generalize w6.heap.size = wb at *
    clear hIn hb7 hb6 hR6 bel6 hB6 bH4 bD4 bV4 hM4 hL4 bT4 hb4 hlow bH3 bD3 hb3 bH bD bR hb2 hSm hOp hWl hsm
    go_loopw [7, 12] (fun ok i wr => ∃ k : Nat, k ≤ len ∧ i = .int .i64 k ∧ ok = .bool true ∧ Tryz.Inv w w.heap.size k wb hb wr) (fun _ i _ => len - (intOf i).toNat)
    case atStart => exact ⟨0, Nat.zero_le _, rfl, rfl, hI7⟩
    case round =>
      obtain ⟨k, hk, rfl, rfl, hI⟩ := hrel
      by_cases hkl : k < len
      · obtain ⟨st, hst⟩ : ∃ st, S[k]? = some st := ⟨S[k]'(by have := hid_elim Hlen; omega), by have := hid_elim Hlen; simp [this, hkl]⟩
        have hmem := List.mem_of_getElem? hst
        have hne : S ≠ [] := fun e => by rw [e] at hst; simp at hst
        obtain ⟨b, off, rfl, hsc⟩ := hS.resolve_left hne
        have hbl : b < w.heap.size := hpl hne _ rfl
        obtain ⟨⟨o1, o2⟩, o3, o4⟩ := hok st hmem
        have hzz := hz2 st hmem
        have hSt := fun W (h : Tryz.Inv w w.heap.size k wb hb W) (h1 : 1 ≤ st.kind) (h4 : st.kind ≤ 4) => Tryz.step W h st.kind (by simp; omega) (by simp; omega) st.s st.t st.a st.b st.f st.fl st.fu st.ke st.pa (fun W' h' => Tryz.okAny W' h' (by omega) st.kind h1 h4 st.s st.t hzz st.a st.b st.f (-1) (-1) 0 0 o1 o2 o3 o4)
        have hcs := fun W (h : Tryz.Inv w w.heap.size k wb hb W) => (hsc.below h.bel hbl) k st hst
        have hks := fun W (h : Tryz.Inv w w.heap.size k wb hb W) => hK.below h.bel hkb
        obtain ⟨kind, ss, tt, aa, bb, ff, fl, fu, ke, pa⟩ := st
        simp only [StepD.cells] at hSt hcs
        have Hst := hid_intro hst
        clear hst hok hz hz2 hzz o1 o2 o3 o4 hsc hK hE hT
        go_wp2
        go_loopw [13, 14] (fun inn j wq => ∃ jj : Nat, jj ≤ 4 ∧ j = .int .i64 jj ∧ inn = .bool (inB kind jj) ∧ Tryz.Inv w w.heap.size k wb hb wq) (fun _ j _ => 4 - (intOf j).toNat)
        case atStart => exact ⟨0, by omega, rfl, by rw [show inB kind 0 = false by unfold inB; simp; omega], hI⟩
        case round =>
          obtain ⟨jj, hjj, rfl, rfl, hIq⟩ := hrel
          by_cases hj4 : jj < 4
          · have hkk := (hks _ hIq).get hj4
            obtain ⟨y0, -⟩ := hcs _ hIq
            have hsu := hid_intro (inB_succ kind jj)
            generalize inB kind jj = ib at *
            cases ib
            · go_wp2
              go_quiet (fail)
              go_wp2
              exact ⟨⟨jj + 1, by omega, rfl, by rw [hid_elim hsu]; simp, hIq.below (below_drewN (Below.refl _ _) _)⟩, by simp [intOf]; omega⟩
            · go_wp2
              go_quiet (fail)
              go_wp2
              exact ⟨⟨jj + 1, by omega, rfl, by rw [hid_elim hsu]; simp, hIq.below (below_drewN (Below.refl _ _) _)⟩, by simp [intOf]; omega⟩
          · obtain rfl : jj = 4 := by omega
            have hib : Hid (inB kind 4 = true → 1 ≤ kind ∧ kind ≤ 4) := hid_intro (fun e => by simpa [inB] using e)
            obtain ⟨y0, y1, y2, y3, y4, y5, y6, y7, y8, y9⟩ := hcs _ hIq
            have hSt1 := hSt _ hIq
            clear hSt hcs hks
            generalize inB kind 4 = ib at *
            cases ib
            · go_wp2
              go_roundw
              case rel => exact ⟨k + 1, by omega, rfl, rfl, hIq.more (by omega)⟩
              case measure => simp [intOf]; omega
            · obtain ⟨h1, h4⟩ := hid_elim hib rfl
              have hSt2 := hSt1 h1 h4
              clear hSt1
              go_wp2_with (go_at_call 21; refine hSt2.mono ?_; rintro e w8 ⟨rfl, hI8⟩)
              go_roundw
              case rel => exact ⟨k + 1, by omega, rfl, rfl, hI8⟩
              case measure => simp [intOf]; omega
      · obtain rfl : k = len := by omega
        go_wp2
        go_ret
        exact ⟨rfl, hI.bel⟩

theorem SliceAt.below {W W' : World} {p : Option Addr} {S : List StepD} (h : SliceAt W p S) {B : Nat} (hb : Below B W W') (hp : S ≠ [] → ∀ a, p = some a → a.block < B) : SliceAt W' p S := by
  rcases h with h | ⟨b, off, rfl, h⟩
  · exact .inl h
  · by_cases hS : S = []
    · exact .inl hS
    · exact .inr ⟨b, off, rfl, h.below hb (hp hS _ rfl)⟩

set_option maxHeartbeats 1000000 in
theorem Tryz.leased (p : Option Addr) (cap : Nat) (S : List StepD) (w : World) (hS : SliceAt w p S) (hpl : S ≠ [] → ∀ a, p = some a → a.block < w.heap.size) (hl : S.length ≤ 281474976710656) (hz : ∀ st ∈ S, st.s.length ≤ 281474976710656 ∧ st.t.length ≤ 281474976710656) (hok : ∀ st ∈ S, StepOk st) (h6 : 6 ≤ w.heap.size) (hE : Tryz.Env w) (hT : Tryz.ErrT w) :
    Calls Tryz.prog 3 #[.slice p S.length cap] w fun e w' => e = .returned (.bool true) ∧ Below w.heap.size w w' := by
  have hb0 : Below w.heap.size w (w.alloc (.cells #[.int .i64 1, .int .i64 2, .int .i64 3, .int .i64 4] 3)) := (Below.refl _ w).alloc (Nat.le_refl _) _
  have bK := BoxN.new w 3 #[.int .i64 1, .int .i64 2, .int .i64 3, .int .i64 4]
  have hP := Tryz.playsLeased p cap w.heap.size S _ (hS.below hb0 hpl) (fun hne a e => by have := hpl hne a e; simp; omega) hl hz hok ⟨bK.cell 0 rfl, bK.cell 1 rfl, bK.cell 2 rfl, bK.cell 3 rfl⟩ (by simp; omega) (hE.below hb0 h6) (hT.below (hb0.mono h6))
  go_enter Tryz.func3, Tryz.ntmps3
  go_wp2_with (go_at_call 9; refine hP.mono ?_; rintro e w1 ⟨rfl, hb1⟩)
  go_ret
  exact ⟨rfl, hb0.trans (hb1.mono (by simp))⟩
end Go.Proofs

/-
  A script that came in, opened.
-/
namespace Go.Proofs
open Go.RowKit Go.Sort Go.Lib Go.Shelf Go.Maps

theorem Tryz.cellsStep : Tryz.prog.cellsOf 51 = 10 := by kernel_rfl
theorem Tryz.cellsFall : Tryz.prog.cellsOf 29 = 4 := by kernel_rfl
theorem Tryz.cellsInt : Tryz.prog.cellsOf 3 = 1 := by kernel_rfl
theorem Tryz.cellsStr : Tryz.prog.cellsOf 9 = 1 := by kernel_rfl

theorem list10 {α : Type} {l : List α} (h : l.length = 10) : ∃ a b c d e f g i j k, l = [a, b, c, d, e, f, g, i, j, k] := by
  match l, h with
  | [a, b, c, d, e, f, g, i, j, k], _ => exact ⟨a, b, c, d, e, f, g, i, j, k, rfl⟩
theorem u64_range {z : Int} (h : (Lit.int .u64 z).wf = true) : 0 ≤ z ∧ z ≤ 18446744073709551615 := by
  simp [Lit.wf, IntKind.min, IntKind.max, IntKind.bits, IntKind.signed] at h
  omega
theorem weightsAll_mem {H : Type} {P : Program} {e : TypeId} : ∀ (l : List (DataW H)) (d : DataW H) (x : Nat), d ∈ l → x ∈ d.weights P e → x ∈ DataW.weightsAll P e l
  | [], _, _, h, _ => by cases h
  | a :: l, d, x, h, hx => by
    simp only [DataW.weightsAll]
    rcases List.mem_cons.1 h with rfl | h
    · exact List.mem_append_left _ hx
    · exact List.mem_append_right _ (weightsAll_mem l d x h hx)

set_option maxHeartbeats 1000000 in
/-- a step, read. -/
theorem Tryz.openStep {H : Type} {enc : TypeId × Value → H} {w : World} {base : Nat} {sp : Nat → Bool} {held : Bool} {fuel : Nat} {cs : List Value} {x : DataW H × List MemPlace} (h : DataW.trod enc Tryz.prog w base sp held fuel 51 cs = some x) :
    ∃ st : StepD, cs = st.cells.toList ∧ StepOk st ∧ st.s.length ∈ x.1.weights Tryz.prog 51 ∧ st.t.length ∈ x.1.weights Tryz.prog 51 := by
  obtain ⟨xs, n, -, rfl, hl, hlen, hf⟩ := DataW.trod_struct Tryz.underlying51 h
  rw [Tryz.cellsStep] at hl
  obtain ⟨c0, c1, c2, c3, c4, c5, c6, c7, c8, c9, rfl⟩ := list10 hl
  have hlen7 : xs.length = 7 := hlen
  obtain ⟨y0, y1, y2, y3, y4, y5, y6, rfl⟩ : ∃ y0 y1 y2 y3 y4 y5 y6, xs = [y0, y1, y2, y3, y4, y5, y6] := by
    match xs, hlen7 with
    | [y0, y1, y2, y3, y4, y5, y6], _ => exact ⟨y0, y1, y2, y3, y4, y5, y6, rfl⟩
  have f0 := hf 0 _ rfl
  have f1 := hf 1 _ rfl
  have f2 := hf 2 _ rfl
  have f3 := hf 3 _ rfl
  have f4 := hf 4 _ rfl
  have f5 := hf 5 _ rfl
  have f6 := hf 6 _ rfl
  simp [Tryz.cellsInt, Tryz.cellsStr, Tryz.cellsU64, Tryz.cellsFall] at f0 f1 f2 f3 f4 f5 f6
  obtain ⟨z0, e0, -, -⟩ := DataW.trod_int Tryz.underlying3 f0
  obtain ⟨s1, e1, r1, -⟩ := DataW.trod_string Tryz.underlying9 f1
  obtain ⟨s2, e2, r2, -⟩ := DataW.trod_string Tryz.underlying9 f2
  obtain ⟨z3, e3, -, k3⟩ := DataW.trod_int Tryz.underlying35 f3
  obtain ⟨z4, e4, -, k4⟩ := DataW.trod_int Tryz.underlying35 f4
  obtain ⟨z5, e5, -, -⟩ := DataW.trod_int Tryz.underlying35 f5
  obtain ⟨us, m, -, -, -, hus, hg⟩ := DataW.trod_struct Tryz.underlying29 f6
  have hus4 : us.length = 4 := hus
  obtain ⟨u0, u1, u2, u3, rfl⟩ : ∃ u0 u1 u2 u3, us = [u0, u1, u2, u3] := by
    match us, hus4 with
    | [u0, u1, u2, u3], _ => exact ⟨u0, u1, u2, u3, rfl⟩
  have g0 := hg 0 _ rfl
  have g1 := hg 1 _ rfl
  have g2 := hg 2 _ rfl
  have g3 := hg 3 _ rfl
  simp [Tryz.cellsInt] at g0 g1 g2 g3
  obtain ⟨z6, e6, -, -⟩ := DataW.trod_int Tryz.underlying3 g0
  obtain ⟨z7, e7, -, -⟩ := DataW.trod_int Tryz.underlying3 g1
  obtain ⟨z8, e8, -, -⟩ := DataW.trod_int Tryz.underlying3 g2
  obtain ⟨z9, e9, -, -⟩ := DataW.trod_int Tryz.underlying3 g3
  simp at e0 e1 e2 e3 e4 e5 e6 e7 e8 e9
  subst e0 e1 e2 e3 e4 e5 e6 e7 e8 e9
  obtain ⟨⟨l1⟩⟩ := s1
  obtain ⟨⟨l2⟩⟩ := s2
  refine ⟨⟨z0, l1, l2, z3, z4, z5, z6, z7, z8, z9⟩, rfl, ⟨u64_range k3, u64_range k4⟩, ?_, ?_⟩
  · simp [DataW.weights, Tryz.underlying51, DataW.weightsEach, r1, r2]
  · simp [DataW.weights, Tryz.underlying51, DataW.weightsEach, r1, r2]

theorem skolem {α : Type} (d : α) {n : Nat} {p : Nat → α → Prop} (h : ∀ i, i < n → ∃ x, p i x) : ∃ f : Nat → α, ∀ i, i < n → p i (f i) := by
  classical
  exact ⟨fun i => if hi : i < n then Classical.choose (h i hi) else d, fun i hi => by
    show p i (if hi : i < n then Classical.choose (h i hi) else d)
    rw [dif_pos hi]
    exact Classical.choose_spec (h i hi)⟩

/-- a script, read. -/
theorem Tryz.openScript {H : Type} {enc : TypeId × Value → H} {w : World} {base fuel : Nat} {held : Bool} {p : Option Addr} {len cap : Nat} {x : DataW H × List MemPlace} (h : DataW.trod enc Tryz.prog w base (fun _ => true) held fuel 22 [.slice p len cap] = some x) (hsz : ∀ y ∈ x.1.weights Tryz.prog 22, y ≤ reachBytes) :
    ∃ S : List StepD, S.length = len ∧ SliceAt w p S ∧ (S ≠ [] → ∀ a, p = some a → a.block < w.heap.size) ∧ S.length ≤ 281474976710656 ∧ (∀ st ∈ S, st.s.length ≤ 281474976710656 ∧ st.t.length ≤ 281474976710656) ∧ ∀ st ∈ S, StepOk st := by
  have hrb : reachBytes ≤ 281474976710656 := by decide
  rcases Go.Deep.open_slice Tryz.underlying22 h with ⟨e, -⟩ | ⟨a, len', cap', m, n, D, Pl, e, -, hl, -, hm, rfl, hx⟩
  · simp at e
    obtain ⟨rfl, rfl, rfl⟩ := e
    exact ⟨[], rfl, .inl rfl, fun h => absurd rfl h, by simp, by simp, by simp⟩
  · simp at e
    obtain ⟨rfl, rfl, rfl⟩ := e
    simp at hm
    subst hm
    obtain ⟨f, hf⟩ := skolem (⟨0, [], [], 0, 0, 0, 0, 0, 0, 0⟩ : StepD) (n := m) (p := fun i st => w.cells? base (a.add (i * 10)) 10 = some st.cells.toList ∧ StepOk st ∧ st.s.length ∈ (D i).weights Tryz.prog 51 ∧ st.t.length ∈ (D i).weights Tryz.prog 51) (fun i hi => by
      obtain ⟨cs', hc, ht⟩ := hx i hi
      obtain ⟨st, rfl, h1, h2, h3⟩ := Tryz.openStep ht
      rw [Tryz.cellsStep] at hc
      exact ⟨st, hc, h1, h2, h3⟩)
    have hlen : len ≤ 281474976710656 := by
      have := hsz ((((List.range len).map D).length + ((List.range (m - len)).map fun j => D (len + j)).length) * Tryz.prog.bytesOf 51) (by simp [DataW.weights, Tryz.underlying22])
      have hby : Tryz.prog.bytesOf 51 = 96 := by kernel_rfl
      rw [hby] at this
      simp at this
      omega
    have hS : ∀ (i : Nat) (st : StepD), ((List.range len).map f)[i]? = some st → i < len ∧ st = f i := fun i st hi => by
      by_cases hil : i < len
      · simp [hil] at hi
        exact ⟨hil, hi.symm⟩
      · simp [hil] at hi
    have hmem : ∀ st ∈ (List.range len).map f, ∃ i, i < len ∧ st = f i := fun st hst => by
      obtain ⟨i, hi, rfl⟩ := List.mem_map.1 hst
      exact ⟨i, List.mem_range.1 hi, rfl⟩
    have hw : ∀ i, i < len → ∀ y ∈ (D i).weights Tryz.prog 51, y ≤ 281474976710656 := fun i hi y hy => by
      have : y ∈ (DataW.slice ((List.range len).map D) ((List.range (m - len)).map fun j => D (len + j))).weights Tryz.prog 22 := by
        simp only [DataW.weights, Tryz.underlying22]
        exact List.mem_cons_of_mem _ (List.mem_append_left _ (weightsAll_mem _ (D i) y (List.mem_map.2 ⟨i, List.mem_range.2 hi, rfl⟩) hy))
      exact Nat.le_trans (hsz y this) hrb
    obtain ⟨b, off, spot⟩ := a
    refine ⟨(List.range len).map f, by simp, ?_, fun hne a' ha' => ?_, by simpa using hlen, fun st hst => ?_, fun st hst => ?_⟩
    · by_cases h0 : len = 0
      · exact .inl (by simp [h0])
      · have hc0 := (World.cells?_some (hf 0 (by omega)).1).2.2 0 (by omega)
        have hspot : spot = none := by simpa [Addr.add] using World.cell?_spot (show w.cell? _ = some _ from hc0)
        subst hspot
        refine .inr ⟨b, off, rfl, fun i st hi => ?_⟩
        obtain ⟨hil, rfl⟩ := hS i st hi
        have hc := (World.cells?_some (hf i (by omega)).1).2.2
        have hcc : ∀ j, j < 10 → w.cell? ⟨b, off + i * 10 + j, none⟩ = (f i).cells.toList[j]? := fun j hj => by
          have := hc j hj
          rw [Lib.add_plain, Lib.add_plain] at this
          exact this
        exact ⟨hcc 0 (by omega), hcc 1 (by omega), hcc 2 (by omega), hcc 3 (by omega), hcc 4 (by omega), hcc 5 (by omega), hcc 6 (by omega), hcc 7 (by omega), hcc 8 (by omega), hcc 9 (by omega)⟩
    · cases ha'
      have h0 : 0 < len := by
        rcases Nat.eq_zero_or_pos len with h | h
        · exact absurd (by simp [h]) hne
        · exact h
      exact World.cells?_block (hf 0 (by omega)).1 (by omega)
    · obtain ⟨i, hi, rfl⟩ := hmem st hst
      obtain ⟨-, -, h1, h2⟩ := hf i (by omega)
      exact ⟨hw i hi _ h1, hw i hi _ h2⟩
    · obtain ⟨i, hi, rfl⟩ := hmem st hst
      exact (hf i (by omega)).2.1
end Go.Proofs
