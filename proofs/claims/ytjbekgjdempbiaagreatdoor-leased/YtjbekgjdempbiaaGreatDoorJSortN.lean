import Derived.Test.YtjbekgjdempbiaaGreatDoorJInv
import Derived.Test.YtjbekgjdempbiaaGreatDoorJSys
import Derived.Test.YtjbekgjdempbiaaGreatDoorJRel
import Derived.Test.YtjbekgjdempbiaaGreatDoorJCntA
import Derived.ChangeKeysEq
import Derived.Test.YtjbekgjdempbiaaGreatDoorJDiskC
import Derived.Maps.RangeWalk
/-
  small: how great a script is.
-/
namespace Go.Proofs
open Go.RowKit Go.Sort Go.Lib Go.Shelf Go.Maps

/-- a script in memory. -/
def ScriptAt (W : World) (b off : Nat) (S : List StepD) : Prop := ∀ (i : Nat) (st : StepD), S[i]? = some st →
  W.cell? ⟨b, off + i * 10, none⟩ = some (.int .i64 st.kind) ∧ W.cell? ⟨b, off + i * 10 + 1, none⟩ = some (.string ⟨st.s.toArray⟩) ∧ W.cell? ⟨b, off + i * 10 + 2, none⟩ = some (.string ⟨st.t.toArray⟩) ∧ W.cell? ⟨b, off + i * 10 + 3, none⟩ = some (.int .u64 st.a) ∧ W.cell? ⟨b, off + i * 10 + 4, none⟩ = some (.int .u64 st.b) ∧ W.cell? ⟨b, off + i * 10 + 5, none⟩ = some (.int .u64 st.f) ∧
  W.cell? ⟨b, off + i * 10 + 6, none⟩ = some (.int .i64 st.fl) ∧ W.cell? ⟨b, off + i * 10 + 7, none⟩ = some (.int .i64 st.fu) ∧ W.cell? ⟨b, off + i * 10 + 8, none⟩ = some (.int .i64 st.ke) ∧ W.cell? ⟨b, off + i * 10 + 9, none⟩ = some (.int .i64 st.pa)
theorem ScriptAt.below {W W' : World} {b off B : Nat} {S : List StepD} (h : ScriptAt W b off S) (hb : Below B W W') (hB : b < B) : ScriptAt W' b off S := fun i st hi => by
  obtain ⟨h0, h1, h2, h3, h4, h5, h6, h7, h8, h9⟩ := h i st hi
  have c : ∀ o, W'.cell? ⟨b, o, none⟩ = W.cell? ⟨b, o, none⟩ := fun o => hb.cell (p := ⟨b, o, none⟩) hB
  exact ⟨(c _).trans h0, (c _).trans h1, (c _).trans h2, (c _).trans h3, (c _).trans h4, (c _).trans h5, (c _).trans h6, (c _).trans h7, (c _).trans h8, (c _).trans h9⟩
/-- the steps lie where the slice says: nowhere, or there. -/
def SliceAt (W : World) (p : Option Addr) (S : List StepD) : Prop := (S = [] ) ∨ ∃ b off, p = some ⟨b, off, none⟩ ∧ ScriptAt W b off S

def szS (st : StepD) : Nat := st.s.length + st.t.length
def totS (S : List StepD) (k : Nat) : Nat := S.length + ((S.take k).map szS).sum
theorem totS_succ {S : List StepD} {k : Nat} {st : StepD} (h : S[k]? = some st) : totS S (k + 1) = totS S k + st.s.length + st.t.length := by
  unfold totS
  rw [take_get h, List.map_append, List.sum_append]
  simp [szS]; omega
theorem le_sum_mem : ∀ (l : List Nat) (x : Nat), x ∈ l → x ≤ l.sum
  | [], _, h => by cases h
  | a :: l, x, h => by
    rw [List.sum_cons]
    rcases List.mem_cons.1 h with rfl | h
    · omega
    · have := le_sum_mem l x h; omega
theorem totS_le (S : List StepD) (st : StepD) (h : st ∈ S) : st.s.length + st.t.length ≤ totS S S.length := by
  unfold totS
  rw [List.take_length]
  have : szS st ∈ S.map szS := List.mem_map.2 ⟨st, h, rfl⟩
  have h2 := le_sum_mem _ _ this
  unfold szS at h2 ⊢
  omega

set_option maxRecDepth 100000 in
set_option maxHeartbeats 4000000 in
theorem Tryz.small (p : Option Addr) (cap : Nat) (S : List StepD) (w : World) (hS : SliceAt w p S) (hl : S.length ≤ 281474976710656) (hz : ∀ st ∈ S, st.s.length ≤ 281474976710656 ∧ st.t.length ≤ 281474976710656) :
    Calls Tryz.prog 34 #[.slice p S.length cap] w fun e w' => ∃ b, e = .returned (.bool b) ∧ (b = true → S.length ≤ 16384 ∧ ∀ st ∈ S, st.s.length + st.t.length ≤ 16384) ∧ Below w.heap.size w w' := by
  obtain ⟨len, hlen⟩ : ∃ len, S.length = len := ⟨_, rfl⟩
  rw [hlen] at hl ⊢
  have Hlen := hid_intro hlen
  clear hlen
  go_enter Tryz.func34, Tryz.ntmps34
  go_wp2
  go_loopw [3, 4] (fun n i wr => ∃ k nn : Nat, k ≤ len ∧ i = .int .i64 k ∧ n = .int .i64 nn ∧ Hid (nn = totS S k) ∧ nn ≤ 562949953437696 ∧ Below w.heap.size w wr) (fun _ i _ => len - (intOf i).toNat)
  case atStart => exact ⟨0, len, Nat.zero_le _, rfl, rfl, hid_intro (by simp [totS, hid_elim Hlen]), by omega, Below.refl _ _⟩
  case round =>
    obtain ⟨k, nn, hk, rfl, rfl, ht, hbd, hBw⟩ := hrel
    by_cases hkl : k < len
    · by_cases hn : nn ≤ 16384
      · obtain ⟨st, hst⟩ : ∃ st, S[k]? = some st := ⟨S[k]'(by have := hid_elim Hlen; omega), by have := hid_elim Hlen; simp [this, hkl]⟩
        have hne : S ≠ [] := fun e => by rw [e] at hst; simp at hst
        obtain ⟨b, off, rfl, hsc⟩ := hS.resolve_left hne
        obtain ⟨x0, x1, x2, -⟩ := hsc k st hst
        have hbl : b < w.heap.size := World.block_lt_of_cell? _ _ x0
        obtain ⟨y0, y1, y2, -⟩ := (hsc.below hBw hbl) k st hst
        obtain ⟨z1, z2⟩ := hz st (List.mem_of_getElem? hst)
        have hts := hid_intro (totS_succ hst)
        generalize st.s = ss at *
        generalize st.t = tt at *
        go_wp2
        go_quiet (fail)
        go_wp2
        exact ⟨⟨k + 1, nn + ss.length + tt.length, by omega, rfl, congrArg (Value.int .i64) (by omega), hid_intro (by rw [hid_elim hts, ← hid_elim ht]), by omega, below_drewN hBw _⟩, by simp [intOf]; omega⟩
      · have hn' : ¬ (nn : Int) ≤ 16384 := by omega
        go_wp2
        go_ret
        exact .inl ⟨rfl, hBw⟩
    · obtain rfl : k = len := by omega
      go_wp2
      go_ret
      refine ⟨decide ((nn : Int) ≤ 16384), rfl, fun h => ?_, hBw⟩
      have h1 : (nn : Int) ≤ 16384 := by simpa using h
      have h2 := hid_elim ht
      have h3 := hid_elim Hlen
      refine ⟨?_, fun st hst => ?_⟩
      · unfold totS at h2; omega
      · have := totS_le S st hst
        rw [h3] at this
        omega
end Go.Proofs

/-
  A line taken apart; strings.Split, strings.Cut, strconv.ParseUint as the journal asks them.
-/
namespace Go.Proofs
open Go.RowKit Go.Sort Go.Lib Go.Shelf Go.Maps

theorem Tryz.cut (s sep : List UInt8) (w : World) (hs : s.length < 4294967281) (hG : Tryz.ErrT w) :
    Calls Tryz.prog 213 #[.string ⟨s.toArray⟩, .string ⟨sep.toArray⟩] w fun e w' => e = .returned (.tuple #[.string ⟨(Lib.cut s sep).1.toArray⟩, .string ⟨(Lib.cut s sep).2.1.toArray⟩, .bool (Lib.cut s sep).2.2]) ∧ Below w.heap.size w w' := by
  obtain ⟨-, m, hm⟩ := hG
  refine (Any.strings_Cut Tryz.laysCut ⟨s.toArray⟩ ⟨sep.toArray⟩ m w (by simpa [ByteArray.size] using hs) hm).mono ?_
  rintro e w' ⟨rfl, n, rfl⟩
  exact ⟨rfl, below_drewN (Below.refl _ _) n⟩
/-- what ParseUint makes of a text. -/
def puV (r : List UInt8) : Int := match Lib.parseUintB 64 r with
  | .ok u => (u : Int)
  | .range => 18446744073709551615
  | _ => 0
theorem Tryz.parseU (r : List UInt8) (hl : r.length ≤ 281474976710656) (w : World) (hE : Tryz.Env w) :
    Calls Tryz.prog 118 #[.string ⟨r.toArray⟩, .int .i64 10, .int .i64 64] w fun e w' => ∃ er, e = .returned (.tuple #[.int .u64 (puV r), er]) ∧ Below w.heap.size w w' := by
  have hsz : (⟨r.toArray⟩ : ByteArray).size ≤ 281474976710656 := by simpa [ByteArray.size] using hl
  cases hpp : Lib.parseUintB 64 r with
  | ok u =>
    have h := Any.strconv_ParseUint_10_at64_ok Tryz.laysPu14 ⟨r.toArray⟩ (by have := hsz; omega) u hpp w
    rw [show puV r = (u : Int) by simp only [puV, hpp]]
    refine h.mono ?_
    rintro e w' ⟨rfl, hw⟩
    exact ⟨_, rfl, Tryz.parseBelow hw⟩
  | range =>
    obtain ⟨tp, p, hv⟩ := hE.rng
    rw [show puV r = 18446744073709551615 by simp only [puV, hpp]]
    refine (Any.strconv_ParseUint_10_at64_range_var Tryz.laysPu14 ⟨r.toArray⟩ hsz hpp tp p _ hv).mono ?_
    rintro e w' ⟨N, rfl, -, -, h4⟩
    exact ⟨_, rfl, h4⟩
  | _ =>
    obtain ⟨tp, p, hv⟩ := hE.syn
    rw [show puV r = 0 by simp only [puV, hpp]]
    refine (Any.strconv_ParseUint_10_at64_syntax_var Tryz.laysPu14 ⟨r.toArray⟩ hsz hpp tp p _ hv).mono ?_
    rintro e w' ⟨N, rfl, -, -, h4⟩
    exact ⟨_, rfl, h4⟩
theorem puV_range (r : List UInt8) : 0 ≤ puV r ∧ puV r ≤ 18446744073709551615 := by
  unfold puV
  cases h : Lib.parseUintB 64 r with
  | ok u => have := parse_lt h; simp only; omega
  | _ => simp

/-- a line's text; is it whole? -/
def txtL (s : List UInt8) : List UInt8 := (Lib.cut (Lib.cut s [32]).2.1 [32]).2.1
def wholeB (s : List UInt8) : Bool := puV (Lib.cut s [32]).1 == ((txtL s).length : Int) && puV (Lib.cut (Lib.cut s [32]).2.1 [32]).1 == sumI (txtL s)
theorem cut_sub (s sep : List UInt8) : (∀ b ∈ (Lib.cut s sep).1, b ∈ s) ∧ (∀ b ∈ (Lib.cut s sep).2.1, b ∈ s) ∧ (Lib.cut s sep).1.length ≤ s.length ∧ (Lib.cut s sep).2.1.length ≤ s.length := by
  unfold Lib.cut
  split
  · exact ⟨fun b h => List.mem_of_mem_take h, fun b h => List.mem_of_mem_drop h, by simp; omega, by simp⟩
  · exact ⟨fun b h => h, fun b h => by simp at h, Nat.le_refl _, by simp⟩
theorem Tryz.cellsU64' : Tryz.prog.cellsOf 31 = 1 := by kernel_rfl
theorem Tryz.markEq (a b c d : Int) (W : World) : (binOp .eql 269 (.agg #[.int .u64 a, .int .u64 b]) (.agg #[.int .u64 c, .int .u64 d])).run Tryz.prog W = .ok (.bool (a == c && b == d)) W := by
  have hu := Tryz.underlying269
  obtain ⟨i, hi⟩ := info_of_underlying Tryz.underlying31
  have h31 := Tryz.underlying31
  have hp : Tryz.prog.plainKey 31 = true := by kernel_rfl
  have key : (Op.equal 269 (.agg #[.int .u64 a, .int .u64 b]) (.agg #[.int .u64 c, .int .u64 d])).run Tryz.prog W = .ok (a == c && b == d) W := by
    unfold Op.equal
    rw [show Op.maxDepth = (Op.maxDepth - 2 + 1) + 1 by decide]
    rw [run_equalIn_array W _ _ _ hu hi, Tryz.cellsU64']
    simp only [List.range_succ, List.range_zero, List.nil_append, List.cons_append, Op.eqItems, Sem.run_bind]
    rw [run_part_plain W hp (v := .int .u64 a) (by simp), Result.andThen_ok, run_part_plain W hp (v := .int .u64 c) (by simp), Result.andThen_ok, run_equalIn_int W _ _ _ _ _ _ h31, Result.andThen_ok]
    cases h1 : (a == c)
    · simp
    · simp only [Bool.not_true, Bool.false_eq_true, if_false, Sem.run_bind]
      rw [run_part_plain W hp (v := .int .u64 b) (by simp), Result.andThen_ok, run_part_plain W hp (v := .int .u64 d) (by simp), Result.andThen_ok, run_equalIn_int W _ _ _ _ _ _ h31, Result.andThen_ok]
      cases h2 : (b == d) <;> simp
  simp only [binOp, go_sem]
  rw [Sem.run_bind, key]
  rfl

abbrev TxP (tb : Nat) (a b : Int) (W : World) : Prop := W.cell? ⟨tb, 0, none⟩ = some (.int .u64 a) ∧ W.cell? ⟨tb, 1, none⟩ = some (.int .u64 b)
theorem TxP.of {W : World} {tb : Nat} {a b : Int} {t : TypeId} (h : BoxN W tb t #[.int .u64 a, .int .u64 b]) : TxP tb a b W := ⟨h.cell 0 rfl, h.cell 1 rfl⟩

set_option maxRecDepth 100000 in
set_option maxHeartbeats 4000000 in
theorem Tryz.textOf (s : List UInt8) (w : World) (hs : s.length < 4294967281) (ha : ∀ b ∈ s, b.toNat < 128) (hE : Tryz.Env w) (h9 : 9 ≤ w.heap.size) (hG : Tryz.ErrT w) :
    Calls Tryz.prog 185 #[.string ⟨s.toArray⟩] w fun e w' => e = .returned (.tuple #[.string ⟨(txtL s).toArray⟩, .bool (wholeB s)]) ∧ Below w.heap.size w w' := by
  obtain ⟨-, a1, l0, l1⟩ := cut_sub s [32]
  obtain ⟨-, a2, l2, l3⟩ := cut_sub (Lib.cut s [32]).2.1 [32]
  have hC1 := fun W (hb : Below w.heap.size w W) => Tryz.cut s [32] W hs (hG.below (hb.mono h9))
  have hC2 := fun W (hb : Below w.heap.size w W) => Tryz.cut (Lib.cut s [32]).2.1 [32] W (by omega) (hG.below (hb.mono h9))
  have hU1 := fun W (hb : Below w.heap.size w W) => Tryz.parseU (Lib.cut s [32]).1 (by omega) W (hE.below hb (by omega))
  have hU2 := fun W (hb : Below w.heap.size w W) => Tryz.parseU (Lib.cut (Lib.cut s [32]).2.1 [32]).1 (by omega) W (hE.below hb (by omega))
  have hM := fun W => Tryz.markOf (txtL s) W (by unfold txtL; omega) (fun b hb => ha b (a1 b (a2 b hb)))
  have hq := Tryz.markEq
  have hw : Hid (wholeB s = (puV (Lib.cut s [32]).1 == ((txtL s).length : Int) && puV (Lib.cut (Lib.cut s [32]).2.1 [32]).1 == sumI (txtL s))) := hid_intro rfl
  unfold txtL at *
  generalize wholeB s = wh at *
  generalize puV (Lib.cut s [32]).1 = p1 at *
  generalize puV (Lib.cut (Lib.cut s [32]).2.1 [32]).1 = p2 at *
  generalize Lib.cut s [32] = x1 at *
  obtain ⟨n1, r1, f1⟩ := x1
  simp only at *
  generalize Lib.cut r1 [32] = x2 at *
  obtain ⟨n2, r2, f2⟩ := x2
  simp only at *
  generalize sumI r2 = sm at *
  obtain ⟨ln, hln⟩ : ∃ ln : Int, (r2.length : Int) = ln := ⟨_, rfl⟩
  simp only [hln] at hM hw
  clear hln a1 a2 l0 l1 l2 l3 ha hs
  have bT0 := BoxN.new w 269 #[.int .u64 0, .int .u64 0]
  have hB0 : Below w.heap.size w (w.alloc (.cells #[.int .u64 0, .int .u64 0] 269)) := (Below.refl _ w).alloc (Nat.le_refl _) _
  go_enter Tryz.func185, Tryz.ntmps185
  go_wp2
  refine wp_loop_rounds 3 ?_
  rw [rounds_succ]
  go_wp2_with (first
    | (go_at_call 213; refine (hC1 _ hB0).mono ?_; rintro e w1 ⟨rfl, hb1⟩; have hB1 := hB0.trans (hb1.mono (by simp)); have bT1 := bT0.below hb1 (by simp))
    | (go_at_call 118; refine (hU1 _ hB1).mono ?_; rintro e w2 ⟨er, rfl, hb2⟩; have hB2 := hB1.trans (hb2.mono hB1.size); have bT2 := bT1.below hb2 bT1.lt; have c0 := bT2.cell 0 (v := .int .u64 0) rfl; have g0 := bT2.frozen 0))
  have hB3 := hB2.setCell (p := ⟨w.heap.size, 0, none⟩) (Nat.le_refl _) (.int .u64 p1)
  have bT3 := bT2.set 0 (.int .u64 p1)
  clear c0 g0 hC1 hU1
  rw [rounds_succ]
  go_wp2_with (first
    | (go_at_call 213; refine (hC2 _ hB3).mono ?_; rintro e w4 ⟨rfl, hb4⟩; have hB4 := hB3.trans (hb4.mono (by simpa using hB2.size)); have bT4 := bT3.below hb4 (by simpa using bT2.lt))
    | (go_at_call 118; refine (hU2 _ hB4).mono ?_; rintro e w5 ⟨er2, rfl, hb5⟩; have hB5 := hB4.trans (hb5.mono hB4.size); have bT5 := bT4.below hb5 bT4.lt; have c1 := bT5.cell 1 (v := .int .u64 0) rfl; have g1 := bT5.frozen 1))
  have hB6 := hB5.setCell (p := ⟨w.heap.size, 1, none⟩) (Nat.le_refl _) (.int .u64 p2)
  have bT6 := bT5.set 1 (.int .u64 p2)
  have hP6 : TxP w.heap.size p1 p2 (w5.setCell ⟨w.heap.size, 1, none⟩ (.int .u64 p2)).drew := TxP.of (t := 269) bT6
  have l6 := bT6.lt
  clear c1 g1 hC2 hU2
  rw [rounds_succ]
  go_wp2
  go_region_held3 (TxP w.heap.size p1 p2) (first
    | with_reducible exact hP6
    | with_reducible exact hP7
    | with_reducible assumption) (first
    | (go_at_call 177; refine (hM _).mono ?_; rintro e w7 ⟨rfl, hb7⟩; have hP7 : TxP w.heap.size p1 p2 w7 := TxP.of (t := 269) (BoxN.below (W := (w5.setCell ⟨w.heap.size, 1, none⟩ (.int .u64 p2)).drew) bT6 hb7 l6); have hB7 := hB6.drew.trans (hb7.mono (by simpa using hB5.size))))
  all_goals
    go_wp2
    go_ret2
    exact ⟨by rw [hid_elim hw]; rfl, hB7⟩
end Go.Proofs

/-
  Sorting what has nothing in it.
-/
namespace Go.Proofs
open Go.RowKit Go.Sort Go.Maps Go.WideMaps

set_option maxRecDepth 100000 in
set_option maxHeartbeats 2000000 in
theorem Tryz.insU64_nil (w : World) : Calls Tryz.prog 254 #[.slice none 0 0, .int .i64 0, .int .i64 0] w fun e w' => e = .returned (.tuple #[]) ∧ w' = w := by
  go_enter Tryz.func254, Tryz.ntmps254
  go_wp2
  refine wp_loop_rounds 1 ?_
  rw [rounds_succ]
  go_wp2
  go_end0
  exact ⟨rfl, rfl⟩
set_option maxRecDepth 100000 in
set_option maxHeartbeats 2000000 in
theorem Tryz.pdqU64_nil (w : World) (lim : Int) : Calls Tryz.prog 232 #[.slice none 0 0, .int .i64 0, .int .i64 0, .int .i64 lim] w fun e w' => e = .returned (.tuple #[]) ∧ w' = w := by
  have hI := fun W => Tryz.insU64_nil W
  go_enter Tryz.func232, Tryz.ntmps232
  go_wp2
  refine wp_loop_rounds 1 ?_
  rw [rounds_succ]
  go_wp2_with (go_at_call 254; refine (hI _).mono ?_; rintro e w1 ⟨rfl, rfl⟩)
  exact bodyPost_ret (v := .tuple #[]) (by simp [results, Tryz.results232, go_sem]) rfl ⟨rfl, rfl⟩
set_option maxRecDepth 100000 in
set_option maxHeartbeats 2000000 in
theorem Tryz.insStr_nil (w : World) : Calls Tryz.prog 317 #[.slice none 0 0, .int .i64 0, .int .i64 0] w fun e w' => e = .returned (.tuple #[]) ∧ w' = w := by
  go_enter Tryz.func317, Tryz.ntmps317
  go_wp2
  refine wp_loop_rounds 1 ?_
  rw [rounds_succ]
  go_wp2
  go_end0
  exact ⟨rfl, rfl⟩
set_option maxRecDepth 100000 in
set_option maxHeartbeats 2000000 in
theorem Tryz.pdqStr_nil (w : World) (lim : Int) : Calls Tryz.prog 316 #[.slice none 0 0, .int .i64 0, .int .i64 0, .int .i64 lim] w fun e w' => e = .returned (.tuple #[]) ∧ w' = w := by
  have hI := fun W => Tryz.insStr_nil W
  go_enter Tryz.func316, Tryz.ntmps316
  go_wp2
  refine wp_loop_rounds 1 ?_
  rw [rounds_succ]
  go_wp2_with (go_at_call 317; refine (hI _).mono ?_; rintro e w1 ⟨rfl, rfl⟩)
  exact bodyPost_ret (v := .tuple #[]) (by simp [results, Tryz.results316, go_sem]) rfl ⟨rfl, rfl⟩
set_option maxRecDepth 100000 in
set_option maxHeartbeats 2000000 in
theorem Tryz.bitsLen0 (w : World) : Calls Tryz.prog 226 #[.int .u64 0] w fun e w' => (∃ z : Int, e = .returned (.int .i64 z)) ∧ w' = w := by
  go_enter Tryz.func226, Tryz.ntmps226
  go_wp2
  go_ret
  exact ⟨⟨_, rfl⟩, rfl⟩
set_option maxRecDepth 100000 in
set_option maxHeartbeats 2000000 in
theorem Tryz.sortU64_nil (w : World) : Calls Tryz.prog 211 #[.slice none 0 0] w fun e w' => e = .returned (.tuple #[]) ∧ w' = w := by
  have hL := fun W => Tryz.bitsLen0 W
  have hI := fun W lim => Tryz.pdqU64_nil W lim
  go_enter Tryz.func211, Tryz.ntmps211
  go_wp2_with (first
    | (go_at_call 226; refine (hL _).mono ?_; rintro e w1 ⟨⟨z, rfl⟩, rfl⟩)
    | (go_at_call 232; refine (hI _ _).mono ?_; rintro e w2 ⟨rfl, rfl⟩))
  go_end0
  exact ⟨rfl, rfl⟩
set_option maxRecDepth 100000 in
set_option maxHeartbeats 2000000 in
theorem Tryz.slSortStr_nil (w : World) : Calls Tryz.prog 315 #[.slice none 0 0] w fun e w' => e = .returned (.tuple #[]) ∧ w' = w := by
  have hL := fun W => Tryz.bitsLen0 W
  have hI := fun W lim => Tryz.pdqStr_nil W lim
  go_enter Tryz.func315, Tryz.ntmps315
  go_wp2_with (first
    | (go_at_call 226; refine (hL _).mono ?_; rintro e w1 ⟨⟨z, rfl⟩, rfl⟩)
    | (go_at_call 316; refine (hI _ _).mono ?_; rintro e w2 ⟨rfl, rfl⟩))
  go_end0
  exact ⟨rfl, rfl⟩
set_option maxHeartbeats 1000000 in
theorem Tryz.sortStrings_nil (w : World) : Calls Tryz.prog 312 #[.slice none 0 0] w fun e w' => e = .returned (.tuple #[]) ∧ w' = w := by
  have hI := fun W => Tryz.slSortStr_nil W
  go_enter Tryz.func312, Tryz.ntmps312
  go_wp2_with (go_at_call 315; refine (hI _).mono ?_; rintro e w2 ⟨rfl, rfl⟩)
  go_end0
  exact ⟨rfl, rfl⟩

set_option maxRecDepth 100000 in
set_option maxHeartbeats 2000000 in
/-- Names of an empty disk. -/
theorem Tryz.dNames_nil (db md mn : Nat) (fd : Option (Nat × List UInt8)) (l f : Int) (w : World) (hD : Tryz.DiskAt w db md mn fd none (.slice none 0 0) l f) :
    Calls Tryz.prog 306 #[.pointer (some ⟨db, 0, none⟩)] w fun e w' => e = .returned (.tuple #[.slice none 0 0, .nilIface]) ∧ Below w.heap.size w w' := by
  have hS := fun W => Tryz.sortStrings_nil W
  have d1 := hD.box.cell 1 (v := .map (some mn)) rfl
  have d5 := hD.box.cell 5 (v := .bool false) rfl
  obtain ⟨n, hn, hown⟩ := hD.nm
  change w.ownsMap Tryz.prog 9 valR mn n (.map []) at hown
  go_enter Tryz.func306, Tryz.ntmps306
  go_wp2_with (first
    | (at_range; refine wpList_range_own _ rfl _ 97 rfl 9 101 (string_keyed Tryz.underlying9) Tryz.underlying97 _ mn n _ rfl hown ?_; intro w1 hrg hg1 hs1)
    | go_in)
  have HB := hid_intro (show Below w.heap.size w w1 from ⟨hg1.os, hg1.tape, hg1.output, hg1.size, fun k hk => hg1.block k hk (by simp)⟩)
  clear hg1 hs1 hown d1 d5
  refine wp_loop_rounds 1 ?_
  rw [rounds_succ]
  go_wp2_with (first
    | (at_next; refine wpList_next_ranges _ rfl _ rfl 9 (string_keyed Tryz.underlying9) valR (fun v : Value => v) (fun v : Value => v) (fun v _ _ => ⟨v, rfl⟩) (fun v _ _ => ⟨v, rfl⟩) mn _ n _ _ _ rfl hrg ?_ ?_)
    | go_in)
  · intro _ _
    clear hrg
    go_wp2_with (go_at_call 312; refine (hS _).mono ?_; rintro e w2 ⟨rfl, rfl⟩)
    exact bodyPost_ret (v := .tuple #[.slice none 0 0, .nilIface]) (by simp [results, Tryz.results306, go_sem]) rfl ⟨rfl, hid_elim HB⟩
  · intro x c kl y yp w' cnt' _ h2
    have h3 : false = true := h2
    cases h3
set_option maxHeartbeats 1000000 in
/-- Read of a file that is not there. -/
theorem Tryz.dRead_none (db md mn : Nat) (fd : Option (Nat × List UInt8)) (l f : Int) (w : World) (hD : Tryz.DiskAt w db md mn fd none (.slice none 0 0) l f) :
    Calls Tryz.prog 307 #[.pointer (some ⟨db, 0, none⟩), .string ⟨#[106, 111, 117, 114, 110, 97, 108]⟩] w fun e w' => e = .returned (.tuple #[.slice none 0 0, .iface 33 (.int .i64 6)]) ∧ w' = w := by
  have d1 := hD.box.cell 1 (v := .map (some mn)) rfl
  have d5 := hD.box.cell 5 (v := .bool false) rfl
  obtain ⟨n, hn, hown⟩ := hD.nm
  have hL := Tryz.lookF_no hown
  go_enter Tryz.func307, Tryz.ntmps307
  go_wp2
  exact bodyPost_ret (v := .tuple #[.slice none 0 0, .iface 33 (.int .i64 6)]) (by simp [results, Tryz.results307, go_sem]) rfl ⟨rfl, rfl⟩
end Go.Proofs
