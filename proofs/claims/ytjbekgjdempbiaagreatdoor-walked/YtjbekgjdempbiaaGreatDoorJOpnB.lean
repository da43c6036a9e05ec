import Derived.Test.YtjbekgjdempbiaaGreatDoorJTkM
import Derived.Test.YtjbekgjdempbiaaGreatDoorJHostW
import Derived.Deep.RegionHeld3
import Derived.Test.YtjbekgjdempbiaaGreatDoorJSys
import Derived.Test.YtjbekgjdempbiaaGreatDoorJParse
import Derived.Test.YtjbekgjdempbiaaGreatDoorJWhole
import Derived.ChangeKeysEq
import Derived.Test.YtjbekgjdempbiaaGreatDoorJDiskC
import Derived.Maps.RangeWalk
import Derived.Test.YtjbekgjdempbiaaGreatDoorJSortBase
/-
  plain.Host: Tick, the disk being well.
-/
namespace Go.Proofs
open Go.RowKit Go.Sort Go.Lib Go.Shelf Go.Maps Go.WideMaps

abbrev Tryz.CallsP (hb rb : Nat) (c : Value) (W : World) : Prop := W.cell? ⟨hb, 1, none⟩ = some (.pointer (some ⟨rb, 0, none⟩)) ∧ W.cell? ⟨rb, 0, none⟩ = some c
/-- what a Tick of the host turns. -/
def htBs (k : Blk) (rb : Nat) (due : Value) : List Nat := tickBs k rb (.slice none 0 0) due

set_option maxRecDepth 100000 in
set_option maxHeartbeats 4000000 in
theorem Tryz.hTick (B hb rb : Nat) (σ : SS) (w : World) (hS : Tryz.Sys B w hb rb σ) (hbw : B ≤ w.heap.size) (hTr : Tree σ.s) (h50 : σ.s.tks.length + σ.s.lks.length ≤ 50) (M : Int) (hM : M ≤ 9000000000000000000) (hMB : TrB M σ.s) (hc : σ.c.length ≤ 890000000000) (f now : Int) (f0 : 0 ≤ f) (f1 : f ≤ 18446744073709551615) (hn0 : 0 ≤ now) (hn1 : now ≤ 18446744073709551615) (cc dd : Int) :
    Calls Tryz.prog 22 #[.pointer (some ⟨hb, 0, none⟩), .int .u64 now, .int .u64 f, fallV (-1) (-1) cc dd] w fun e w' => ∃ vx' v' b, e = .returned (.tuple #[v', .int .i64 0]) ∧ Tries (max σ.tm now) ⟨σ.s, σ.s.tks.flatMap (dueT σ.s (max σ.tm now)) ++ σ.s.lks.flatMap (dueL (max σ.tm now)), f, σ.c, []⟩ b ∧ b.q = [] ∧ Tryz.Sys B w' hb rb ⟨σ.k, vx', max σ.tm now, b.s, b.c⟩ ∧ w'.ownsRow B 9 1 v' b.cl.length (b.cl.map fun p => .string ⟨(nmStr p.1 p.2).toArray⟩) ∧ Going (max σ.tm now) (M + b.cl.length) b ∧ (b.cl.length ≤ 150 ∧ b.c.length ≤ σ.c.length + 1300000 * b.cl.length ∧ b.s.tks.length + b.s.lks.length ≤ 50) ∧ Spares (htBs σ.k rb σ.vx.due) w w' := by
  obtain ⟨k, vx, tm, s, c⟩ := σ
  simp only at hTr h50 hMB hc ⊢
  obtain ⟨fd, fn, hD, e1, e2⟩ := hS.wh.d
  obtain ⟨ra, rc, hR⟩ := hS.rvb
  have hH := hS.host
  have hne := hH.ne hD.box (by decide)
  have hrd := hR.ne hD.box (by decide)
  have hbs := hS.turns_host
  have hdb : k.db ∈ k.turns := by simp [Blk.turns]
  have hdb2 : k.db ∈ htBs k rb vx.due := by simp [htBs, tickBs, Blk.turns]
  have lH := hH.lt
  have lD := hD.box.lt
  have lR := hR.lt
  have h9 := hS.nine
  have hB0 : Below w.heap.size w (w.alloc (.cells #[.int .i64 (-1), .int .i64 (-1), .int .i64 cc, .int .i64 dd] 29)) := (Below.refl _ w).alloc (Nat.le_refl _) _
  have bF := BoxN.new w 29 #[.int .i64 (-1), .int .i64 (-1), .int .i64 cc, .int .i64 dd]
  have h2 := hH.cell 2 (v := .pointer (some ⟨k.vb, 0, none⟩)) rfl
  have hBf := Tryz.before hb k.db _ _ _ _ _ _ _ _ (-1) (-1) cc dd _ (hH.alloc (.cells #[.int .i64 (-1), .int .i64 (-1), .int .i64 cc, .int .i64 dd] 29)) (hD.box.alloc _)
  have hW0 := hS.wh.below hB0
  unfold fallV at hBf ⊢
  go_enter Tryz.func22, Tryz.ntmps22
  go_wp2_with (go_at_call 40; refine hBf.mono ?_; rintro e w1 ⟨rfl, bD1, hg1⟩)
  have hs1 : Spares [k.db] w w1 := (Spares.of_below hB0).trans (Spares.of_grown hg1 (by simp))
  have bH1 := hs1.box hH (fun hm => hne (List.mem_singleton.1 hm))
  have bR1 := hs1.box hR (fun hm => hrd (List.mem_singleton.1 hm))
  have bF1 := bF.kept hg1 (by intro e; injection e with e; omega)
  have hW1 := hW0.setLF (Spares.of_grown hg1 (by simp)) bD1
  have hdue1 := hs1.row' hS.due (fun g hg hm => by
    obtain ⟨-, cur, hB⟩ := row_box hS.due hg
    exact hB.ne hD.box (by decide) (List.mem_singleton.1 hm))
  have r1 := bH1.cell 1 (v := .pointer (some ⟨rb, 0, none⟩)) rfl
  have cc0 := bR1.cell 0 (v := ra) rfl
  have cc1 := bR1.cell 1 (v := rc) rfl
  have ff0 := bR1.frozen 0
  have ff1 := bR1.frozen 1
  have hHR := bH1.ne bR1 (by decide)
  have hz1 := hs1.size
  clear hBf hg1 h2 hB0 hW0
  go_region
  have bR2 : BoxN ((w1.setCell ⟨rb, 0, none⟩ (.slice none 0 0)).setCell ⟨rb, 1, none⟩ (.int .u64 f)).drew rb 88 #[.slice none 0 0, .int .u64 f] := (bR1.set 0 (.slice none 0 0)).set 1 (.int .u64 f)
  have hSr : Spares [rb] w1 ((w1.setCell ⟨rb, 0, none⟩ (.slice none 0 0)).setCell ⟨rb, 1, none⟩ (.int .u64 f)).drew := (((Spares.of_below (Below.refl _ w1)).set (by simp) _ _).set (by simp) _ _).drew
  clear r1 cc0 cc1 ff0 ff1
  generalize ((w1.setCell ⟨rb, 0, none⟩ (.slice none 0 0)).setCell ⟨rb, 1, none⟩ (.int .u64 f)).drew = W2 at *
  have hrb9 : 9 ≤ rb := Nat.le_trans hS.b9 hS.rlow
  have hW2 := hW1.spared hSr (fun b hb hm => Tryz.Sys.turns_rev hS b hb (List.mem_singleton.1 hm)) (fun hm => hW1.j.ne bR1 (by decide) (List.mem_singleton.1 hm)) (fun b x hx hm => hx.ne bR1 (by decide) (List.mem_singleton.1 hm)) (fun b hb => by rw [List.mem_singleton.1 hb]; omega)
  have bH2 := hSr.box bH1 (fun hm => hHR (List.mem_singleton.1 hm))
  have bF2 := hSr.box bF1 (fun hm => bF1.ne bR1 (by decide) (List.mem_singleton.1 hm))
  have hdue2 := hSr.row' hdue1 (fun g hg hm => by
    obtain ⟨-, cur, hB⟩ := row_box hdue1 hg
    exact hB.ne bR1 (by decide) (List.mem_singleton.1 hm))
  have hz2 := hSr.size
  have hs2 : Spares (htBs k rb vx.due) w W2 := (hs1.mono (fun b hb => by rw [List.mem_singleton.1 hb]; exact hdb2)).trans (hSr.mono (fun b hb => by rw [List.mem_singleton.1 hb]; simp [htBs, tickBs]))
  have hA2 : Tryz.TAt B W2 k vx tm s c (-1) (-1) rb f (.slice none 0 0) [] [] := by
    obtain ⟨fd2, fn2, hD2, d1, d2⟩ := hW2.d
    exact ⟨hW2, ⟨fd2, fn2, hD2, ⟨d1, d2⟩, (fun _ _ e => by simp [Value.ownBlock] at e), (fun _ _ e => by simp [Value.ownBlock] at e)⟩, hdue2, heap_nil, bR2, World.ownsRow_nil _ _ _ _, hS.low, hS.rlow, hS.b9, by omega, hS.vrv⟩
  have hTk := Tryz.vTick B k vx tm s c (-1) (-1) rb f (.slice none 0 0) W2 hA2 hS.vtk hTr h50 M hM hMB (by decide) (by decide) (by decide) (by decide) hc f0 f1 now hn0 hn1
  have hnt : ∀ {q : Nat} {t : TypeId} {cs : Array Value}, BoxN W2 q t cs → t ≠ 126 → t ≠ 100 → t ≠ 88 → t ≠ 144 → q ∉ tickBs k rb (.slice none 0 0) vx.due := fun hB h1 h2 h3 h4 hm => by
    simp only [tickBs, List.mem_append, List.mem_cons] at hm
    rcases hm with hm | e | e | e
    · exact hW2.no hB h1 h2 hm
    · exact hB.ne bR2 h3 e
    · simp [Value.ownBlock] at e
    · obtain ⟨-, cs, hB'⟩ := row_box hdue2 (by simpa using e)
      exact hB.ne hB' h4 rfl
  have hs9 : ∀ q ∈ tickBs k rb (.slice none 0 0) vx.due, 9 ≤ q := fun q hm => by
    simp only [tickBs, List.mem_append, List.mem_cons] at hm
    rcases hm with hm | rfl | e | e
    · exact (hbs q hm).1
    · exact hrb9
    · simp [Value.ownBlock] at e
    · exact Nat.le_trans hS.b9 (row_box hdue2 (by simpa using e)).1
  have h22 := bH2.cell 2 (v := .pointer (some ⟨k.vb, 0, none⟩)) rfl
  clear hW1 bH1 bF1 hdue1 hSr bR1 bD1
  go_wp2_with (first
    | (go_at_call 46; refine hTk.mono ?_; rintro e w3 ⟨rfl, vx', v', b, l', f', hTs, hbq, hA3, htk3, hgo3, hcl3, hsp3⟩; have bH3 := hsp3.box bH2 (hnt bH2 (by decide) (by decide) (by decide) (by decide)); have bF3 := hsp3.box bF2 (hnt bF2 (by decide) (by decide) (by decide) (by decide)); obtain ⟨fd3, fn3, hD3, -, -⟩ := hA3.wh.d; have g0 := bF3.cell 0 (v := .int .i64 (-1)) rfl; have g1 := bF3.cell 1 (v := .int .i64 (-1)) rfl; have g2 := bF3.cell 2 (v := .int .i64 cc) rfl; have g3 := bF3.cell 3 (v := .int .i64 dd) rfl; have hBa := Tryz.after hb k.db _ _ _ _ _ _ _ (-1) (-1) cc dd _ bH3 hD3.box; unfold fallV at hBa; have HS3 := hid_intro hsp3; clear hsp3)
    | (go_at_call 42; refine hBa.mono ?_; rintro e w4 ⟨rfl, bD4, hg4⟩; have HG4 := hid_intro hg4; clear hg4))
  have hg4 := hid_elim HG4
  have hsp3 := hid_elim HS3
  have hs4 : Spares [k.db] w3 w4 := Spares.of_grown hg4 (by simp)
  have bH4 := hs4.box bH3 (fun hm => hne (List.mem_singleton.1 hm))
  have bR4 := hs4.box hA3.rbx (fun hm => hA3.rbx.ne hD3.box (by decide) (List.mem_singleton.1 hm))
  have hW4 := hA3.wh.setLF hs4 bD4
  have hrow4 := hs4.row' hA3.row (fun g hg hm => by
    obtain ⟨-, cur, hB⟩ := row_box hA3.row hg
    exact hB.ne hD3.box (by decide) (List.mem_singleton.1 hm))
  have hdue4 := hs4.row' hA3.due (fun g hg hm => by
    obtain ⟨-, cur, hB⟩ := row_box hA3.due hg
    exact hB.ne hD3.box (by decide) (List.mem_singleton.1 hm))
  have hsw : Spares (htBs k rb vx.due) w w4 := (hs2.trans hsp3).trans (hs4.mono (fun b hb => by rw [List.mem_singleton.1 hb]; exact hdb2))
  have hE4 : Tryz.ErrT w4 := hS.err.below (hsw.below h9 (fun q hq => hs9 q hq))
  have hSy : Tryz.Sys B w4 hb rb ⟨k, vx', max tm now, b.s, b.c⟩ := { host := bH4, wh := hW4, err := hE4, b9 := hS.b9, hlow := hS.hlow, low := hS.low, rvb := ⟨_, _, bR4⟩, rlow := hS.rlow, vrv := hA3.vrv, vtk := htk3, due := hdue4 }
  have hP4 : Tryz.CallsP hb rb v' w4 := ⟨bH4.cell 1 rfl, bR4.cell 0 rfl⟩
  clear HG4 HS3 hg4 hsp3 hs4 hW4 hA3 hdue4 bH3 hD3 bF3 g0 g1 g2 g3 hBa hTk hnt hs9 hA2 hE4 hW2 hs2 bH2 bF2 hdue2 h22 bR2 bH4 bR4 bD4
  refine wp_region_held_drew (S := Tryz.CallsP hb rb v') (by kernel_rfl) hP4 (fun hS0 => ?_)
  refine wpAnyH_take (i := 0) (v := ?v0) rfl (by kernel_rfl) (by kernel_rfl) (by kernel_rfl) (fun _ _ _ h => h) (Or.inl ⟨by rfl, ?y0⟩) hS0 ?_
  case y0 => (intro w hSw; obtain ⟨q0, q1⟩ := hSw; go_simp; try with_reducible rfl)
  refine wpAnyH_take (i := 1) (v := ?v1) rfl (by kernel_rfl) (by kernel_rfl) (by kernel_rfl) (fun _ _ _ h => h) (Or.inl ⟨by rfl, ?y1⟩) hS0 ?_
  case y1 => (intro w hSw; obtain ⟨q0, q1⟩ := hSw; go_simp; try with_reducible rfl)
  refine wpAnyH_take (i := 2) (v := ?v2) rfl (by kernel_rfl) (by kernel_rfl) (by kernel_rfl) (fun _ _ _ h => h) (Or.inl ⟨by rfl, ?y2⟩) hS0 ?_
  case y2 => (intro w hSw; obtain ⟨q0, q1⟩ := hSw; go_simp; try with_reducible rfl)
  refine wpAnyH_take (i := 3) (v := ?v3) rfl (by kernel_rfl) (by kernel_rfl) (by kernel_rfl) (fun _ _ _ h => h) (Or.inl ⟨by rfl, ?y3⟩) hS0 ?_
  case y3 => (intro w hSw; obtain ⟨q0, q1⟩ := hSw; go_simp; try with_reducible rfl)
  refine wpAnyH_take (i := 4) (v := ?v4) rfl (by kernel_rfl) (by kernel_rfl) (by kernel_rfl) (fun _ _ _ h => h) (Or.inl ⟨by rfl, ?y4⟩) hS0 ?_
  case y4 => (intro w hSw; obtain ⟨q0, q1⟩ := hSw; go_simp; try with_reducible rfl)
  refine wpAnyH_take (i := 5) (v := ?v5) rfl (by kernel_rfl) (by kernel_rfl) (by kernel_rfl) (fun _ _ _ h => h) (Or.inl ⟨by rfl, ?y5⟩) hS0 ?_
  case y5 => (intro w hSw; obtain ⟨q0, q1⟩ := hSw; go_simp; try with_reducible rfl)
  refine wpAnyH_take (i := 6) (v := ?v6) rfl (by kernel_rfl) (by kernel_rfl) (by kernel_rfl) (fun _ _ _ h => h) (Or.inl ⟨by rfl, ?y6⟩) hS0 ?_
  case y6 => (intro w hSw; obtain ⟨q0, q1⟩ := hSw; go_simp; try with_reducible rfl)
  refine wpAnyH_take (i := 7) (v := ?v7) rfl (by kernel_rfl) (by kernel_rfl) (by kernel_rfl) (fun _ _ _ h => h) (Or.inl ⟨by rfl, ?y7⟩) hS0 ?_
  case y7 => (intro w hSw; obtain ⟨q0, q1⟩ := hSw; go_simp; try with_reducible rfl)
  refine wpAnyH_ready (rs := [8]) (by kernel_rfl) (by simp) ?_
  refine AllReadyH.cons rfl (fun K hK => ?_) AllReadyH.nil
  go_simp
  refine (Tryz.told_nil _).mono ?_
  rintro e w5 ⟨rfl, hb5⟩
  have hb45 : Below w4.heap.size w4 w5 := ((Below.refl _ w4).drew).trans hb5
  have hP5 : Tryz.CallsP hb rb v' w5 := ⟨cell_later hb45 hP4.1, cell_later hb45 hP4.2⟩
  refine hK.out _ _ hP5 (fun hS1 => ?_)
  clear hK K
  refine wpAnyH_take (i := 9) (v := ?v9) rfl (by kernel_rfl) (by kernel_rfl) (by kernel_rfl) (fun _ _ _ h => h) (Or.inl ⟨by rfl, ?y9⟩) hS1 ?_
  case y9 => (intro w hSw; obtain ⟨q0, q1⟩ := hSw; go_simp; try with_reducible rfl)
  refine wpAnyH_take (i := 10) (v := ?v10) rfl (by kernel_rfl) (by kernel_rfl) (by kernel_rfl) (fun _ _ _ h => h) (Or.inl ⟨by rfl, ?y10⟩) hS1 ?_
  case y10 => (intro w hSw; obtain ⟨q0, q1⟩ := hSw; go_simp; try with_reducible rfl)
  refine wpAnyH_done (by kernel_rfl) ?_ _
  go_wp2
  exact bodyPost_ret (v := .tuple #[v', .int .i64 0]) (by simp [results, Tryz.results22, go_sem]) rfl ⟨vx', v', b, rfl, hTs, hbq, hSy.below hb45, by simpa using ownsRow_below hrow4 hb45, hgo3, hcl3, hsw.trans (Spares.of_below hb45)⟩
end Go.Proofs

/-
  A line taken apart; strings.Split, strings.Cut, strconv.ParseUint as the journal asks them.
-/
namespace Go.Proofs
open Go.RowKit Go.Sort Go.Lib Go.Shelf Go.Maps

theorem Tryz.cut (s sep : List UInt8) (w : World) (hs : s.length < 4294967281) (hG : Tryz.ErrT w) :
    Calls Tryz.prog 213 #[.string ⟨s.toArray⟩, .string ⟨sep.toArray⟩] w fun e w' => e = .returned (.tuple #[.string ⟨(Lib.cut s sep).1.toArray⟩, .string ⟨(Lib.cut s sep).2.1.toArray⟩, .bool (Lib.cut s sep).2.2]) ∧ Below w.heap.size w w' := by
  obtain ⟨-, m, hm⟩ := hG
  refine (Any.strings_Cut Tryz.laysCut ⟨s.toArray⟩ ⟨sep.toArray⟩ m w (by simpa [ByteArray.size] using hs) hm).mono ?_
  rintro e w' ⟨rfl, n, rfl⟩
  exact ⟨rfl, below_drewN (Below.refl _ _) n⟩
/-- what ParseUint makes of a text. -/
def puV (r : List UInt8) : Int := match Lib.parseUintB 64 r with
  | .ok u => (u : Int)
  | .range => 18446744073709551615
  | _ => 0
theorem Tryz.parseU (r : List UInt8) (hl : r.length ≤ 281474976710656) (w : World) (hE : Tryz.Env w) :
    Calls Tryz.prog 118 #[.string ⟨r.toArray⟩, .int .i64 10, .int .i64 64] w fun e w' => ∃ er, e = .returned (.tuple #[.int .u64 (puV r), er]) ∧ Below w.heap.size w w' := by
  have hsz : (⟨r.toArray⟩ : ByteArray).size ≤ 281474976710656 := by simpa [ByteArray.size] using hl
  cases hpp : Lib.parseUintB 64 r with
  | ok u =>
    have h := Any.strconv_ParseUint_10_at64_ok Tryz.laysPu14 ⟨r.toArray⟩ (by have := hsz; omega) u hpp w
    rw [show puV r = (u : Int) by simp only [puV, hpp]]
    refine h.mono ?_
    rintro e w' ⟨rfl, hw⟩
    exact ⟨_, rfl, Tryz.parseBelow hw⟩
  | range =>
    obtain ⟨tp, p, hv⟩ := hE.rng
    rw [show puV r = 18446744073709551615 by simp only [puV, hpp]]
    refine (Any.strconv_ParseUint_10_at64_range_var Tryz.laysPu14 ⟨r.toArray⟩ hsz hpp tp p _ hv).mono ?_
    rintro e w' ⟨N, rfl, -, -, h4⟩
    exact ⟨_, rfl, h4⟩
  | _ =>
    obtain ⟨tp, p, hv⟩ := hE.syn
    rw [show puV r = 0 by simp only [puV, hpp]]
    refine (Any.strconv_ParseUint_10_at64_syntax_var Tryz.laysPu14 ⟨r.toArray⟩ hsz hpp tp p _ hv).mono ?_
    rintro e w' ⟨N, rfl, -, -, h4⟩
    exact ⟨_, rfl, h4⟩
theorem puV_range (r : List UInt8) : 0 ≤ puV r ∧ puV r ≤ 18446744073709551615 := by
  unfold puV
  cases h : Lib.parseUintB 64 r with
  | ok u => have := parse_lt h; simp only; omega
  | _ => simp

/-- a line's text; is it whole? -/
def txtL (s : List UInt8) : List UInt8 := (Lib.cut (Lib.cut s [32]).2.1 [32]).2.1
def wholeB (s : List UInt8) : Bool := puV (Lib.cut s [32]).1 == ((txtL s).length : Int) && puV (Lib.cut (Lib.cut s [32]).2.1 [32]).1 == sumI (txtL s)
theorem cut_sub (s sep : List UInt8) : (∀ b ∈ (Lib.cut s sep).1, b ∈ s) ∧ (∀ b ∈ (Lib.cut s sep).2.1, b ∈ s) ∧ (Lib.cut s sep).1.length ≤ s.length ∧ (Lib.cut s sep).2.1.length ≤ s.length := by
  unfold Lib.cut
  split
  · exact ⟨fun b h => List.mem_of_mem_take h, fun b h => List.mem_of_mem_drop h, by simp; omega, by simp⟩
  · exact ⟨fun b h => h, fun b h => by simp at h, Nat.le_refl _, by simp⟩
theorem Tryz.cellsU64' : Tryz.prog.cellsOf 31 = 1 := by kernel_rfl
theorem Tryz.markEq (a b c d : Int) (W : World) : (binOp .eql 269 (.agg #[.int .u64 a, .int .u64 b]) (.agg #[.int .u64 c, .int .u64 d])).run Tryz.prog W = .ok (.bool (a == c && b == d)) W := by
  have hu := Tryz.underlying269
  obtain ⟨i, hi⟩ := info_of_underlying Tryz.underlying31
  have h31 := Tryz.underlying31
  have hp : Tryz.prog.plainKey 31 = true := by kernel_rfl
  have key : (Op.equal 269 (.agg #[.int .u64 a, .int .u64 b]) (.agg #[.int .u64 c, .int .u64 d])).run Tryz.prog W = .ok (a == c && b == d) W := by
    unfold Op.equal
    rw [show Op.maxDepth = (Op.maxDepth - 2 + 1) + 1 by decide]
    rw [run_equalIn_array W _ _ _ hu hi, Tryz.cellsU64']
    simp only [List.range_succ, List.range_zero, List.nil_append, List.cons_append, Op.eqItems, Sem.run_bind]
    rw [run_part_plain W hp (v := .int .u64 a) (by simp), Result.andThen_ok, run_part_plain W hp (v := .int .u64 c) (by simp), Result.andThen_ok, run_equalIn_int W _ _ _ _ _ _ h31, Result.andThen_ok]
    cases h1 : (a == c)
    · simp
    · simp only [Bool.not_true, Bool.false_eq_true, if_false, Sem.run_bind]
      rw [run_part_plain W hp (v := .int .u64 b) (by simp), Result.andThen_ok, run_part_plain W hp (v := .int .u64 d) (by simp), Result.andThen_ok, run_equalIn_int W _ _ _ _ _ _ h31, Result.andThen_ok]
      cases h2 : (b == d) <;> simp
  simp only [binOp, go_sem]
  rw [Sem.run_bind, key]
  rfl

abbrev TxP (tb : Nat) (a b : Int) (W : World) : Prop := W.cell? ⟨tb, 0, none⟩ = some (.int .u64 a) ∧ W.cell? ⟨tb, 1, none⟩ = some (.int .u64 b)
theorem TxP.of {W : World} {tb : Nat} {a b : Int} {t : TypeId} (h : BoxN W tb t #[.int .u64 a, .int .u64 b]) : TxP tb a b W := ⟨h.cell 0 rfl, h.cell 1 rfl⟩

set_option maxRecDepth 100000 in
set_option maxHeartbeats 4000000 in
theorem Tryz.textOf (s : List UInt8) (w : World) (hs : s.length < 4294967281) (ha : ∀ b ∈ s, b.toNat < 128) (hE : Tryz.Env w) (h9 : 9 ≤ w.heap.size) (hG : Tryz.ErrT w) :
    Calls Tryz.prog 185 #[.string ⟨s.toArray⟩] w fun e w' => e = .returned (.tuple #[.string ⟨(txtL s).toArray⟩, .bool (wholeB s)]) ∧ Below w.heap.size w w' := by
  obtain ⟨-, a1, l0, l1⟩ := cut_sub s [32]
  obtain ⟨-, a2, l2, l3⟩ := cut_sub (Lib.cut s [32]).2.1 [32]
  have hC1 := fun W (hb : Below w.heap.size w W) => Tryz.cut s [32] W hs (hG.below (hb.mono h9))
  have hC2 := fun W (hb : Below w.heap.size w W) => Tryz.cut (Lib.cut s [32]).2.1 [32] W (by omega) (hG.below (hb.mono h9))
  have hU1 := fun W (hb : Below w.heap.size w W) => Tryz.parseU (Lib.cut s [32]).1 (by omega) W (hE.below hb (by omega))
  have hU2 := fun W (hb : Below w.heap.size w W) => Tryz.parseU (Lib.cut (Lib.cut s [32]).2.1 [32]).1 (by omega) W (hE.below hb (by omega))
  have hM := fun W => Tryz.markOf (txtL s) W (by unfold txtL; omega) (fun b hb => ha b (a1 b (a2 b hb)))
  have hq := Tryz.markEq
  have hw : Hid (wholeB s = (puV (Lib.cut s [32]).1 == ((txtL s).length : Int) && puV (Lib.cut (Lib.cut s [32]).2.1 [32]).1 == sumI (txtL s))) := hid_intro rfl
  unfold txtL at *
  generalize wholeB s = wh at *
  generalize puV (Lib.cut s [32]).1 = p1 at *
  generalize puV (Lib.cut (Lib.cut s [32]).2.1 [32]).1 = p2 at *
  generalize Lib.cut s [32] = x1 at *
  obtain ⟨n1, r1, f1⟩ := x1
  simp only at *
  generalize Lib.cut r1 [32] = x2 at *
  obtain ⟨n2, r2, f2⟩ := x2
  simp only at *
  generalize sumI r2 = sm at *
  obtain ⟨ln, hln⟩ : ∃ ln : Int, (r2.length : Int) = ln := ⟨_, rfl⟩
  simp only [hln] at hM hw
  clear hln a1 a2 l0 l1 l2 l3 ha hs
  have bT0 := BoxN.new w 269 #[.int .u64 0, .int .u64 0]
  have hB0 : Below w.heap.size w (w.alloc (.cells #[.int .u64 0, .int .u64 0] 269)) := (Below.refl _ w).alloc (Nat.le_refl _) _
  go_enter Tryz.func185, Tryz.ntmps185
  go_wp2
  refine wp_loop_rounds 3 ?_
  rw [rounds_succ]
  go_wp2_with (first
    | (go_at_call 213; refine (hC1 _ hB0).mono ?_; rintro e w1 ⟨rfl, hb1⟩; have hB1 := hB0.trans (hb1.mono (by simp)); have bT1 := bT0.below hb1 (by simp))
    | (go_at_call 118; refine (hU1 _ hB1).mono ?_; rintro e w2 ⟨er, rfl, hb2⟩; have hB2 := hB1.trans (hb2.mono hB1.size); have bT2 := bT1.below hb2 bT1.lt; have c0 := bT2.cell 0 (v := .int .u64 0) rfl; have g0 := bT2.frozen 0))
  have hB3 := hB2.setCell (p := ⟨w.heap.size, 0, none⟩) (Nat.le_refl _) (.int .u64 p1)
  have bT3 := bT2.set 0 (.int .u64 p1)
  clear c0 g0 hC1 hU1
  rw [rounds_succ]
  go_wp2_with (first
    | (go_at_call 213; refine (hC2 _ hB3).mono ?_; rintro e w4 ⟨rfl, hb4⟩; have hB4 := hB3.trans (hb4.mono (by simpa using hB2.size)); have bT4 := bT3.below hb4 (by simpa using bT2.lt))
    | (go_at_call 118; refine (hU2 _ hB4).mono ?_; rintro e w5 ⟨er2, rfl, hb5⟩; have hB5 := hB4.trans (hb5.mono hB4.size); have bT5 := bT4.below hb5 bT4.lt; have c1 := bT5.cell 1 (v := .int .u64 0) rfl; have g1 := bT5.frozen 1))
  have hB6 := hB5.setCell (p := ⟨w.heap.size, 1, none⟩) (Nat.le_refl _) (.int .u64 p2)
  have bT6 := bT5.set 1 (.int .u64 p2)
  have hP6 : TxP w.heap.size p1 p2 (w5.setCell ⟨w.heap.size, 1, none⟩ (.int .u64 p2)).drew := TxP.of (t := 269) bT6
  have l6 := bT6.lt
  clear c1 g1 hC2 hU2
  rw [rounds_succ]
  go_wp2
  go_region_held3 (TxP w.heap.size p1 p2) (first
    | with_reducible exact hP6
    | with_reducible exact hP7
    | with_reducible assumption) (first
    | (go_at_call 177; refine (hM _).mono ?_; rintro e w7 ⟨rfl, hb7⟩; have hP7 : TxP w.heap.size p1 p2 w7 := TxP.of (t := 269) (BoxN.below (W := (w5.setCell ⟨w.heap.size, 1, none⟩ (.int .u64 p2)).drew) bT6 hb7 l6); have hB7 := hB6.drew.trans (hb7.mono (by simpa using hB5.size))))
  all_goals
    go_wp2
    go_ret2
    exact ⟨by rw [hid_elim hw]; rfl, hB7⟩
end Go.Proofs

/-
  Sorting what has nothing in it.
-/
namespace Go.Proofs
open Go.RowKit Go.Sort Go.Maps Go.WideMaps

set_option maxRecDepth 100000 in
set_option maxHeartbeats 2000000 in
theorem Tryz.insU64_nil (w : World) : Calls Tryz.prog 254 #[.slice none 0 0, .int .i64 0, .int .i64 0] w fun e w' => e = .returned (.tuple #[]) ∧ w' = w := by
  go_enter Tryz.func254, Tryz.ntmps254
  go_wp2
  refine wp_loop_rounds 1 ?_
  rw [rounds_succ]
  go_wp2
  go_end0
  exact ⟨rfl, rfl⟩
set_option maxRecDepth 100000 in
set_option maxHeartbeats 2000000 in
theorem Tryz.pdqU64_nil (w : World) (lim : Int) : Calls Tryz.prog 232 #[.slice none 0 0, .int .i64 0, .int .i64 0, .int .i64 lim] w fun e w' => e = .returned (.tuple #[]) ∧ w' = w := by
  have hI := fun W => Tryz.insU64_nil W
  go_enter Tryz.func232, Tryz.ntmps232
  go_wp2
  refine wp_loop_rounds 1 ?_
  rw [rounds_succ]
  go_wp2_with (go_at_call 254; refine (hI _).mono ?_; rintro e w1 ⟨rfl, rfl⟩)
  exact bodyPost_ret (v := .tuple #[]) (by simp [results, Tryz.results232, go_sem]) rfl ⟨rfl, rfl⟩
set_option maxRecDepth 100000 in
set_option maxHeartbeats 2000000 in
theorem Tryz.insStr_nil (w : World) : Calls Tryz.prog 317 #[.slice none 0 0, .int .i64 0, .int .i64 0] w fun e w' => e = .returned (.tuple #[]) ∧ w' = w := by
  go_enter Tryz.func317, Tryz.ntmps317
  go_wp2
  refine wp_loop_rounds 1 ?_
  rw [rounds_succ]
  go_wp2
  go_end0
  exact ⟨rfl, rfl⟩
set_option maxRecDepth 100000 in
set_option maxHeartbeats 2000000 in
theorem Tryz.pdqStr_nil (w : World) (lim : Int) : Calls Tryz.prog 316 #[.slice none 0 0, .int .i64 0, .int .i64 0, .int .i64 lim] w fun e w' => e = .returned (.tuple #[]) ∧ w' = w := by
  have hI := fun W => Tryz.insStr_nil W
  go_enter Tryz.func316, Tryz.ntmps316
  go_wp2
  refine wp_loop_rounds 1 ?_
  rw [rounds_succ]
  go_wp2_with (go_at_call 317; refine (hI _).mono ?_; rintro e w1 ⟨rfl, rfl⟩)
  exact bodyPost_ret (v := .tuple #[]) (by simp [results, Tryz.results316, go_sem]) rfl ⟨rfl, rfl⟩
set_option maxRecDepth 100000 in
set_option maxHeartbeats 2000000 in
theorem Tryz.bitsLen0 (w : World) : Calls Tryz.prog 226 #[.int .u64 0] w fun e w' => (∃ z : Int, e = .returned (.int .i64 z)) ∧ w' = w := by
  go_enter Tryz.func226, Tryz.ntmps226
  go_wp2
  go_ret
  exact ⟨⟨_, rfl⟩, rfl⟩
set_option maxRecDepth 100000 in
set_option maxHeartbeats 2000000 in
theorem Tryz.sortU64_nil (w : World) : Calls Tryz.prog 211 #[.slice none 0 0] w fun e w' => e = .returned (.tuple #[]) ∧ w' = w := by
  have hL := fun W => Tryz.bitsLen0 W
  have hI := fun W lim => Tryz.pdqU64_nil W lim
  go_enter Tryz.func211, Tryz.ntmps211
  go_wp2_with (first
    | (go_at_call 226; refine (hL _).mono ?_; rintro e w1 ⟨⟨z, rfl⟩, rfl⟩)
    | (go_at_call 232; refine (hI _ _).mono ?_; rintro e w2 ⟨rfl, rfl⟩))
  go_end0
  exact ⟨rfl, rfl⟩
set_option maxRecDepth 100000 in
set_option maxHeartbeats 2000000 in
theorem Tryz.slSortStr_nil (w : World) : Calls Tryz.prog 315 #[.slice none 0 0] w fun e w' => e = .returned (.tuple #[]) ∧ w' = w := by
  have hL := fun W => Tryz.bitsLen0 W
  have hI := fun W lim => Tryz.pdqStr_nil W lim
  go_enter Tryz.func315, Tryz.ntmps315
  go_wp2_with (first
    | (go_at_call 226; refine (hL _).mono ?_; rintro e w1 ⟨⟨z, rfl⟩, rfl⟩)
    | (go_at_call 316; refine (hI _ _).mono ?_; rintro e w2 ⟨rfl, rfl⟩))
  go_end0
  exact ⟨rfl, rfl⟩
set_option maxHeartbeats 1000000 in
theorem Tryz.sortStrings_nil (w : World) : Calls Tryz.prog 312 #[.slice none 0 0] w fun e w' => e = .returned (.tuple #[]) ∧ w' = w := by
  have hI := fun W => Tryz.slSortStr_nil W
  go_enter Tryz.func312, Tryz.ntmps312
  go_wp2_with (go_at_call 315; refine (hI _).mono ?_; rintro e w2 ⟨rfl, rfl⟩)
  go_end0
  exact ⟨rfl, rfl⟩

set_option maxRecDepth 100000 in
set_option maxHeartbeats 2000000 in
/-- Names of an empty disk. -/
theorem Tryz.dNames_nil (db md mn : Nat) (fd : Option (Nat × List UInt8)) (l f : Int) (w : World) (hD : Tryz.DiskAt w db md mn fd none (.slice none 0 0) l f) :
    Calls Tryz.prog 306 #[.pointer (some ⟨db, 0, none⟩)] w fun e w' => e = .returned (.tuple #[.slice none 0 0, .nilIface]) ∧ Below w.heap.size w w' := by
  have hS := fun W => Tryz.sortStrings_nil W
  have d1 := hD.box.cell 1 (v := .map (some mn)) rfl
  have d5 := hD.box.cell 5 (v := .bool false) rfl
  obtain ⟨n, hn, hown⟩ := hD.nm
  change w.ownsMap Tryz.prog 9 valR mn n (.map []) at hown
  go_enter Tryz.func306, Tryz.ntmps306
  go_wp2_with (first
    | (at_range; refine wpList_range_own _ rfl _ 97 rfl 9 101 (string_keyed Tryz.underlying9) Tryz.underlying97 _ mn n _ rfl hown ?_; intro w1 hrg hg1 hs1)
    | go_in)
  have HB := hid_intro (show Below w.heap.size w w1 from ⟨hg1.os, hg1.tape, hg1.output, hg1.size, fun k hk => hg1.block k hk (by simp)⟩)
  clear hg1 hs1 hown d1 d5
  refine wp_loop_rounds 1 ?_
  rw [rounds_succ]
  go_wp2_with (first
    | (at_next; refine wpList_next_ranges _ rfl _ rfl 9 (string_keyed Tryz.underlying9) valR (fun v : Value => v) (fun v : Value => v) (fun v _ _ => ⟨v, rfl⟩) (fun v _ _ => ⟨v, rfl⟩) mn _ n _ _ _ rfl hrg ?_ ?_)
    | go_in)
  · intro _ _
    clear hrg
    go_wp2_with (go_at_call 312; refine (hS _).mono ?_; rintro e w2 ⟨rfl, rfl⟩)
    exact bodyPost_ret (v := .tuple #[.slice none 0 0, .nilIface]) (by simp [results, Tryz.results306, go_sem]) rfl ⟨rfl, hid_elim HB⟩
  · intro x c kl y yp w' cnt' _ h2
    have h3 : false = true := h2
    cases h3
set_option maxHeartbeats 1000000 in
/-- Read of a file that is not there. -/
theorem Tryz.dRead_none (db md mn : Nat) (fd : Option (Nat × List UInt8)) (l f : Int) (w : World) (hD : Tryz.DiskAt w db md mn fd none (.slice none 0 0) l f) :
    Calls Tryz.prog 307 #[.pointer (some ⟨db, 0, none⟩), .string ⟨#[106, 111, 117, 114, 110, 97, 108]⟩] w fun e w' => e = .returned (.tuple #[.slice none 0 0, .iface 33 (.int .i64 6)]) ∧ w' = w := by
  have d1 := hD.box.cell 1 (v := .map (some mn)) rfl
  have d5 := hD.box.cell 5 (v := .bool false) rfl
  obtain ⟨n, hn, hown⟩ := hD.nm
  have hL := Tryz.lookF_no hown
  go_enter Tryz.func307, Tryz.ntmps307
  go_wp2
  exact bodyPost_ret (v := .tuple #[.slice none 0 0, .iface 33 (.int .i64 6)]) (by simp [results, Tryz.results307, go_sem]) rfl ⟨rfl, rfl⟩
end Go.Proofs

/-
  The journal of an empty disk, opened.
-/
namespace Go.Proofs
open Go.RowKit Go.Sort Go.Lib Go.Shelf Go.Maps

attribute [local go_sem] Oper.semAt_some

theorem Tryz.method_names (db : Nat) (w : World) : Sem.run Tryz.prog (method 517 74 (.pointer (some ⟨db, 0, none⟩)) "Names") w = .ok (306, .pointer (some ⟨db, 0, none⟩)) w := by kernel_rfl
theorem Tryz.method_read (db : Nat) (w : World) : Sem.run Tryz.prog (method 517 74 (.pointer (some ⟨db, 0, none⟩)) "Read") w = .ok (307, .pointer (some ⟨db, 0, none⟩)) w := by kernel_rfl
theorem Tryz.infoStr : (Tryz.prog.info? (Tryz.laysSplit_ren.t 9)).map (fun i => (i.zero, i.size, i.bytes)) = some (some (.string ByteArray.empty), 1, 16) := by kernel_rfl

set_option maxRecDepth 100000 in
set_option maxHeartbeats 2000000 in
theorem Tryz.tellAll_nil (tv : Value) (w : World) (hE : Tryz.Env w) (h9 : 9 ≤ w.heap.size) (hG : Tryz.ErrT w) :
    Calls Tryz.prog 147 #[.string ⟨#[]⟩, tv] w fun e w' => e = .returned (.tuple #[]) ∧ Below w.heap.size w w' := by
  have hG' := hG
  obtain ⟨-, m, hm⟩ := hG'
  have hSp := Any.strings_Split Tryz.laysSplit Tryz.infoStr ⟨#[]⟩ ⟨#[10]⟩ m w (by decide) hm (by decide)
  rw [show Lib.countB ⟨#[]⟩ ⟨#[10]⟩ = 0 by decide, show Lib.splitB ⟨#[10]⟩ 0 0 ⟨#[]⟩ = [⟨#[]⟩] by rfl] at hSp
  change Calls Tryz.prog 184 _ _ _ at hSp
  have hTx := fun W (hb : Below w.heap.size w W) => Tryz.textOf [] W (by decide) (by simp) (hE.below hb (by omega)) (Nat.le_trans h9 hb.size) (hG.below (hb.mono h9))
  rw [show wholeB [] = false by decide, show txtL [] = [] by rfl] at hTx
  have bS := BoxN.new w 9 #[.string ⟨#[]⟩]
  have hB0 : Below w.heap.size w (w.alloc (.cells #[.string ⟨#[]⟩] 9)) := (Below.refl _ w).alloc (Nat.le_refl _) _
  have s0 := bS.cell 0 (v := .string ⟨#[]⟩) rfl
  go_enter Tryz.func147, Tryz.ntmps147
  go_wp2_with (go_at_call 184; refine hSp.mono ?_; rintro e w1 ⟨rfl, rfl⟩)
  refine wp_loop_rounds 2 ?_
  rw [rounds_succ]
  go_wp2_with (go_at_call 185; refine (hTx _ hB0).mono ?_; rintro e w2 ⟨rfl, hb2⟩)
  rw [rounds_succ]
  go_wp2
  go_end0
  exact ⟨rfl, hB0.trans (hb2.mono (by simp))⟩

set_option maxRecDepth 100000 in
set_option maxHeartbeats 2000000 in
theorem Tryz.numbersOn_nil (db md mn : Nat) (fd : Option (Nat × List UInt8)) (l f : Int) (w : World) (hD : Tryz.DiskAt w db md mn fd none (.slice none 0 0) l f) :
    Calls Tryz.prog 180 #[Tryz.diskV db] w fun e w' => e = .returned (.tuple #[.slice none 0 0, .nilIface]) ∧ Below w.heap.size w w' := by
  have hm := fun W => Tryz.method_names db W
  have hN := Tryz.dNames_nil db md mn fd l f w hD
  have hS := fun W => Tryz.sortU64_nil W
  unfold Tryz.diskV
  go_enter Tryz.func180, Tryz.ntmps180
  go_wp2_with (go_at_call 306; refine hN.mono ?_; rintro e w1 ⟨rfl, hb1⟩)
  refine wp_loop_rounds 1 ?_
  rw [rounds_succ]
  go_wp2_with (go_at_call 211; refine (hS _).mono ?_; rintro e w2 ⟨rfl, rfl⟩)
  go_ret2
  exact ⟨rfl, hb1⟩

set_option maxRecDepth 100000 in
set_option maxHeartbeats 2000000 in
theorem Tryz.jFirst_nil (jb db md mn : Nat) (c1 c2 : Value) (fd : Option (Nat × List UInt8)) (l f : Int) (w : World) (hJ : BoxN w jb 212 #[Tryz.diskV db, c1, c2]) (hD : Tryz.DiskAt w db md mn fd none (.slice none 0 0) l f) :
    Calls Tryz.prog 183 #[.pointer (some ⟨jb, 0, none⟩)] w fun e w' => e = .returned (.tuple #[.string ⟨#[]⟩, .nilIface]) ∧ w' = w := by
  have hm := fun W => Tryz.method_read db W
  have hR := Tryz.dRead_none db md mn fd l f w hD
  have hI := fun W => Tryz.isSame 6 (by simp [ErrK]) W
  have j0 := hJ.cell 0 (v := Tryz.diskV db) rfl
  unfold Tryz.diskV at j0
  go_enter Tryz.func183, Tryz.ntmps183
  go_wp2_with (first
    | (go_at_call 307; refine hR.mono ?_; rintro e w1 ⟨rfl, rfl⟩)
    | (go_at_call 70; refine (hI _).mono ?_; rintro e w2 ⟨rfl, rfl⟩))
  go_ret2
  exact ⟨rfl, rfl⟩

set_option maxHeartbeats 1000000 in
theorem Tryz.backward_nil (w : World) : Calls Tryz.prog 181 #[.slice none 0 0] w fun e w' => e = .returned (.func (.func 212) #[] #[.pointer (some ⟨w.heap.size, 0, none⟩)]) ∧ w' = w.alloc (.cells #[.slice none 0 0] 272) := by
  go_enter Tryz.func181, Tryz.ntmps181
  go_wp2
  go_ret
  exact ⟨rfl, rfl⟩
set_option maxHeartbeats 1000000 in
theorem Tryz.backward1_nil (y : Value) (b : Nat) (w : World) (hb : BoxN w b 272 #[.slice none 0 0]) : Calls Tryz.prog 212 #[y, .pointer (some ⟨b, 0, none⟩)] w fun e w' => e = .returned (.tuple #[]) ∧ w' = w := by
  have c0 := hb.cell 0 (v := .slice none 0 0) rfl
  go_enter Tryz.func212, Tryz.ntmps212
  go_wp2
  refine wp_loop_rounds 1 ?_
  rw [rounds_succ]
  go_wp2
  go_end0
  exact ⟨rfl, rfl⟩

theorem empty_size (ps : Array Tmp) (x : Empty) : ((fun y : Empty => (nomatch y : Array Value)) x).size = ps.size := nomatch x
set_option maxRecDepth 100000 in
set_option maxHeartbeats 4000000 in
theorem Tryz.jFind_nil (jb db md mn : Nat) (c1 c2 : Value) (fd : Option (Nat × List UInt8)) (l f : Int) (w : World) (hJ : BoxN w jb 212 #[Tryz.diskV db, c1, c2]) (hD : Tryz.DiskAt w db md mn fd none (.slice none 0 0) l f) :
    CallsIn Fence.wide 9 Tryz.prog 146 #[.pointer (some ⟨jb, 0, none⟩)] w fun e w' => e = .returned (.tuple #[.string ⟨#[]⟩, .nilIface]) ∧ Below w.heap.size w w' := by
  have j0 := hJ.cell 0 (v := Tryz.diskV db) rfl
  unfold Tryz.diskV at j0
  have lJ := hJ.lt
  have hB0 : Below w.heap.size w (((w.alloc (.cells #[.pointer (some ⟨jb, 0, none⟩)] 117)).alloc (.cells #[.string ⟨#[]⟩] 9)).alloc (.cells #[.nilIface] 81)) := (((Below.refl _ w).alloc (Nat.le_refl _) _).alloc (by simp) _).alloc (by simp; omega) _
  have bP := ((BoxN.new w 117 #[.pointer (some ⟨jb, 0, none⟩)]).alloc (.cells #[.string ⟨#[]⟩] 9)).alloc (.cells #[.nilIface] 81)
  have bS := (BoxN.new (w.alloc (.cells #[.pointer (some ⟨jb, 0, none⟩)] 117)) 9 #[.string ⟨#[]⟩]).alloc (.cells #[.nilIface] 81)
  have bE := BoxN.new ((w.alloc (.cells #[.pointer (some ⟨jb, 0, none⟩)] 117)).alloc (.cells #[.string ⟨#[]⟩] 9)) 81 #[.nilIface]
  simp only [World.size_alloc] at bS bE
  have hN := Tryz.numbersOn_nil db md mn fd l f _ (hD.below hB0)
  unfold Tryz.diskV at hN
  have j0w := cell_later hB0 j0
  have hf1 : Fence.wide.fn 180 := trivial
  have hf2 : Fence.wide.fn 181 := trivial
  have hf3 : Fence.wide.fn 183 := trivial
  refine callsIn_of_wp_marks Tryz.func146 rfl trivial ?_ rfl
  simp only [Tryz.ntmps146, List.size_toArray, List.length_cons, List.length_nil, Nat.reduceAdd, Nat.reduceSub, Array.replicate_succ, Array.replicate_zero, List.push_toArray, List.append_toArray, List.nil_append, List.cons_append]
  gi_wp2_with (first
    | (gi_at_call 180; refine (callsIn_wide.2 hN).mono ?_; rintro e w1 ⟨rfl, hb1⟩)
    | (gi_at_call 181; refine (callsIn_wide.2 (Tryz.backward_nil _)).mono ?_; rintro e w2 ⟨rfl, rfl⟩))
  have hB1 := hB0.trans (hb1.mono (by simp; omega))
  have bP1 := (bP.below hb1 (by simp; omega)).alloc (.cells #[.slice none 0 0] 272)
  have bS1 := (bS.below hb1 (by simp)).alloc (.cells #[.slice none 0 0] 272)
  have bE1 := (bE.below hb1 (by simp)).alloc (.cells #[.slice none 0 0] 272)
  have bX1 := BoxN.new w1 272 #[.slice none 0 0]
  have hB2 := hB1.alloc hB1.size (.cells #[.slice none 0 0] 272)
  have hsz : (w1.alloc (.cells #[.slice none 0 0] 272)).heap.size = w1.heap.size + 1 := by simp
  have hz1 := hB1.size
  obtain ⟨W2, hW2⟩ : ∃ W2, w1.alloc (.cells #[.slice none 0 0] 272) = W2 := ⟨_, rfl⟩
  rw [hW2] at bP1 bS1 bE1 bX1 hB2 hsz ⊢
  clear hW2 bP bS bE hN j0w
  have hseq : SeqO (α := Empty) 8 Tryz.prog 212 #[.pointer (some ⟨w1.heap.size, 0, none⟩)] (fun x => nomatch x) (fun _ => True) (fun _ _ => True) (fun xs => xs = []) (fun _ => False) 0 W2 := by
    intro l J Jx W hb _ _ _ _ h0
    refine (callsIn_wide.2 (Tryz.backward1_nil (.func (.yield l) #[] #[]) w1.heap.size W (bX1.below hb bX1.lt))).mono ?_
    rintro e W' ⟨rfl, rfl⟩
    exact ⟨⟨_, rfl⟩, .inl ⟨[], rfl, h0⟩⟩
  refine wpIn_rangeO (n := 9) (by omega) (gf := 212) (lb := #[.pointer (some ⟨w1.heap.size, 0, none⟩)]) rfl (enters_of Tryz.func212 (by kernel_rfl) rfl) hseq (fun _ _ => trivial) (fun _ _ _ _ _ _ _ _ => trivial) (Below.refl _ _) (fun x => nomatch x)
    (fun _ V => ((BoxN V w.heap.size 117 #[.pointer (some ⟨jb, 0, none⟩)] ∧ BoxN V (w.heap.size + 1) 9 #[.string ⟨#[]⟩]) ∧ BoxN V (w.heap.size + 1 + 1) 81 #[.nilIface]) ∧ Below w.heap.size w V)
    (fun _ _ _ => False)
    (OwnFrom.and (OwnFrom.and (OwnFrom.and (Own.from (boxN_own _ _ (fun _ => #[.pointer (some ⟨jb, 0, none⟩)])) _) (Own.from (boxN_own _ _ (fun _ => #[.string ⟨#[]⟩])) _)) (Own.from (boxN_own _ _ (fun _ => #[.nilIface])) _)) (ownFrom_below (Nat.le_refl _) (by omega)))
    (fun _ _ _ _ _ hs _ _ => hs)
    (fun _ _ _ => trivial)
    ⟨⟨⟨bP1, bS1⟩, bE1⟩, hB2⟩
    (fun x _ _ => nomatch x) (fun x => nomatch x)
    (fun _ _ x => nomatch x) (fun _ _ x => nomatch x) ?done ?stop
  case done =>
    rintro D zs V hD0 rfl ⟨⟨⟨bPV, bSV⟩, bEV⟩, hBV⟩ hK
    have hF := Tryz.jFirst_nil jb db md mn c1 c2 fd l f V (hJ.below hBV hJ.lt) (hD.below hBV)
    have p0 := bPV.cell 0 (v := .pointer (some ⟨jb, 0, none⟩)) rfl
    have s0 := bSV.cell 0 (v := .string ⟨#[]⟩) rfl
    have s0f := bSV.frozen 0
    have e0 := bEV.cell 0 (v := .nilIface) rfl
    have e0f := bEV.frozen 0
    gi_wp2_with (gi_at_call 183; refine (callsIn_wide.2 hF).mono ?_; rintro e w3 ⟨rfl, rfl⟩)
    have bS2 := (bSV.set 0 (.string ⟨#[]⟩)).other (B' := w.heap.size + 1 + 1) (by omega) 0 .nilIface
    have bE2 := (bEV.other (B' := w.heap.size + 1) (by omega) 0 (.string ⟨#[]⟩)).set 0 .nilIface
    have hK2 : ((w3.setCell ⟨w.heap.size + 1, 0, none⟩ (.string ⟨#[]⟩)).setCell ⟨w.heap.size + 1 + 1, 0, none⟩ .nilIface).heap[D]? = some (.deferred (some [])) := by
      have := bE1.lt
      rw [set_other _ _ _ _ _ (by omega), set_other _ _ _ _ _ (by omega)]
      exact hK
    have hB5 := (hBV.setCell (p := ⟨w.heap.size + 1, 0, none⟩) (by simp) (.string ⟨#[]⟩)).setCell (p := ⟨w.heap.size + 1 + 1, 0, none⟩) (by simp; omega) .nilIface
    generalize (w3.setCell ⟨w.heap.size + 1, 0, none⟩ (.string ⟨#[]⟩)).setCell ⟨w.heap.size + 1 + 1, 0, none⟩ .nilIface = W5 at *
    refine ⟨by simp, .inl ⟨_, _, rfl, run_takeDeferred hK2, ?_⟩⟩
    have bS6 : BoxN (W5.putObj D (.deferred none)) (w.heap.size + 1) 9 (#[.string ⟨#[]⟩].setIfInBounds 0 (.string ⟨#[]⟩)) := (World.putObj_heap_other (by have := bE1.lt; omega)).trans bS2
    have bE6 : BoxN (W5.putObj D (.deferred none)) (w.heap.size + 1 + 1) 81 (#[.nilIface].setIfInBounds 0 .nilIface) := (World.putObj_heap_other (by have := bE1.lt; omega)).trans bE2
    have q1 := bS6.cell 0 (v := .string ⟨#[]⟩) rfl
    have q2 := bE6.cell 0 (v := .nilIface) rfl
    exact ⟨.tuple #[.string ⟨#[]⟩, .nilIface], by simp [results, Tryz.results146, go_sem, q1, q2], rfl, hB5.trans (belowK_b (w := w) (Nat.le_refl _) W5 D _ _ (by omega) hK2 rfl rfl)⟩
  case stop =>
    rintro D c pre V _ _ h _
    exact h.elim
end Go.Proofs
