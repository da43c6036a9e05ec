import Derived.Test.YthifclklnopkfaaGreatDoorProg
import Derived.Test.YthifclklnopkfaaGreatDoorMapN
import Derived.WalkKit
import Derived.WalkSpells
import Derived.Deep.RegionHeld3
import Derived.Carry
import Derived.Maps.RangeWalk
import Derived.Maps.OwnSet
/-
  Package plain: what goes around each call.
-/
namespace Go.Proofs
open Go.RowKit Go.Sort

def fallV (a b c d : Int) : Value := .agg #[.int .i64 a, .int .i64 b, .int .i64 c, .int .i64 d]

theorem BoxN.ne {W : World} {B B' : Nat} {t t' : TypeId} {cs cs' : Array Value} (h : BoxN W B t cs) (h' : BoxN W B' t' cs') (hne : t ≠ t') : B ≠ B' := by
  rintro rfl
  have e : some (Obj.cells cs t (0, 0)) = some (Obj.cells cs' t' (0, 0)) := h.symm.trans h'
  simp at e
  exact hne e.2

set_option maxHeartbeats 1000000 in
theorem Tryz.well (w : World) : Calls Tryz.prog 11 #[] w fun e w' => e = .returned (fallV (-1) (-1) 0 0) ∧ Below w.heap.size w w' := by
  unfold fallV
  go_enter Tryz.func11, Tryz.ntmps11
  go_wp2
  exact bodyPost_ret (v := .agg #[.int .i64 (-1), .int .i64 (-1), .int .i64 0, .int .i64 0]) (by simp [results, Tryz.results11, go_sem]) rfl ⟨rfl, (Below.refl _ _).alloc (Nat.le_refl _) _⟩

theorem set_other (w : World) (db i k : Nat) (v : Value) (hd : k ≠ db) : (w.setCell ⟨db, i, none⟩ v).heap[k]? = w.heap[k]? := by
  show (w.heap.modify db _)[k]? = _
  rw [Array.getElem?_modify, if_neg (fun e => hd e.symm)]
theorem grown_two (w : World) (db i i' : Nat) (v v' : Value) (o : Obj) : w.grownBy (((w.setCell ⟨db, i, none⟩ v).setCell ⟨db, i', none⟩ v').alloc o).drew (some db) :=
  ⟨rfl, rfl, rfl, by simp [World.drew], fun k hk hne => by
    have hd : k ≠ db := fun e => hne (by rw [e])
    show (((w.setCell ⟨db, i, none⟩ v).setCell ⟨db, i', none⟩ v').heap.push o)[k]? = _
    rw [Array.getElem?_push_lt (by simpa using hk), ← Array.getElem?_eq_getElem]
    rw [set_other _ _ _ _ _ hd, set_other _ _ _ _ _ hd]⟩
/-- what holds throughout the two stores. -/
abbrev Tryz.FallP (hb db fb : Nat) (a b : Int) (W : World) : Prop :=
  (W.cell? ⟨hb, 0, none⟩ = some (.pointer (some ⟨db, 0, none⟩)) ∧ W.cell? ⟨fb, 0, none⟩ = some (.int .i64 a) ∧ W.cell? ⟨fb, 1, none⟩ = some (.int .i64 b)) ∧
  (W.cell? ⟨db, 3, none⟩ = some (cellOr W ⟨db, 3, none⟩) ∧ W.cell? ⟨db, 4, none⟩ = some (cellOr W ⟨db, 4, none⟩)) ∧ W.frozen? ⟨db, 3, none⟩ = false ∧ W.frozen? ⟨db, 4, none⟩ = false
theorem Tryz.FallP.start {W : World} {hb db fb : Nat} {a b c d : Int} {cs ds : Array Value} (hs : W.heap.size = fb) (hH : BoxN W hb 64 cs) (h0 : cs[0]? = some (.pointer (some ⟨db, 0, none⟩))) (hD : BoxN W db 76 ds) (h6 : ds.size = 6) :
    Tryz.FallP hb db fb a b (W.alloc (.cells #[.int .i64 a, .int .i64 b, .int .i64 c, .int .i64 d] 29)).drew := by
  subst hs
  have bF := BoxN.new W 29 #[.int .i64 a, .int .i64 b, .int .i64 c, .int .i64 d]
  have bH := hH.alloc (.cells #[.int .i64 a, .int .i64 b, .int .i64 c, .int .i64 d] 29)
  have bD := hD.alloc (.cells #[.int .i64 a, .int .i64 b, .int .i64 c, .int .i64 d] 29)
  exact ⟨⟨bH.cell 0 h0, bF.cell 0 rfl, bF.cell 1 rfl⟩, ⟨cellOr_some (by have h := bD.cell 3 (v := ds[3]) (by simp [h6]); show ((W.alloc _).cell? _).isSome; rw [h]; rfl), cellOr_some (by have h := bD.cell 4 (v := ds[4]) (by simp [h6]); show ((W.alloc _).cell? _).isSome; rw [h]; rfl)⟩, bD.frozen 3, bD.frozen 4⟩
theorem Tryz.FallP.start1 {w : World} {hb db : Nat} {a b c d : Int} {c1 c2 m1 m2 p l f dn : Value} (hH : BoxN w hb 64 #[.pointer (some ⟨db, 0, none⟩), c1, c2]) (hD : BoxN w db 76 #[m1, m2, p, l, f, dn]) (hne : hb ≠ db) (i : Nat) (v : Value) :
    Tryz.FallP hb db w.heap.size a b ((w.setCell ⟨db, i, none⟩ v).alloc (.cells #[.int .i64 a, .int .i64 b, .int .i64 c, .int .i64 d] 29)).drew :=
  Tryz.FallP.start (by simp) (hH.other hne i v) rfl (hD.set i v) (by simp)
theorem Tryz.FallP.start2 {w : World} {hb db : Nat} {a b c d : Int} {c1 c2 m1 m2 p l f dn : Value} (hH : BoxN w hb 64 #[.pointer (some ⟨db, 0, none⟩), c1, c2]) (hD : BoxN w db 76 #[m1, m2, p, l, f, dn]) (hne : hb ≠ db) (i : Nat) (v : Value) (i' : Nat) (v' : Value) :
    Tryz.FallP hb db w.heap.size a b (((w.setCell ⟨db, i, none⟩ v).setCell ⟨db, i', none⟩ v').alloc (.cells #[.int .i64 a, .int .i64 b, .int .i64 c, .int .i64 d] 29)).drew :=
  Tryz.FallP.start (by simp) ((hH.other hne i v).other hne i' v') rfl ((hD.set i v).set i' v') (by simp)
set_option maxHeartbeats 1000000 in
theorem Tryz.before (hb db : Nat) (c1 c2 m1 m2 p l f dn : Value) (a b c d : Int) (w : World) (hH : BoxN w hb 64 #[.pointer (some ⟨db, 0, none⟩), c1, c2]) (hD : BoxN w db 76 #[m1, m2, p, l, f, dn]) :
    Calls Tryz.prog 26 #[.pointer (some ⟨hb, 0, none⟩), fallV a b c d] w fun e w' => e = .returned (.tuple #[]) ∧ BoxN w' db 76 #[m1, m2, p, .int .i64 a, .int .i64 b, dn] ∧ w.grownBy w' (some db) := by
  have lH := hH.lt
  have lD := hD.lt
  have hne := hH.ne hD (by decide)
  unfold fallV
  go_enter Tryz.func26, Tryz.ntmps26
  go_wp2
  go_region_held3 (Tryz.FallP hb db w.heap.size a b) (first
    | with_reducible exact Tryz.FallP.start rfl hH rfl hD rfl
    | with_reducible exact Tryz.FallP.start1 hH hD hne _ _
    | with_reducible exact Tryz.FallP.start2 hH hD hne _ _ _ _
    | with_reducible assumption) (fail)
  all_goals
    go_wp2
    go_end0
    exact ⟨rfl, ((hD.set 3 _).set 4 _).alloc _, grown_two _ _ _ _ _ _ _⟩
set_option maxHeartbeats 1000000 in
theorem Tryz.after (hb db : Nat) (c1 c2 m1 m2 p l f : Value) (a b c d : Int) (w : World) (hH : BoxN w hb 64 #[.pointer (some ⟨db, 0, none⟩), c1, c2]) (hD : BoxN w db 76 #[m1, m2, p, l, f, .bool false]) :
    Calls Tryz.prog 28 #[.pointer (some ⟨hb, 0, none⟩), fallV a b c d] w fun e w' => e = .returned (.tuple #[]) ∧ BoxN w' db 76 #[m1, m2, p, .int .i64 (-1), .int .i64 (-1), .bool false] ∧ w.grownBy w' (some db) := by
  have h0 := hH.cell 0 (v := .pointer (some ⟨db, 0, none⟩)) rfl
  have d5 := hD.cell 5 (v := .bool false) rfl
  have lH := hH.lt
  have lD := hD.lt
  have hne := hH.ne hD (by decide)
  unfold fallV
  go_enter Tryz.func28, Tryz.ntmps28
  go_wp2
  go_region_held3 (Tryz.FallP hb db w.heap.size a b) (first
    | with_reducible exact Tryz.FallP.start rfl hH rfl hD rfl
    | with_reducible exact Tryz.FallP.start1 hH hD hne _ _
    | with_reducible exact Tryz.FallP.start2 hH hD hne _ _ _ _
    | with_reducible assumption) (fail)
  all_goals
    go_wp2
    go_end0
    exact ⟨rfl, ((hD.set 3 _).set 4 _).alloc _, grown_two _ _ _ _ _ _ _⟩
end Go.Proofs

/-
  Package plain: a new host; names.Root; leasekeeper.Open.
-/
namespace Go.Proofs
open Go.RowKit Go.Sort Go.Maps

set_option maxHeartbeats 1000000 in
theorem Tryz.root (w : World) : Calls Tryz.prog 57 #[] w fun e w' => e = .returned (nmV (1, 0)) ∧ Below w.heap.size w w' := by
  unfold nmV
  go_enter Tryz.func57, Tryz.ntmps57
  go_wp2
  exact bodyPost_ret (v := .agg #[.int .i64 1, .int .u64 0]) (by simp [results, Tryz.results57, go_sem]) rfl ⟨rfl, (Below.refl _ _).alloc (Nat.le_refl _) _⟩

set_option maxHeartbeats 1000000 in
theorem Tryz.hIs (hb : Nat) (c0 c1 : Value) (p : Addr) (w : World) (hH : BoxN w hb 64 #[c0, c1, .pointer (some p)]) :
    Calls Tryz.prog 18 #[.pointer (some ⟨hb, 0, none⟩)] w fun e w' => e = .returned (.bool true) ∧ w' = w := by
  have h2 := hH.cell 2 (v := .pointer (some p)) rfl
  go_enter Tryz.func18, Tryz.ntmps18
  go_wp2
  go_ret
  exact ⟨rfl, rfl⟩

theorem grown_sets (w : World) (db i i' : Nat) (v v' : Value) : w.grownBy ((w.setCell ⟨db, i, none⟩ v).setCell ⟨db, i', none⟩ v') (some db) :=
  ⟨rfl, rfl, rfl, by simp, fun k _ hne => by
    have hd : k ≠ db := fun e => hne (by rw [e])
    rw [set_other _ _ _ _ _ hd, set_other _ _ _ _ _ hd]⟩
theorem BoxN.ne_map {H : Type} {P : Program} {k : TypeId} {R : Value → Option (DataW H × List MemPlace)} {D : DataW H} {W : World} {B b n : Nat} {t : TypeId} {cs : Array Value} (h : BoxN W B t cs) (hm : W.ownsMap P k R b n D) : b ≠ B := by
  rintro rfl
  obtain ⟨es, clock, hb, _⟩ := hm
  have e := hb.symm.trans h
  cases e

set_option maxRecDepth 100000 in
set_option maxHeartbeats 1000000 in
theorem Tryz.up (db b : Nat) (m2 p l f dn : Value) (w : World) (hD : BoxN w db 76 #[.map (some b), m2, p, l, f, dn]) (hown : w.ownsMap Tryz.prog 9 ptrR b 0 (.map [])) :
    Calls Tryz.prog 31 #[.pointer (some ⟨db, 0, none⟩)] w fun e w' => e = .returned (.tuple #[]) ∧ (∃ b2, BoxN w' db 76 #[.map (some b), .map (some b2), .slice none 0 0, l, f, .bool false]) ∧ w.grownBy w' (some db) := by
  have hmk : ∀ W, (Instr.makeMap 73 none).run Tryz.prog W = .ok (.map (some W.heap.size)) (W.alloc (.map #[] 0)) := fun W => run_makeMap _ W
  have d0 := hD.cell 0 (v := .map (some b)) rfl
  have d1 := hD.cell 1 (v := m2) rfl
  have d2 := hD.cell 2 (v := p) rfl
  have d5 := hD.cell 5 (v := dn) rfl
  have f1 := hD.frozen 1
  have f2 := hD.frozen 2
  have f5 := hD.frozen 5
  have lD := hD.lt
  go_enter Tryz.func31, Tryz.ntmps31
  have hne := hD.ne_map hown
  have hown1 := (hown.setCell (a := ⟨db, 1, none⟩) hne (.map (some w.heap.size))).alloc (.map #[] 0)
  go_wp2_with (first
    | (at_range; refine wpList_range_own _ rfl _ 73 rfl 9 129 (string_keyed Tryz.underlying9) Tryz.underlying73 _ b 0 _ rfl hown1 ?_; intro w1 hrg hg1 hs1)
    | go_in)
  have bD1 : BoxN w1 db 76 #[.map (some b), .map (some w.heap.size), p, l, f, dn] := ((hD.set 1 (.map (some w.heap.size))).alloc (.map #[] 0)).kept hg1 (by simp)
  have hgr : w.grownBy w1 (some db) := ⟨hg1.os, hg1.tape, hg1.output, by rw [hs1]; simp; omega, fun k hk hnk => by
    have hd : k ≠ db := fun e => hnk (by rw [e])
    rw [hg1.block k (by simp; omega) (by simp)]
    show (((w.setCell ⟨db, 1, none⟩ (.map (some w.heap.size))).heap.push _)[k]?) = _
    rw [Array.getElem?_push_lt (by simpa using hk), ← Array.getElem?_eq_getElem, set_other _ _ _ _ _ hd]⟩
  have HG := hid_intro hgr
  clear hgr hg1 hs1 hown1 hown d0 d1 d2 d5 f1 f2 f5
  have d2 := bD1.cell 2 (v := p) rfl
  have d5 := bD1.cell 5 (v := dn) rfl
  have f2 := bD1.frozen 2
  have f5 := bD1.frozen 5
  refine wp_loop_rounds 1 ?_
  rw [rounds_succ]
  go_wp2_with (first
    | (at_next; refine wpList_next_ranges _ rfl _ rfl 9 (string_keyed Tryz.underlying9) ptrR (fun v : Value => v) (fun v : Value => v) (fun v _ _ => ⟨v, rfl⟩) (fun v _ _ => ⟨v, rfl⟩) b _ 0 _ _ _ rfl hrg ?_ ?_)
    | go_in)
  · intro _ _
    clear hrg
    go_wp2
    go_end0
    exact ⟨rfl, ⟨_, (bD1.set 2 _).set 5 _⟩, (hid_elim HG).andThen (grown_sets w1 db 2 5 _ _) (fun j e => .inr e)⟩
  · intro x c kl y yp w' cnt' _ h2
    have h3 : false = true := h2
    cases h3

set_option maxHeartbeats 1000000 in
theorem Tryz.newHost (w : World) : Calls Tryz.prog 16 #[] w fun e w' => ∃ hb db rb m1 m2, e = .returned (.pointer (some ⟨hb, 0, none⟩)) ∧ BoxN w' hb 64 #[.pointer (some ⟨db, 0, none⟩), .pointer (some ⟨rb, 0, none⟩), .pointer none] ∧ BoxN w' db 76 #[m1, m2, .slice none 0 0, .int .i64 (-1), .int .i64 (-1), .bool false] ∧ BoxN w' rb 78 #[.slice none 0 0, .int .u64 0] ∧ w.heap.size ≤ hb ∧ w.heap.size ≤ db ∧ w.heap.size ≤ rb ∧ Below w.heap.size w w' := by
  have hmk : ∀ W, (Instr.makeMap 73 none).run Tryz.prog W = .ok (.map (some W.heap.size)) (W.alloc (.map #[] 0)) := fun W => run_makeMap _ W
  have bD := ((BoxN.new (w.alloc (.map #[] 0)) 76 #[.map (some w.heap.size), .map none, .slice none 0 0, .int .i64 (-1), .int .i64 (-1), .bool false]).alloc (.cells #[.slice none 0 0, .int .u64 0] 78)).alloc (.cells #[.pointer (some ⟨w.heap.size + 1, 0, none⟩), .pointer (some ⟨w.heap.size + 1 + 1, 0, none⟩), .pointer none] 64)
  have bR := (BoxN.new ((w.alloc (.map #[] 0)).alloc (.cells #[.map (some w.heap.size), .map none, .slice none 0 0, .int .i64 (-1), .int .i64 (-1), .bool false] 76)) 78 #[.slice none 0 0, .int .u64 0]).alloc (.cells #[.pointer (some ⟨w.heap.size + 1, 0, none⟩), .pointer (some ⟨w.heap.size + 1 + 1, 0, none⟩), .pointer none] 64)
  have bH := BoxN.new (((w.alloc (.map #[] 0)).alloc (.cells #[.map (some w.heap.size), .map none, .slice none 0 0, .int .i64 (-1), .int .i64 (-1), .bool false] 76)).alloc (.cells #[.slice none 0 0, .int .u64 0] 78)) 64 #[.pointer (some ⟨w.heap.size + 1, 0, none⟩), .pointer (some ⟨w.heap.size + 1 + 1, 0, none⟩), .pointer none]
  have hM : ((((w.alloc (.map #[] 0)).alloc (.cells #[.map (some w.heap.size), .map none, .slice none 0 0, .int .i64 (-1), .int .i64 (-1), .bool false] 76)).alloc (.cells #[.slice none 0 0, .int .u64 0] 78)).alloc (.cells #[.pointer (some ⟨w.heap.size + 1, 0, none⟩), .pointer (some ⟨w.heap.size + 1 + 1, 0, none⟩), .pointer none] 64)).ownsMap Tryz.prog 9 ptrR w.heap.size 0 (.map []) := (((World.ownsMap_made w Tryz.prog 9 ptrR).alloc _).alloc _).alloc _
  have hB : Below w.heap.size w ((((w.alloc (.map #[] 0)).alloc (.cells #[.map (some w.heap.size), .map none, .slice none 0 0, .int .i64 (-1), .int .i64 (-1), .bool false] 76)).alloc (.cells #[.slice none 0 0, .int .u64 0] 78)).alloc (.cells #[.pointer (some ⟨w.heap.size + 1, 0, none⟩), .pointer (some ⟨w.heap.size + 1 + 1, 0, none⟩), .pointer none] 64)) := ((((Below.refl _ w).alloc (Nat.le_refl _) _).alloc (by simp) _).alloc (by simp; omega) _).alloc (by simp; omega) _
  simp only [World.size_alloc] at bD bR bH
  have hU := Tryz.up _ _ _ _ _ _ _ _ bD hM
  go_enter Tryz.func16, Tryz.ntmps16
  go_wp2_with (go_at_call 31; refine hU.mono ?_; rintro e w1 ⟨rfl, ⟨b2, bD1⟩, hg1⟩)
  go_ret
  exact ⟨_, _, _, _, _, rfl, bH.kept hg1 (by intro e; injection e with e; omega), bD1, bR.kept hg1 (by intro e; injection e with e; omega), by omega, by omega, by omega, hB.grown hg1 (by simp; omega) (fun q hq => by cases hq; omega)⟩
end Go.Proofs

/-
  All blocks but some are as they were.
-/
namespace Go.Proofs
open Go.RowKit Go.Sort

/-- all blocks but these are as they were. -/
structure Spares (bs : List Nat) (W W' : World) : Prop where
  os : W'.os = W.os
  tape : W'.tape = W.tape
  output : W'.output = W.output
  size : W.heap.size ≤ W'.heap.size
  block : ∀ k, k < W.heap.size → k ∉ bs → W'.heap[k]? = W.heap[k]?
section
variable {W W' W'' : World} {bs : List Nat}
theorem Spares.of_below (h : Below W.heap.size W W') : Spares bs W W' := ⟨h.os, h.tape, h.output, h.size, fun k hk _ => h.block k hk⟩
theorem Spares.of_grown {b : Nat} (h : W.grownBy W' (some b)) (hb : b ∈ bs) : Spares bs W W' := ⟨h.os, h.tape, h.output, h.size, fun k hk hn => h.block k hk (fun e => hn (by injection e with e; rw [e]; exact hb))⟩
theorem Spares.trans (h : Spares bs W W') (h' : Spares bs W' W'') : Spares bs W W'' := ⟨h'.os.trans h.os, h'.tape.trans h.tape, h'.output.trans h.output, Nat.le_trans h.size h'.size, fun k hk hn => (h'.block k (Nat.lt_of_lt_of_le hk h.size) hn).trans (h.block k hk hn)⟩
theorem Spares.mono {bs' : List Nat} (h : Spares bs W W') (hs : ∀ b ∈ bs, b ∈ bs') : Spares bs' W W' := ⟨h.os, h.tape, h.output, h.size, fun k hk hn => h.block k hk (fun e => hn (hs k e))⟩
theorem Spares.box {B : Nat} {t : TypeId} {cs : Array Value} (h : Spares bs W W') (hB : BoxN W B t cs) (hn : B ∉ bs) : BoxN W' B t cs := (h.block B hB.lt hn).trans hB
theorem Spares.map {H : Type} {P : Program} {k : TypeId} {R : Value → Option (DataW H × List MemPlace)} {D : DataW H} {b n : Nat} (h : Spares bs W W') (hm : W.ownsMap P k R b n D) (hn : b ∉ bs) : W'.ownsMap P k R b n D := by
  have hl := hm.lt
  obtain ⟨es, clock, hb, F, hs, hD⟩ := hm
  exact ⟨es, clock, (h.block b hl hn).trans hb, F, hs, hD⟩
theorem Spares.row {base size n g cap : Nat} {e : TypeId} {xs : List Value} (h : Spares bs W W') (hr : W.ownsRow base e size (.slice (some ⟨g, 0, none⟩) n cap) n xs) (hn : g ∉ bs) : W'.ownsRow base e size (.slice (some ⟨g, 0, none⟩) n cap) n xs := by
  obtain ⟨h1, ⟨e1, -⟩ | ⟨g', cap', cur, e1, e2, e3, e4⟩⟩ := hr
  · cases e1
  · cases e1
    exact ⟨h1, .inr ⟨g, cap, cur, rfl, e2, Spares.box (t := e) (cs := cur) h e3 hn, e4⟩⟩
theorem Spares.below {B : Nat} (h : Spares bs W W') (hB : B ≤ W.heap.size) (hn : ∀ b ∈ bs, B ≤ b) : Below B W W' := ⟨h.os, h.tape, h.output, h.size, fun k hk => h.block k (by omega) (fun e => by have := hn k e; omega)⟩
end
theorem Spares.set {bs : List Nat} {W W' : World} (h : Spares bs W W') {b : Nat} (hb : b ∈ bs) (i : Nat) (v : Value) : Spares bs W (W'.setCell ⟨b, i, none⟩ v) :=
  ⟨h.os, h.tape, h.output, by simpa using h.size, fun k hk hn => by rw [set_other _ _ _ _ _ (fun e => hn (by rw [e]; exact hb))]; exact h.block k hk hn⟩
theorem Spares.alloc {bs : List Nat} {W W' : World} (h : Spares bs W W') (o : Obj) : Spares bs W (W'.alloc o) := h.trans (Spares.of_below ((Below.refl _ _).alloc (Nat.le_refl _) o))
theorem Spares.drew {bs : List Nat} {W W' : World} (h : Spares bs W W') : Spares bs W W'.drew := h.trans (Spares.of_below ((Below.refl _ _).drew))

end Go.Proofs
