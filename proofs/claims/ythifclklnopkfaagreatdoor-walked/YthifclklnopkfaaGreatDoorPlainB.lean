import Derived.Test.YthifclklnopkfaaGreatDoorPlain
import Derived.Test.YthifclklnopkfaaGreatDoorMapN
import Derived.Carry
import Derived.Maps.RangeWalk
/-
  Package plain: a new host; names.Root; leasekeeper.Open.
-/
namespace Go.Proofs
open Go.RowKit Go.Sort Go.Maps

set_option maxHeartbeats 1000000 in
theorem Tryz.root (w : World) : Calls Tryz.prog 57 #[] w fun e w' => e = .returned (nmV (1, 0)) ∧ Below w.heap.size w w' := by
  unfold nmV
  go_enter Tryz.func57, Tryz.ntmps57
  go_wp2
  exact bodyPost_ret (v := .agg #[.int .i64 1, .int .u64 0]) (by simp [results, Tryz.results57, go_sem]) rfl ⟨rfl, (Below.refl _ _).alloc (Nat.le_refl _) _⟩

set_option maxHeartbeats 1000000 in
theorem Tryz.hIs (hb : Nat) (c0 c1 : Value) (p : Addr) (w : World) (hH : BoxN w hb 64 #[c0, c1, .pointer (some p)]) :
    Calls Tryz.prog 18 #[.pointer (some ⟨hb, 0, none⟩)] w fun e w' => e = .returned (.bool true) ∧ w' = w := by
  have h2 := hH.cell 2 (v := .pointer (some p)) rfl
  go_enter Tryz.func18, Tryz.ntmps18
  go_wp2
  go_ret
  exact ⟨rfl, rfl⟩

theorem grown_sets (w : World) (db i i' : Nat) (v v' : Value) : w.grownBy ((w.setCell ⟨db, i, none⟩ v).setCell ⟨db, i', none⟩ v') (some db) :=
  ⟨rfl, rfl, rfl, by simp, fun k _ hne => by
    have hd : k ≠ db := fun e => hne (by rw [e])
    rw [set_other _ _ _ _ _ hd, set_other _ _ _ _ _ hd]⟩
theorem BoxN.ne_map {H : Type} {P : Program} {k : TypeId} {R : Value → Option (DataW H × List MemPlace)} {D : DataW H} {W : World} {B b n : Nat} {t : TypeId} {cs : Array Value} (h : BoxN W B t cs) (hm : W.ownsMap P k R b n D) : b ≠ B := by
  rintro rfl
  obtain ⟨es, clock, hb, _⟩ := hm
  have e := hb.symm.trans h
  cases e

set_option maxRecDepth 100000 in
set_option maxHeartbeats 1000000 in
theorem Tryz.up (db b : Nat) (m2 p l f dn : Value) (w : World) (hD : BoxN w db 76 #[.map (some b), m2, p, l, f, dn]) (hown : w.ownsMap Tryz.prog 9 ptrR b 0 (.map [])) :
    Calls Tryz.prog 31 #[.pointer (some ⟨db, 0, none⟩)] w fun e w' => e = .returned (.tuple #[]) ∧ (∃ b2, BoxN w' db 76 #[.map (some b), .map (some b2), .slice none 0 0, l, f, .bool false]) ∧ w.grownBy w' (some db) := by
  have hmk : ∀ W, (Instr.makeMap 73 none).run Tryz.prog W = .ok (.map (some W.heap.size)) (W.alloc (.map #[] 0)) := fun W => run_makeMap _ W
  have d0 := hD.cell 0 (v := .map (some b)) rfl
  have d1 := hD.cell 1 (v := m2) rfl
  have d2 := hD.cell 2 (v := p) rfl
  have d5 := hD.cell 5 (v := dn) rfl
  have f1 := hD.frozen 1
  have f2 := hD.frozen 2
  have f5 := hD.frozen 5
  have lD := hD.lt
  go_enter Tryz.func31, Tryz.ntmps31
  have hne := hD.ne_map hown
  have hown1 := (hown.setCell (a := ⟨db, 1, none⟩) hne (.map (some w.heap.size))).alloc (.map #[] 0)
  go_wp2_with (first
    | (at_range; refine wpList_range_own _ rfl _ 73 rfl 9 129 (string_keyed Tryz.underlying9) Tryz.underlying73 _ b 0 _ rfl hown1 ?_; intro w1 hrg hg1 hs1)
    | go_in)
  have bD1 : BoxN w1 db 76 #[.map (some b), .map (some w.heap.size), p, l, f, dn] := ((hD.set 1 (.map (some w.heap.size))).alloc (.map #[] 0)).kept hg1 (by simp)
  have hgr : w.grownBy w1 (some db) := ⟨hg1.os, hg1.tape, hg1.output, by rw [hs1]; simp; omega, fun k hk hnk => by
    have hd : k ≠ db := fun e => hnk (by rw [e])
    rw [hg1.block k (by simp; omega) (by simp)]
    show (((w.setCell ⟨db, 1, none⟩ (.map (some w.heap.size))).heap.push _)[k]?) = _
    rw [Array.getElem?_push_lt (by simpa using hk), ← Array.getElem?_eq_getElem, set_other _ _ _ _ _ hd]⟩
  have HG := hid_intro hgr
  clear hgr hg1 hs1 hown1 hown d0 d1 d2 d5 f1 f2 f5
  have d2 := bD1.cell 2 (v := p) rfl
  have d5 := bD1.cell 5 (v := dn) rfl
  have f2 := bD1.frozen 2
  have f5 := bD1.frozen 5
  refine wp_loop_rounds 1 ?_
  rw [rounds_succ]
  go_wp2_with (first
    | (at_next; refine wpList_next_ranges _ rfl _ rfl 9 (string_keyed Tryz.underlying9) ptrR (fun v : Value => v) (fun v : Value => v) (fun v _ _ => ⟨v, rfl⟩) (fun v _ _ => ⟨v, rfl⟩) b _ 0 _ _ _ rfl hrg ?_ ?_)
    | go_in)
  · intro _ _
    clear hrg
    go_wp2
    go_end0
    exact ⟨rfl, ⟨_, (bD1.set 2 _).set 5 _⟩, (hid_elim HG).andThen (grown_sets w1 db 2 5 _ _) (fun j e => .inr e)⟩
  · intro x c kl y yp w' cnt' _ h2
    have h3 : false = true := h2
    cases h3

set_option maxHeartbeats 1000000 in
theorem Tryz.newHost (w : World) : Calls Tryz.prog 16 #[] w fun e w' => ∃ hb db rb m1 m2, e = .returned (.pointer (some ⟨hb, 0, none⟩)) ∧ BoxN w' hb 64 #[.pointer (some ⟨db, 0, none⟩), .pointer (some ⟨rb, 0, none⟩), .pointer none] ∧ BoxN w' db 76 #[m1, m2, .slice none 0 0, .int .i64 (-1), .int .i64 (-1), .bool false] ∧ BoxN w' rb 78 #[.slice none 0 0, .int .u64 0] ∧ w.heap.size ≤ hb ∧ w.heap.size ≤ db ∧ w.heap.size ≤ rb ∧ Below w.heap.size w w' := by
  have hmk : ∀ W, (Instr.makeMap 73 none).run Tryz.prog W = .ok (.map (some W.heap.size)) (W.alloc (.map #[] 0)) := fun W => run_makeMap _ W
  have bD := ((BoxN.new (w.alloc (.map #[] 0)) 76 #[.map (some w.heap.size), .map none, .slice none 0 0, .int .i64 (-1), .int .i64 (-1), .bool false]).alloc (.cells #[.slice none 0 0, .int .u64 0] 78)).alloc (.cells #[.pointer (some ⟨w.heap.size + 1, 0, none⟩), .pointer (some ⟨w.heap.size + 1 + 1, 0, none⟩), .pointer none] 64)
  have bR := (BoxN.new ((w.alloc (.map #[] 0)).alloc (.cells #[.map (some w.heap.size), .map none, .slice none 0 0, .int .i64 (-1), .int .i64 (-1), .bool false] 76)) 78 #[.slice none 0 0, .int .u64 0]).alloc (.cells #[.pointer (some ⟨w.heap.size + 1, 0, none⟩), .pointer (some ⟨w.heap.size + 1 + 1, 0, none⟩), .pointer none] 64)
  have bH := BoxN.new (((w.alloc (.map #[] 0)).alloc (.cells #[.map (some w.heap.size), .map none, .slice none 0 0, .int .i64 (-1), .int .i64 (-1), .bool false] 76)).alloc (.cells #[.slice none 0 0, .int .u64 0] 78)) 64 #[.pointer (some ⟨w.heap.size + 1, 0, none⟩), .pointer (some ⟨w.heap.size + 1 + 1, 0, none⟩), .pointer none]
  have hM : ((((w.alloc (.map #[] 0)).alloc (.cells #[.map (some w.heap.size), .map none, .slice none 0 0, .int .i64 (-1), .int .i64 (-1), .bool false] 76)).alloc (.cells #[.slice none 0 0, .int .u64 0] 78)).alloc (.cells #[.pointer (some ⟨w.heap.size + 1, 0, none⟩), .pointer (some ⟨w.heap.size + 1 + 1, 0, none⟩), .pointer none] 64)).ownsMap Tryz.prog 9 ptrR w.heap.size 0 (.map []) := (((World.ownsMap_made w Tryz.prog 9 ptrR).alloc _).alloc _).alloc _
  have hB : Below w.heap.size w ((((w.alloc (.map #[] 0)).alloc (.cells #[.map (some w.heap.size), .map none, .slice none 0 0, .int .i64 (-1), .int .i64 (-1), .bool false] 76)).alloc (.cells #[.slice none 0 0, .int .u64 0] 78)).alloc (.cells #[.pointer (some ⟨w.heap.size + 1, 0, none⟩), .pointer (some ⟨w.heap.size + 1 + 1, 0, none⟩), .pointer none] 64)) := ((((Below.refl _ w).alloc (Nat.le_refl _) _).alloc (by simp) _).alloc (by simp; omega) _).alloc (by simp; omega) _
  simp only [World.size_alloc] at bD bR bH
  have hU := Tryz.up _ _ _ _ _ _ _ _ bD hM
  go_enter Tryz.func16, Tryz.ntmps16
  go_wp2_with (go_at_call 31; refine hU.mono ?_; rintro e w1 ⟨rfl, ⟨b2, bD1⟩, hg1⟩)
  go_ret
  exact ⟨_, _, _, _, _, rfl, bH.kept hg1 (by intro e; injection e with e; omega), bD1, bR.kept hg1 (by intro e; injection e with e; omega), by omega, by omega, by omega, hB.grown hg1 (by simp; omega) (fun q hq => by cases hq; omega)⟩
end Go.Proofs
