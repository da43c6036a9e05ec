import Derived.Test.YtjbekgjdempbiaaGreatDoorJRefI
import Derived.Test.YtjbekgjdempbiaaGreatDoorJSortBase
import Derived.Test.YtjbekgjdempbiaaGreatDoorJDiskC
import Derived.Carry
import Derived.Maps.RangeWalk
import Derived.Test.YtjbekgjdempbiaaGreatDoorJOpnB
import Derived.Test.YtjbekgjdempbiaaGreatDoorJSys
import Derived.Test.YtjbekgjdempbiaaGreatDoorJKpA
import Derived.Test.YtjbekgjdempbiaaGreatDoorJRefF
/-
  Package plain: a new host; names.Root; leasekeeper.Open.
-/
namespace Go.Proofs
open Go.RowKit Go.Sort Go.Maps

set_option maxHeartbeats 1000000 in
theorem Tryz.root (w : World) : Calls Tryz.prog 85 #[] w fun e w' => e = .returned (nmV (1, 0)) ∧ Below w.heap.size w w' := by
  unfold nmV
  go_enter Tryz.func85, Tryz.ntmps85
  go_wp2
  exact bodyPost_ret (v := .agg #[.int .i64 1, .int .u64 0]) (by simp [results, Tryz.results85, go_sem]) rfl ⟨rfl, (Below.refl _ _).alloc (Nat.le_refl _) _⟩

set_option maxHeartbeats 1000000 in
theorem Tryz.hIs (hb : Nat) (c0 c1 : Value) (p : Addr) (w : World) (hH : BoxN w hb 78 #[c0, c1, .pointer (some p)]) :
    Calls Tryz.prog 36 #[.pointer (some ⟨hb, 0, none⟩)] w fun e w' => e = .returned (.bool true) ∧ w' = w := by
  have h2 := hH.cell 2 (v := .pointer (some p)) rfl
  go_enter Tryz.func36, Tryz.ntmps36
  go_wp2
  go_ret
  exact ⟨rfl, rfl⟩

theorem grown_sets (w : World) (db i i' : Nat) (v v' : Value) : w.grownBy ((w.setCell ⟨db, i, none⟩ v).setCell ⟨db, i', none⟩ v') (some db) :=
  ⟨rfl, rfl, rfl, by simp, fun k _ hne => by
    have hd : k ≠ db := fun e => hne (by rw [e])
    rw [set_other _ _ _ _ _ hd, set_other _ _ _ _ _ hd]⟩
theorem BoxN.ne_map {H : Type} {P : Program} {k : TypeId} {R : Value → Option (DataW H × List MemPlace)} {D : DataW H} {W : World} {B b n : Nat} {t : TypeId} {cs : Array Value} (h : BoxN W B t cs) (hm : W.ownsMap P k R b n D) : b ≠ B := by
  rintro rfl
  obtain ⟨es, clock, hb, _⟩ := hm
  have e := hb.symm.trans h
  cases e

set_option maxRecDepth 100000 in
set_option maxHeartbeats 1000000 in
theorem Tryz.up (db b : Nat) (m2 p l f dn : Value) (w : World) (hD : BoxN w db 100 #[.map (some b), m2, p, l, f, dn]) (hown : w.ownsMap Tryz.prog 9 valR b 0 (.map [])) :
    Calls Tryz.prog 56 #[.pointer (some ⟨db, 0, none⟩)] w fun e w' => e = .returned (.tuple #[]) ∧ (∃ b2, w.heap.size ≤ b2 ∧ w'.ownsMap Tryz.prog 9 valR b2 0 (.map []) ∧ BoxN w' db 100 #[.map (some b), .map (some b2), .slice none 0 0, l, f, .bool false]) ∧ w.grownBy w' (some db) := by
  have hmk : ∀ W, (Instr.makeMap 97 none).run Tryz.prog W = .ok (.map (some W.heap.size)) (W.alloc (.map #[] 0)) := fun W => run_makeMap _ W
  have d0 := hD.cell 0 (v := .map (some b)) rfl
  have d1 := hD.cell 1 (v := m2) rfl
  have d2 := hD.cell 2 (v := p) rfl
  have d5 := hD.cell 5 (v := dn) rfl
  have f1 := hD.frozen 1
  have f2 := hD.frozen 2
  have f5 := hD.frozen 5
  have lD := hD.lt
  go_enter Tryz.func56, Tryz.ntmps56
  have hne := hD.ne_map hown
  have hown1 := (hown.setCell (a := ⟨db, 1, none⟩) hne (.map (some w.heap.size))).alloc (.map #[] 0)
  go_wp2_with (first
    | (at_range; refine wpList_range_own _ rfl _ 97 rfl 9 101 (string_keyed Tryz.underlying9) Tryz.underlying97 _ b 0 _ rfl hown1 ?_; intro w1 hrg hg1 hs1)
    | go_in)
  have bD1 : BoxN w1 db 100 #[.map (some b), .map (some w.heap.size), p, l, f, dn] := ((hD.set 1 (.map (some w.heap.size))).alloc (.map #[] 0)).kept hg1 (by simp)
  have hMn0 := World.ownsMap_made (w.setCell ⟨db, 1, none⟩ (.map (some w.heap.size))) Tryz.prog 9 valR
  have hMn1 := hMn0.kept hg1 (by simp)
  rw [World.size_setCell] at hMn1
  have hgr : w.grownBy w1 (some db) := ⟨hg1.os, hg1.tape, hg1.output, by rw [hs1]; simp; omega, fun k hk hnk => by
    have hd : k ≠ db := fun e => hnk (by rw [e])
    rw [hg1.block k (by simp; omega) (by simp)]
    show (((w.setCell ⟨db, 1, none⟩ (.map (some w.heap.size))).heap.push _)[k]?) = _
    rw [Array.getElem?_push_lt (by simpa using hk), ← Array.getElem?_eq_getElem, set_other _ _ _ _ _ hd]⟩
  have HG := hid_intro hgr
  clear hgr hg1 hs1 hown1 hown d0 d1 d2 d5 f1 f2 f5
  have d2 := bD1.cell 2 (v := p) rfl
  have d5 := bD1.cell 5 (v := dn) rfl
  have f2 := bD1.frozen 2
  have f5 := bD1.frozen 5
  refine wp_loop_rounds 1 ?_
  rw [rounds_succ]
  go_wp2_with (first
    | (at_next; refine wpList_next_ranges _ rfl _ rfl 9 (string_keyed Tryz.underlying9) valR (fun v : Value => v) (fun v : Value => v) (fun v _ _ => ⟨v, rfl⟩) (fun v _ _ => ⟨v, rfl⟩) b _ 0 _ _ _ rfl hrg ?_ ?_)
    | go_in)
  · intro _ _
    clear hrg
    go_wp2
    go_end0
    have hnn := bD1.ne_map hMn1
    exact ⟨rfl, ⟨_, Nat.le_refl _, (hMn1.setCell (a := ⟨db, 2, none⟩) hnn _).setCell (a := ⟨db, 5, none⟩) hnn _, (bD1.set 2 _).set 5 _⟩, (hid_elim HG).andThen (grown_sets w1 db 2 5 _ _) (fun j e => .inr e)⟩
  · intro x c kl y yp w' cnt' _ h2
    have h3 : false = true := h2
    cases h3

set_option maxHeartbeats 1000000 in
theorem Tryz.newHost (w : World) : Calls Tryz.prog 35 #[] w fun e w' => ∃ hb db rb md mn, e = .returned (.pointer (some ⟨hb, 0, none⟩)) ∧ BoxN w' hb 78 #[.pointer (some ⟨db, 0, none⟩), .pointer (some ⟨rb, 0, none⟩), .pointer none] ∧ Tryz.DiskAt w' db md mn none none (.slice none 0 0) (-1) (-1) ∧ BoxN w' rb 88 #[.slice none 0 0, .int .u64 0] ∧ (w.heap.size ≤ hb ∧ w.heap.size ≤ db ∧ w.heap.size ≤ rb ∧ w.heap.size ≤ md ∧ w.heap.size ≤ mn) ∧ Below w.heap.size w w' := by
  have hmk : ∀ W, (Instr.makeMap 97 none).run Tryz.prog W = .ok (.map (some W.heap.size)) (W.alloc (.map #[] 0)) := fun W => run_makeMap _ W
  have bD := ((BoxN.new (w.alloc (.map #[] 0)) 100 #[.map (some w.heap.size), .map none, .slice none 0 0, .int .i64 (-1), .int .i64 (-1), .bool false]).alloc (.cells #[.slice none 0 0, .int .u64 0] 88)).alloc (.cells #[.pointer (some ⟨w.heap.size + 1, 0, none⟩), .pointer (some ⟨w.heap.size + 1 + 1, 0, none⟩), .pointer none] 78)
  have bR := (BoxN.new ((w.alloc (.map #[] 0)).alloc (.cells #[.map (some w.heap.size), .map none, .slice none 0 0, .int .i64 (-1), .int .i64 (-1), .bool false] 100)) 88 #[.slice none 0 0, .int .u64 0]).alloc (.cells #[.pointer (some ⟨w.heap.size + 1, 0, none⟩), .pointer (some ⟨w.heap.size + 1 + 1, 0, none⟩), .pointer none] 78)
  have bH := BoxN.new (((w.alloc (.map #[] 0)).alloc (.cells #[.map (some w.heap.size), .map none, .slice none 0 0, .int .i64 (-1), .int .i64 (-1), .bool false] 100)).alloc (.cells #[.slice none 0 0, .int .u64 0] 88)) 78 #[.pointer (some ⟨w.heap.size + 1, 0, none⟩), .pointer (some ⟨w.heap.size + 1 + 1, 0, none⟩), .pointer none]
  have hM : ((((w.alloc (.map #[] 0)).alloc (.cells #[.map (some w.heap.size), .map none, .slice none 0 0, .int .i64 (-1), .int .i64 (-1), .bool false] 100)).alloc (.cells #[.slice none 0 0, .int .u64 0] 88)).alloc (.cells #[.pointer (some ⟨w.heap.size + 1, 0, none⟩), .pointer (some ⟨w.heap.size + 1 + 1, 0, none⟩), .pointer none] 78)).ownsMap Tryz.prog 9 valR w.heap.size 0 (.map []) := (((World.ownsMap_made w Tryz.prog 9 valR).alloc _).alloc _).alloc _
  have hB : Below w.heap.size w ((((w.alloc (.map #[] 0)).alloc (.cells #[.map (some w.heap.size), .map none, .slice none 0 0, .int .i64 (-1), .int .i64 (-1), .bool false] 100)).alloc (.cells #[.slice none 0 0, .int .u64 0] 88)).alloc (.cells #[.pointer (some ⟨w.heap.size + 1, 0, none⟩), .pointer (some ⟨w.heap.size + 1 + 1, 0, none⟩), .pointer none] 78)) := ((((Below.refl _ w).alloc (Nat.le_refl _) _).alloc (by simp) _).alloc (by simp; omega) _).alloc (by simp; omega) _
  simp only [World.size_alloc] at bD bR bH
  have hU := Tryz.up _ _ _ _ _ _ _ _ bD hM
  go_enter Tryz.func35, Tryz.ntmps35
  go_wp2_with (go_at_call 56; refine hU.mono ?_; rintro e w1 ⟨rfl, ⟨b2, hb2, hM2, bD1⟩, hg1⟩)
  go_ret
  have hM1 := hM.kept hg1 (by intro e; injection e with e; omega)
  simp only [World.size_alloc] at hb2
  exact ⟨_, _, _, w.heap.size, b2, rfl, bH.kept hg1 (by intro e; injection e with e; omega), ⟨bD1, ⟨0, by omega, hM1⟩, ⟨0, by omega, hM2⟩, by simp, by simp, by omega⟩, bR.kept hg1 (by intro e; injection e with e; omega), ⟨by omega, by omega, by omega, by omega, by omega⟩, hB.grown hg1 (by simp; omega) (fun q hq => by cases hq; omega)⟩
end Go.Proofs

/-
  leasekeeper.Open over an empty disk.
-/
namespace Go.Proofs
open Go.RowKit Go.Sort Go.Lib Go.Shelf Go.Maps

set_option maxRecDepth 100000 in
set_option maxHeartbeats 2000000 in
theorem Tryz.jOpen_nil (db md mn : Nat) (fd : Option (Nat × List UInt8)) (l f : Int) (tv : Value) (w : World) (hD : Tryz.DiskAt w db md mn fd none (.slice none 0 0) l f) (hE : Tryz.Env w) (h9 : 9 ≤ w.heap.size) (hG : Tryz.ErrT w) :
    Calls Tryz.prog 99 #[Tryz.diskV db, tv] w fun e w' => e = .returned (.tuple #[.pointer (some ⟨w.heap.size, 0, none⟩), .nilIface]) ∧ BoxN w' w.heap.size 212 #[Tryz.diskV db, .int .u64 0, .nilIface] ∧ Below w.heap.size w w' := by
  have hB0 : Below w.heap.size w (w.alloc (.cells #[Tryz.diskV db, .int .u64 0, .nilIface] 212)) := (Below.refl _ w).alloc (Nat.le_refl _) _
  have bJ := BoxN.new w 212 #[Tryz.diskV db, .int .u64 0, .nilIface]
  have hF := callsIn_wide.1 (Tryz.jFind_nil w.heap.size db md mn _ _ fd l f _ bJ (hD.below hB0))
  have hT := fun W (hb : Below w.heap.size w W) => Tryz.tellAll_nil tv W (hE.below hb (by omega)) (Nat.le_trans h9 hb.size) (hG.below (hb.mono h9))
  unfold Tryz.diskV at hF hB0 bJ ⊢
  go_enter Tryz.func99, Tryz.ntmps99
  go_wp2_with (first
    | (go_at_call 146; refine hF.mono ?_; rintro e w1 ⟨rfl, hb1⟩; have hB1 := hB0.trans (hb1.mono (by simp)); have bJ1 := bJ.below hb1 (by simp))
    | (go_at_call 147; refine (hT _ hB1).mono ?_; rintro e w2 ⟨rfl, hb2⟩))
  go_ret2
  exact ⟨rfl, bJ1.below hb2 bJ1.lt, hB1.trans (hb2.mono hB1.size)⟩

/-- the root. -/
def rootE : TokE := ⟨0, 0, 0, 18446744073709551615, 0, false⟩
def Tryz.rootV : Value := .agg #[.int .i64 0, .int .u64 0, .int .u64 18446744073709551615, .int .i64 0, .bool false]
theorem Tryz.rootMap : (DataW.map []).put (nmL (1, 0)) (.held Tryz.rootV) = mapD ([rootE].map TokE.key).reverse := by rfl
theorem rootOk : ListsOk [rootE] [] := ⟨by simp, by simp, by simp, by simp, fun t ht => by rw [List.mem_singleton.1 ht]; exact ⟨by show (0 : Nat) < u64lim; decide, by show (0 : Nat) < u64lim; decide⟩, fun l hl => (by cases hl)⟩

set_option maxRecDepth 100000 in
set_option maxHeartbeats 2000000 in
theorem Tryz.open_nil (db md mn rb : Nat) (l f now : Int) (w : World) (hD : Tryz.DiskAt w db md mn none none (.slice none 0 0) l f) (hE : Tryz.Env w) (h9 : 9 ≤ w.heap.size) (hG : Tryz.ErrT w) (t0 : 0 ≤ now) (t1 : now ≤ 18446744073709551615) (d9 : 9 ≤ db ∧ 9 ≤ md ∧ 9 ≤ mn) :
    Calls Tryz.prog 55 #[Tryz.diskV db, .iface 75 (.pointer (some ⟨rb, 0, none⟩)), .int .u64 now] w fun e w' => ∃ vb mt ml jb, e = .returned (.tuple #[.pointer (some ⟨vb, 0, none⟩), .nilIface]) ∧ Tryz.Whole w' ⟨vb, mt, ml, jb, db, md, mn⟩ ⟨.pointer (some ⟨jb, 0, none⟩), .iface 75 (.pointer (some ⟨rb, 0, none⟩)), false, .slice none 0 0⟩ now ⟨0, 0, [rootE], []⟩ [] l f ∧ (w.heap.size ≤ vb ∧ w.heap.size ≤ mt ∧ w.heap.size ≤ ml ∧ w.heap.size ≤ jb) ∧ Below w.heap.size w w' := by
  have hmkT : ∀ W, (Instr.makeMap 120 none).run Tryz.prog W = .ok (.map (some W.heap.size)) (W.alloc (.map #[] 0)) := fun W => run_makeMap _ W
  have hmkL : ∀ W, (Instr.makeMap 121 none).run Tryz.prog W = .ok (.map (some W.heap.size)) (W.alloc (.map #[] 0)) := fun W => run_makeMap _ W
  have hR := fun W => Tryz.root W
  unfold nmV at hR
  have hM := World.ownsMap_made w Tryz.prog 114 valR
  have hB0 : Below w.heap.size w (w.alloc (.map #[] 0)) := (Below.refl _ w).alloc (Nat.le_refl _) _
  have hO := fun W tv (hb : Below w.heap.size w W) => Tryz.jOpen_nil db md mn none l f tv W (hD.below hb) (hE.below hb (by omega)) (Nat.le_trans h9 hb.size) (hG.below (hb.mono h9))
  unfold Tryz.diskV at hO ⊢
  go_enter Tryz.func55, Tryz.ntmps55
  go_wp2_with (first
    | (go_at_call 85; refine (hR _).mono ?_; rintro e w1 ⟨rfl, hb1⟩; have hM1 := ownsMap_below hM hb1; have hB1 := hB0.trans (hb1.mono (by simp)); obtain ⟨w2, hrun, hM2, hT2⟩ := hM1.store Tryz.keyedName Tryz.underlying120 (by decide) (key := nmV (1, 0)) (val := Tryz.rootV) (Tryz.nmType.keyOf ⟨by decide, by decide⟩) (d := .held Tryz.rootV) (ps := []) rfl; have hB2 := hB1.grown hT2.grown hB1.size (fun q hq => by cases hq; omega); have hB4 := hB2.alloc hB2.size (.map #[] 0); have hB5 := hB4.alloc hB4.size (.cells #[.pointer none, .iface 75 (.pointer (some ⟨rb, 0, none⟩)), .int .u64 now, .map (some w.heap.size), .map (some w2.heap.size), .int .u64 0, .int .u64 0, .bool false, .slice none 0 0] 126); unfold nmV Tryz.rootV at hrun)
    | (go_at_call 99; refine (hO _ _ hB5).mono ?_; rintro e w6 ⟨rfl, bJ6, hb6⟩; have bV5 := BoxN.new (w2.alloc (.map #[] 0)) 126 #[.pointer none, .iface 75 (.pointer (some ⟨rb, 0, none⟩)), .int .u64 now, .map (some w.heap.size), .map (some w2.heap.size), .int .u64 0, .int .u64 0, .bool false, .slice none 0 0]; rw [World.size_alloc] at bV5; have bV6 := bV5.below hb6 (by simp); have v0 := bV6.cell 0 (v := .pointer none) rfl; have v0f := bV6.frozen 0))
  simp only [World.size_alloc] at bJ6
  have hz2 := hB2.size
  have hMl5 := (World.ownsMap_made w2 Tryz.prog 114 valR).alloc (.cells #[.pointer none, .iface 75 (.pointer (some ⟨rb, 0, none⟩)), .int .u64 now, .map (some w.heap.size), .map (some w2.heap.size), .int .u64 0, .int .u64 0, .bool false, .slice none 0 0] 126)
  have hMt5 := (hM2.alloc (.map #[] 0)).alloc (.cells #[.pointer none, .iface 75 (.pointer (some ⟨rb, 0, none⟩)), .int .u64 now, .map (some w.heap.size), .map (some w2.heap.size), .int .u64 0, .int .u64 0, .bool false, .slice none 0 0] 126)
  have hMl6 := ownsMap_below hMl5 hb6
  have hMt6 := ownsMap_below hMt5 hb6
  have hB6 := hB5.trans (hb6.mono hB5.size)
  have hB7 := hB6.setCell (p := ⟨w2.heap.size + 1, 0, none⟩) (by simp; omega) (.pointer (some ⟨w2.heap.size + 1 + 1, 0, none⟩))
  have hS7 : Spares [w2.heap.size + 1] w6 (w6.setCell ⟨w2.heap.size + 1, 0, none⟩ (.pointer (some ⟨w2.heap.size + 1 + 1, 0, none⟩))) := (Spares.of_below (Below.refl _ _)).set (by simp) _ _
  have hMl7 := hS7.map hMl6 (by simp)
  have hMt7 := hS7.map hMt6 (by simp; have := hM2.lt; omega)
  have bJ7 := hS7.box bJ6 (by simp)
  have bV7 := bV6.set 0 (.pointer (some ⟨w2.heap.size + 1 + 1, 0, none⟩))
  have hD7 := hD.below hB7
  rw [show ((DataW.map []).put (Lit.string (nmB (1, 0))) (.held Tryz.rootV)) = mapD ([rootE].map TokE.key).reverse from Tryz.rootMap] at hMt7
  exact bodyPost_ret (v := .tuple #[.pointer (some ⟨w2.heap.size + 1, 0, none⟩), .nilIface]) (by simp [results, Tryz.results55, go_sem]) rfl ⟨w2.heap.size + 1, w.heap.size, w2.heap.size, w2.heap.size + 1 + 1, rfl,
    { v := { va := ⟨bV7, ⟨⟨_, by decide, hMt7⟩, ⟨0, by decide, hMl7⟩⟩, rootOk, hE.below hB7 (by omega), by have := hB7.size; omega⟩, nt := fun t ht => by rw [List.mem_singleton.1 ht]; exact Nat.le_refl _, nl := fun l hl => (by cases hl), t0 := t0, t1 := t1, okT := fun t ht => by rw [List.mem_singleton.1 ht]; exact ⟨by decide, by decide, by decide, by decide⟩, okL := fun l hl => (by cases hl), mne := by have := hM2.lt; show w.heap.size ≠ w2.heap.size; omega, v9 := by show 9 ≤ w2.heap.size + 1; omega, m9 := h9, l9 := by show 9 ≤ w2.heap.size; omega }, jn := rfl, j := bJ7, d := ⟨none, none, hD7, rfl, rfl⟩, j9 := by show 9 ≤ w2.heap.size + 1 + 1; omega, d9 := d9.1, md9 := d9.2.1, mn9 := d9.2.2, ne1 := by have := hD.lt; show md ≠ w.heap.size ∧ md ≠ w2.heap.size ∧ mn ≠ w.heap.size ∧ mn ≠ w2.heap.size; omega }, by omega, hB7⟩
end Go.Proofs

/-
  plain.Host.Open over an empty disk.
-/
namespace Go.Proofs
open Go.RowKit Go.Sort Go.Lib Go.Shelf Go.Maps

abbrev HostP (hb db rb : Nat) (W : World) : Prop := W.cell? ⟨hb, 0, none⟩ = some (.pointer (some ⟨db, 0, none⟩)) ∧ W.cell? ⟨hb, 1, none⟩ = some (.pointer (some ⟨rb, 0, none⟩))
theorem HostP.drew {hb db rb : Nat} {W : World} (h : HostP hb db rb W) : HostP hb db rb W.drew := h

set_option maxRecDepth 100000 in
set_option maxHeartbeats 2000000 in
theorem Tryz.hOpen0 (B hb db rb md mn : Nat) (vv ra rc : Value) (l f : Int) (now c d : Int) (w : World) (hH : BoxN w hb 78 #[.pointer (some ⟨db, 0, none⟩), .pointer (some ⟨rb, 0, none⟩), vv]) (hD : Tryz.DiskAt w db md mn none none (.slice none 0 0) l f) (hR : BoxN w rb 88 #[ra, rc]) (hlo : B ≤ hb ∧ B ≤ db ∧ B ≤ rb ∧ B ≤ md ∧ B ≤ mn) (hBw : B ≤ w.heap.size) (b9 : 9 ≤ B) (hE : Tryz.Env w) (hG : Tryz.ErrT w) (t0 : 0 ≤ now) (t1 : now ≤ 18446744073709551615) :
    Calls Tryz.prog 33 #[.pointer (some ⟨hb, 0, none⟩), .int .u64 now, fallV (-1) (-1) c d] w fun e w' => e = .returned (.int .i64 0) ∧ (∃ k vx, Tryz.Sys B w' hb rb ⟨k, vx, now, ⟨0, 0, [rootE], []⟩, []⟩) ∧ Below B w w' := by
  obtain ⟨lo1, lo2, lo3, lo4, lo5⟩ := hlo
  have hne := hH.ne hD.box (by decide)
  have hnr := hH.ne hR (by decide)
  have hnd := hD.box.ne hR (by decide)
  have lH := hH.lt
  have lD := hD.lt
  have bF := BoxN.new w 29 #[.int .i64 (-1), .int .i64 (-1), .int .i64 c, .int .i64 d]
  have hB0 : Below w.heap.size w (w.alloc (.cells #[.int .i64 (-1), .int .i64 (-1), .int .i64 c, .int .i64 d] 29)) := (Below.refl _ w).alloc (Nat.le_refl _) _
  have hBf := Tryz.before hb db _ _ _ _ _ _ _ _ (-1) (-1) c d _ (hH.alloc (.cells #[.int .i64 (-1), .int .i64 (-1), .int .i64 c, .int .i64 d] 29)) (hD.box.alloc _)
  have hO := fun W (hD' : Tryz.DiskAt W db md mn none none (.slice none 0 0) (-1) (-1)) (hb' : Below B w W) => Tryz.open_nil db md mn rb (-1) (-1) now W hD' (hE.below hb' (by omega)) (by have := hb'.size; omega) (hG.below (hb'.mono b9)) t0 t1 ⟨by omega, by omega, by omega⟩
  unfold fallV at hBf ⊢
  go_enter Tryz.func33, Tryz.ntmps33
  go_wp2_with (go_at_call 40; refine hBf.mono ?_; rintro e w1 ⟨rfl, bD1, hg1⟩)
  have bH1 := (hH.alloc (.cells #[.int .i64 (-1), .int .i64 (-1), .int .i64 c, .int .i64 d] 29)).kept hg1 (by intro e; injection e with e; exact hne e)
  have bR1 := (hR.alloc (.cells #[.int .i64 (-1), .int .i64 (-1), .int .i64 c, .int .i64 d] 29)).kept hg1 (by intro e; injection e with e; exact hnd e.symm)
  have bF1 := bF.kept hg1 (by intro e; injection e with e; omega)
  have hD1 := (hD.below hB0).cells (Spares.of_grown hg1 (by simp)) bD1
  have hB1 : Below B w w1 := (hB0.mono hBw).grown hg1 (by simp; omega) (fun q hq => by cases hq; exact lo2)
  have hP1 : HostP hb db rb w1 := ⟨bH1.cell 0 rfl, bH1.cell 1 rfl⟩
  have l1 := bH1.lt
  have hO1 := hO w1.drew (hD1.below (Below.refl _ _).drew) hB1.drew
  unfold Tryz.diskV at hO1
  clear hBf hO
  go_region_held3 (HostP hb db rb) (first
    | with_reducible exact HostP.drew hP1
    | with_reducible assumption) (first | (go_at_call 55; refine hO1.mono ?_; rintro e w2 ⟨vb, mt, ml, jb, rfl, hW2, hlo2, hb2⟩; have bH2 := BoxN.below (W := w1.drew) bH1 hb2 bH1.lt; have hP2 : HostP hb db rb w2 := ⟨bH2.cell 0 rfl, bH2.cell 1 rfl⟩))
  have hz1 : w1.drew.heap.size = w1.heap.size := rfl
  have bF2 := BoxN.below (W := w1.drew) bF1 hb2 bF1.lt
  have bR2 := BoxN.below (W := w1.drew) bR1 hb2 bR1.lt
  have hB2 : Below B w w2 := hB1.drew.trans (hb2.mono (by have := hB1.size; omega))
  have hS3 : Spares [hb] w2 (w2.setCell ⟨hb, 2, none⟩ (.pointer (some ⟨vb, 0, none⟩))) := (Spares.of_below (Below.refl _ _)).set (by simp) _ _
  have bH3 := bH2.set 2 (.pointer (some ⟨vb, 0, none⟩))
  have bF3 := hS3.box bF2 (by simp; omega)
  have bR3 := hS3.box bR2 (by simpa using Ne.symm hnr)
  have hW3 := hW2.spared hS3 (fun b hb' => by
    obtain ⟨fd, fn, hd, -, -⟩ := hW2.d
    obtain ⟨n3, -, m3⟩ := hd.dm
    obtain ⟨n4, -, m4⟩ := hd.nm
    have hz := hlo2
    simp only [Blk.turns, List.mem_cons, List.not_mem_nil, or_false] at hb'
    simp only [List.mem_singleton]
    rcases hb' with rfl | rfl | rfl | rfl | rfl | rfl
    · omega
    · omega
    · omega
    · exact Ne.symm hne
    · exact BoxN.ne_map' bH2 m3
    · exact BoxN.ne_map' bH2 m4) (by simp; omega) (fun b x hx => by simpa using hx.ne bH2 (by decide)) (by simp; omega)
  have hB3 := hB2.setCell (p := ⟨hb, 2, none⟩) lo1 (.pointer (some ⟨vb, 0, none⟩))
  obtain ⟨fd3, fn3, hD3, -, -⟩ := hW3.d
  have hBa := Tryz.after hb db _ _ _ _ _ _ _ (-1) (-1) c d _ bH3 hD3.box
  have fz := bH2.frozen 2
  have h2 := bH2.cell 2 (v := vv) rfl
  have g0 := bF2.cell 0 (v := .int .i64 (-1)) rfl
  have g1 := bF2.cell 1 (v := .int .i64 (-1)) rfl
  have g2 := bF2.cell 2 (v := .int .i64 c) rfl
  have g3 := bF2.cell 3 (v := .int .i64 d) rfl
  have nF : w.heap.size ≠ hb := by omega
  unfold fallV at hBa
  have HW3 := hid_intro hW3
  clear hW3 hW2 hD3
  go_wp2_with (first
    | (go_at_call 42; refine hBa.mono ?_; rintro e w4 ⟨rfl, bD4, hg4⟩)
    | (go_at_call 43; refine (Tryz.told_nil _).mono ?_; rintro e w5 ⟨rfl, hb5⟩))
  go_ret
  have kH := bH3.kept hg4 (by intro e; injection e with e; exact hne e)
  have kR := bR3.kept hg4 (by intro e; injection e with e; exact hnd e.symm)
  have hW4 := (hid_elim HW3).setLF (Spares.of_grown hg4 (by simp)) bD4
  have hB4 := hB3.grown hg4 (by have := hB3.size; omega) (fun q hq => by cases hq; exact lo2)
  have hz := hlo2
  have hSys : Tryz.Sys B w4 hb rb ⟨⟨vb, mt, ml, jb, db, md, mn⟩, ⟨.pointer (some ⟨jb, 0, none⟩), .iface 75 (.pointer (some ⟨rb, 0, none⟩)), false, .slice none 0 0⟩, now, ⟨0, 0, [rootE], []⟩, []⟩ := {
    host := kH, wh := hW4, err := hG.below (hB4.mono b9), b9 := b9, hlow := lo1,
    low := fun b hb' => by
      have := hB1.size
      simp only [Blk.turns, List.mem_cons, List.not_mem_nil, or_false] at hb'
      omega,
    rvb := ⟨_, _, kR⟩, rlow := lo3, vrv := rfl, vtk := rfl, due := World.ownsRow_nil _ _ _ _ }
  exact ⟨rfl, ⟨_, _, hSys.below hb5⟩, hB4.trans (hb5.mono (by have := hB4.size; omega))⟩
end Go.Proofs

/-
  leasekeeperkeep.opened: a vault that does what it must with a lease.
-/
namespace Go.Proofs
open Go.RowKit Go.Sort Go.Lib Go.Shelf Go.Maps Go.WideMaps

theorem Tries.head {tm : Int} {a b : TS} (h : Tries tm a b) : a = b ∨ ∃ c, Try1 tm a c ∧ Tries tm c b := by
  induction h with
  | refl => exact .inl rfl
  | step h h1 ih =>
    rcases ih with rfl | ⟨c, h2, h3⟩
    · exact .inr ⟨_, h1, .refl _⟩
    · exact .inr ⟨c, h2, .step h3 h1⟩
theorem Try1.some {tm : Int} {a b : TS} (h : Try1 tm a b) : a.q ≠ [] := fun e => by
  cases h with
  | fail hs hp hl ho hq => rw [e] at hp; exact absurd hp.length_eq (by simp)
  | ok hs hp hl ho hq => rw [e] at hp; exact absurd hp.length_eq (by simp)
theorem Tries.done {tm : Int} {a b : TS} (h : Tries tm a b) (hq : a.q = []) : b = a := by
  rcases h.head with e | ⟨c, h1, -⟩
  · exact e.symm
  · exact absurd hq h1.some
theorem Subj.of_lea {tm : Int} {s : VSt} {t : TurnD} {it : Item} {tk : Bool} {n un : Nat} (hs : Subj tm s t it tk n un) (hk : t.k = 2) : ∃ x ∈ s.lks, x.ak = 1 ∧ t = ⟨x.at_, 2, x.n⟩ ∧ it = .lea (failL tm x) ∧ tk = false ∧ n = x.n ∧ un = x.au := by
  cases hs with
  | tok x hx h1 => exact absurd hk (by simp)
  | lea x hx h1 => exact ⟨x, hx, h1, rfl, rfl, rfl, rfl, rfl⟩
/-- one lease of the root's in line, and the revoker answers. -/
theorem tries_lease {tm fl : Int} {tn ln : Nat} {l : LeaE} {c : List UInt8} {b : TS} (hau : l.au = 0) (ho : (fl % 2 == 1) = false) (h : Tries tm ⟨⟨tn, ln, [rootE], [l]⟩, [⟨l.at_, 2, l.n⟩], fl, c, []⟩ b) (hb : b.q = []) : b.s = ⟨tn, ln, [rootE], []⟩ ∧ b.cl = [(2, l.n)] := by
  rcases h.head with rfl | ⟨a, h1, h2⟩
  · cases hb
  · cases h1 with
    | fail hs hp hl ho' hq => rw [ho] at ho'; cases ho'
    | @ok t q' q'' it tk n un hs hp hl ho' hq =>
      have hp1 := List.perm_singleton.1 hp
      obtain ⟨rfl, rfl⟩ := List.cons.inj hp1
      obtain ⟨x, hx, -, -, -, rfl, rfl, rfl⟩ := hs.of_lea rfl
      have hxl : x = l := List.mem_singleton.1 hx
      subst hxl
      have hup : upAdd ((Item.gone false x.n).app ⟨tn, ln, [rootE], [x]⟩) tm x.au = [] := by
        rw [hau]
        simp [upAdd, Item.app, dropTok, rootE, dueT]
      rw [hup] at hq
      have hq' : q'' = [] := List.Perm.eq_nil hq
      have := h2.done hq'
      subst this
      exact ⟨by simp [Item.app, dropTok, dropLea, delLea], rfl⟩

theorem nm_t0 : nmStr 1 0 = [116, 48] := by simp [nmStr, Lib.decDigits_one]
theorem nm_l1 : nmStr 2 1 = [108, 49] := by simp [nmStr, Lib.decDigits_one]
def lea1 (at_ : Int) (pd : Bool) : LeaE := ⟨1, 1, 0, at_, 0, pd, [97, 47, 98], 120⟩
theorem tree1 (pd : Bool) (at_ : Int) (tn ln : Nat) : Tree ⟨tn, ln, [rootE], [lea1 at_ pd]⟩ :=
  ⟨by simp, by simp, fun t ht => .inl (by rw [List.mem_singleton.1 ht]; rfl), fun t ht => ⟨by rw [List.mem_singleton.1 ht]; rfl, rootE, by simp, by rw [List.mem_singleton.1 ht]; rfl⟩, fun t ht _ => by rw [List.mem_singleton.1 ht]; rfl⟩

set_option maxRecDepth 100000 in
set_option maxHeartbeats 4000000 in
theorem Tryz.opened (w : World) (h9 : 9 ≤ w.heap.size) (hE : Tryz.Env w) (hT : Tryz.ErrT w) :
    Calls Tryz.prog 15 #[] w fun e w' => ∃ hb rb k vx c, e = .returned (.pointer (some ⟨hb, 0, none⟩)) ∧ Tryz.Sys w.heap.size w' hb rb ⟨k, vx, 100, ⟨0, 1, [rootE], []⟩, c⟩ ∧ c.length ≤ 300000000 ∧ Below w.heap.size w w' := by
  have hw := fun W => Tryz.well W
  have hO := fun (W : World) (hb db rb md mn : Nat) (hBW : Below 9 w W) (h1 : w.heap.size ≤ W.heap.size) (bH : BoxN W hb 78 #[.pointer (some ⟨db, 0, none⟩), .pointer (some ⟨rb, 0, none⟩), .pointer none]) (hD : Tryz.DiskAt W db md mn none none (.slice none 0 0) (-1) (-1)) (bR : BoxN W rb 88 #[.slice none 0 0, .int .u64 0]) (hlo : w.heap.size ≤ hb ∧ w.heap.size ≤ db ∧ w.heap.size ≤ rb ∧ w.heap.size ≤ md ∧ w.heap.size ≤ mn) => Tryz.hOpen0 w.heap.size hb db rb md mn _ _ _ (-1) (-1) 100 0 0 W bH hD bR hlo h1 h9 (hE.below (hBW.mono (by decide)) (Nat.le_refl _)) (hT.below hBW) (by decide) (by decide)
  unfold fallV at hw hO
  go_enter Tryz.func15, Tryz.ntmps15
  go_wp2_with (go_at_call 35; refine (Tryz.newHost _).mono ?_; rintro e w1 ⟨hb, db, rb, md, mn, rfl, bH1, hD1, bR1, hlo, hb1⟩)
  refine (hw _).mono ?_
  rintro e w2 ⟨rfl, hb2⟩
  have hb02 : Below w.heap.size w w2 := hb1.trans (hb2.mono hb1.size)
  go_wp2_with (go_at_call 33; refine (hO w2 hb db rb md mn (hb02.mono h9) hb02.size (bH1.below hb2 bH1.lt) (hD1.below hb2) (bR1.below hb2 bR1.lt) hlo).mono ?_; rintro e w3 ⟨rfl, ⟨k, vx, hS3⟩, hb3⟩)
  have hb03 : Below w.heap.size w w3 := hb02.trans hb3
  clear hO hb3 hb2 hb1 bH1 hD1 bR1 hb02
  refine (hw _).mono ?_
  rintro e w4 ⟨rfl, hb4⟩
  clear hw
  have hba : Below w4.heap.size w4 (w4.alloc (.cells #[.int .i64 (-1), .int .i64 (-1), .int .i64 0, .int .i64 0] 29)) := (Below.refl _ w4).alloc (Nat.le_refl _) _
  have hb35 : Below w3.heap.size w3 (w4.alloc (.cells #[.int .i64 (-1), .int .i64 (-1), .int .i64 0, .int .i64 0] 29)) := hb4.trans (hba.mono hb4.size)
  have hS5 := hS3.below hb35
  have bF5 := BoxN.new w4 29 #[.int .i64 (-1), .int .i64 (-1), .int .i64 0, .int .i64 0]
  have hb05 := hb03.trans (hb35.mono hb03.size)
  have g0 := bF5.cell 0 (v := .int .i64 (-1)) rfl
  have g1 := bF5.cell 1 (v := .int .i64 (-1)) rfl
  have g2 := bF5.cell 2 (v := .int .i64 0) rfl
  have g3 := bF5.cell 3 (v := .int .i64 0) rfl
  have hI := Tryz.kIssue hS5 rootE (by simp) rfl [97, 47, 98] (by decide) 10 20 (by omega) (by omega) (by omega) (by simp) (by omega) (by omega) (by simp) 0 0
  rw [show (rootE.n) = 0 from rfl, nm_t0] at hI
  unfold fallV at hI
  clear hS3 hb4 hba hb35 hb03
  generalize hfb : w4.heap.size = fb at *
  go_wp2_with (go_at_call 18; refine hI.mono ?_; rintro e w6 ⟨rfl, ⟨c6, hc6, hS6⟩, hs6⟩)
  have bF6 := hs6.box bF5 (hS5.wh.no bF5 (by decide) (by decide))
  have hb06 : Below w.heap.size w w6 := hb05.trans (hs6.below hb05.size (fun q hq => hS5.low q hq))
  have hS6' : Tryz.Sys w.heap.size w6 hb rb ⟨k, vx, 100, ⟨0, 1, [rootE], [lea1 110 false]⟩, c6⟩ := hS6
  clear hS6 hs6 hI hS5 bF5 hb05 g0 g1 g2 g3
  have hA1 := Tryz.kAuth hS6' (lea1 110 false) (by simp) [97, 47, 98]
  rw [show (((!(lea1 110 false).pd && decide ((100 : Int) < (lea1 110 false).at_)) && ((lea1 110 false).pth == [97, 47, 98]))) = true from by simp [lea1]] at hA1
  refine hA1.mono ?_
  rintro e w7 ⟨rfl, hb7⟩
  have hS7 := hS6'.below hb7
  have hA2 := Tryz.kAuth hS7 (lea1 110 false) (by simp) [97]
  rw [show (((!(lea1 110 false).pd && decide ((100 : Int) < (lea1 110 false).at_)) && ((lea1 110 false).pth == [97]))) = false from by simp [lea1]] at hA2
  go_wp2_with fail
  refine hA2.mono ?_
  rintro e w8 ⟨rfl, hb8⟩
  have hb68 := hb7.trans (hb8.mono hb7.size)
  have hS8 := hS6'.below hb68
  have bF8 := bF6.below hb68 bF6.lt
  have hb08 := hb06.trans (hb68.mono hb06.size)
  clear hA1 hA2 hS7 hS6' hb7 hb8 hb68 bF6 hb06
  have g0 := bF8.cell 0 (v := .int .i64 (-1)) rfl
  have g1 := bF8.cell 1 (v := .int .i64 (-1)) rfl
  have g2 := bF8.cell 2 (v := .int .i64 0) rfl
  have g3 := bF8.cell 3 (v := .int .i64 0) rfl
  have hRn := Tryz.kRenew hS8 0 (lea1 110 false) rfl (by simp [lea1]) 15 (by omega) (by omega) (by simp) (by simp at hc6; omega) 0 0
  have e115 : renewL 100 15 (lea1 110 false) = 115 := by
    simp [renewL, lea1, plusI]
    omega
  rw [e115] at hRn
  unfold fallV at hRn
  go_wp2_with fail
  refine hRn.mono ?_
  rintro e w9 ⟨rfl, ⟨c9, hc9, hS9⟩, hs9⟩
  have hS9' : Tryz.Sys w.heap.size w9 hb rb ⟨k, vx, 100, ⟨0, 1, [rootE], [lea1 115 false]⟩, c9⟩ := hS9
  have bF9 := hs9.box bF8 (hS8.wh.no bF8 (by decide) (by decide))
  have hb09 : Below w.heap.size w w9 := hb08.trans (hs9.below hb08.size (fun q hq => hS8.low q hq))
  clear hS9 hs9 hS8 bF8 hb08 hRn g0 g1 g2 g3 e115
  have g0 := bF9.cell 0 (v := .int .i64 (-1)) rfl
  have g1 := bF9.cell 1 (v := .int .i64 (-1)) rfl
  have g2 := bF9.cell 2 (v := .int .i64 0) rfl
  have g3 := bF9.cell 3 (v := .int .i64 0) rfl
  have hRv := Tryz.kRevoke hS9' 0 (lea1 115 false) rfl (by simp [lea1]) (by simp) (by simp at hc6; omega) 0 0
  unfold fallV at hRv
  go_wp2_with fail
  refine hRv.mono ?_
  rintro e w10 ⟨rfl, ⟨c10, hc10, hS10⟩, hs10⟩
  have hS10' : Tryz.Sys w.heap.size w10 hb rb ⟨k, vx, 100, ⟨0, 1, [rootE], [lea1 100 true]⟩, c10⟩ := hS10
  have bF10 := hs10.box bF9 (hS9'.wh.no bF9 (by decide) (by decide))
  have hb010 : Below w.heap.size w w10 := hb09.trans (hs10.below hb09.size (fun q hq => hS9'.low q hq))
  clear hS10 hs10 hS9' bF9 hb09 hRv g0 g1 g2 g3
  have hA3 := Tryz.kAuth hS10' (lea1 100 true) (by simp) [97, 47, 98]
  rw [show (((!(lea1 100 true).pd && decide ((100 : Int) < (lea1 100 true).at_)) && ((lea1 100 true).pth == [97, 47, 98]))) = false from by simp [lea1]] at hA3
  go_wp2_with fail
  refine hA3.mono ?_
  rintro e w11 ⟨rfl, hb11⟩
  have hS11 := hS10'.below hb11
  have bF11 := bF10.below hb11 bF10.lt
  have hb011 := hb010.trans (hb11.mono hb010.size)
  clear hA3 hS10' bF10 hb010 hb11
  have g0 := bF11.cell 0 (v := .int .i64 (-1)) rfl
  have g1 := bF11.cell 1 (v := .int .i64 (-1)) rfl
  have g2 := bF11.cell 2 (v := .int .i64 0) rfl
  have g3 := bF11.cell 3 (v := .int .i64 0) rfl
  have hlow : ∀ q ∈ htBs k rb vx.due, w.heap.size ≤ q := fun q hq => by
    simp only [htBs, tickBs, List.mem_append, List.mem_cons] at hq
    rcases hq with hq | rfl | e | e
    · exact hS11.low q hq
    · exact hS11.rlow
    · simp [Value.ownBlock] at e
    · exact (row_box hS11.due (by simpa using e)).1
  have hTk := Tryz.hTick w.heap.size hb rb _ w11 hS11 hb011.size (tree1 true 100 0 1) (by simp) 0 (by omega) ⟨fun x hx => by rw [List.mem_singleton.1 hx]; exact ⟨Int.le_refl _, Int.le_refl _⟩, fun x hx => by rw [List.mem_singleton.1 hx]; exact ⟨Int.le_refl _, Int.le_refl _⟩⟩ (by simp at hc6 ⊢; omega) 0 100 (by omega) (by omega) (by omega) (by omega) 0 0
  unfold fallV at hTk
  go_wp2_with fail
  refine hTk.mono ?_
  rintro e w12 ⟨vx', v', b, rfl, hTs, hbq, hS12, hrow, -, ⟨-, hcl, -⟩, hs12⟩
  have hTs' : Tries 100 ⟨⟨0, 1, [rootE], [lea1 100 true]⟩, [⟨(lea1 100 true).at_, 2, (lea1 100 true).n⟩], 0, c10, []⟩ b := by
    simpa [rootE, dueT, dueL, lea1] using hTs
  obtain ⟨hbs, hbc⟩ := tries_lease rfl (by decide) hTs' hbq
  obtain ⟨bs, bq, bf, bc, bcl⟩ := b
  simp only at hbs hbc hbq hcl hS12 hrow
  subst hbs hbc hbq
  have hb012 : Below w.heap.size w w12 := hb011.trans (hs12.below hb011.size hlow)
  obtain ⟨g, cap, rfl⟩ := row_some hrow (by simp)
  have s0 : w12.cell? ⟨g, 0, none⟩ = some (.string ⟨(nmStr 2 1).toArray⟩) := hrow.cellAt 0 (by simp)
  have hS12' : Tryz.Sys w.heap.size w12 hb rb ⟨k, vx', 100, ⟨0, 1, [rootE], []⟩, bc⟩ := hS12
  clear hs12 hS12 hS11 bF11 hb011 hTk g0 g1 g2 g3 hrow hTs hTs' hlow
  rw [nm_l1] at s0
  simp only [nm_l1]
  go_wp2
  go_ret
  exact ⟨hb, rb, k, vx', bc, rfl, hS12', by simp at hc6 hcl; omega, hb012⟩
end Go.Proofs

/-
  The statements' own functions: sameInfos, changes, looks.
-/

namespace Go.Proofs
open Go.RowKit Go.Sort Go.Lib Go.Shelf Go.Maps

theorem flatI_get : ∀ (xs : List InfoD) (k j : Nat) (t : InfoD), xs[k]? = some t → j < 6 → (flatI xs)[k * 6 + j]? = t.cells[j]?
  | [], _, _, _, h, _ => by simp at h
  | x :: xs, 0, j, t, h, hj => by
    obtain rfl : x = t := by simpa using h
    show (x.cells.toList ++ flatI xs)[0 * 6 + j]? = _
    rw [List.getElem?_append_left (by rw [InfoD.cells_size]; omega)]
    simp
  | x :: xs, k + 1, j, t, h, hj => by
    show (x.cells.toList ++ flatI xs)[(k + 1) * 6 + j]? = _
    rw [List.getElem?_append_right (by rw [InfoD.cells_size]; omega), InfoD.cells_size, show (k + 1) * 6 + j - 6 = k * 6 + j by omega]
    exact flatI_get xs k j t (by simpa using h) hj
theorem infoRow {B : Nat} {W : World} {g cap n : Nat} {e : TypeId} {xs : List InfoD} (h : W.ownsRow B e 6 (.slice (some ⟨g, 0, none⟩) n cap) n (flatI xs)) {k : Nat} {t : InfoD} (hk : xs[k]? = some t) :
    W.cell? ⟨g, k * 6, none⟩ = some (.string ⟨t.id.toArray⟩) ∧ W.cell? ⟨g, k * 6 + 1, none⟩ = some (.int .i64 t.st) ∧ W.cell? ⟨g, k * 6 + 2, none⟩ = some (.int .u64 t.at_) ∧ W.cell? ⟨g, k * 6 + 3, none⟩ = some (.int .i64 t.tr) ∧ W.cell? ⟨g, k * 6 + 4, none⟩ = some (.string ⟨t.tok.toArray⟩) ∧ W.cell? ⟨g, k * 6 + 5, none⟩ = some (.string ⟨t.pth.toArray⟩) := by
  have c : ∀ j, j < 6 → W.cell? ⟨g, k * 6 + j, none⟩ = t.cells[j]? := fun j hj => by
    have hc := h.cells (g := g) rfl (k * 6 + j)
    have hs : j < t.cells.size := hj
    have := hc (t.cells[j]) (by rw [flatI_get xs k j t hk hj]; simp [hs])
    rw [Lib.add_plain] at this
    simp only [Nat.zero_add] at this
    rw [this]; simp [hs]
  exact ⟨c 0 (by omega), c 1 (by omega), c 2 (by omega), c 3 (by omega), c 4 (by omega), c 5 (by omega)⟩

theorem Tryz.infoStruct : Tryz.prog.underlying 49 = some (.struct (Tryz.prog.fieldsOf 49)) := by kernel_rfl
theorem Tryz.infoHeld : Tryz.prog.stoodInHeld 49 = false := by kernel_rfl
theorem Tryz.infoGuard : Tryz.prog.eqGuardType Tryz.prog.depth 49 = false := by kernel_rfl
set_option maxHeartbeats 1000000 in
theorem Tryz.infoNeq (x y : InfoD) (W : World) : (binOp .neq 49 (.agg x.cells) (.agg y.cells)).run Tryz.prog W = .ok (.bool (!(x.id == y.id && x.st == y.st && x.at_ == y.at_ && x.tr == y.tr && x.tok == y.tok && x.pth == y.pth))) W := by
  obtain ⟨a0, a1, a2, a3, a4, a5⟩ := x
  obtain ⟨b0, b1, b2, b3, b4, b5⟩ := y
  rw [run_neq_struct, run_equalIn_struct W 9999 _ _ _ Tryz.infoStruct Tryz.infoHeld]
  simp only [Program.fieldsOf, Tryz.underlying49]
  simp [InfoD.cells, infoCells, Op.eqFields, go_sem]
  by_cases h0 : a0 = b0 <;> by_cases h1 : a1 = b1 <;> by_cases h2 : a2 = b2 <;> by_cases h3 : a3 = b3 <;> by_cases h4 : a4 = b4 <;> by_cases h5 : a5 = b5 <;> simp_all

set_option maxRecDepth 100000 in
set_option maxHeartbeats 4000000 in
theorem Tryz.sameInfos (B B' n m : Nat) (u v : Value) (xs ys : List InfoD) (w : World) (hA : w.ownsRow B 49 6 u n (flatI xs)) (hB : w.ownsRow B' 49 6 v m (flatI ys)) (hn : xs.length = n) (hm : ys.length = m) (hl : n ≤ 1000) (hl' : m ≤ 1000) :
    Calls Tryz.prog 58 #[u, v] w fun e w' => ∃ b, e = .returned (.bool b) ∧ (xs = ys → b = true) ∧ Below w.heap.size w w' := by
  have hU : ∃ p c, u = .slice p n c := by
    rcases hA.2 with ⟨rfl, h0⟩ | ⟨g, cap, cur, rfl, _⟩
    · exact ⟨none, 0, by rw [h0]⟩
    · exact ⟨_, _, rfl⟩
  have hV : ∃ p c, v = .slice p m c := by
    rcases hB.2 with ⟨rfl, h0⟩ | ⟨g, cap, cur, rfl, _⟩
    · exact ⟨none, 0, by rw [h0]⟩
    · exact ⟨_, _, rfl⟩
  obtain ⟨p, c, rfl⟩ := hU
  obtain ⟨q, d, rfl⟩ := hV
  by_cases hnm : n = m
  · subst hnm
    go_enter Tryz.func58, Tryz.ntmps58
    go_wp2
    go_loopw [5] (fun i wr => ∃ k : Nat, k ≤ n ∧ i = .int .i64 k ∧ Below w.heap.size w wr) (fun i _ => n - (intOf i).toNat)
    case atStart => exact ⟨0, Nat.zero_le _, rfl, Below.refl _ _⟩
    case round =>
      obtain ⟨k, hk, rfl, hBw⟩ := hrel
      by_cases hkn : k < n
      · obtain ⟨x, hx⟩ : ∃ x, xs[k]? = some x := ⟨xs[k]'(by omega), by simp⟩
        obtain ⟨y, hy⟩ : ∃ y, ys[k]? = some y := ⟨ys[k]'(by omega), by simp⟩
        obtain ⟨g, rfl⟩ : ∃ g, p = some ⟨g, 0, none⟩ := by
          rcases hA.2 with ⟨h, h0⟩ | ⟨g, _, _, h, _⟩
          · omega
          · simp at h; exact ⟨g, h.1⟩
        obtain ⟨g', rfl⟩ : ∃ g, q = some ⟨g, 0, none⟩ := by
          rcases hB.2 with ⟨h, h0⟩ | ⟨g, _, _, h, _⟩
          · omega
          · simp at h; exact ⟨g, h.1⟩
        obtain ⟨x0, x1, x2, x3, x4, x5⟩ := infoRow (ownsRow_below hA hBw) hx
        obtain ⟨y0, y1, y2, y3, y4, y5⟩ := infoRow (ownsRow_below hB hBw) hy
        have hnq := Tryz.infoNeq x y
        have hHx := hid_intro hx
        have hHy := hid_intro hy
        clear hx hy
        obtain ⟨a0, a1, a2, a3, a4, a5⟩ := x
        obtain ⟨b0, b1, b2, b3, b4, b5⟩ := y
        simp only [InfoD.cells, infoCells] at hnq x0 x1 x2 x3 x4 x5 y0 y1 y2 y3 y4 y5
        obtain ⟨bq, hbq⟩ : ∃ bq, (!(a0 == b0 && a1 == b1 && a2 == b2 && a3 == b3 && a4 == b4 && a5 == b5)) = bq := ⟨_, rfl⟩
        rw [hbq] at hnq
        have hsame : Hid (xs = ys → bq = false) := hid_intro (fun e => by
          have h1 := hid_elim hHx
          have h2 := hid_elim hHy
          rw [e, h2] at h1
          obtain ⟨e0, e1, e2, e3, e4, e5⟩ : b0 = a0 ∧ b1 = a1 ∧ b2 = a2 ∧ b3 = a3 ∧ b4 = a4 ∧ b5 = a5 := by simpa using h1
          rw [← hbq, e0, e1, e2, e3, e4, e5]
          simp)
        clear hbq
        cases bq
        · go_wp2
          go_quiet (fail)
          go_wp2
          go_roundw
          case rel => exact ⟨k + 1, by omega, rfl, below_drewN hBw _⟩
          case measure => simp [intOf]; omega
        · go_wp2
          go_quiet (fail)
          go_wp2
          go_ret
          exact ⟨false, rfl, fun e => absurd (hid_elim hsame e) (by simp), below_drewN hBw _⟩
      · obtain rfl : k = n := by omega
        go_wp2
        go_ret
        exact ⟨true, rfl, fun _ => rfl, hBw⟩
  · have hne : ((n : Int) == (m : Int)) = false := by simp; omega
    go_enter Tryz.func58, Tryz.ntmps58
    go_wp2
    go_ret
    exact ⟨false, rfl, fun e => absurd (by rw [← hn, ← hm, e]) hnm, Below.refl _ _⟩
end Go.Proofs
