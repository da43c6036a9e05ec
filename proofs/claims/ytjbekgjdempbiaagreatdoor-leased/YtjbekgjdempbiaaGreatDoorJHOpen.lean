import Derived.Test.YtjbekgjdempbiaaGreatDoorJSortN
import Derived.Test.YtjbekgjdempbiaaGreatDoorJRangeO
import Derived.Test.YtjbekgjdempbiaaGreatDoorJLawJ
import Derived.Test.YtjbekgjdempbiaaGreatDoorJSys
/-
  The journal of an empty disk, opened.
-/
namespace Go.Proofs
open Go.RowKit Go.Sort Go.Lib Go.Shelf Go.Maps

attribute [local go_sem] Oper.semAt_some

theorem Tryz.method_names (db : Nat) (w : World) : Sem.run Tryz.prog (method 517 74 (.pointer (some ⟨db, 0, none⟩)) "Names") w = .ok (306, .pointer (some ⟨db, 0, none⟩)) w := by kernel_rfl
theorem Tryz.method_read (db : Nat) (w : World) : Sem.run Tryz.prog (method 517 74 (.pointer (some ⟨db, 0, none⟩)) "Read") w = .ok (307, .pointer (some ⟨db, 0, none⟩)) w := by kernel_rfl
theorem Tryz.infoStr : (Tryz.prog.info? (Tryz.laysSplit_ren.t 9)).map (fun i => (i.zero, i.size, i.bytes)) = some (some (.string ByteArray.empty), 1, 16) := by kernel_rfl

set_option maxRecDepth 100000 in
set_option maxHeartbeats 2000000 in
theorem Tryz.tellAll_nil (tv : Value) (w : World) (hE : Tryz.Env w) (h9 : 9 ≤ w.heap.size) (hG : Tryz.ErrT w) :
    Calls Tryz.prog 147 #[.string ⟨#[]⟩, tv] w fun e w' => e = .returned (.tuple #[]) ∧ Below w.heap.size w w' := by
  have hG' := hG
  obtain ⟨-, m, hm⟩ := hG'
  have hSp := Any.strings_Split Tryz.laysSplit Tryz.infoStr ⟨#[]⟩ ⟨#[10]⟩ m w (by decide) hm (by decide)
  rw [show Lib.countB ⟨#[]⟩ ⟨#[10]⟩ = 0 by decide, show Lib.splitB ⟨#[10]⟩ 0 0 ⟨#[]⟩ = [⟨#[]⟩] by rfl] at hSp
  change Calls Tryz.prog 184 _ _ _ at hSp
  have hTx := fun W (hb : Below w.heap.size w W) => Tryz.textOf [] W (by decide) (by simp) (hE.below hb (by omega)) (Nat.le_trans h9 hb.size) (hG.below (hb.mono h9))
  rw [show wholeB [] = false by decide, show txtL [] = [] by rfl] at hTx
  have bS := BoxN.new w 9 #[.string ⟨#[]⟩]
  have hB0 : Below w.heap.size w (w.alloc (.cells #[.string ⟨#[]⟩] 9)) := (Below.refl _ w).alloc (Nat.le_refl _) _
  have s0 := bS.cell 0 (v := .string ⟨#[]⟩) rfl
  go_enter Tryz.func147, Tryz.ntmps147
  go_wp2_with (go_at_call 184; refine hSp.mono ?_; rintro e w1 ⟨rfl, rfl⟩)
  refine wp_loop_rounds 2 ?_
  rw [rounds_succ]
  go_wp2_with (go_at_call 185; refine (hTx _ hB0).mono ?_; rintro e w2 ⟨rfl, hb2⟩)
  rw [rounds_succ]
  go_wp2
  go_end0
  exact ⟨rfl, hB0.trans (hb2.mono (by simp))⟩

set_option maxRecDepth 100000 in
set_option maxHeartbeats 2000000 in
theorem Tryz.numbersOn_nil (db md mn : Nat) (fd : Option (Nat × List UInt8)) (l f : Int) (w : World) (hD : Tryz.DiskAt w db md mn fd none (.slice none 0 0) l f) :
    Calls Tryz.prog 180 #[Tryz.diskV db] w fun e w' => e = .returned (.tuple #[.slice none 0 0, .nilIface]) ∧ Below w.heap.size w w' := by
  have hm := fun W => Tryz.method_names db W
  have hN := Tryz.dNames_nil db md mn fd l f w hD
  have hS := fun W => Tryz.sortU64_nil W
  unfold Tryz.diskV
  go_enter Tryz.func180, Tryz.ntmps180
  go_wp2_with (go_at_call 306; refine hN.mono ?_; rintro e w1 ⟨rfl, hb1⟩)
  refine wp_loop_rounds 1 ?_
  rw [rounds_succ]
  go_wp2_with (go_at_call 211; refine (hS _).mono ?_; rintro e w2 ⟨rfl, rfl⟩)
  go_ret2
  exact ⟨rfl, hb1⟩

set_option maxRecDepth 100000 in
set_option maxHeartbeats 2000000 in
theorem Tryz.jFirst_nil (jb db md mn : Nat) (c1 c2 : Value) (fd : Option (Nat × List UInt8)) (l f : Int) (w : World) (hJ : BoxN w jb 212 #[Tryz.diskV db, c1, c2]) (hD : Tryz.DiskAt w db md mn fd none (.slice none 0 0) l f) :
    Calls Tryz.prog 183 #[.pointer (some ⟨jb, 0, none⟩)] w fun e w' => e = .returned (.tuple #[.string ⟨#[]⟩, .nilIface]) ∧ w' = w := by
  have hm := fun W => Tryz.method_read db W
  have hR := Tryz.dRead_none db md mn fd l f w hD
  have hI := fun W => Tryz.isSame 6 (by simp [ErrK]) W
  have j0 := hJ.cell 0 (v := Tryz.diskV db) rfl
  unfold Tryz.diskV at j0
  go_enter Tryz.func183, Tryz.ntmps183
  go_wp2_with (first
    | (go_at_call 307; refine hR.mono ?_; rintro e w1 ⟨rfl, rfl⟩)
    | (go_at_call 70; refine (hI _).mono ?_; rintro e w2 ⟨rfl, rfl⟩))
  go_ret2
  exact ⟨rfl, rfl⟩

set_option maxHeartbeats 1000000 in
theorem Tryz.backward_nil (w : World) : Calls Tryz.prog 181 #[.slice none 0 0] w fun e w' => e = .returned (.func (.func 212) #[] #[.pointer (some ⟨w.heap.size, 0, none⟩)]) ∧ w' = w.alloc (.cells #[.slice none 0 0] 272) := by
  go_enter Tryz.func181, Tryz.ntmps181
  go_wp2
  go_ret
  exact ⟨rfl, rfl⟩
set_option maxHeartbeats 1000000 in
theorem Tryz.backward1_nil (y : Value) (b : Nat) (w : World) (hb : BoxN w b 272 #[.slice none 0 0]) : Calls Tryz.prog 212 #[y, .pointer (some ⟨b, 0, none⟩)] w fun e w' => e = .returned (.tuple #[]) ∧ w' = w := by
  have c0 := hb.cell 0 (v := .slice none 0 0) rfl
  go_enter Tryz.func212, Tryz.ntmps212
  go_wp2
  refine wp_loop_rounds 1 ?_
  rw [rounds_succ]
  go_wp2
  go_end0
  exact ⟨rfl, rfl⟩

theorem empty_size (ps : Array Tmp) (x : Empty) : ((fun y : Empty => (nomatch y : Array Value)) x).size = ps.size := nomatch x
set_option maxRecDepth 100000 in
set_option maxHeartbeats 4000000 in
theorem Tryz.jFind_nil (jb db md mn : Nat) (c1 c2 : Value) (fd : Option (Nat × List UInt8)) (l f : Int) (w : World) (hJ : BoxN w jb 212 #[Tryz.diskV db, c1, c2]) (hD : Tryz.DiskAt w db md mn fd none (.slice none 0 0) l f) :
    CallsIn Fence.wide 9 Tryz.prog 146 #[.pointer (some ⟨jb, 0, none⟩)] w fun e w' => e = .returned (.tuple #[.string ⟨#[]⟩, .nilIface]) ∧ Below w.heap.size w w' := by
  have j0 := hJ.cell 0 (v := Tryz.diskV db) rfl
  unfold Tryz.diskV at j0
  have lJ := hJ.lt
  have hB0 : Below w.heap.size w (((w.alloc (.cells #[.pointer (some ⟨jb, 0, none⟩)] 117)).alloc (.cells #[.string ⟨#[]⟩] 9)).alloc (.cells #[.nilIface] 81)) := (((Below.refl _ w).alloc (Nat.le_refl _) _).alloc (by simp) _).alloc (by simp; omega) _
  have bP := ((BoxN.new w 117 #[.pointer (some ⟨jb, 0, none⟩)]).alloc (.cells #[.string ⟨#[]⟩] 9)).alloc (.cells #[.nilIface] 81)
  have bS := (BoxN.new (w.alloc (.cells #[.pointer (some ⟨jb, 0, none⟩)] 117)) 9 #[.string ⟨#[]⟩]).alloc (.cells #[.nilIface] 81)
  have bE := BoxN.new ((w.alloc (.cells #[.pointer (some ⟨jb, 0, none⟩)] 117)).alloc (.cells #[.string ⟨#[]⟩] 9)) 81 #[.nilIface]
  simp only [World.size_alloc] at bS bE
  have hN := Tryz.numbersOn_nil db md mn fd l f _ (hD.below hB0)
  unfold Tryz.diskV at hN
  have j0w := cell_later hB0 j0
  have hf1 : Fence.wide.fn 180 := trivial
  have hf2 : Fence.wide.fn 181 := trivial
  have hf3 : Fence.wide.fn 183 := trivial
  refine callsIn_of_wp_marks Tryz.func146 rfl trivial ?_ rfl
  simp only [Tryz.ntmps146, List.size_toArray, List.length_cons, List.length_nil, Nat.reduceAdd, Nat.reduceSub, Array.replicate_succ, Array.replicate_zero, List.push_toArray, List.append_toArray, List.nil_append, List.cons_append]
  gi_wp2_with (first
    | (gi_at_call 180; refine (callsIn_wide.2 hN).mono ?_; rintro e w1 ⟨rfl, hb1⟩)
    | (gi_at_call 181; refine (callsIn_wide.2 (Tryz.backward_nil _)).mono ?_; rintro e w2 ⟨rfl, rfl⟩))
  have hB1 := hB0.trans (hb1.mono (by simp; omega))
  have bP1 := (bP.below hb1 (by simp; omega)).alloc (.cells #[.slice none 0 0] 272)
  have bS1 := (bS.below hb1 (by simp)).alloc (.cells #[.slice none 0 0] 272)
  have bE1 := (bE.below hb1 (by simp)).alloc (.cells #[.slice none 0 0] 272)
  have bX1 := BoxN.new w1 272 #[.slice none 0 0]
  have hB2 := hB1.alloc hB1.size (.cells #[.slice none 0 0] 272)
  have hsz : (w1.alloc (.cells #[.slice none 0 0] 272)).heap.size = w1.heap.size + 1 := by simp
  have hz1 := hB1.size
  obtain ⟨W2, hW2⟩ : ∃ W2, w1.alloc (.cells #[.slice none 0 0] 272) = W2 := ⟨_, rfl⟩
  rw [hW2] at bP1 bS1 bE1 bX1 hB2 hsz ⊢
  clear hW2 bP bS bE hN j0w
  have hseq : SeqO (α := Empty) 8 Tryz.prog 212 #[.pointer (some ⟨w1.heap.size, 0, none⟩)] (fun x => nomatch x) (fun _ => True) (fun _ _ => True) (fun xs => xs = []) (fun _ => False) 0 W2 := by
    intro l J Jx W hb _ _ _ _ h0
    refine (callsIn_wide.2 (Tryz.backward1_nil (.func (.yield l) #[] #[]) w1.heap.size W (bX1.below hb bX1.lt))).mono ?_
    rintro e W' ⟨rfl, rfl⟩
    exact ⟨⟨_, rfl⟩, .inl ⟨[], rfl, h0⟩⟩
  refine wpIn_rangeO (n := 9) (by omega) (gf := 212) (lb := #[.pointer (some ⟨w1.heap.size, 0, none⟩)]) rfl (enters_of Tryz.func212 (by kernel_rfl) rfl) hseq (fun _ _ => trivial) (fun _ _ _ _ _ _ _ _ => trivial) (Below.refl _ _) (fun x => nomatch x)
    (fun _ V => ((BoxN V w.heap.size 117 #[.pointer (some ⟨jb, 0, none⟩)] ∧ BoxN V (w.heap.size + 1) 9 #[.string ⟨#[]⟩]) ∧ BoxN V (w.heap.size + 1 + 1) 81 #[.nilIface]) ∧ Below w.heap.size w V)
    (fun _ _ _ => False)
    (OwnFrom.and (OwnFrom.and (OwnFrom.and (Own.from (boxN_own _ _ (fun _ => #[.pointer (some ⟨jb, 0, none⟩)])) _) (Own.from (boxN_own _ _ (fun _ => #[.string ⟨#[]⟩])) _)) (Own.from (boxN_own _ _ (fun _ => #[.nilIface])) _)) (ownFrom_below (Nat.le_refl _) (by omega)))
    (fun _ _ _ _ _ hs _ _ => hs)
    (fun _ _ _ => trivial)
    ⟨⟨⟨bP1, bS1⟩, bE1⟩, hB2⟩
    (fun x _ _ => nomatch x) (fun x => nomatch x)
    (fun _ _ x => nomatch x) (fun _ _ x => nomatch x) ?done ?stop
  case done =>
    rintro D zs V hD0 rfl ⟨⟨⟨bPV, bSV⟩, bEV⟩, hBV⟩ hK
    have hF := Tryz.jFirst_nil jb db md mn c1 c2 fd l f V (hJ.below hBV hJ.lt) (hD.below hBV)
    have p0 := bPV.cell 0 (v := .pointer (some ⟨jb, 0, none⟩)) rfl
    have s0 := bSV.cell 0 (v := .string ⟨#[]⟩) rfl
    have s0f := bSV.frozen 0
    have e0 := bEV.cell 0 (v := .nilIface) rfl
    have e0f := bEV.frozen 0
    gi_wp2_with (gi_at_call 183; refine (callsIn_wide.2 hF).mono ?_; rintro e w3 ⟨rfl, rfl⟩)
    have bS2 := (bSV.set 0 (.string ⟨#[]⟩)).other (B' := w.heap.size + 1 + 1) (by omega) 0 .nilIface
    have bE2 := (bEV.other (B' := w.heap.size + 1) (by omega) 0 (.string ⟨#[]⟩)).set 0 .nilIface
    have hK2 : ((w3.setCell ⟨w.heap.size + 1, 0, none⟩ (.string ⟨#[]⟩)).setCell ⟨w.heap.size + 1 + 1, 0, none⟩ .nilIface).heap[D]? = some (.deferred (some [])) := by
      have := bE1.lt
      rw [set_other _ _ _ _ _ (by omega), set_other _ _ _ _ _ (by omega)]
      exact hK
    have hB5 := (hBV.setCell (p := ⟨w.heap.size + 1, 0, none⟩) (by simp) (.string ⟨#[]⟩)).setCell (p := ⟨w.heap.size + 1 + 1, 0, none⟩) (by simp; omega) .nilIface
    generalize (w3.setCell ⟨w.heap.size + 1, 0, none⟩ (.string ⟨#[]⟩)).setCell ⟨w.heap.size + 1 + 1, 0, none⟩ .nilIface = W5 at *
    refine ⟨by simp, .inl ⟨_, _, rfl, run_takeDeferred hK2, ?_⟩⟩
    have bS6 : BoxN (W5.putObj D (.deferred none)) (w.heap.size + 1) 9 (#[.string ⟨#[]⟩].setIfInBounds 0 (.string ⟨#[]⟩)) := (World.putObj_heap_other (by have := bE1.lt; omega)).trans bS2
    have bE6 : BoxN (W5.putObj D (.deferred none)) (w.heap.size + 1 + 1) 81 (#[.nilIface].setIfInBounds 0 .nilIface) := (World.putObj_heap_other (by have := bE1.lt; omega)).trans bE2
    have q1 := bS6.cell 0 (v := .string ⟨#[]⟩) rfl
    have q2 := bE6.cell 0 (v := .nilIface) rfl
    exact ⟨.tuple #[.string ⟨#[]⟩, .nilIface], by simp [results, Tryz.results146, go_sem, q1, q2], rfl, hB5.trans (belowK_b (w := w) (Nat.le_refl _) W5 D _ _ (by omega) hK2 rfl rfl)⟩
  case stop =>
    rintro D c pre V _ _ h _
    exact h.elim
end Go.Proofs

/-
  leasekeeper.Open over an empty disk.
-/
namespace Go.Proofs
open Go.RowKit Go.Sort Go.Lib Go.Shelf Go.Maps

set_option maxRecDepth 100000 in
set_option maxHeartbeats 2000000 in
theorem Tryz.jOpen_nil (db md mn : Nat) (fd : Option (Nat × List UInt8)) (l f : Int) (tv : Value) (w : World) (hD : Tryz.DiskAt w db md mn fd none (.slice none 0 0) l f) (hE : Tryz.Env w) (h9 : 9 ≤ w.heap.size) (hG : Tryz.ErrT w) :
    Calls Tryz.prog 99 #[Tryz.diskV db, tv] w fun e w' => e = .returned (.tuple #[.pointer (some ⟨w.heap.size, 0, none⟩), .nilIface]) ∧ BoxN w' w.heap.size 212 #[Tryz.diskV db, .int .u64 0, .nilIface] ∧ Below w.heap.size w w' := by
  have hB0 : Below w.heap.size w (w.alloc (.cells #[Tryz.diskV db, .int .u64 0, .nilIface] 212)) := (Below.refl _ w).alloc (Nat.le_refl _) _
  have bJ := BoxN.new w 212 #[Tryz.diskV db, .int .u64 0, .nilIface]
  have hF := callsIn_wide.1 (Tryz.jFind_nil w.heap.size db md mn _ _ fd l f _ bJ (hD.below hB0))
  have hT := fun W (hb : Below w.heap.size w W) => Tryz.tellAll_nil tv W (hE.below hb (by omega)) (Nat.le_trans h9 hb.size) (hG.below (hb.mono h9))
  unfold Tryz.diskV at hF hB0 bJ ⊢
  go_enter Tryz.func99, Tryz.ntmps99
  go_wp2_with (first
    | (go_at_call 146; refine hF.mono ?_; rintro e w1 ⟨rfl, hb1⟩; have hB1 := hB0.trans (hb1.mono (by simp)); have bJ1 := bJ.below hb1 (by simp))
    | (go_at_call 147; refine (hT _ hB1).mono ?_; rintro e w2 ⟨rfl, hb2⟩))
  go_ret2
  exact ⟨rfl, bJ1.below hb2 bJ1.lt, hB1.trans (hb2.mono hB1.size)⟩

/-- the root. -/
def rootE : TokE := ⟨0, 0, 0, 18446744073709551615, 0, false⟩
def Tryz.rootV : Value := .agg #[.int .i64 0, .int .u64 0, .int .u64 18446744073709551615, .int .i64 0, .bool false]
theorem Tryz.rootMap : (DataW.map []).put (nmL (1, 0)) (.held Tryz.rootV) = mapD ([rootE].map TokE.key).reverse := by rfl
theorem rootOk : ListsOk [rootE] [] := ⟨by simp, by simp, by simp, by simp, fun t ht => by rw [List.mem_singleton.1 ht]; exact ⟨by show (0 : Nat) < u64lim; decide, by show (0 : Nat) < u64lim; decide⟩, fun l hl => (by cases hl)⟩

set_option maxRecDepth 100000 in
set_option maxHeartbeats 2000000 in
theorem Tryz.open_nil (db md mn rb : Nat) (l f now : Int) (w : World) (hD : Tryz.DiskAt w db md mn none none (.slice none 0 0) l f) (hE : Tryz.Env w) (h9 : 9 ≤ w.heap.size) (hG : Tryz.ErrT w) (t0 : 0 ≤ now) (t1 : now ≤ 18446744073709551615) (d9 : 9 ≤ db ∧ 9 ≤ md ∧ 9 ≤ mn) :
    Calls Tryz.prog 55 #[Tryz.diskV db, .iface 75 (.pointer (some ⟨rb, 0, none⟩)), .int .u64 now] w fun e w' => ∃ vb mt ml jb, e = .returned (.tuple #[.pointer (some ⟨vb, 0, none⟩), .nilIface]) ∧ Tryz.Whole w' ⟨vb, mt, ml, jb, db, md, mn⟩ ⟨.pointer (some ⟨jb, 0, none⟩), .iface 75 (.pointer (some ⟨rb, 0, none⟩)), false, .slice none 0 0⟩ now ⟨0, 0, [rootE], []⟩ [] l f ∧ (w.heap.size ≤ vb ∧ w.heap.size ≤ mt ∧ w.heap.size ≤ ml ∧ w.heap.size ≤ jb) ∧ Below w.heap.size w w' := by
  have hmkT : ∀ W, (Instr.makeMap 120 none).run Tryz.prog W = .ok (.map (some W.heap.size)) (W.alloc (.map #[] 0)) := fun W => run_makeMap _ W
  have hmkL : ∀ W, (Instr.makeMap 121 none).run Tryz.prog W = .ok (.map (some W.heap.size)) (W.alloc (.map #[] 0)) := fun W => run_makeMap _ W
  have hR := fun W => Tryz.root W
  unfold nmV at hR
  have hM := World.ownsMap_made w Tryz.prog 114 valR
  have hB0 : Below w.heap.size w (w.alloc (.map #[] 0)) := (Below.refl _ w).alloc (Nat.le_refl _) _
  have hO := fun W tv (hb : Below w.heap.size w W) => Tryz.jOpen_nil db md mn none l f tv W (hD.below hb) (hE.below hb (by omega)) (Nat.le_trans h9 hb.size) (hG.below (hb.mono h9))
  unfold Tryz.diskV at hO ⊢
  go_enter Tryz.func55, Tryz.ntmps55
  go_wp2_with (first
    | (go_at_call 85; refine (hR _).mono ?_; rintro e w1 ⟨rfl, hb1⟩; have hM1 := ownsMap_below hM hb1; have hB1 := hB0.trans (hb1.mono (by simp)); obtain ⟨w2, hrun, hM2, hT2⟩ := hM1.store Tryz.keyedName Tryz.underlying120 (by decide) (key := nmV (1, 0)) (val := Tryz.rootV) (Tryz.nmType.keyOf ⟨by decide, by decide⟩) (d := .held Tryz.rootV) (ps := []) rfl; have hB2 := hB1.grown hT2.grown hB1.size (fun q hq => by cases hq; omega); have hB4 := hB2.alloc hB2.size (.map #[] 0); have hB5 := hB4.alloc hB4.size (.cells #[.pointer none, .iface 75 (.pointer (some ⟨rb, 0, none⟩)), .int .u64 now, .map (some w.heap.size), .map (some w2.heap.size), .int .u64 0, .int .u64 0, .bool false, .slice none 0 0] 126); unfold nmV Tryz.rootV at hrun)
    | (go_at_call 99; refine (hO _ _ hB5).mono ?_; rintro e w6 ⟨rfl, bJ6, hb6⟩; have bV5 := BoxN.new (w2.alloc (.map #[] 0)) 126 #[.pointer none, .iface 75 (.pointer (some ⟨rb, 0, none⟩)), .int .u64 now, .map (some w.heap.size), .map (some w2.heap.size), .int .u64 0, .int .u64 0, .bool false, .slice none 0 0]; rw [World.size_alloc] at bV5; have bV6 := bV5.below hb6 (by simp); have v0 := bV6.cell 0 (v := .pointer none) rfl; have v0f := bV6.frozen 0))
  simp only [World.size_alloc] at bJ6
  have hz2 := hB2.size
  have hMl5 := (World.ownsMap_made w2 Tryz.prog 114 valR).alloc (.cells #[.pointer none, .iface 75 (.pointer (some ⟨rb, 0, none⟩)), .int .u64 now, .map (some w.heap.size), .map (some w2.heap.size), .int .u64 0, .int .u64 0, .bool false, .slice none 0 0] 126)
  have hMt5 := (hM2.alloc (.map #[] 0)).alloc (.cells #[.pointer none, .iface 75 (.pointer (some ⟨rb, 0, none⟩)), .int .u64 now, .map (some w.heap.size), .map (some w2.heap.size), .int .u64 0, .int .u64 0, .bool false, .slice none 0 0] 126)
  have hMl6 := ownsMap_below hMl5 hb6
  have hMt6 := ownsMap_below hMt5 hb6
  have hB6 := hB5.trans (hb6.mono hB5.size)
  have hB7 := hB6.setCell (p := ⟨w2.heap.size + 1, 0, none⟩) (by simp; omega) (.pointer (some ⟨w2.heap.size + 1 + 1, 0, none⟩))
  have hS7 : Spares [w2.heap.size + 1] w6 (w6.setCell ⟨w2.heap.size + 1, 0, none⟩ (.pointer (some ⟨w2.heap.size + 1 + 1, 0, none⟩))) := (Spares.of_below (Below.refl _ _)).set (by simp) _ _
  have hMl7 := hS7.map hMl6 (by simp)
  have hMt7 := hS7.map hMt6 (by simp; have := hM2.lt; omega)
  have bJ7 := hS7.box bJ6 (by simp)
  have bV7 := bV6.set 0 (.pointer (some ⟨w2.heap.size + 1 + 1, 0, none⟩))
  have hD7 := hD.below hB7
  rw [show ((DataW.map []).put (Lit.string (nmB (1, 0))) (.held Tryz.rootV)) = mapD ([rootE].map TokE.key).reverse from Tryz.rootMap] at hMt7
  exact bodyPost_ret (v := .tuple #[.pointer (some ⟨w2.heap.size + 1, 0, none⟩), .nilIface]) (by simp [results, Tryz.results55, go_sem]) rfl ⟨w2.heap.size + 1, w.heap.size, w2.heap.size, w2.heap.size + 1 + 1, rfl,
    { v := { va := ⟨bV7, ⟨⟨_, by decide, hMt7⟩, ⟨0, by decide, hMl7⟩⟩, rootOk, hE.below hB7 (by omega), by have := hB7.size; omega⟩, nt := fun t ht => by rw [List.mem_singleton.1 ht]; exact Nat.le_refl _, nl := fun l hl => (by cases hl), t0 := t0, t1 := t1, okT := fun t ht => by rw [List.mem_singleton.1 ht]; exact ⟨by decide, by decide, by decide, by decide⟩, okL := fun l hl => (by cases hl), mne := by have := hM2.lt; show w.heap.size ≠ w2.heap.size; omega, v9 := by show 9 ≤ w2.heap.size + 1; omega, m9 := h9, l9 := by show 9 ≤ w2.heap.size; omega }, jn := rfl, j := bJ7, d := ⟨none, none, hD7, rfl, rfl⟩, j9 := by show 9 ≤ w2.heap.size + 1 + 1; omega, d9 := d9.1, md9 := d9.2.1, mn9 := d9.2.2, ne1 := by have := hD.lt; show md ≠ w.heap.size ∧ md ≠ w2.heap.size ∧ mn ≠ w.heap.size ∧ mn ≠ w2.heap.size; omega }, by omega, hB7⟩
end Go.Proofs

/-
  plain.Host.Open over an empty disk.
-/
namespace Go.Proofs
open Go.RowKit Go.Sort Go.Lib Go.Shelf Go.Maps

abbrev HostP (hb db rb : Nat) (W : World) : Prop := W.cell? ⟨hb, 0, none⟩ = some (.pointer (some ⟨db, 0, none⟩)) ∧ W.cell? ⟨hb, 1, none⟩ = some (.pointer (some ⟨rb, 0, none⟩))
theorem HostP.drew {hb db rb : Nat} {W : World} (h : HostP hb db rb W) : HostP hb db rb W.drew := h

set_option maxRecDepth 100000 in
set_option maxHeartbeats 2000000 in
theorem Tryz.hOpen0 (B hb db rb md mn : Nat) (vv ra rc : Value) (l f : Int) (now c d : Int) (w : World) (hH : BoxN w hb 78 #[.pointer (some ⟨db, 0, none⟩), .pointer (some ⟨rb, 0, none⟩), vv]) (hD : Tryz.DiskAt w db md mn none none (.slice none 0 0) l f) (hR : BoxN w rb 88 #[ra, rc]) (hlo : B ≤ hb ∧ B ≤ db ∧ B ≤ rb ∧ B ≤ md ∧ B ≤ mn) (hBw : B ≤ w.heap.size) (b9 : 9 ≤ B) (hE : Tryz.Env w) (hG : Tryz.ErrT w) (t0 : 0 ≤ now) (t1 : now ≤ 18446744073709551615) :
    Calls Tryz.prog 33 #[.pointer (some ⟨hb, 0, none⟩), .int .u64 now, fallV (-1) (-1) c d] w fun e w' => e = .returned (.int .i64 0) ∧ (∃ k vx, Tryz.Sys B w' hb rb ⟨k, vx, now, ⟨0, 0, [rootE], []⟩, []⟩) ∧ Below B w w' := by
  obtain ⟨lo1, lo2, lo3, lo4, lo5⟩ := hlo
  have hne := hH.ne hD.box (by decide)
  have hnr := hH.ne hR (by decide)
  have hnd := hD.box.ne hR (by decide)
  have lH := hH.lt
  have lD := hD.lt
  have bF := BoxN.new w 29 #[.int .i64 (-1), .int .i64 (-1), .int .i64 c, .int .i64 d]
  have hB0 : Below w.heap.size w (w.alloc (.cells #[.int .i64 (-1), .int .i64 (-1), .int .i64 c, .int .i64 d] 29)) := (Below.refl _ w).alloc (Nat.le_refl _) _
  have hBf := Tryz.before hb db _ _ _ _ _ _ _ _ (-1) (-1) c d _ (hH.alloc (.cells #[.int .i64 (-1), .int .i64 (-1), .int .i64 c, .int .i64 d] 29)) (hD.box.alloc _)
  have hO := fun W (hD' : Tryz.DiskAt W db md mn none none (.slice none 0 0) (-1) (-1)) (hb' : Below B w W) => Tryz.open_nil db md mn rb (-1) (-1) now W hD' (hE.below hb' (by omega)) (by have := hb'.size; omega) (hG.below (hb'.mono b9)) t0 t1 ⟨by omega, by omega, by omega⟩
  unfold fallV at hBf ⊢
  go_enter Tryz.func33, Tryz.ntmps33
  go_wp2_with (go_at_call 40; refine hBf.mono ?_; rintro e w1 ⟨rfl, bD1, hg1⟩)
  have bH1 := (hH.alloc (.cells #[.int .i64 (-1), .int .i64 (-1), .int .i64 c, .int .i64 d] 29)).kept hg1 (by intro e; injection e with e; exact hne e)
  have bR1 := (hR.alloc (.cells #[.int .i64 (-1), .int .i64 (-1), .int .i64 c, .int .i64 d] 29)).kept hg1 (by intro e; injection e with e; exact hnd e.symm)
  have bF1 := bF.kept hg1 (by intro e; injection e with e; omega)
  have hD1 := (hD.below hB0).cells (Spares.of_grown hg1 (by simp)) bD1
  have hB1 : Below B w w1 := (hB0.mono hBw).grown hg1 (by simp; omega) (fun q hq => by cases hq; exact lo2)
  have hP1 : HostP hb db rb w1 := ⟨bH1.cell 0 rfl, bH1.cell 1 rfl⟩
  have l1 := bH1.lt
  have hO1 := hO w1.drew (hD1.below (Below.refl _ _).drew) hB1.drew
  unfold Tryz.diskV at hO1
  clear hBf hO
  go_region_held3 (HostP hb db rb) (first
    | with_reducible exact HostP.drew hP1
    | with_reducible assumption) (first | (go_at_call 55; refine hO1.mono ?_; rintro e w2 ⟨vb, mt, ml, jb, rfl, hW2, hlo2, hb2⟩; have bH2 := BoxN.below (W := w1.drew) bH1 hb2 bH1.lt; have hP2 : HostP hb db rb w2 := ⟨bH2.cell 0 rfl, bH2.cell 1 rfl⟩))
  have hz1 : w1.drew.heap.size = w1.heap.size := rfl
  have bF2 := BoxN.below (W := w1.drew) bF1 hb2 bF1.lt
  have bR2 := BoxN.below (W := w1.drew) bR1 hb2 bR1.lt
  have hB2 : Below B w w2 := hB1.drew.trans (hb2.mono (by have := hB1.size; omega))
  have hS3 : Spares [hb] w2 (w2.setCell ⟨hb, 2, none⟩ (.pointer (some ⟨vb, 0, none⟩))) := (Spares.of_below (Below.refl _ _)).set (by simp) _ _
  have bH3 := bH2.set 2 (.pointer (some ⟨vb, 0, none⟩))
  have bF3 := hS3.box bF2 (by simp; omega)
  have bR3 := hS3.box bR2 (by simpa using Ne.symm hnr)
  have hW3 := hW2.spared hS3 (fun b hb' => by
    obtain ⟨fd, fn, hd, -, -⟩ := hW2.d
    obtain ⟨n3, -, m3⟩ := hd.dm
    obtain ⟨n4, -, m4⟩ := hd.nm
    have hz := hlo2
    simp only [Blk.turns, List.mem_cons, List.not_mem_nil, or_false] at hb'
    simp only [List.mem_singleton]
    rcases hb' with rfl | rfl | rfl | rfl | rfl | rfl
    · omega
    · omega
    · omega
    · exact Ne.symm hne
    · exact BoxN.ne_map' bH2 m3
    · exact BoxN.ne_map' bH2 m4) (by simp; omega) (fun b x hx => by simpa using hx.ne bH2 (by decide)) (by simp; omega)
  have hB3 := hB2.setCell (p := ⟨hb, 2, none⟩) lo1 (.pointer (some ⟨vb, 0, none⟩))
  obtain ⟨fd3, fn3, hD3, -, -⟩ := hW3.d
  have hBa := Tryz.after hb db _ _ _ _ _ _ _ (-1) (-1) c d _ bH3 hD3.box
  have fz := bH2.frozen 2
  have h2 := bH2.cell 2 (v := vv) rfl
  have g0 := bF2.cell 0 (v := .int .i64 (-1)) rfl
  have g1 := bF2.cell 1 (v := .int .i64 (-1)) rfl
  have g2 := bF2.cell 2 (v := .int .i64 c) rfl
  have g3 := bF2.cell 3 (v := .int .i64 d) rfl
  have nF : w.heap.size ≠ hb := by omega
  unfold fallV at hBa
  have HW3 := hid_intro hW3
  clear hW3 hW2 hD3
  go_wp2_with (first
    | (go_at_call 42; refine hBa.mono ?_; rintro e w4 ⟨rfl, bD4, hg4⟩)
    | (go_at_call 43; refine (Tryz.told_nil _).mono ?_; rintro e w5 ⟨rfl, hb5⟩))
  go_ret
  have kH := bH3.kept hg4 (by intro e; injection e with e; exact hne e)
  have kR := bR3.kept hg4 (by intro e; injection e with e; exact hnd e.symm)
  have hW4 := (hid_elim HW3).setLF (Spares.of_grown hg4 (by simp)) bD4
  have hB4 := hB3.grown hg4 (by have := hB3.size; omega) (fun q hq => by cases hq; exact lo2)
  have hz := hlo2
  have hSys : Tryz.Sys B w4 hb rb ⟨⟨vb, mt, ml, jb, db, md, mn⟩, ⟨.pointer (some ⟨jb, 0, none⟩), .iface 75 (.pointer (some ⟨rb, 0, none⟩)), false, .slice none 0 0⟩, now, ⟨0, 0, [rootE], []⟩, []⟩ := {
    host := kH, wh := hW4, err := hG.below (hB4.mono b9), b9 := b9, hlow := lo1,
    low := fun b hb' => by
      have := hB1.size
      simp only [Blk.turns, List.mem_cons, List.not_mem_nil, or_false] at hb'
      omega,
    rvb := ⟨_, _, kR⟩, rlow := lo3, vrv := rfl, vtk := rfl, due := World.ownsRow_nil _ _ _ _ }
  exact ⟨rfl, ⟨_, _, hSys.below hb5⟩, hB4.trans (hb5.mono (by have := hB4.size; omega))⟩
end Go.Proofs
