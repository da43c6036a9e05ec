import Derived.Test.YthifclklnopkfaaGreatDoorCodeC
import Derived.Test.YthifclklnopkfaaGreatDoorValid
/-
  The code: CreateToken.
-/
namespace Go.Proofs
open Go.RowKit Go.Sort Go.Lib Go.Shelf Go.Maps

set_option maxHeartbeats 1000000 in
theorem Tryz.vCreate_miss (vb mt ml : Nat) (vx : VX) (tm tn ln : Int) (tks : List TokE) (lks : List LeaE) (w : World) (hV : Tryz.VaultAt w vb mt ml vx tm tn ln tks lks) (id : List UInt8) (hid : id.length ≤ 1000000)
    (hF : ∀ W, Below w.heap.size w W → Calls Tryz.prog 90 #[.pointer (some ⟨vb, 0, none⟩), nmV (parseN id)] W fun e w' => e = .returned (.bool false) ∧ Below W.heap.size W w') :
    Calls Tryz.prog 111 #[.pointer (some ⟨vb, 0, none⟩), .string ⟨id.toArray⟩] w fun e w' => e = .returned (.tuple #[.string ⟨#[]⟩, .iface 32 (.int .i64 1)]) ∧ Below w.heap.size w w' := by
  have hP := Tryz.parse ⟨id.toArray⟩ (by simpa [ByteArray.size] using hid) w hV.env hV.six
  simp only at hP
  generalize parseN id = x at *
  unfold nmV at hP hF
  go_enter Tryz.func111, Tryz.ntmps111
  go_wp2_with (first
    | (go_at_call 45; refine hP.mono ?_; rintro e w1 ⟨rfl, hb1⟩; have hF1 := hF _ (hb1.alloc hb1.size (.cells #[.int .i64 x.1, .int .u64 x.2] 97)))
    | (go_at_call 90; refine hF1.mono ?_; rintro e w2 ⟨rfl, hb2⟩))
  exact bodyPost_ret (v := .tuple #[.string ⟨#[]⟩, .iface 32 (.int .i64 1)]) (by simp [results, Tryz.results111, go_sem]) rfl ⟨rfl, (hb1.alloc hb1.size _).trans (hb2.mono (by have := hb1.size; simp; omega))⟩

theorem Tryz.VaultAt.lenT {W : World} {vb mt ml : Nat} {vx : VX} {tm tn ln : Int} {tks : List TokE} {lks : List LeaE} (h : Tryz.VaultAt W vb mt ml vx tm tn ln tks lks) (ty : TypeId) : (Builtin.len_ #[102] ty #[.map (some mt)]).run Tryz.prog W = .ok (.int .i64 tks.length) W := by
  obtain ⟨n, _, hm⟩ := h.held.mapT
  have := hm.len Tryz.underlying102 ty
  rw [Tryz.nmType.size_mapD _ h.ok.ksT.1] at this
  simpa using this
theorem Tryz.VaultAt.lenL {W : World} {vb mt ml : Nat} {vx : VX} {tm tn ln : Int} {tks : List TokE} {lks : List LeaE} (h : Tryz.VaultAt W vb mt ml vx tm tn ln tks lks) (ty : TypeId) : (Builtin.len_ #[103] ty #[.map (some ml)]).run Tryz.prog W = .ok (.int .i64 lks.length) W := by
  obtain ⟨n, _, hm⟩ := h.held.mapL
  have := hm.len Tryz.underlying103 ty
  rw [Tryz.nmType.size_mapD _ h.ok.ksL.1] at this
  simpa using this

set_option maxHeartbeats 1000000 in
theorem Tryz.vCreate_many (vb mt ml : Nat) (vx : VX) (tm tn ln : Int) (tks : List TokE) (lks : List LeaE) (w : World) (hV : Tryz.VaultAt w vb mt ml vx tm tn ln tks lks) (id : List UInt8) (hid : id.length ≤ 1000000)
    (hF : ∀ W, Below w.heap.size w W → Calls Tryz.prog 90 #[.pointer (some ⟨vb, 0, none⟩), nmV (parseN id)] W fun e w' => e = .returned (.bool true) ∧ Below W.heap.size W w') (h10 : 10 ≤ tks.length) :
    Calls Tryz.prog 111 #[.pointer (some ⟨vb, 0, none⟩), .string ⟨id.toArray⟩] w fun e w' => e = .returned (.tuple #[.string ⟨#[]⟩, .iface 32 (.int .i64 4)]) ∧ Below w.heap.size w w' := by
  have hP := Tryz.parse ⟨id.toArray⟩ (by simpa [ByteArray.size] using hid) w hV.env hV.six
  simp only at hP
  have hlen := fun W (hb : Below w.heap.size w W) => (hV.below hb).lenT
  have hcell := fun W (hb : Below w.heap.size w W) => (hV.below hb).v.cell 2 (v := .map (some mt)) rfl
  generalize parseN id = x at *
  unfold nmV at hP hF
  go_enter Tryz.func111, Tryz.ntmps111
  go_wp2_with (first
    | (go_at_call 45; refine hP.mono ?_; rintro e w1 ⟨rfl, hb1⟩; have hF1 := hF _ (hb1.alloc hb1.size (.cells #[.int .i64 x.1, .int .u64 x.2] 97)))
    | (go_at_call 90; refine hF1.mono ?_; rintro e w2 ⟨rfl, hb2⟩; have hb3 := (hb1.alloc hb1.size (.cells #[.int .i64 x.1, .int .u64 x.2] 97)).trans (hb2.mono (by have := hb1.size; simp; omega)); have hl2 := hlen _ hb3; have c2 := hcell _ hb3))
  exact bodyPost_ret (v := .tuple #[.string ⟨#[]⟩, .iface 32 (.int .i64 4)]) (by simp [results, Tryz.results111, go_sem]) rfl ⟨rfl, hb3⟩

abbrev CrP (vb mt ab nb fo : Nat) (m z : Int) (W : World) : Prop :=
  W.cell? ⟨vb, fo, none⟩ = some (.map (some mt)) ∧ W.cell? ⟨nb, 1, none⟩ = some (.int .u64 z) ∧ W.cell? ⟨ab, 0, none⟩ = some (.int .i64 1) ∧ W.cell? ⟨ab, 1, none⟩ = some (.int .u64 m) ∧ W.cell? ⟨nb, 0, none⟩ = some (.int .i64 (if fo = 2 then 1 else 2))
theorem CrP.drew {vb mt ab nb fo : Nat} {m z : Int} {W : World} (h : CrP vb mt ab nb fo m z W) : CrP vb mt ab nb fo m z W.drew := h

set_option maxRecDepth 100000 in
set_option maxHeartbeats 2000000 in
theorem Tryz.vCreate_ok (vb mt ml : Nat) (vx : VX) (tm : Int) (tn ln : Nat) (tks : List TokE) (lks : List LeaE) (w : World) (hV : Tryz.VFull w vb mt ml vx tm tn ln tks lks) (id : List UInt8) (hid : id.length ≤ 1000000) (m : Nat) (hm64 : m < u64lim) (hm : parseN id = (1, (m : Int)))
    (hF : ∀ W, Below w.heap.size w W → Calls Tryz.prog 90 #[.pointer (some ⟨vb, 0, none⟩), nmV (parseN id)] W fun e w' => e = .returned (.bool true) ∧ Below W.heap.size W w') (h10 : tks.length < 10) (htn : tn < 9223372036854775807) :
    Calls Tryz.prog 111 #[.pointer (some ⟨vb, 0, none⟩), .string ⟨id.toArray⟩] w fun e w' => ∃ nb, e = .returned (.tuple #[.string ⟨(nmStr 1 (tn + 1)).toArray⟩, .nilIface]) ∧ Tryz.VFull w' vb mt ml vx tm (tn + 1 : Nat) ln (tks ++ [⟨tn + 1, 1, m, 18446744073709551615, 0, false, nb⟩]) lks ∧ Spares [vb, mt] w w' := by
  have hP := Tryz.parse ⟨id.toArray⟩ (by simpa [ByteArray.size] using hid) w hV.va.env hV.va.six
  simp only at hP
  have hlen := fun W (hb : Below w.heap.size w W) => (hV.va.below hb).lenT
  have hcell := fun W (hb : Below w.heap.size w W) => (hV.va.below hb).v.cell 2 (v := .map (some mt)) rfl
  have hcn := fun W (hb : Below w.heap.size w W) => (hV.va.below hb).v.cell 4 (v := .int .u64 (tn : Int)) rfl
  have hfn := fun W (hb : Below w.heap.size w W) => (hV.va.below hb).v.frozen 4
  obtain ⟨z, hz⟩ : ∃ z : Int, (tn : Int) = z := ⟨_, rfl⟩
  simp only [hz] at hcn
  have hz0 : 0 ≤ z := by omega
  have hz1 : z < 9223372036854775807 := by omega
  have Hz := hid_intro hz
  rw [hm] at hP hF
  unfold nmV at hP hF
  simp only at hP hF
  have Htn := hid_intro htn
  clear hm htn hz
  obtain ⟨str, hstr⟩ : ∃ str, nmStr 1 (tn + 1) = str := ⟨_, rfl⟩
  rw [hstr]
  have Hstr := hid_intro hstr
  clear hstr
  go_enter Tryz.func111, Tryz.ntmps111
  go_wp2_with (first
    | (go_at_call 45; refine hP.mono ?_; rintro e w1 ⟨rfl, hb1⟩; have hF1 := hF _ (hb1.alloc hb1.size (.cells #[.int .i64 1, .int .u64 (m : Int)] 97)))
    | (go_at_call 90; refine hF1.mono ?_; rintro e w2 ⟨rfl, hb2⟩; have hb3 := (hb1.alloc hb1.size (.cells #[.int .i64 1, .int .u64 (m : Int)] 97)).trans (hb2.mono (by have := hb1.size; simp; omega)); have hl2 := hlen _ hb3; have c2 := hcell _ hb3; have c4 := hcn _ hb3; have f4 := hfn _ hb3; have bA := (BoxN.new w1 97 #[.int .i64 1, .int .u64 (m : Int)]).below hb2 (by simp); have a0 := bA.cell 0 (v := .int .i64 1) rfl; have a1 := bA.cell 1 (v := .int .u64 (m : Int)) rfl; have lA := bA.lt; have lV := ((hV.va.below hb3).v).lt))
  have hV2 := hV.below hb3
  have nVA : vb ≠ w1.heap.size := hV2.va.v.ne bA (by decide)
  have bV3 := (hV2.va.v.set 4 (.int .u64 (z + 1))).alloc (.cells #[.int .i64 1, .int .u64 (z + 1)] 97)
  have bA3 := (bA.other (Ne.symm nVA) 4 (.int .u64 (z + 1))).alloc (.cells #[.int .i64 1, .int .u64 (z + 1)] 97)
  have bN3 := BoxN.new (w2.setCell ⟨vb, 4, none⟩ (.int .u64 (z + 1))) 97 #[.int .i64 1, .int .u64 (z + 1)]
  obtain ⟨n0, hn0, hM0⟩ := hV2.va.held.mapT
  have nVM : mt ≠ vb := hV2.va.v.ne_map hM0
  have hM3 := (hM0.setCell (a := ⟨vb, 4, none⟩) nVM (.int .u64 (z + 1))).alloc (.cells #[.int .i64 1, .int .u64 (z + 1)] 97)
  have hS3 : Spares [vb, mt] w ((w2.setCell ⟨vb, 4, none⟩ (.int .u64 (z + 1))).alloc (.cells #[.int .i64 1, .int .u64 (z + 1)] 97)) := ((Spares.of_below hb3).set (by simp) _ _).alloc _
  have hs3 : ((w2.setCell ⟨vb, 4, none⟩ (.int .u64 (z + 1))).alloc (.cells #[.int .i64 1, .int .u64 (z + 1)] 97)).heap.size = w2.heap.size + 1 := by simp
  rw [World.size_setCell] at bN3
  obtain ⟨W3, hW3⟩ : ∃ W3, (w2.setCell ⟨vb, 4, none⟩ (.int .u64 (z + 1))).alloc (.cells #[.int .i64 1, .int .u64 (z + 1)] 97) = W3 := ⟨_, rfl⟩
  rw [hW3] at bV3 bA3 bN3 hM3 hS3 hs3 ⊢
  clear hW3
  have bV4 := bV3.alloc (.cells #[.int .i64 1, .int .u64 (m : Int), .int .u64 18446744073709551615, .int .i64 0, .bool false] 133)
  have bA4 := bA3.alloc (.cells #[.int .i64 1, .int .u64 (m : Int), .int .u64 18446744073709551615, .int .i64 0, .bool false] 133)
  have bN4 := bN3.alloc (.cells #[.int .i64 1, .int .u64 (m : Int), .int .u64 18446744073709551615, .int .i64 0, .bool false] 133)
  have bT4 := BoxN.new W3 133 #[.int .i64 1, .int .u64 (m : Int), .int .u64 18446744073709551615, .int .i64 0, .bool false]
  obtain ⟨w4, hrun, hM4, hT4⟩ := World.ownsMap.store (w := (W3.alloc (.cells #[.int .i64 1, .int .u64 (m : Int), .int .u64 18446744073709551615, .int .i64 0, .bool false] 133)).drew) (hM3.alloc (.cells #[.int .i64 1, .int .u64 (m : Int), .int .u64 18446744073709551615, .int .i64 0, .bool false] 133)) Tryz.keyedName Tryz.underlying102 (by unfold maxLen; omega) (key := nmV (1, z + 1)) (val := .pointer (some ⟨W3.heap.size, 0, none⟩)) (Tryz.nmType.keyOf (by have h1 := hid_elim Htn; have h2 := hid_elim Hz; have h3 := wfNm (k := 1) (n := tn + 1) (.inl rfl) (by unfold u64lim; omega); rwa [show ((tn + 1 : Nat) : Int) = z + 1 by omega] at h3)) (d := .lit (.int .u64 W3.heap.size)) (ps := []) rfl
  have g4 := hT4.grown
  have kV4 := BoxN.kept (W := (W3.alloc (.cells #[.int .i64 1, .int .u64 (m : Int), .int .u64 18446744073709551615, .int .i64 0, .bool false] 133)).drew) bV4 g4 (by intro e; injection e with e; exact nVM e.symm)
  have kA4 := BoxN.kept (W := (W3.alloc (.cells #[.int .i64 1, .int .u64 (m : Int), .int .u64 18446744073709551615, .int .i64 0, .bool false] 133)).drew) bA4 g4 (by intro e; injection e with e; exact (bA3.ne_map hM3) e.symm)
  have kN4 := BoxN.kept (W := (W3.alloc (.cells #[.int .i64 1, .int .u64 (m : Int), .int .u64 18446744073709551615, .int .i64 0, .bool false] 133)).drew) bN4 g4 (by intro e; injection e with e; exact (bN3.ne_map hM3) e.symm)
  have kT4 := BoxN.kept (W := (W3.alloc (.cells #[.int .i64 1, .int .u64 (m : Int), .int .u64 18446744073709551615, .int .i64 0, .bool false] 133)).drew) bT4 g4 (by intro e; injection e with e; have := hM3.lt; omega)
  have hP3 : CrP vb mt w1.heap.size w2.heap.size 2 m (z + 1) W3 := ⟨bV3.cell 2 rfl, bN3.cell 1 rfl, bA3.cell 0 rfl, bA3.cell 1 rfl, bN3.cell 0 rfl⟩
  have hPx : CrP vb mt w1.heap.size w2.heap.size 2 m (z + 1) (W3.alloc (.cells #[.int .i64 1, .int .u64 (m : Int), .int .u64 18446744073709551615, .int .i64 0, .bool false] 133)).drew := ⟨bV4.cell 2 rfl, bN4.cell 1 rfl, bA4.cell 0 rfl, bA4.cell 1 rfl, bN4.cell 0 rfl⟩
  have hP4 : CrP vb mt w1.heap.size w2.heap.size 2 m (z + 1) w4 := ⟨kV4.cell 2 rfl, kN4.cell 1 rfl, kA4.cell 0 rfl, kA4.cell 1 rfl, kN4.cell 0 rfl⟩
  have hS4 : Spares [vb, mt] w w4 := ((hS3.alloc _).drew).trans (Spares.of_grown g4 (by simp))
  have HM4 := hid_intro hM4
  unfold nmV at hrun
  have Hs3 := hid_intro hs3
  clear hs3
  clear hM4 hT4 g4 hM3 hM0 hl2 c2 c4 f4 a0 a1 hlen hcell hcn hfn hF hP bV4 bA4 bN4 bT4 hF1
  go_region_held3 (CrP vb mt w1.heap.size w2.heap.size 2 m (z + 1)) (first
    | with_reducible exact CrP.drew hP3
    | with_reducible exact hPx
    | with_reducible exact hP4
    | with_reducible assumption) (fail)
  have hE4 : Tryz.Env w4 ∧ 6 ≤ w4.heap.size := by
    have hb6 := hS4.below (B := 6) hV.va.six (fun b hb => by
      rcases List.mem_cons.1 hb with rfl | hb
      · exact hV.v6
      · rw [List.mem_singleton.1 hb]; exact hV.m6)
    exact ⟨hV.va.env.below hb6 (Nat.le_refl _), Nat.le_trans hV.va.six hS4.size⟩
  have htn := hid_elim Htn
  have hzz := hid_elim Hz
  have hNS := Tryz.nameString 1 (tn + 1) (by omega) w4 hE4.1 hE4.2
  have hz2 : ((tn + 1 : Nat) : Int) = z + 1 := by omega
  rw [hz2] at hNS
  have hF9 : Tryz.VFull w4 vb mt ml vx tm (tn + 1 : Nat) ln (tks ++ [⟨tn + 1, 1, m, 18446744073709551615, 0, false, W3.heap.size⟩]) lks := by
    refine hV.addT hS4 ?_ _ rfl hm64 (by have := hS3.size; exact this) kT4 (n := n0 + 1) ?_ (by omega) (by show tn + 1 < u64lim; unfold u64lim; omega)
    · rw [hz2]; exact kV4
    · have h9 := hid_elim HM4
      rw [List.map_append, List.reverse_append]
      show w4.ownsMap _ _ _ _ _ ((mapD (tks.map TokE.key).reverse).put (nmL (1, ((tn + 1 : Nat) : Int))) (.lit (.int .u64 W3.heap.size)))
      rw [hz2]
      exact h9
  have HF9 := hid_intro hF9
  rw [hid_elim Hstr] at hNS
  clear hF9 HM4 hE4 htn hzz hz2 hV2 hV bV3 bA3 bN3 kV4 kA4 kT4 hrun hS3 Hz Htn
  have k0 := kN4.cell 0 (v := .int .i64 1) rfl
  have k1 := kN4.cell 1 (v := .int .u64 (z + 1)) rfl
  go_wp2_with (go_at_call 48; refine hNS.mono ?_; rintro e w5 ⟨rfl, hb5⟩)
  exact bodyPost_ret (v := .tuple #[.string ⟨str.toArray⟩, .nilIface]) (by simp [results, Tryz.results111, go_sem]) rfl ⟨W3.heap.size, rfl, (hid_elim HF9).below hb5, hS4.trans (Spares.of_below hb5)⟩
end Go.Proofs

/-
  The code: mayIssue, Issue.
-/
namespace Go.Proofs
open Go.RowKit Go.Sort Go.Lib Go.Shelf Go.Maps

/-- the number of the error that Issue says; 0: none. -/
def mayE (lv pv : Bool) (ttl most : Int) (nl : Nat) (tm : Int) : Int :=
  if lv = false then 1 else if pv = false then 2 else if ttl = 0 ∨ most < ttl then 3 else if 14 ≤ nl then 4 else if tm = 18446744073709551615 then 3 else 0
def Tryz.errV (k : Int) : Value := if k = 0 then .nilIface else .iface 32 (.int .i64 k)
theorem Tryz.errV_nz {k : Int} (h : k ≠ 0) : Tryz.errV k = .iface 32 (.int .i64 k) := if_neg h

set_option maxRecDepth 100000 in
set_option maxHeartbeats 2000000 in
theorem Tryz.mayIssue (vb mt ml : Nat) (vx : VX) (tm tn ln : Int) (tks : List TokE) (lks : List LeaE) (w : World) (hV : Tryz.VaultAt w vb mt ml vx tm tn ln tks lks) (x : Int × Int) (lv : Bool) (pth : List UInt8) (hpl : pth.length ≤ 1000000) (ttl most : Int)
    (hF : ∀ W, Below w.heap.size w W → Calls Tryz.prog 90 #[.pointer (some ⟨vb, 0, none⟩), nmV x] W fun e w' => e = .returned (.bool lv) ∧ Below W.heap.size W w') :
    Calls Tryz.prog 46 #[.pointer (some ⟨vb, 0, none⟩), nmV x, .string ⟨pth.toArray⟩, .int .u64 ttl, .int .u64 most] w fun e w' => e = .returned (Tryz.errV (mayE lv (pathI pth) ttl most lks.length tm)) ∧ Below w.heap.size w w' := by
  have hb0 : Below w.heap.size w (w.alloc (.cells #[.int .i64 x.1, .int .u64 x.2] 97)) := (Below.refl _ w).alloc (Nat.le_refl _) _
  have hF1 := hF _ hb0
  have hVal := fun W => Tryz.valid pth W hpl
  have hlen := fun W (hb : Below w.heap.size w W) => (hV.below hb).lenL
  have hcell := fun W (hb : Below w.heap.size w W) => (hV.below hb).v.cell 3 (v := .map (some ml)) rfl
  have htime := fun W (hb : Below w.heap.size w W) => (hV.below hb).v.cell 1 (v := .int .u64 tm) rfl
  have hr : Hid (mayE lv (pathI pth) ttl most lks.length tm = if lv = false then 1 else if pathI pth = false then 2 else if ttl = 0 ∨ most < ttl then 3 else if 14 ≤ lks.length then 4 else if tm = 18446744073709551615 then 3 else 0) := hid_intro rfl
  generalize mayE lv (pathI pth) ttl most lks.length tm = r at *
  generalize pathI pth = pv at *
  unfold nmV at hF1 ⊢
  clear hF
  cases lv
  · obtain rfl : r = 1 := by rw [hid_elim hr]; rfl
    rw [Tryz.errV_nz (by decide)]
    clear hr
    go_enter Tryz.func46, Tryz.ntmps46
    go_wp2_with (go_at_call 90; refine hF1.mono ?_; rintro e w1 ⟨rfl, hb1⟩)
    go_ret
    exact ⟨rfl, hb0.trans (hb1.mono (by simp))⟩
  · cases pv
    · obtain rfl : r = 2 := by rw [hid_elim hr]; rfl
      rw [Tryz.errV_nz (by decide)]
      clear hr
      go_enter Tryz.func46, Tryz.ntmps46
      go_wp2_with (first
        | (go_at_call 90; refine hF1.mono ?_; rintro e w1 ⟨rfl, hb1⟩)
        | (go_at_call 91; refine (hVal _).mono ?_; rintro e w2 ⟨rfl, hb2⟩))
      go_ret
      exact ⟨rfl, (hb0.trans (hb1.mono (by simp))).trans (hb2.mono (by have := hb1.size; simp at this; omega))⟩
    · by_cases h3 : ttl = 0 ∨ most < ttl
      · obtain rfl : r = 3 := by rw [hid_elim hr, if_neg (by simp), if_neg (by simp), if_pos h3]
        rw [Tryz.errV_nz (by decide)]
        clear hr
        by_cases h0 : ttl = 0
        · subst h0
          clear h3
          go_enter Tryz.func46, Tryz.ntmps46
          go_wp2_with (first
            | (go_at_call 90; refine hF1.mono ?_; rintro e w1 ⟨rfl, hb1⟩)
            | (go_at_call 91; refine (hVal _).mono ?_; rintro e w2 ⟨rfl, hb2⟩))
          go_ret
          exact ⟨rfl, (hb0.trans (hb1.mono (by simp))).trans (hb2.mono (by have := hb1.size; simp at this; omega))⟩
        · have h0' : (ttl == 0) = false := by simpa using h0
          have h3' : most < ttl := h3.resolve_left h0
          clear h3 h0
          go_enter Tryz.func46, Tryz.ntmps46
          go_wp2_with (first
            | (go_at_call 90; refine hF1.mono ?_; rintro e w1 ⟨rfl, hb1⟩)
            | (go_at_call 91; refine (hVal _).mono ?_; rintro e w2 ⟨rfl, hb2⟩))
          go_ret
          exact ⟨rfl, (hb0.trans (hb1.mono (by simp))).trans (hb2.mono (by have := hb1.size; simp at this; omega))⟩
      · have h0' : (ttl == 0) = false := by simp; omega
        have h3' : ¬ most < ttl := by omega
        by_cases h4 : 14 ≤ lks.length
        · obtain rfl : r = 4 := by rw [hid_elim hr, if_neg (by simp), if_neg (by simp), if_neg h3, if_pos h4]
          rw [Tryz.errV_nz (by decide)]
          clear hr h3
          go_enter Tryz.func46, Tryz.ntmps46
          go_wp2_with (first
            | (go_at_call 90; refine hF1.mono ?_; rintro e w1 ⟨rfl, hb1⟩)
            | (go_at_call 91; refine (hVal _).mono ?_; rintro e w2 ⟨rfl, hb2⟩; have hb9 := (hb0.trans (hb1.mono (by simp))).trans (hb2.mono (by have := hb1.size; simp at this; omega)); have hl9 := hlen _ hb9; have c9 := hcell _ hb9))
          go_ret
          exact ⟨rfl, hb9⟩
        · by_cases h5 : tm = 18446744073709551615
          · obtain rfl : r = 3 := by rw [hid_elim hr, if_neg (by simp), if_neg (by simp), if_neg h3, if_neg h4, if_pos h5]
            rw [Tryz.errV_nz (by decide)]
            subst h5
            clear hr h3
            go_enter Tryz.func46, Tryz.ntmps46
            go_wp2_with (first
              | (go_at_call 90; refine hF1.mono ?_; rintro e w1 ⟨rfl, hb1⟩)
              | (go_at_call 91; refine (hVal _).mono ?_; rintro e w2 ⟨rfl, hb2⟩; have hb9 := (hb0.trans (hb1.mono (by simp))).trans (hb2.mono (by have := hb1.size; simp at this; omega)); have hl9 := hlen _ hb9; have c9 := hcell _ hb9; have t9 := htime _ hb9))
            go_ret
            exact ⟨rfl, hb9⟩
          · obtain rfl : r = 0 := by rw [hid_elim hr, if_neg (by simp), if_neg (by simp), if_neg h3, if_neg h4, if_neg h5]
            have h5' : (tm == 18446744073709551615) = false := by simpa using h5
            rw [show Tryz.errV 0 = .nilIface from rfl]
            clear hr h3 h5
            go_enter Tryz.func46, Tryz.ntmps46
            go_wp2_with (first
              | (go_at_call 90; refine hF1.mono ?_; rintro e w1 ⟨rfl, hb1⟩)
              | (go_at_call 91; refine (hVal _).mono ?_; rintro e w2 ⟨rfl, hb2⟩; have hb9 := (hb0.trans (hb1.mono (by simp))).trans (hb2.mono (by have := hb1.size; simp at this; omega)); have hl9 := hlen _ hb9; have c9 := hcell _ hb9; have t9 := htime _ hb9))
            go_ret
            exact ⟨rfl, hb9⟩
end Go.Proofs

/-
  The code: Issue.
-/
namespace Go.Proofs
open Go.RowKit Go.Sort Go.Lib Go.Shelf Go.Maps

set_option maxHeartbeats 1000000 in
theorem Tryz.vIssue_err (vb mt ml : Nat) (vx : VX) (tm tn ln : Int) (tks : List TokE) (lks : List LeaE) (w : World) (hV : Tryz.VaultAt w vb mt ml vx tm tn ln tks lks) (id pth : List UInt8) (hid : id.length ≤ 1000000) (ttl most k : Int) (hk : k ≠ 0)
    (hF : ∀ W, Below w.heap.size w W → Calls Tryz.prog 46 #[.pointer (some ⟨vb, 0, none⟩), nmV (parseN id), .string ⟨pth.toArray⟩, .int .u64 ttl, .int .u64 most] W fun e w' => e = .returned (Tryz.errV k) ∧ Below W.heap.size W w') :
    Calls Tryz.prog 27 #[.pointer (some ⟨vb, 0, none⟩), .string ⟨id.toArray⟩, .string ⟨pth.toArray⟩, .int .u64 ttl, .int .u64 most] w fun e w' => e = .returned (.tuple #[.string ⟨#[]⟩, .iface 32 (.int .i64 k)]) ∧ Below w.heap.size w w' := by
  have hP := Tryz.parse ⟨id.toArray⟩ (by simpa [ByteArray.size] using hid) w hV.env hV.six
  simp only at hP
  rw [Tryz.errV_nz hk] at hF
  generalize parseN id = x at *
  unfold nmV at hP hF
  clear hk
  go_enter Tryz.func27, Tryz.ntmps27
  go_wp2_with (first
    | (go_at_call 45; refine hP.mono ?_; rintro e w1 ⟨rfl, hb1⟩; have hF1 := hF _ (hb1.alloc hb1.size (.cells #[.int .i64 x.1, .int .u64 x.2] 97)))
    | (go_at_call 46; refine hF1.mono ?_; rintro e w2 ⟨rfl, hb2⟩))
  exact bodyPost_ret (v := .tuple #[.string ⟨#[]⟩, .iface 32 (.int .i64 k)]) (by simp [results, Tryz.results27, go_sem]) rfl ⟨rfl, (hb1.alloc hb1.size _).trans (hb2.mono (by have := hb1.size; simp; omega))⟩

abbrev Tryz.IsP (vb ml ab nb : Nat) (m z tm : Int) (W : World) : Prop :=
  W.cell? ⟨vb, 3, none⟩ = some (.map (some ml)) ∧ W.cell? ⟨vb, 1, none⟩ = some (.int .u64 tm) ∧ W.cell? ⟨nb, 0, none⟩ = some (.int .i64 2) ∧ W.cell? ⟨nb, 1, none⟩ = some (.int .u64 z) ∧ W.cell? ⟨ab, 0, none⟩ = some (.int .i64 1) ∧ W.cell? ⟨ab, 1, none⟩ = some (.int .u64 m)
theorem Tryz.IsP.drew {vb ml ab nb : Nat} {m z tm : Int} {W : World} (h : Tryz.IsP vb ml ab nb m z tm W) : Tryz.IsP vb ml ab nb m z tm W.drew := h

set_option maxRecDepth 100000 in
set_option maxHeartbeats 2000000 in
theorem Tryz.vIssue_ok (vb mt ml : Nat) (vx : VX) (tm : Int) (tn ln : Nat) (tks : List TokE) (lks : List LeaE) (w : World) (hV : Tryz.VFull w vb mt ml vx tm tn ln tks lks) (id pth : List UInt8) (hid : id.length ≤ 1000000) (ttl most : Int) (ht0 : 0 ≤ ttl) (ht1 : ttl ≤ 18446744073709551615) (hq0 : 0 ≤ most) (hq1 : most ≤ 18446744073709551615) (m : Nat) (hm64 : m < u64lim) (hm : parseN id = (1, (m : Int)))
    (hF : ∀ W, Below w.heap.size w W → Calls Tryz.prog 46 #[.pointer (some ⟨vb, 0, none⟩), nmV (parseN id), .string ⟨pth.toArray⟩, .int .u64 ttl, .int .u64 most] W fun e w' => e = .returned .nilIface ∧ Below W.heap.size W w') (h10 : lks.length < 14) (hln : ln < 9223372036854775807) :
    Calls Tryz.prog 27 #[.pointer (some ⟨vb, 0, none⟩), .string ⟨id.toArray⟩, .string ⟨pth.toArray⟩, .int .u64 ttl, .int .u64 most] w fun e w' => ∃ nb, w.heap.size ≤ nb ∧ e = .returned (.tuple #[.string ⟨(nmStr 2 (ln + 1)).toArray⟩, .nilIface]) ∧ Tryz.VFull w' vb mt ml vx tm tn (ln + 1 : Nat) tks (lks ++ [⟨ln + 1, 1, m, plusI tm ttl, 0, false, pth, plusI tm most, nb⟩]) ∧ Spares [vb, ml] w w' := by
  have hA1 := fun W => Tryz.later tm ttl hV.t0 hV.t1 ht0 ht1 W
  have hA2 := fun W => Tryz.later tm most hV.t0 hV.t1 hq0 hq1 W
  generalize plusI tm ttl = at0 at *
  generalize plusI tm most = la0 at *
  have hP := Tryz.parse ⟨id.toArray⟩ (by simpa [ByteArray.size] using hid) w hV.va.env hV.va.six
  simp only at hP
  have hcell := fun W (hb : Below w.heap.size w W) => (hV.va.below hb).v.cell 3 (v := .map (some ml)) rfl
  have hcn := fun W (hb : Below w.heap.size w W) => (hV.va.below hb).v.cell 5 (v := .int .u64 (ln : Int)) rfl
  have hfn := fun W (hb : Below w.heap.size w W) => (hV.va.below hb).v.frozen 5
  obtain ⟨z, hz⟩ : ∃ z : Int, (ln : Int) = z := ⟨_, rfl⟩
  simp only [hz] at hcn
  have hz0 : 0 ≤ z := by omega
  have hz1 : z < 9223372036854775807 := by omega
  have Hz := hid_intro hz
  rw [hm] at hP hF
  unfold nmV at hP hF
  simp only at hP hF
  have Htn := hid_intro hln
  clear hm hln hz
  obtain ⟨str, hstr⟩ : ∃ str, nmStr 2 (ln + 1) = str := ⟨_, rfl⟩
  rw [hstr]
  have Hstr := hid_intro hstr
  clear hstr
  go_enter Tryz.func27, Tryz.ntmps27
  go_wp2_with (first
    | (go_at_call 45; refine hP.mono ?_; rintro e w1 ⟨rfl, hb1⟩; have hF1 := hF _ (hb1.alloc hb1.size (.cells #[.int .i64 1, .int .u64 (m : Int)] 97)))
    | (go_at_call 46; refine hF1.mono ?_; rintro e w2 ⟨rfl, hb2⟩; have hb3 := (hb1.alloc hb1.size (.cells #[.int .i64 1, .int .u64 (m : Int)] 97)).trans (hb2.mono (by have := hb1.size; simp; omega)); have c2 := hcell _ hb3; have c4 := hcn _ hb3; have f4 := hfn _ hb3; have bA := (BoxN.new w1 97 #[.int .i64 1, .int .u64 (m : Int)]).below hb2 (by simp); have a0 := bA.cell 0 (v := .int .i64 1) rfl; have a1 := bA.cell 1 (v := .int .u64 (m : Int)) rfl; have lA := bA.lt; have lV := ((hV.va.below hb3).v).lt))
  have hV2 := hV.below hb3
  have nVA : vb ≠ w1.heap.size := hV2.va.v.ne bA (by decide)
  have bV3 := (hV2.va.v.set 5 (.int .u64 (z + 1))).alloc (.cells #[.int .i64 2, .int .u64 (z + 1)] 97)
  have bA3 := (bA.other (Ne.symm nVA) 5 (.int .u64 (z + 1))).alloc (.cells #[.int .i64 2, .int .u64 (z + 1)] 97)
  have bN3 := BoxN.new (w2.setCell ⟨vb, 5, none⟩ (.int .u64 (z + 1))) 97 #[.int .i64 2, .int .u64 (z + 1)]
  obtain ⟨n0, hn0, hM0⟩ := hV2.va.held.mapL
  have nVM : ml ≠ vb := hV2.va.v.ne_map hM0
  have hM3 := (hM0.setCell (a := ⟨vb, 5, none⟩) nVM (.int .u64 (z + 1))).alloc (.cells #[.int .i64 2, .int .u64 (z + 1)] 97)
  have hS3 : Spares [vb, ml] w ((w2.setCell ⟨vb, 5, none⟩ (.int .u64 (z + 1))).alloc (.cells #[.int .i64 2, .int .u64 (z + 1)] 97)) := ((Spares.of_below hb3).set (by simp) _ _).alloc _
  have hs3 : ((w2.setCell ⟨vb, 5, none⟩ (.int .u64 (z + 1))).alloc (.cells #[.int .i64 2, .int .u64 (z + 1)] 97)).heap.size = w2.heap.size + 1 := by simp
  rw [World.size_setCell] at bN3
  obtain ⟨W3, hW3⟩ : ∃ W3, (w2.setCell ⟨vb, 5, none⟩ (.int .u64 (z + 1))).alloc (.cells #[.int .i64 2, .int .u64 (z + 1)] 97) = W3 := ⟨_, rfl⟩
  rw [hW3] at bV3 bA3 bN3 hM3 hS3 hs3 ⊢
  clear hW3
  have bV4 := bV3.alloc (.cells #[.int .i64 1, .int .u64 (m : Int), .int .u64 at0, .int .i64 0, .bool false, .string ⟨pth.toArray⟩, .int .u64 la0] 114)
  have bA4 := bA3.alloc (.cells #[.int .i64 1, .int .u64 (m : Int), .int .u64 at0, .int .i64 0, .bool false, .string ⟨pth.toArray⟩, .int .u64 la0] 114)
  have bN4 := bN3.alloc (.cells #[.int .i64 1, .int .u64 (m : Int), .int .u64 at0, .int .i64 0, .bool false, .string ⟨pth.toArray⟩, .int .u64 la0] 114)
  have bT4 := BoxN.new W3 114 #[.int .i64 1, .int .u64 (m : Int), .int .u64 at0, .int .i64 0, .bool false, .string ⟨pth.toArray⟩, .int .u64 la0]
  obtain ⟨w4, hrun, hM4, hT4⟩ := World.ownsMap.store (w := (W3.alloc (.cells #[.int .i64 1, .int .u64 (m : Int), .int .u64 at0, .int .i64 0, .bool false, .string ⟨pth.toArray⟩, .int .u64 la0] 114)).drew) (hM3.alloc (.cells #[.int .i64 1, .int .u64 (m : Int), .int .u64 at0, .int .i64 0, .bool false, .string ⟨pth.toArray⟩, .int .u64 la0] 114)) Tryz.keyedName Tryz.underlying103 (by unfold maxLen; omega) (key := nmV (2, z + 1)) (val := .pointer (some ⟨W3.heap.size, 0, none⟩)) (Tryz.nmType.keyOf (by have h1 := hid_elim Htn; have h2 := hid_elim Hz; have h3 := wfNm (k := 2) (n := ln + 1) (.inr rfl) (by unfold u64lim; omega); rwa [show ((ln + 1 : Nat) : Int) = z + 1 by omega] at h3)) (d := .lit (.int .u64 W3.heap.size)) (ps := []) rfl
  have g4 := hT4.grown
  have kV4 := BoxN.kept (W := (W3.alloc (.cells #[.int .i64 1, .int .u64 (m : Int), .int .u64 at0, .int .i64 0, .bool false, .string ⟨pth.toArray⟩, .int .u64 la0] 114)).drew) bV4 g4 (by intro e; injection e with e; exact nVM e.symm)
  have kA4 := BoxN.kept (W := (W3.alloc (.cells #[.int .i64 1, .int .u64 (m : Int), .int .u64 at0, .int .i64 0, .bool false, .string ⟨pth.toArray⟩, .int .u64 la0] 114)).drew) bA4 g4 (by intro e; injection e with e; exact (bA3.ne_map hM3) e.symm)
  have kN4 := BoxN.kept (W := (W3.alloc (.cells #[.int .i64 1, .int .u64 (m : Int), .int .u64 at0, .int .i64 0, .bool false, .string ⟨pth.toArray⟩, .int .u64 la0] 114)).drew) bN4 g4 (by intro e; injection e with e; exact (bN3.ne_map hM3) e.symm)
  have kT4 := BoxN.kept (W := (W3.alloc (.cells #[.int .i64 1, .int .u64 (m : Int), .int .u64 at0, .int .i64 0, .bool false, .string ⟨pth.toArray⟩, .int .u64 la0] 114)).drew) bT4 g4 (by intro e; injection e with e; have := hM3.lt; omega)
  have hP3 : Tryz.IsP vb ml w1.heap.size w2.heap.size m (z + 1) tm W3 := ⟨bV3.cell 3 rfl, bV3.cell 1 rfl, bN3.cell 0 rfl, bN3.cell 1 rfl, bA3.cell 0 rfl, bA3.cell 1 rfl⟩
  have hPx : Tryz.IsP vb ml w1.heap.size w2.heap.size m (z + 1) tm (W3.alloc (.cells #[.int .i64 1, .int .u64 (m : Int), .int .u64 at0, .int .i64 0, .bool false, .string ⟨pth.toArray⟩, .int .u64 la0] 114)).drew := ⟨bV4.cell 3 rfl, bV4.cell 1 rfl, bN4.cell 0 rfl, bN4.cell 1 rfl, bA4.cell 0 rfl, bA4.cell 1 rfl⟩
  have hP4 : Tryz.IsP vb ml w1.heap.size w2.heap.size m (z + 1) tm w4 := ⟨kV4.cell 3 rfl, kV4.cell 1 rfl, kN4.cell 0 rfl, kN4.cell 1 rfl, kA4.cell 0 rfl, kA4.cell 1 rfl⟩
  have hS4 : Spares [vb, ml] w w4 := ((hS3.alloc _).drew).trans (Spares.of_grown g4 (by simp))
  have HM4 := hid_intro hM4
  unfold nmV at hrun
  have Hs3 := hid_intro hs3
  clear hs3
  clear hM4 hT4 g4 hM3 hM0 c2 c4 f4 a0 a1 hcell hcn hfn hF hP bV4 bA4 bN4 bT4 hF1
  go_region_held3 (Tryz.IsP vb ml w1.heap.size w2.heap.size m (z + 1) tm) (first
    | with_reducible exact Tryz.IsP.drew hP3
    | with_reducible exact hPx
    | with_reducible exact hP4
    | with_reducible assumption) (first
    | (go_at_call_of 47 (Value.int .u64 ttl); refine (hA1 _).mono ?_; rintro e w7 ⟨rfl, rfl⟩)
    | (go_at_call_of 47 (Value.int .u64 most); refine (hA2 _).mono ?_; rintro e w7 ⟨rfl, rfl⟩))
  have hE4 : Tryz.Env w4 ∧ 6 ≤ w4.heap.size := by
    have hb6 := hS4.below (B := 6) hV.va.six (fun b hb => by
      rcases List.mem_cons.1 hb with rfl | hb
      · exact hV.v6
      · rw [List.mem_singleton.1 hb]; exact hV.l6)
    exact ⟨hV.va.env.below hb6 (Nat.le_refl _), Nat.le_trans hV.va.six hS4.size⟩
  have htn := hid_elim Htn
  have hzz := hid_elim Hz
  have hNS := Tryz.nameString 2 (ln + 1) (by omega) w4 hE4.1 hE4.2
  have hz2 : ((ln + 1 : Nat) : Int) = z + 1 := by omega
  rw [hz2] at hNS
  have hF9 : Tryz.VFull w4 vb mt ml vx tm tn (ln + 1 : Nat) tks (lks ++ [⟨ln + 1, 1, m, at0, 0, false, pth, la0, W3.heap.size⟩]) := by
    refine hV.addL hS4 ?_ _ rfl hm64 (by have := hS3.size; exact this) kT4 (n := n0 + 1) ?_ (by omega) (by show ln + 1 < u64lim; unfold u64lim; omega)
    · rw [hz2]; exact kV4
    · have h9 := hid_elim HM4
      rw [List.map_append, List.reverse_append]
      show w4.ownsMap _ _ _ _ _ ((mapD (lks.map LeaE.key).reverse).put (nmL (2, ((ln + 1 : Nat) : Int))) (.lit (.int .u64 W3.heap.size)))
      rw [hz2]
      exact h9
  have HF9 := hid_intro hF9
  have hS3s := hS3.size
  rw [hid_elim Hstr] at hNS
  clear hF9 HM4 hE4 htn hzz hz2 hV2 hV bV3 bA3 bN3 kV4 kA4 kT4 hrun hS3 Hz Htn
  have k0 := kN4.cell 0 (v := .int .i64 2) rfl
  have k1 := kN4.cell 1 (v := .int .u64 (z + 1)) rfl
  go_wp2_with (go_at_call 48; refine hNS.mono ?_; rintro e w5 ⟨rfl, hb5⟩)
  exact bodyPost_ret (v := .tuple #[.string ⟨str.toArray⟩, .nilIface]) (by simp [results, Tryz.results27, go_sem]) rfl ⟨W3.heap.size, hS3s, rfl, (hid_elim HF9).below hb5, hS4.trans (Spares.of_below hb5)⟩
end Go.Proofs
