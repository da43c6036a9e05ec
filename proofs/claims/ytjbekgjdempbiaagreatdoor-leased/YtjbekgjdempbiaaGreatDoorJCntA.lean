import Derived.Test.YtjbekgjdempbiaaGreatDoorJJrnA
import Derived.Test.YtjbekgjdempbiaaGreatDoorJDiskC
import Derived.Test.YtjbekgjdempbiaaGreatDoorJRecC
import Derived.Test.YtjbekgjdempbiaaGreatDoorJPutL
/-
  A line is added to the journal.
-/
namespace Go.Proofs
open Go.RowKit Go.Sort Go.Lib Go.Shelf Go.Maps

theorem Tryz.method_app (db : Nat) (w : World) : Sem.run Tryz.prog (method 517 74 (.pointer (some ⟨db, 0, none⟩)) "Append") w = .ok (305, .pointer (some ⟨db, 0, none⟩)) w := by kernel_rfl
theorem Tryz.method_sync (db : Nat) (w : World) : Sem.run Tryz.prog (method 517 74 (.pointer (some ⟨db, 0, none⟩)) "Sync") w = .ok (309, .pointer (some ⟨db, 0, none⟩)) w := by kernel_rfl
/-- a string's bytes, in a block of their own. -/
theorem Tryz.toBytes (line : List UInt8) : ∃ (cp : World → Nat) (mk : World → World), ∀ W, (convert 9 267 (.string ⟨line.toArray⟩)).run Tryz.prog W = .ok (.slice (some ⟨W.heap.size, 0, none⟩) line.length (cp W)) (mk W) ∧ Below W.heap.size W (mk W) ∧ W.heap.size < (mk W).heap.size ∧ BytesAt (mk W) W.heap.size line := by
  refine ⟨fun W => grownCap W (⟨line.toArray⟩ : ByteArray).size 0 5, fun W => W.drew.alloc (.cells (bytesRow ⟨line.toArray⟩ (grownCap W (⟨line.toArray⟩ : ByteArray).size 0 5)) 5 ((bytesRow ⟨line.toArray⟩ (grownCap W (⟨line.toArray⟩ : ByteArray).size 0 5)).size, (bytesRow ⟨line.toArray⟩ (grownCap W (⟨line.toArray⟩ : ByteArray).size 0 5)).size + 1)), fun W => ⟨?_, ?_, ?_, ?_⟩⟩
  · have := run_bytes_of_string (P := Tryz.prog) W 9 267 5 ⟨line.toArray⟩ Tryz.underlying9 Tryz.underlying267 Tryz.underlying5
    simpa [ByteArray.size] using this
  · exact ((Below.refl _ W).drew).alloc (Nat.le_refl _) _
  · simp
  · intro j hj
    obtain ⟨c, hcc⟩ : ∃ c, grownCap W (⟨line.toArray⟩ : ByteArray).size 0 5 = c := ⟨_, rfl⟩
    simp only [hcc]
    have h : (W.drew.alloc (.cells (bytesRow ⟨line.toArray⟩ c) 5 ((bytesRow ⟨line.toArray⟩ c).size, (bytesRow ⟨line.toArray⟩ c).size + 1))).heap[W.heap.size]? = some (.cells (bytesRow ⟨line.toArray⟩ c) 5 ((bytesRow ⟨line.toArray⟩ c).size, (bytesRow ⟨line.toArray⟩ c).size + 1)) := World.alloc_heap_new W.drew _
    have hc : (bytesRow ⟨line.toArray⟩ c)[j]? = some (.int .u8 (line[j].toNat : Int)) := by
      have := bytesRow_at ⟨line.toArray⟩ c j (by simpa using hj)
      simpa using this
    have hsz : j < (bytesRow ⟨line.toArray⟩ c).size := (Array.getElem?_eq_some_iff.1 hc).1
    show (W.drew.alloc (.cells (bytesRow ⟨line.toArray⟩ c) 5 ((bytesRow ⟨line.toArray⟩ c).size, (bytesRow ⟨line.toArray⟩ c).size + 1))).cell? ⟨W.heap.size, j, none⟩ = _ ∧ (W.drew.alloc (.cells (bytesRow ⟨line.toArray⟩ c) 5 ((bytesRow ⟨line.toArray⟩ c).size, (bytesRow ⟨line.toArray⟩ c).size + 1))).frozen? ⟨W.heap.size, j, none⟩ = false
    constructor
    · unfold World.cell?
      rw [h]
      exact hc
    · unfold World.frozen?
      rw [h]
      simp
      omega
abbrev JP (jb : Nat) (d : Value) (W : World) : Prop := W.cell? ⟨jb, 0, none⟩ = some d ∧ W.cell? ⟨jb, 1, none⟩ = some (.int .u64 0)
def Tryz.diskV (db : Nat) : Value := .iface 74 (.pointer (some ⟨db, 0, none⟩))

set_option maxRecDepth 100000 in
set_option maxHeartbeats 4000000 in
theorem Tryz.addLine (jb db md mn : Nat) (er : Value) (fd fn : Option (Nat × List UInt8)) (l f : Int) (line : List UInt8) (w : World) (hJ : BoxN w jb 212 #[Tryz.diskV db, .int .u64 0, er]) (hD : Tryz.DiskAt w db md mn fd fn (.slice none 0 0) l f) (hl : l < 0) (hl1 : -999999990 ≤ l) (hf : f < 0) (hf1 : -999999990 ≤ f)
    (hld : (oldS fd).length + line.length ≤ 1000000000000) (hln : (oldS fn).length + line.length ≤ 1000000000000) :
    Calls Tryz.prog 163 #[.pointer (some ⟨jb, 0, none⟩), .string ⟨line.toArray⟩] w fun e w' => e = .returned .nilIface ∧ ∃ b b', w.heap.size ≤ b ∧ w.heap.size ≤ b' ∧ Tryz.DiskAt w' db md mn (some (b, oldS fd ++ line)) (some (b', oldS fn ++ line)) (.slice none 0 0) (l - 2) (f - 2) ∧ Spares [db, md, mn] w w' := by
  have j0 := hJ.cell 0 (v := Tryz.diskV db) rfl
  have j1 := hJ.cell 1 (v := .int .u64 0) rfl
  unfold Tryz.diskV at j0
  have lJ := hJ.lt
  have hm := fun W => Tryz.method_app db W
  have hm2 := fun W => Tryz.method_sync db W
  have hF := fun W => Tryz.fileOf0 W
  obtain ⟨cp, mk, hcv⟩ := Tryz.toBytes line
  have hcr := fun W => (hcv W).1
  have HCV := hid_intro hcv
  clear hcv
  go_enter Tryz.func163, Tryz.ntmps163
  go_wp2_with fail
  have hB0 : Below w.heap.size w (mk w.drew) := (Below.refl _ w).drew.trans (hid_elim HCV w.drew).2.1
  have hD0 := hD.below hB0
  have lD := hD.lt
  have hAp := Tryz.dAppend db md mn w.heap.size (cp w.drew) fd fn l f line (mk w.drew) hD0 hl (by omega) hf (by omega) hln (hid_elim HCV w.drew).2.2.2 (hid_elim HCV w.drew).2.2.1 (by omega) (by omega) (by omega) (fun q hq => by have := (hD.sd q hq).lt; omega)
  have hz0 : w.heap.size < (mk w.drew).heap.size := (hid_elim HCV w.drew).2.2.1
  obtain ⟨n, hn⟩ : ∃ n, line.length = n := ⟨_, rfl⟩
  rw [hn] at hAp hcr
  have Hn := hid_intro hn
  have Hld := hid_intro hld
  clear hn hld hln
  have hjn : jb ∉ [db, mn, w.heap.size] := by
    obtain ⟨nm, hnm, hMm⟩ := hD.nm
    have h1 := hJ.ne hD.box (by decide)
    have h2 := BoxN.ne_map' hJ hMm
    simp
    exact ⟨h1, Ne.symm h2, by omega⟩
  have hP0 : JP jb (.iface 74 (.pointer (some ⟨db, 0, none⟩))) w.drew := ⟨j0, j1⟩
  have hP1 : JP jb (.iface 74 (.pointer (some ⟨db, 0, none⟩))) (mk w.drew) := ⟨cell_later hB0 j0, cell_later hB0 j1⟩
  refine wp_region_held_drew (S := JP jb (.iface 74 (.pointer (some ⟨db, 0, none⟩)))) (by kernel_rfl) hP0 (fun hS0 => ?_)
  refine wpAnyH_take (i := 0) (oi := { dst := some 6, op := Go.Op.move (Go.Operand.tmp 0), type := 117, pos := "journal.go:98", after := #[], guard := none }) (v := ?v0) rfl (by kernel_rfl) (by kernel_rfl) (by kernel_rfl) (fun _ _ _ h => h) (Or.inl ⟨by rfl, ?y0⟩) hS0 ?_
  case y0 => (intro w hSw; obtain ⟨q0, q1⟩ := hSw; go_simp; try with_reducible rfl)
  try simp only [Act.put, List.setIfInBounds_toArray, List.set_cons_zero, List.set_cons_succ]
  refine wpAnyH_take (i := 1) (oi := { dst := some 7, op := Go.Op.nilCheck (Go.Operand.tmp 6), type := 0, pos := "journal.go:98", after := #[{ on := 0, ground := Go.Ground.data }], guard := none }) (v := ?v1) rfl (by kernel_rfl) (by kernel_rfl) (by kernel_rfl) (fun _ _ _ h => h) (Or.inl ⟨by rfl, ?y1⟩) hS0 ?_
  case y1 => (intro w hSw; obtain ⟨q0, q1⟩ := hSw; go_simp; try with_reducible rfl)
  try simp only [Act.put, List.setIfInBounds_toArray, List.set_cons_zero, List.set_cons_succ]
  refine wpAnyH_take (i := 2) (oi := { dst := some 8, op := Go.Op.fieldAddr 212 (Go.Operand.tmp 7) 0, type := 0, pos := "journal.go:98", after := #[{ on := 1, ground := Go.Ground.data }], guard := none }) (v := ?v2) rfl (by kernel_rfl) (by kernel_rfl) (by kernel_rfl) (fun _ _ _ h => h) (Or.inl ⟨by rfl, ?y2⟩) hS0 ?_
  case y2 => (intro w hSw; obtain ⟨q0, q1⟩ := hSw; go_simp; try with_reducible rfl)
  try simp only [Act.put, List.setIfInBounds_toArray, List.set_cons_zero, List.set_cons_succ]
  refine wpAnyH_take (i := 3) (oi := { dst := some 9, op := Go.Op.load 175 (Go.Operand.tmp 8), type := 175, pos := "journal.go:98", after := #[{ on := 2, ground := Go.Ground.data }], guard := none }) (v := ?v3) rfl (by kernel_rfl) (by kernel_rfl) (by kernel_rfl) (fun _ _ _ h => h) (Or.inl ⟨by rfl, ?y3⟩) hS0 ?_
  case y3 => (intro w hSw; obtain ⟨q0, q1⟩ := hSw; go_simp; try with_reducible rfl)
  try simp only [Act.put, List.setIfInBounds_toArray, List.set_cons_zero, List.set_cons_succ]
  refine wpAnyH_take (i := 4) (oi := { dst := some 10, op := Go.Op.move (Go.Operand.tmp 0), type := 117, pos := "journal.go:98", after := #[], guard := none }) (v := ?v4) rfl (by kernel_rfl) (by kernel_rfl) (by kernel_rfl) (fun _ _ _ h => h) (Or.inl ⟨by rfl, ?y4⟩) hS0 ?_
  case y4 => (intro w hSw; obtain ⟨q0, q1⟩ := hSw; go_simp; try with_reducible rfl)
  try simp only [Act.put, List.setIfInBounds_toArray, List.set_cons_zero, List.set_cons_succ]
  refine wpAnyH_take (i := 5) (oi := { dst := some 11, op := Go.Op.nilCheck (Go.Operand.tmp 10), type := 0, pos := "journal.go:98", after := #[{ on := 4, ground := Go.Ground.data }], guard := none }) (v := ?v5) rfl (by kernel_rfl) (by kernel_rfl) (by kernel_rfl) (fun _ _ _ h => h) (Or.inl ⟨by rfl, ?y5⟩) hS0 ?_
  case y5 => (intro w hSw; obtain ⟨q0, q1⟩ := hSw; go_simp; try with_reducible rfl)
  try simp only [Act.put, List.setIfInBounds_toArray, List.set_cons_zero, List.set_cons_succ]
  refine wpAnyH_take (i := 6) (oi := { dst := some 12, op := Go.Op.fieldAddr 212 (Go.Operand.tmp 11) 1, type := 0, pos := "journal.go:98", after := #[{ on := 5, ground := Go.Ground.data }], guard := none }) (v := ?v6) rfl (by kernel_rfl) (by kernel_rfl) (by kernel_rfl) (fun _ _ _ h => h) (Or.inl ⟨by rfl, ?y6⟩) hS0 ?_
  case y6 => (intro w hSw; obtain ⟨q0, q1⟩ := hSw; go_simp; try with_reducible rfl)
  try simp only [Act.put, List.setIfInBounds_toArray, List.set_cons_zero, List.set_cons_succ]
  refine wpAnyH_take (i := 7) (oi := { dst := some 13, op := Go.Op.load 31 (Go.Operand.tmp 12), type := 31, pos := "journal.go:98", after := #[{ on := 6, ground := Go.Ground.data }], guard := none }) (v := ?v7) rfl (by kernel_rfl) (by kernel_rfl) (by kernel_rfl) (fun _ _ _ h => h) (Or.inl ⟨by rfl, ?y7⟩) hS0 ?_
  case y7 => (intro w hSw; obtain ⟨q0, q1⟩ := hSw; go_simp; try with_reducible rfl)
  try simp only [Act.put, List.setIfInBounds_toArray, List.set_cons_zero, List.set_cons_succ]
  refine wpAnyH_take (i := 9) (oi := { dst := some 15, op := Go.Op.move (Go.Operand.tmp 1), type := 9, pos := "journal.go:98", after := #[], guard := none }) (v := ?v9) rfl (by kernel_rfl) (by kernel_rfl) (by kernel_rfl) (fun _ _ _ h => h) (Or.inl ⟨by rfl, ?y9⟩) hS0 ?_
  case y9 => (intro w hSw; obtain ⟨q0, q1⟩ := hSw; go_simp; try with_reducible rfl)
  try simp only [Act.put, List.setIfInBounds_toArray, List.set_cons_zero, List.set_cons_succ]
  refine wpAnyH_take (i := 11) (oi := { dst := some 17, op := Go.Op.nilCheck (Go.Operand.tmp 9), type := 175, pos := "journal.go:98", after := #[{ on := 3, ground := Go.Ground.data }], guard := none }) (v := ?v11) rfl (by kernel_rfl) (by kernel_rfl) (by kernel_rfl) (fun _ _ _ h => h) (Or.inl ⟨by rfl, ?y11⟩) hS0 ?_
  case y11 => (intro w hSw; obtain ⟨q0, q1⟩ := hSw; go_simp; try with_reducible rfl)
  try simp only [Act.put, List.setIfInBounds_toArray, List.set_cons_zero, List.set_cons_succ]
  refine wpAnyH_take (i := 12) (oi := { dst := some 18, op := Go.Op.move (Go.Operand.tmp 9), type := 175, pos := "journal.go:98", after := #[{ on := 3, ground := Go.Ground.data }, { on := 11, ground := Go.Ground.data }], guard := none }) (v := ?v12) rfl (by kernel_rfl) (by kernel_rfl) (by kernel_rfl) (fun _ _ _ h => h) (Or.inl ⟨by rfl, ?y12⟩) hS0 ?_
  case y12 => (intro w hSw; obtain ⟨q0, q1⟩ := hSw; go_simp; try with_reducible rfl)
  try simp only [Act.put, List.setIfInBounds_toArray, List.set_cons_zero, List.set_cons_succ]
  refine wpAnyH_ready (rs := [8, 10]) (by kernel_rfl) (by simp) ?_
  refine AllReadyH.cons rfl (fun K hK => ?_) (AllReadyH.cons rfl (fun K hK => ?_) AllReadyH.nil)
  · go_simp
    refine (hF _).mono ?_
    rintro e w1 ⟨rfl, rfl⟩
    refine hK.out _ _ hP0 (fun hS1 => ?_)
    clear hK K
    refine wpAnyH_ready (rs := [10]) (by kernel_rfl) (by simp) ?_
    refine AllReadyH.cons rfl (fun K hK => ?_) AllReadyH.nil
    go_simp
    refine hK.out _ _ hP1 (fun hS2 => ?_)
    clear hK K
    refine wpAnyH_ready (rs := [13]) (by kernel_rfl) (by simp) ?_
    refine AllReadyH.cons rfl (fun K hK => ?_) AllReadyH.nil
    go_simp
    refine hAp.mono ?_
    rintro e w2 ⟨rfl, b', g, cap, hb', hg, hD2, hR2, hS2⟩
    have hP2 : JP jb (.iface 74 (.pointer (some ⟨db, 0, none⟩))) w2 := ⟨(cell_of_block (hS2.block jb (by omega) hjn) 0).1.trans hP1.1, (cell_of_block (hS2.block jb (by omega) hjn) 1).1.trans hP1.2⟩
    refine hK.out _ _ hP2 (fun hS3 => ?_)
    clear hK K
    refine wpAnyH_take (i := 14) (oi := { dst := some 5, op := Go.Op.assign (Go.Operand.tmp 19), type := 81, pos := "journal.go:98", after := #[{ on := 13, ground := Go.Ground.data }, { on := 13, ground := Go.Ground.chain }, { on := 0, ground := Go.Ground.phase }, { on := 1, ground := Go.Ground.phase }, { on := 2, ground := Go.Ground.phase }, { on := 3, ground := Go.Ground.phase }, { on := 4, ground := Go.Ground.phase }, { on := 5, ground := Go.Ground.phase }, { on := 6, ground := Go.Ground.phase }, { on := 7, ground := Go.Ground.phase }, { on := 8, ground := Go.Ground.phase }, { on := 9, ground := Go.Ground.phase }, { on := 10, ground := Go.Ground.phase }, { on := 11, ground := Go.Ground.phase }, { on := 12, ground := Go.Ground.phase }, { on := 13, ground := Go.Ground.phase }], guard := none }) (v := ?v14) rfl (by kernel_rfl) (by kernel_rfl) (by kernel_rfl) (fun _ _ _ h => h) (Or.inl ⟨by rfl, ?y14⟩) hS3 ?_
    case y14 => (intro w hSw; obtain ⟨q0, q1⟩ := hSw; go_simp; try with_reducible rfl)
    try simp only [Act.put, List.setIfInBounds_toArray, List.set_cons_zero, List.set_cons_succ]
    refine wpAnyH_done (by kernel_rfl) ?_ _
    have hS3 : Spares [db, mn] w w2 := ⟨hS2.os.trans hB0.os, hS2.tape.trans hB0.tape, hS2.output.trans hB0.output, Nat.le_trans hB0.size hS2.size, fun k hk hnk => (hS2.block k (by omega) (by simp at hnk ⊢; omega)).trans (hB0.block k hk)⟩
    obtain ⟨nm, hnm, hMm⟩ := hD.nm
    have bJ2 := hS3.box hJ (by have h1 := hJ.ne hD.box (by decide); have h2 := BoxN.ne_map' hJ hMm; simp; exact ⟨h1, Ne.symm h2⟩)
    have j02 := bJ2.cell 0 (v := Tryz.diskV db) rfl
    unfold Tryz.diskV at j02
    have hSy := Tryz.dSync db md mn g cap _ fd _ (l - 1) (f - 1) line w2 hD2 (by omega) (by omega) (by omega) (by omega) (hid_elim Hld) hR2 (by omega)
    have hz3 := hS3.size
    have HS3 := hid_intro hS3
    clear hS2 hMm hAp hcr j0 j1 hS3 hB0 hP0 hP1 hP2
    go_wp2_with (go_at_call 309; refine hSy.mono ?_; rintro e w3 ⟨rfl, b, hb, hD3, hS4⟩)
    go_ret
    refine ⟨rfl, b, b', by omega, by omega, ?_, ((hid_elim HS3).mono (by simp)).trans (hS4.mono (by simp))⟩
    rw [show l - 2 = l - 1 - 1 by omega, show f - 2 = f - 1 - 1 by omega]
    exact hD3
  · go_simp
    refine hK.out _ _ hP1 (fun hS1 => ?_)
    clear hK K
    refine wpAnyH_ready (rs := [8]) (by kernel_rfl) (by simp) ?_
    refine AllReadyH.cons rfl (fun K hK => ?_) AllReadyH.nil
    go_simp
    refine (hF _).mono ?_
    rintro e w1 ⟨rfl, rfl⟩
    refine hK.out _ _ hP1 (fun hS2 => ?_)
    clear hK K
    refine wpAnyH_ready (rs := [13]) (by kernel_rfl) (by simp) ?_
    refine AllReadyH.cons rfl (fun K hK => ?_) AllReadyH.nil
    go_simp
    refine hAp.mono ?_
    rintro e w2 ⟨rfl, b', g, cap, hb', hg, hD2, hR2, hS2⟩
    have hP2 : JP jb (.iface 74 (.pointer (some ⟨db, 0, none⟩))) w2 := ⟨(cell_of_block (hS2.block jb (by omega) hjn) 0).1.trans hP1.1, (cell_of_block (hS2.block jb (by omega) hjn) 1).1.trans hP1.2⟩
    refine hK.out _ _ hP2 (fun hS3 => ?_)
    clear hK K
    refine wpAnyH_take (i := 14) (oi := { dst := some 5, op := Go.Op.assign (Go.Operand.tmp 19), type := 81, pos := "journal.go:98", after := #[{ on := 13, ground := Go.Ground.data }, { on := 13, ground := Go.Ground.chain }, { on := 0, ground := Go.Ground.phase }, { on := 1, ground := Go.Ground.phase }, { on := 2, ground := Go.Ground.phase }, { on := 3, ground := Go.Ground.phase }, { on := 4, ground := Go.Ground.phase }, { on := 5, ground := Go.Ground.phase }, { on := 6, ground := Go.Ground.phase }, { on := 7, ground := Go.Ground.phase }, { on := 8, ground := Go.Ground.phase }, { on := 9, ground := Go.Ground.phase }, { on := 10, ground := Go.Ground.phase }, { on := 11, ground := Go.Ground.phase }, { on := 12, ground := Go.Ground.phase }, { on := 13, ground := Go.Ground.phase }], guard := none }) (v := ?v14) rfl (by kernel_rfl) (by kernel_rfl) (by kernel_rfl) (fun _ _ _ h => h) (Or.inl ⟨by rfl, ?y14⟩) hS3 ?_
    case y14 => (intro w hSw; obtain ⟨q0, q1⟩ := hSw; go_simp; try with_reducible rfl)
    try simp only [Act.put, List.setIfInBounds_toArray, List.set_cons_zero, List.set_cons_succ]
    refine wpAnyH_done (by kernel_rfl) ?_ _
    have hS3 : Spares [db, mn] w w2 := ⟨hS2.os.trans hB0.os, hS2.tape.trans hB0.tape, hS2.output.trans hB0.output, Nat.le_trans hB0.size hS2.size, fun k hk hnk => (hS2.block k (by omega) (by simp at hnk ⊢; omega)).trans (hB0.block k hk)⟩
    obtain ⟨nm, hnm, hMm⟩ := hD.nm
    have bJ2 := hS3.box hJ (by have h1 := hJ.ne hD.box (by decide); have h2 := BoxN.ne_map' hJ hMm; simp; exact ⟨h1, Ne.symm h2⟩)
    have j02 := bJ2.cell 0 (v := Tryz.diskV db) rfl
    unfold Tryz.diskV at j02
    have hSy := Tryz.dSync db md mn g cap _ fd _ (l - 1) (f - 1) line w2 hD2 (by omega) (by omega) (by omega) (by omega) (hid_elim Hld) hR2 (by omega)
    have hz3 := hS3.size
    have HS3 := hid_intro hS3
    clear hS2 hMm hAp hcr j0 j1 hS3 hB0 hP0 hP1 hP2
    go_wp2_with (go_at_call 309; refine hSy.mono ?_; rintro e w3 ⟨rfl, b, hb, hD3, hS4⟩)
    go_ret
    refine ⟨rfl, b, b', by omega, by omega, ?_, ((hid_elim HS3).mono (by simp)).trans (hS4.mono (by simp))⟩
    rw [show l - 2 = l - 1 - 1 by omega, show f - 2 = f - 1 - 1 by omega]
    exact hD3
end Go.Proofs

/-
  (Journal).Add, where the disk is well.
-/
namespace Go.Proofs
open Go.RowKit Go.Sort Go.Lib Go.Shelf Go.Maps

def Ascii (s : List UInt8) : Prop := ∀ b ∈ s, b.toNat < 128
theorem Ascii.app {a b : List UInt8} (ha : Ascii a) (hb : Ascii b) : Ascii (a ++ b) := fun x hx => by
  rcases List.mem_append.1 hx with h | h
  · exact ha x h
  · exact hb x h
theorem Ascii.cons {c : UInt8} {a : List UInt8} (hc : c.toNat < 128) (ha : Ascii a) : Ascii (c :: a) := fun x hx => by
  rcases List.mem_cons.1 hx with rfl | h
  · exact hc
  · exact ha x h
theorem ascii_nil : Ascii [] := fun _ h => by cases h
theorem ascii_dec (u : Nat) : Ascii (Lib.decDigits u) := by
  induction u using Nat.strongRecOn with
  | ind u ih =>
    by_cases h : u < 10
    · rw [Lib.decDigits_one h]
      exact Ascii.cons (by simp; omega) ascii_nil
    · rw [Lib.decDigits, dif_neg h]
      exact (ih (u / 10) (by omega)).app (Ascii.cons (by simp; omega) ascii_nil)
theorem ascii_itoa (n : Int) : Ascii (Lib.itoa n) := by
  unfold Lib.itoa
  split
  · exact Ascii.cons (by decide) (ascii_dec _)
  · exact ascii_dec _
theorem ascii_nm (k : Int) (u : Nat) : Ascii (nmStr k u) := by
  unfold nmStr
  split
  · exact Ascii.cons (by decide) (ascii_dec _)
  · split
    · exact Ascii.cons (by decide) (ascii_dec _)
    · exact ascii_nil
theorem ascii_bool (b : Bool) : Ascii (Lib.formatBool b) := by
  cases b <;> exact fun x hx => by revert x; decide
theorem ascii_join : ∀ (l : List (List UInt8)) (sep : List UInt8), (∀ x ∈ l, Ascii x) → Ascii sep → Ascii (Lib.join l sep)
  | [], _, _, _ => by rw [Lib.join_nil]; exact ascii_nil
  | x :: l, sep, h, hs => by
    rw [Lib.join_cons]
    refine (h x (by simp)).app ?_
    unfold Lib.joinTail
    intro b hb
    obtain ⟨y, hy, hby⟩ := List.mem_flatten.1 hb
    obtain ⟨z, hz, rfl⟩ := List.mem_map.1 hy
    exact (hs.app (h z (List.mem_cons_of_mem _ hz))) b hby
theorem ascii_rec (r : RecD) (h : Ascii r.pth) : Ascii (recStr r) := by
  refine ascii_join _ _ (fun x hx => ?_) (Ascii.cons (by decide) ascii_nil)
  simp only [recFields, List.mem_cons, List.not_mem_nil, or_false] at hx
  rcases hx with rfl | rfl | rfl | rfl | rfl | rfl | rfl | rfl
  · exact ascii_itoa _
  · exact ascii_nm _ _
  · exact ascii_nm _ _
  · exact ascii_bool _
  · exact ascii_dec _
  · exact ascii_itoa _
  · exact ascii_dec _
  · exact h
theorem ascii_text (rs : List RecD) (h : ∀ r ∈ rs, Ascii r.pth) : Ascii (recTxt rs) := by
  refine ascii_join _ _ (fun x hx => ?_) (Ascii.cons (by decide) ascii_nil)
  obtain ⟨r, hr, rfl⟩ := List.mem_map.1 hx
  exact ascii_rec r (h r hr)
/-- the line of these records. -/
def recLine (rs : List RecD) : List UInt8 := lineL (recTxt rs)
theorem recLine_len (rs : List RecD) (h : ∀ r ∈ rs, r.Ok) (hn : rs.length ≤ 1000) : (recLine rs).length ≤ 1300000 := by
  have h1 := recText_len rs h
  have h2 := lineL_len (recTxt rs) (by omega)
  unfold recLine
  omega

set_option maxRecDepth 100000 in
set_option maxHeartbeats 4000000 in
theorem Tryz.jAdd (jb db md mn g cap : Nat) (rs : List RecD) (fd fn : Option (Nat × List UInt8)) (l f : Int) (w : World) (hJ : BoxN w jb 212 #[Tryz.diskV db, .int .u64 0, .nilIface]) (hD : Tryz.DiskAt w db md mn fd fn (.slice none 0 0) l f) (hl : l < 0) (hl1 : -999999990 ≤ l) (hf : f < 0) (hf1 : -999999990 ≤ f)
    (hld : (oldS fd).length ≤ 900000000000) (hln : (oldS fn).length ≤ 900000000000) (hR : RecRow w g rs) (hg : g < w.heap.size) (hok : ∀ r ∈ rs, r.Ok) (hasc : ∀ r ∈ rs, Ascii r.pth) (hn : rs.length ≤ 1000) (hE : Tryz.Env w) (h6 : 6 ≤ w.heap.size) :
    Calls Tryz.prog 120 #[.pointer (some ⟨jb, 0, none⟩), .slice (some ⟨g, 0, none⟩) rs.length cap] w fun e w' => e = .returned .nilIface ∧ ∃ b b', w.heap.size ≤ b ∧ w.heap.size ≤ b' ∧ Tryz.DiskAt w' db md mn (some (b, oldS fd ++ recLine rs)) (some (b', oldS fn ++ recLine rs)) (.slice none 0 0) (l - 2) (f - 2) ∧ Spares [db, md, mn] w w' := by
  have hT := Tryz.recText g cap rs w hR hg hok hn hE h6
  have hlen := recText_len rs hok
  have hll := recLine_len rs hok hn
  have hLn := fun W (hb : Below w.heap.size w W) => Tryz.lineOf (recTxt rs) W (hE.below hb h6) (Nat.le_trans h6 hb.size) (by omega) (ascii_text rs hasc)
  have hA := fun W (hb : Below w.heap.size w W) => Tryz.addLine jb db md mn .nilIface fd fn l f (recLine rs) W (hJ.below hb hJ.lt) (hD.below hb) hl hl1 hf hf1 (by omega) (by omega)
  change ∀ W, Below w.heap.size w W → Calls Tryz.prog 144 _ W (fun e w' => e = .returned (.string ⟨(recLine rs).toArray⟩) ∧ _) at hLn
  have hjn0 : jb ∉ [db, md, mn] := by
    obtain ⟨n1, -, hM1⟩ := hD.nm
    obtain ⟨n2, -, hM2⟩ := hD.dm
    have h1 := hJ.ne hD.box (by decide)
    have h2 := BoxN.ne_map' hJ hM1
    have h3 := BoxN.ne_map' hJ hM2
    simp
    exact ⟨h1, Ne.symm h3, Ne.symm h2⟩
  have c0 := hJ.cell 2 (v := .nilIface) rfl
  have lJ := hJ.lt
  generalize rs.length = n at *
  generalize recLine rs = line at *
  generalize recTxt rs = txt at *
  go_enter Tryz.func120, Tryz.ntmps120
  go_wp2_with (first
    | (go_at_call 145; refine hT.mono ?_; rintro e w1 ⟨rfl, hb1⟩)
    | (go_at_call 144; refine (hLn _ hb1).mono ?_; rintro e w2 ⟨rfl, hb2⟩; have hb3 := hb1.trans (hb2.mono hb1.size))
    | (go_at_call 163; refine (hA _ hb3).mono ?_; rintro e w4 ⟨rfl, b, b', hb, hb', hD4, hS4⟩; have hz4 := hb3.size; have hjn : jb ∉ [db, md, mn] := hjn0; have bJ4 := hS4.box (hJ.below hb3 hJ.lt) hjn; have c4 := bJ4.cell 2 (v := .nilIface) rfl; have f4 := bJ4.frozen 2))
  have hjn' := hjn
  simp at hjn'
  have hS5 : Spares [jb] w4 (w4.setCell ⟨jb, 2, none⟩ .nilIface) := (Spares.of_below (Below.refl _ w4)).set (by simp) _ _
  have hD5 := hD4.spared hS5 (by simp; omega) (by simp; omega) (by simp; omega) (fun q hq => by cases hq; simp; omega) (fun q hq => by cases hq; simp; omega)
  have bJ5 := bJ4.set 2 .nilIface
  have hS6 : Spares [db, md, mn] w (w4.setCell ⟨jb, 2, none⟩ .nilIface) := by
    have h1 : Spares [db, md, mn] w w4 := (Spares.of_below hb3).trans hS4
    refine ⟨h1.os, h1.tape, h1.output, by simpa using h1.size, fun k hk hnk => ?_⟩
    by_cases e : k = jb
    · subst e
      exact (show _ = some (Obj.cells #[Tryz.diskV db, .int .u64 0, .nilIface] 212 (0, 0)) from bJ5).trans (show w.heap[k]? = some (Obj.cells #[Tryz.diskV db, .int .u64 0, .nilIface] 212 (0, 0)) from hJ).symm
    · rw [set_other _ _ _ _ _ e]
      exact h1.block k hk hnk
  go_ret
  exact ⟨rfl, b, b', by omega, by omega, hD5, hS6⟩
end Go.Proofs

/-
  (Vault).use, put, count: what is kept.
-/
namespace Go.Proofs
open Go.RowKit Go.Sort Go.Lib Go.Shelf Go.Maps

structure TokOk (t : TokE) : Prop where
  a0 : 0 ≤ t.at_
  a1 : t.at_ ≤ 18446744073709551615
  r0 : -9223372036854775808 ≤ t.tr
  r1 : t.tr ≤ 9223372036854775807
structure LeaOk (t : LeaE) : Prop where
  a0 : 0 ≤ t.at_
  a1 : t.at_ ≤ 18446744073709551615
  r0 : -9223372036854775808 ≤ t.tr
  r1 : t.tr ≤ 9223372036854775807
  l0 : 0 ≤ t.last
  l1 : t.last ≤ 18446744073709551615
  p1 : t.pth.length ≤ 24
  pa : Ascii t.pth
/-- a vault with all that is kept true of it. -/
structure Tryz.VFull (W : World) (vb mt ml : Nat) (vx : VX) (tm : Int) (tn ln : Nat) (tks : List TokE) (lks : List LeaE) : Prop where
  va : Tryz.VaultAt W vb mt ml vx tm tn ln tks lks
  nt : ∀ t ∈ tks, t.n ≤ tn
  nl : ∀ l ∈ lks, l.n ≤ ln
  t0 : 0 ≤ tm
  t1 : tm ≤ 18446744073709551615
  okT : ∀ t ∈ tks, TokOk t
  okL : ∀ l ∈ lks, LeaOk l
  mne : mt ≠ ml
  v9 : 9 ≤ vb
  m9 : 9 ≤ mt
  l9 : 9 ≤ ml
section
variable {W W' : World} {vb mt ml : Nat} {vx : VX} {tm : Int} {tn ln : Nat} {tks : List TokE} {lks : List LeaE}
theorem Tryz.VFull.below (h : Tryz.VFull W vb mt ml vx tm tn ln tks lks) (hb : Below W.heap.size W W') : Tryz.VFull W' vb mt ml vx tm tn ln tks lks := { h with va := h.va.below hb }
theorem Tryz.VFull.nine (h : Tryz.VFull W vb mt ml vx tm tn ln tks lks) : 9 ≤ W.heap.size := Nat.le_trans h.v9 (Nat.le_of_lt h.va.v.lt)
theorem Tryz.VFull.nes (h : Tryz.VFull W vb mt ml vx tm tn ln tks lks) : mt ≠ vb ∧ ml ≠ vb := by
  obtain ⟨n1, -, m1⟩ := h.va.held.mapT
  obtain ⟨n2, -, m2⟩ := h.va.held.mapL
  exact ⟨BoxN.ne_map' h.va.v m1, BoxN.ne_map' h.va.v m2⟩
/-- other blocks. -/
theorem Tryz.VFull.spared (h : Tryz.VFull W vb mt ml vx tm tn ln tks lks) {bs : List Nat} (hS : Spares bs W W') (h1 : vb ∉ bs) (h2 : mt ∉ bs) (h3 : ml ∉ bs) (h6 : ∀ b ∈ bs, 6 ≤ b) : Tryz.VFull W' vb mt ml vx tm tn ln tks lks := by
  obtain ⟨n1, k1, m1⟩ := h.va.held.mapT
  obtain ⟨n2, k2, m2⟩ := h.va.held.mapL
  have hb6 := hS.below (B := 6) h.va.six h6
  exact { h with va := ⟨hS.box h.va.v h1, ⟨⟨n1, k1, hS.map m1 h2⟩, ⟨n2, k2, hS.map m2 h3⟩⟩, h.va.ok, h.va.env.below hb6 (Nat.le_refl _), Nat.le_trans h.va.six hS.size⟩ }
end

def Tryz.kd_tn : Int := 1
def Tryz.kd_ln : Int := 2
def Tryz.usetn (vx : VX) (tm : Int) (mt ml : Nat) (tn ln z : Int) : Array Value := Tryz.vaultC vx tm mt ml (max tn z) ln
def Tryz.useln (vx : VX) (tm : Int) (mt ml : Nat) (tn ln z : Int) : Array Value := Tryz.vaultC vx tm mt ml tn (max ln z)
set_option maxRecDepth 100000 in
set_option maxHeartbeats 2000000 in
theorem Tryz.use_tn (vb mt ml : Nat) (vx : VX) (tm tn ln z : Int) (w : World) (hV : BoxN w vb 126 (Tryz.vaultC vx tm mt ml tn ln)) :
    Calls Tryz.prog 149 #[.pointer (some ⟨vb, 0, none⟩), .agg #[.int .i64 Tryz.kd_tn, .int .u64 z]] w fun e w' => e = .returned (.tuple #[]) ∧ BoxN w' vb 126 (Tryz.usetn vx tm mt ml tn ln z) ∧ Spares [vb] w w' := by
  have c5 := hV.cell 5 (v := .int .u64 tn) rfl
  have f5 := hV.frozen 5
  have lV := hV.lt
  unfold Tryz.kd_tn
  go_enter Tryz.func149, Tryz.ntmps149
  go_wp2
  go_region
  go_wp2
  go_end0
  refine ⟨rfl, ?_, (((Spares.of_below (Below.refl _ w)).set (by simp) _ _).alloc _).drew⟩
  exact BoxN.alloc (hV.set 5 (.int .u64 (max tn z))) _
set_option maxRecDepth 100000 in
set_option maxHeartbeats 2000000 in
theorem Tryz.use_ln (vb mt ml : Nat) (vx : VX) (tm tn ln z : Int) (w : World) (hV : BoxN w vb 126 (Tryz.vaultC vx tm mt ml tn ln)) :
    Calls Tryz.prog 149 #[.pointer (some ⟨vb, 0, none⟩), .agg #[.int .i64 Tryz.kd_ln, .int .u64 z]] w fun e w' => e = .returned (.tuple #[]) ∧ BoxN w' vb 126 (Tryz.useln vx tm mt ml tn ln z) ∧ Spares [vb] w w' := by
  have c5 := hV.cell 6 (v := .int .u64 ln) rfl
  have f5 := hV.frozen 6
  have lV := hV.lt
  unfold Tryz.kd_ln
  go_enter Tryz.func149, Tryz.ntmps149
  go_wp2
  go_region
  go_wp2
  go_end0
  refine ⟨rfl, ?_, (((Spares.of_below (Below.refl _ w)).set (by simp) _ _).alloc _).drew⟩
  exact BoxN.alloc (hV.set 6 (.int .u64 (max ln z))) _
end Go.Proofs
