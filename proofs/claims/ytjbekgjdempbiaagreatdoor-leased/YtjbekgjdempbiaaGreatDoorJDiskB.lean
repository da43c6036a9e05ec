import Derived.Test.YtjbekgjdempbiaaGreatDoorJSpare
import Derived.Test.YtjbekgjdempbiaaGreatDoorJSets
import Derived.Test.YtjbekgjdempbiaaGreatDoorJRangeO
import Derived.Carry
import Derived.Deep.RegionHeldLaw
import Derived.Deep.RegionLaw
import Derived.Deep.AppendLies
import Derived.Deep.RegionHeld3
import Derived.RangeFuncBox
/-
  plain's disk, as long as it has no file but one: how it is written to.
-/
namespace Go.Proofs
open Go.RowKit Go.Sort Go.Maps Go.WideMaps

/-- the file's name. -/
def jName : List UInt8 := [106, 111, 117, 114, 110, 97, 108]
def ptrV (b : Nat) : Value := .pointer (some ⟨b, 0, none⟩)
/-- a map of files with one file at the most. -/
def fileD : Option Nat → DataW Value
  | none => .map []
  | some b => .map [(.string jName, .held (ptrV b))]
theorem fileD_put (o : Option Nat) (b : Nat) : (fileD o).put (.string jName) (.held (ptrV b)) = fileD (some b) := by
  cases o <;> rfl
theorem fileD_has (o : Option Nat) : Maps.has (fileD o) (.string jName) = o.isSome := by
  cases o <;> rfl
theorem fileD_at (o : Option Nat) (z : DataW Value) : (fileD o).atKey (.string jName) z = (match o with | some b => .held (ptrV b) | none => z) := by
  cases o <;> rfl
theorem Tryz.keyS : keyOf Tryz.prog 9 (.string ⟨#[106, 111, 117, 114, 110, 97, 108]⟩) = some (.string jName) := by kernel_rfl
theorem Tryz.zeroPS (w : World) : (zeroValue 101).run Tryz.prog w = .ok (.pointer none) w := Tryz.zeroValue101 w
theorem Tryz.keyedS : Keyed Tryz.prog 9 := string_keyed Tryz.underlying9

section
variable {W : World} {m n : Nat}
theorem Tryz.lookF {b : Nat} (h : W.ownsMap Tryz.prog 9 valR m n (fileD (some b))) :
    (Instr.lookup 97 (.map (some m)) (.string ⟨#[106, 111, 117, 114, 110, 97, 108]⟩) true).run Tryz.prog W = .ok (.tuple #[ptrV b, .bool true]) W := by
  obtain ⟨v, ps, hrun, hv⟩ := h.look_ok Tryz.keyedS Tryz.underlying97 (Tryz.zeroPS W) (zd := .held (.pointer none)) (zp := []) rfl Tryz.keyS
  rw [fileD_at] at hv
  rw [hrun, fileD_has, valR_held hv]
  rfl
theorem Tryz.lookF_no (h : W.ownsMap Tryz.prog 9 valR m n (fileD none)) :
    (Instr.lookup 97 (.map (some m)) (.string ⟨#[106, 111, 117, 114, 110, 97, 108]⟩) true).run Tryz.prog W = .ok (.tuple #[.pointer none, .bool false]) W := by
  obtain ⟨v, ps, hrun, hv⟩ := h.look_ok Tryz.keyedS Tryz.underlying97 (Tryz.zeroPS W) (zd := .held (.pointer none)) (zp := []) rfl Tryz.keyS
  rw [fileD_at] at hv
  rw [hrun, fileD_has, valR_held hv]
  rfl
theorem Tryz.storeF {o : Option Nat} (h : W.ownsMap Tryz.prog 9 valR m n (fileD o)) (hn : n ≤ 1000) (b : Nat) :
    ∃ w', (Instr.mapUpdate 97 (.map (some m)) (.string ⟨#[106, 111, 117, 114, 110, 97, 108]⟩) (ptrV b)).run Tryz.prog W = .ok () w' ∧ w'.ownsMap Tryz.prog 9 valR m 1 (fileD (some b)) ∧ W.grownBy w' (some m) := by
  obtain ⟨w', hrun, hM, hT⟩ := h.store Tryz.keyedS Tryz.underlying97 (by unfold maxLen; omega) Tryz.keyS (val := ptrV b) (d := .held (ptrV b)) (ps := []) rfl
  rw [fileD_put] at hM
  refine ⟨w', hrun, ?_, hT.grown⟩
  obtain ⟨es, clock, hb, F, hs, hD⟩ := hM
  refine ⟨es, clock, hb, F, ?_, hD⟩
  have : Maps.size (fileD (some b)) = es.size := by rw [hD]; simp [Maps.size, length_sorted]
  rw [← this]
  exact Nat.le_refl 1
end

set_option maxHeartbeats 1000000 in
/-- a call that writes: the disk is well. -/
theorem Tryz.dWrites (db : Nat) (m1 m2 p : Value) (l f : Int) (w : World) (hD : BoxN w db 100 #[m1, m2, p, .int .i64 l, .int .i64 f, .bool false]) (hl : l < 0) (hl1 : -1000000000 ≤ l) (hf : f < 0) (hf1 : -1000000000 ≤ f) :
    Calls Tryz.prog 314 #[.pointer (some ⟨db, 0, none⟩)] w fun e w' => e = .returned .nilIface ∧ w' = ((w.setCell ⟨db, 3, none⟩ (.int .i64 (l - 1))).setCell ⟨db, 4, none⟩ (.int .i64 (f - 1))) := by
  have d3 := hD.cell 3 (v := .int .i64 l) rfl
  have d4 := hD.cell 4 (v := .int .i64 f) rfl
  have d5 := hD.cell 5 (v := .bool false) rfl
  have f3 := hD.frozen 3
  have f4 := hD.frozen 4
  have e1 : (l == 0) = false := by rw [beq_eq_false_iff_ne]; omega
  have e2 : (f == 0) = false := by rw [beq_eq_false_iff_ne]; omega
  go_enter Tryz.func314, Tryz.ntmps314
  go_wp2
  go_ret
  exact ⟨rfl, rfl⟩

/-- what the file has. -/
def oldS (o : Option (Nat × List UInt8)) : List UInt8 := (o.map (·.2)).getD []
theorem bytes_app (a b : List UInt8) : (⟨a.toArray⟩ : ByteArray) ++ ⟨b.toArray⟩ = ⟨(a ++ b).toArray⟩ := by
  apply ByteArray.ext
  simp

set_option maxRecDepth 100000 in
set_option maxHeartbeats 2000000 in
theorem Tryz.dDo (m n : Nat) (o : Option (Nat × List UInt8)) (data : List UInt8) (w : World) (hM : w.ownsMap Tryz.prog 9 valR m n (fileD (o.map (·.1)))) (hn : n ≤ 1000) (hs : ∀ p, o = some p → BoxN w p.1 9 #[.string ⟨p.2.toArray⟩]) (hl : (oldS o).length + data.length ≤ 1000000000000) :
    Calls Tryz.prog 98 #[.map (some m), .agg #[.int .i64 2, .string ⟨#[106, 111, 117, 114, 110, 97, 108]⟩, .string ⟨data.toArray⟩]] w fun e w' => e = .returned (.tuple #[]) ∧ ∃ b, w.heap.size ≤ b ∧ w'.ownsMap Tryz.prog 9 valR m 1 (fileD (some b)) ∧ BoxN w' b 9 #[.string ⟨(oldS o ++ data).toArray⟩] ∧ Spares [m] w w' := by
  cases o with
  | none =>
    have hM1 := (hM.alloc (.cells #[.int .i64 2, .string ⟨#[106, 111, 117, 114, 110, 97, 108]⟩, .string ⟨data.toArray⟩] 172)).alloc (.cells #[.string ⟨data.toArray⟩] 9)
    have hL := Tryz.lookF_no hM1
    obtain ⟨w2, hrun, hM2, hg2⟩ := Tryz.storeF hM1 hn (w.heap.size + 1)
    have b1 := BoxN.new (w.alloc (.cells #[.int .i64 2, .string ⟨#[106, 111, 117, 114, 110, 97, 108]⟩, .string ⟨data.toArray⟩] 172)) 9 #[.string ⟨data.toArray⟩]
    rw [World.size_alloc] at b1
    have b2 := b1.kept hg2 (by intro e; injection e with e; have := hM.lt; omega)
    have hsp : Spares [m] w w2 := (Spares.of_below (below2 w _ _)).trans (Spares.of_grown hg2 (by simp))
    unfold ptrV at hrun
    go_enter Tryz.func98, Tryz.ntmps98
    go_wp2
    go_end0
    exact ⟨rfl, w.heap.size + 1, by omega, hM2, b2, hsp⟩
  | some p =>
    obtain ⟨pb, old⟩ := p
    have hS := hs _ rfl
    have c0 := hS.cell 0 (v := .string ⟨old.toArray⟩) rfl
    have lt : pb < w.heap.size := hS.lt
    have hlen : old.length + data.length ≤ 1000000000000 := hl
    have hfit : (((⟨old.toArray⟩ : ByteArray).size + (⟨data.toArray⟩ : ByteArray).size : Nat) : Int) ≤ 9223372036854775807 := by simp [ByteArray.size]; omega
    have hM1 := (hM.alloc (.cells #[.int .i64 2, .string ⟨#[106, 111, 117, 114, 110, 97, 108]⟩, .string ⟨data.toArray⟩] 172)).alloc (.cells #[.string ⟨data.toArray⟩] 9)
    have hL := Tryz.lookF hM1
    unfold ptrV at hL
    go_enter Tryz.func98, Tryz.ntmps98
    go_wp2
    go_region
    have hM3 := (hM.alloc (.cells #[.int .i64 2, .string ⟨#[106, 111, 117, 114, 110, 97, 108]⟩, .string ⟨data.toArray⟩] 172)).alloc (.cells #[.string ((⟨old.toArray⟩ : ByteArray) ++ (⟨data.toArray⟩ : ByteArray))] 9)
    obtain ⟨w2, hrun, hM2, hg2⟩ := Tryz.storeF (W := ((w.alloc (.cells #[.int .i64 2, .string ⟨#[106, 111, 117, 114, 110, 97, 108]⟩, .string ⟨data.toArray⟩] 172)).alloc (.cells #[.string ((⟨old.toArray⟩ : ByteArray) ++ (⟨data.toArray⟩ : ByteArray))] 9)).drew) hM3 hn (w.heap.size + 1)
    have b1 := BoxN.new (w.alloc (.cells #[.int .i64 2, .string ⟨#[106, 111, 117, 114, 110, 97, 108]⟩, .string ⟨data.toArray⟩] 172)) 9 #[.string ((⟨old.toArray⟩ : ByteArray) ++ (⟨data.toArray⟩ : ByteArray))]
    rw [World.size_alloc] at b1
    have b2 := BoxN.kept (W := ((w.alloc (.cells #[.int .i64 2, .string ⟨#[106, 111, 117, 114, 110, 97, 108]⟩, .string ⟨data.toArray⟩] 172)).alloc (.cells #[.string ((⟨old.toArray⟩ : ByteArray) ++ (⟨data.toArray⟩ : ByteArray))] 9)).drew) b1 hg2 (by intro e; injection e with e; have := hM.lt; omega)
    have hsp : Spares [m] w w2 := ((Spares.of_below (below2 w _ _)).drew).trans (Spares.of_grown hg2 (by simp))
    unfold ptrV at hrun
    rw [bytes_app] at b2
    have B2 := hid_intro b2
    clear hL hM1 hM3 b1 b2 hfit
    go_wp2
    go_end0
    exact ⟨rfl, w.heap.size + 1, by omega, hM2, hid_elim B2, hsp⟩

theorem BoxN.ne_map' {H : Type} {P : Program} {k : TypeId} {R : Value → Option (DataW H × List MemPlace)} {D : DataW H} {W : World} {B b n : Nat} {t : TypeId} {cs : Array Value} (h : BoxN W B t cs) (hm : W.ownsMap P k R b n D) : b ≠ B := by
  rintro rfl
  obtain ⟨es, clock, hb, _⟩ := hm
  have e := hb.symm.trans h
  cases e

/-- a disk in memory, with one file at the most: what is durable of it, how it stands now (block and bytes). -/
structure Tryz.DiskAt (W : World) (db md mn : Nat) (fd fn : Option (Nat × List UInt8)) (p : Value) (l f : Int) : Prop where
  box : BoxN W db 100 #[.map (some md), .map (some mn), p, .int .i64 l, .int .i64 f, .bool false]
  dm : ∃ n, n ≤ 1000 ∧ W.ownsMap Tryz.prog 9 valR md n (fileD (fd.map (·.1)))
  nm : ∃ n, n ≤ 1000 ∧ W.ownsMap Tryz.prog 9 valR mn n (fileD (fn.map (·.1)))
  sd : ∀ q, fd = some q → BoxN W q.1 9 #[.string ⟨q.2.toArray⟩]
  sn : ∀ q, fn = some q → BoxN W q.1 9 #[.string ⟨q.2.toArray⟩]
  ne : md ≠ mn
section
variable {W W' : World} {db md mn : Nat} {fd fn : Option (Nat × List UInt8)} {p : Value} {l f : Int}
theorem Tryz.DiskAt.lt (h : Tryz.DiskAt W db md mn fd fn p l f) : db < W.heap.size ∧ md < W.heap.size ∧ mn < W.heap.size := by
  obtain ⟨n, _, hm⟩ := h.dm
  obtain ⟨n', _, hm'⟩ := h.nm
  exact ⟨h.box.lt, hm.lt, hm'.lt⟩
theorem Tryz.DiskAt.nes (h : Tryz.DiskAt W db md mn fd fn p l f) : md ≠ db ∧ mn ≠ db := by
  obtain ⟨n, _, hm⟩ := h.dm
  obtain ⟨n', _, hm'⟩ := h.nm
  exact ⟨h.box.ne_map' hm, h.box.ne_map' hm'⟩
/-- what other blocks do leaves it. -/
theorem Tryz.DiskAt.spared (h : Tryz.DiskAt W db md mn fd fn p l f) {bs : List Nat} (hS : Spares bs W W') (h1 : db ∉ bs) (h2 : md ∉ bs) (h3 : mn ∉ bs) (h4 : ∀ q, fd = some q → q.1 ∉ bs) (h5 : ∀ q, fn = some q → q.1 ∉ bs) : Tryz.DiskAt W' db md mn fd fn p l f := by
  obtain ⟨n, hn, hm⟩ := h.dm
  obtain ⟨n', hn', hm'⟩ := h.nm
  exact ⟨hS.box h.box h1, ⟨n, hn, hS.map hm h2⟩, ⟨n', hn', hS.map hm' h3⟩, fun q hq => hS.box (h.sd q hq) (h4 q hq), fun q hq => hS.box (h.sn q hq) (h5 q hq), h.ne⟩
theorem Tryz.DiskAt.below (h : Tryz.DiskAt W db md mn fd fn p l f) (hb : Below W.heap.size W W') : Tryz.DiskAt W' db md mn fd fn p l f :=
  h.spared (bs := []) (Spares.of_below hb) (by simp) (by simp) (by simp) (by simp) (by simp)
/-- its own cells. -/
theorem Tryz.DiskAt.cells (h : Tryz.DiskAt W db md mn fd fn p l f) {p' : Value} {l' f' : Int} (hS : Spares [db] W W') (hb : BoxN W' db 100 #[.map (some md), .map (some mn), p', .int .i64 l', .int .i64 f', .bool false]) : Tryz.DiskAt W' db md mn fd fn p' l' f' := by
  obtain ⟨n, hn, hm⟩ := h.dm
  obtain ⟨n', hn', hm'⟩ := h.nm
  have s : ∀ {q : Nat} {s : List UInt8}, BoxN W q 9 #[.string ⟨s.toArray⟩] → BoxN W' q 9 #[.string ⟨s.toArray⟩] := fun hq => hS.box hq (by simpa using hq.ne h.box (by decide))
  exact ⟨hb, ⟨n, hn, hS.map hm (by simpa using h.nes.1)⟩, ⟨n', hn', hS.map hm' (by simpa using h.nes.2)⟩, fun q hq => s (h.sd q hq), fun q hq => s (h.sn q hq), h.ne⟩
end
end Go.Proofs

/-
  plain's disk: tell, put, Append.
-/
namespace Go.Proofs
open Go.RowKit Go.Sort Go.Maps Go.WideMaps

theorem grewBelow {w w' : World} (h : Grew w w') : Below w.heap.size w w' := by
  obtain ⟨q, os, rfl⟩ := h
  refine ⟨rfl, rfl, rfl, by simp [grow, World.drewN], fun k hk => ?_⟩
  show (w.heap ++ os)[k]? = w.heap[k]?
  rw [Array.getElem?_append_left hk]
theorem grownSet (w : World) (b i : Nat) (v : Value) : w.grownBy (w.setCell ⟨b, i, none⟩ v) (some b) := ⟨rfl, rfl, rfl, by simp, fun j _ hne => set_other _ _ _ _ _ (fun e => hne (by rw [e]))⟩
theorem Tryz.opInfo : (Tryz.prog.info? 172).map (fun i => (i.zero, i.size, i.bytes)) = some (some (.agg #[.int .i64 0, .string ⟨#[]⟩, .string ⟨#[]⟩]), 3, 40) := by kernel_rfl

theorem Tryz.dWrites' (db : Nat) (m1 m2 p : Value) (l f : Int) (w : World) (hD : BoxN w db 100 #[m1, m2, p, .int .i64 l, .int .i64 f, .bool false]) (hl : l < 0) (hl1 : -1000000000 ≤ l) (hf : f < 0) (hf1 : -1000000000 ≤ f) :
    Calls Tryz.prog 314 #[.pointer (some ⟨db, 0, none⟩)] w fun e w' => e = .returned .nilIface ∧ BoxN w' db 100 #[m1, m2, p, .int .i64 (l - 1), .int .i64 (f - 1), .bool false] ∧ Spares [db] w w' :=
  (Tryz.dWrites db m1 m2 p l f w hD hl hl1 hf hf1).mono (by
    rintro e w' ⟨rfl, rfl⟩
    exact ⟨rfl, (hD.set 3 _).set 4 _, ((Spares.of_below (Below.refl _ _)).set (by simp) _ _).set (by simp) _ _⟩)

set_option maxRecDepth 100000 in
set_option maxHeartbeats 4000000 in
theorem Tryz.dTell (db md mn : Nat) (fd fn : Option (Nat × List UInt8)) (l f : Int) (data : List UInt8) (w : World) (hD : Tryz.DiskAt w db md mn fd fn (.slice none 0 0) l f) (hl : l < 0) (hl1 : -1000000000 ≤ l) (hf : f < 0) (hf1 : -1000000000 ≤ f) (hlen : (oldS fn).length + data.length ≤ 1000000000000) :
    Calls Tryz.prog 313 #[.pointer (some ⟨db, 0, none⟩), .agg #[.int .i64 2, .string ⟨#[106, 111, 117, 114, 110, 97, 108]⟩, .string ⟨data.toArray⟩]] w fun e w' => e = .returned .nilIface ∧ ∃ b g cap, w.heap.size ≤ b ∧ w.heap.size ≤ g ∧ Tryz.DiskAt w' db md mn fd (some (b, oldS fn ++ data)) (.slice (some ⟨g, 0, none⟩) 1 cap) (l - 1) (f - 1) ∧
      w'.ownsRow w.heap.size 172 3 (.slice (some ⟨g, 0, none⟩) 1 cap) 1 [.int .i64 2, .string ⟨#[106, 111, 117, 114, 110, 97, 108]⟩, .string ⟨data.toArray⟩] ∧ Spares [db, mn] w w' := by
  obtain ⟨i0, hi, hz0, hz1, hz2⟩ := info_parts Tryz.opInfo
  have lD := hD.lt
  have hD0 := hD.below ((Below.refl _ w).alloc (Nat.le_refl _) (.cells #[.int .i64 2, .string ⟨#[106, 111, 117, 114, 110, 97, 108]⟩, .string ⟨data.toArray⟩] 172))
  have hW := Tryz.dWrites' db _ _ _ l f _ hD0.box hl hl1 hf hf1
  have bO0 := BoxN.new w 172 #[.int .i64 2, .string ⟨#[106, 111, 117, 114, 110, 97, 108]⟩, .string ⟨data.toArray⟩]
  go_enter Tryz.func313, Tryz.ntmps313
  go_wp2_with (go_at_call 314; refine hW.mono ?_; rintro e W1 ⟨rfl, bD1, hS1⟩)
  have hD1 := hD0.cells hS1 bD1
  have bO := hS1.box bO0 (by simp; omega)
  have hs1 : Spares [db, mn] w W1 := ((Spares.of_below (Below.refl _ w)).alloc _).trans (hS1.mono (by simp))
  have hz1s : w.heap.size + 1 ≤ W1.heap.size := by have := hS1.size; simpa using this
  clear hW hD0 bD1 hS1 bO0
  have d1 := hD1.box.cell 1 (v := .map (some mn)) rfl
  have o0 := bO.cell 0 (v := .int .i64 2) rfl
  have o1 := bO.cell 1 (v := .string ⟨#[106, 111, 117, 114, 110, 97, 108]⟩) rfl
  have o2 := bO.cell 2 (v := .string ⟨data.toArray⟩) rfl
  obtain ⟨nn, hnn, hM⟩ := hD1.nm
  have hDo := Tryz.dDo mn nn fn data W1.drew.drew hM hnn hD1.sn hlen
  have key : ∀ (v : Value) (bl : Bool), (Instr.lookup 97 (.map (some mn)) (.string ⟨#[106, 111, 117, 114, 110, 97, 108]⟩) true).run Tryz.prog W1 = .ok (.tuple #[v, .bool bl]) W1 → True := fun _ _ _ => trivial
  obtain ⟨pv, bl, hL⟩ : ∃ (pv : Value) (bl : Bool), (Instr.lookup 97 (.map (some mn)) (.string ⟨#[106, 111, 117, 114, 110, 97, 108]⟩) true).run Tryz.prog W1.drew = .ok (.tuple #[pv, .bool bl]) W1.drew := by
    cases fn with
    | none => exact ⟨_, _, Tryz.lookF_no (W := W1.drew) hM⟩
    | some q => exact ⟨_, _, Tryz.lookF (W := W1.drew) hM⟩
  clear key
  have Hlen := hid_intro hlen
  have Hz := hid_intro hz1s
  clear hlen hz1s
  cases bl
  all_goals
    go_region
    go_wp2
    go_region_with (go_at_call 98; refine hDo.mono ?_; rintro e W2 ⟨rfl, b, hb, hM2, bS2, hS2⟩)
    all_goals
      have hz := hid_elim Hz
      have hb' : w.heap.size ≤ b := by have : W1.drew.drew.heap.size = W1.heap.size := rfl; omega
      have bD2 := hS2.box (W := W1.drew.drew) hD1.box (by simpa using Ne.symm hD1.nes.2)
      have bO2 := hS2.box (W := W1.drew.drew) bO (by have := hM.lt; have := lD.2.2; simp; omega)
      obtain ⟨n1, hn1, hMd⟩ := hD1.dm
      have hMd2 := hS2.map (W := W1.drew.drew) hMd (by simpa using hD1.ne)
      have hsd2 : ∀ q, fd = some q → BoxN W2 q.1 9 #[.string ⟨q.2.toArray⟩] := fun q hq => hS2.box (W := W1.drew.drew) (hD1.sd q hq) (by have := BoxN.ne_map' (hD1.sd q hq) hM; simpa using Ne.symm this)
      have hs2 : Spares [db, mn] w W2 := hs1.drew.drew.trans (hS2.mono (bs' := [db, mn]) (by simp))
      have hz2s := hS2.size
      have hz2s : w.heap.size + 1 ≤ W2.heap.size := by have : W1.drew.drew.heap.size = W1.heap.size := rfl; omega
      have HD := hid_intro (show Tryz.DiskAt W2 db md mn fd (some (b, oldS fn ++ data)) (.slice none 0 0) (l - 1) (f - 1) from ⟨bD2, ⟨n1, hn1, hMd2⟩, ⟨1, by omega, hM2⟩, hsd2, fun q hq => by cases hq; exact bS2, hD1.ne⟩)
      have v0 := bD2.cell 2 (v := .slice none 0 0) rfl
      have fv0 := bD2.frozen 2
      have lv := bD2.lt
      have y0 := bO2.cell 0 (v := .int .i64 2) rfl
      have y1 := bO2.cell 1 (v := .string ⟨#[106, 111, 117, 114, 110, 97, 108]⟩) rfl
      have y2 := bO2.cell 2 (v := .string ⟨data.toArray⟩) rfl
      clear hDo hL d1 o0 o1 o2 hM hS2 hM2 bS2 hMd hMd2 hsd2
      go_wp2
      go_region_law ((refine step_append_lies _ (by rfl) _ _ _ (by rfl) w.heap.size 172 i0 _ 3 40 Tryz.underlying98 hi hz0 hz1 hz2 rfl (by decide) _ _ _ (by rfl) (World.ownsRow_nil _ _ _ _) ⟨W2.heap.size, 0, none⟩ 1 1 [.int .i64 2, .string ⟨#[106, 111, 117, 114, 110, 97, 108]⟩, .string ⟨data.toArray⟩] (by rfl) rfl (World.news_of_block (heap_alloc_new _ _)) (by simp [Value.oneCell']) (by omega) (by unfold maxLen; omega) (by omega) (by simp; omega) _ rfl ?_; intro g' cap' w3 hown' hgrow hat hlt; have bV3 := (bD2.below (n₀ := W2.heap.size) (by first | exact grewBelow ((Grew.refl W2).alloc _) | exact grewBelow (((Grew.refl W2).drew).alloc _)) bD2.lt).kept hgrow (by simp [Value.ownBlock]); have d0 := bV3.cell 2 (v := .slice none 0 0) rfl; have d1 := bV3.frozen 2))
  all_goals
    have hD2 := hid_elim HD
    have hg2 : W2.heap.size ≤ g' := by
      rcases hat with e | e
      · simp [Value.ownBlock] at e
      · have : g' = W2.heap.size + 1 := by simpa using e
        omega
    have hS3 : Spares [db, mn] w w3 := ((hs2.alloc _).drew).trans ⟨hgrow.os, hgrow.tape, hgrow.output, hgrow.size, fun k hk _ => hgrow.block k hk (by simp [Value.ownBlock])⟩
    have hB3 : Below W2.heap.size W2 w3 := ((Below.refl _ W2).alloc (Nat.le_refl _) _).drew.grown hgrow (by simp) (by simp [Value.ownBlock])
    have hD3 := hD2.below hB3
    have bN := bV3.set 2 (.slice (some ⟨g', 0, none⟩) 1 cap')
    have hD4 := hD3.cells ((Spares.of_below (Below.refl _ w3)).set (bs := [db]) (by simp) 2 (.slice (some ⟨g', 0, none⟩) 1 cap')) bN
    have hR4 := hown'.kept (grownSet w3 db 2 (.slice (some ⟨g', 0, none⟩) 1 cap')) (.inr (by simp [Value.ownBlock]; omega))
    have hS4 := hS3.set (b := db) (by simp) 2 (.slice (some ⟨g', 0, none⟩) 1 cap')
    have HH := hid_intro (And.intro hD4 (And.intro hR4 hS4))
    clear hD4 hR4 hS4 bN hD3 hB3 hS3 hown' hgrow hat hlt bV3 d0 d1 v0 fv0 y0 y1 y2
    generalize (w3.setCell ⟨db, 2, none⟩ (.slice (some ⟨g', 0, none⟩) 1 cap')) = W4 at *
    go_wp2
    go_ret
    exact ⟨rfl, b, g', cap', hb', by omega, (hid_elim HH).1, (hid_elim HH).2.1, (hid_elim HH).2.2⟩
end Go.Proofs
