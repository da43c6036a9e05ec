import Derived.Test.YtjbekgjdempbiaaGreatDoorJDiskA
import Derived.Deep.RegionHeldLaw
import Derived.Deep.RegionLaw
import Derived.Deep.AppendLies
import Derived.Deep.RegionHeld3
import Derived.RangeFuncBox
import Derived.Laws.IdiomStrings
/-
  plain's disk: tell, put, Append.
-/
namespace Go.Proofs
open Go.RowKit Go.Sort Go.Maps Go.WideMaps

theorem grewBelow {w w' : World} (h : Grew w w') : Below w.heap.size w w' := by
  obtain ⟨q, os, rfl⟩ := h
  refine ⟨rfl, rfl, rfl, by simp [grow, World.drewN], fun k hk => ?_⟩
  show (w.heap ++ os)[k]? = w.heap[k]?
  rw [Array.getElem?_append_left hk]
theorem grownSet (w : World) (b i : Nat) (v : Value) : w.grownBy (w.setCell ⟨b, i, none⟩ v) (some b) := ⟨rfl, rfl, rfl, by simp, fun j _ hne => set_other _ _ _ _ _ (fun e => hne (by rw [e]))⟩
theorem Tryz.opInfo : (Tryz.prog.info? 172).map (fun i => (i.zero, i.size, i.bytes)) = some (some (.agg #[.int .i64 0, .string ⟨#[]⟩, .string ⟨#[]⟩]), 3, 40) := by kernel_rfl

theorem Tryz.dWrites' (db : Nat) (m1 m2 p : Value) (l f : Int) (w : World) (hD : BoxN w db 100 #[m1, m2, p, .int .i64 l, .int .i64 f, .bool false]) (hl : l < 0) (hl1 : -1000000000 ≤ l) (hf : f < 0) (hf1 : -1000000000 ≤ f) :
    Calls Tryz.prog 314 #[.pointer (some ⟨db, 0, none⟩)] w fun e w' => e = .returned .nilIface ∧ BoxN w' db 100 #[m1, m2, p, .int .i64 (l - 1), .int .i64 (f - 1), .bool false] ∧ Spares [db] w w' :=
  (Tryz.dWrites db m1 m2 p l f w hD hl hl1 hf hf1).mono (by
    rintro e w' ⟨rfl, rfl⟩
    exact ⟨rfl, (hD.set 3 _).set 4 _, ((Spares.of_below (Below.refl _ _)).set (by simp) _ _).set (by simp) _ _⟩)

set_option maxRecDepth 100000 in
set_option maxHeartbeats 4000000 in
theorem Tryz.dTell (db md mn : Nat) (fd fn : Option (Nat × List UInt8)) (l f : Int) (data : List UInt8) (w : World) (hD : Tryz.DiskAt w db md mn fd fn (.slice none 0 0) l f) (hl : l < 0) (hl1 : -1000000000 ≤ l) (hf : f < 0) (hf1 : -1000000000 ≤ f) (hlen : (oldS fn).length + data.length ≤ 1000000000000) :
    Calls Tryz.prog 313 #[.pointer (some ⟨db, 0, none⟩), .agg #[.int .i64 2, .string ⟨#[106, 111, 117, 114, 110, 97, 108]⟩, .string ⟨data.toArray⟩]] w fun e w' => e = .returned .nilIface ∧ ∃ b g cap, w.heap.size ≤ b ∧ w.heap.size ≤ g ∧ Tryz.DiskAt w' db md mn fd (some (b, oldS fn ++ data)) (.slice (some ⟨g, 0, none⟩) 1 cap) (l - 1) (f - 1) ∧
      w'.ownsRow w.heap.size 172 3 (.slice (some ⟨g, 0, none⟩) 1 cap) 1 [.int .i64 2, .string ⟨#[106, 111, 117, 114, 110, 97, 108]⟩, .string ⟨data.toArray⟩] ∧ Spares [db, mn] w w' := by
  obtain ⟨i0, hi, hz0, hz1, hz2⟩ := info_parts Tryz.opInfo
  have lD := hD.lt
  have hD0 := hD.below ((Below.refl _ w).alloc (Nat.le_refl _) (.cells #[.int .i64 2, .string ⟨#[106, 111, 117, 114, 110, 97, 108]⟩, .string ⟨data.toArray⟩] 172))
  have hW := Tryz.dWrites' db _ _ _ l f _ hD0.box hl hl1 hf hf1
  have bO0 := BoxN.new w 172 #[.int .i64 2, .string ⟨#[106, 111, 117, 114, 110, 97, 108]⟩, .string ⟨data.toArray⟩]
  go_enter Tryz.func313, Tryz.ntmps313
  go_wp2_with (go_at_call 314; refine hW.mono ?_; rintro e W1 ⟨rfl, bD1, hS1⟩)
  have hD1 := hD0.cells hS1 bD1
  have bO := hS1.box bO0 (by simp; omega)
  have hs1 : Spares [db, mn] w W1 := ((Spares.of_below (Below.refl _ w)).alloc _).trans (hS1.mono (by simp))
  have hz1s : w.heap.size + 1 ≤ W1.heap.size := by have := hS1.size; simpa using this
  clear hW hD0 bD1 hS1 bO0
  have d1 := hD1.box.cell 1 (v := .map (some mn)) rfl
  have o0 := bO.cell 0 (v := .int .i64 2) rfl
  have o1 := bO.cell 1 (v := .string ⟨#[106, 111, 117, 114, 110, 97, 108]⟩) rfl
  have o2 := bO.cell 2 (v := .string ⟨data.toArray⟩) rfl
  obtain ⟨nn, hnn, hM⟩ := hD1.nm
  have hDo := Tryz.dDo mn nn fn data W1.drew.drew hM hnn hD1.sn hlen
  have key : ∀ (v : Value) (bl : Bool), (Instr.lookup 97 (.map (some mn)) (.string ⟨#[106, 111, 117, 114, 110, 97, 108]⟩) true).run Tryz.prog W1 = .ok (.tuple #[v, .bool bl]) W1 → True := fun _ _ _ => trivial
  obtain ⟨pv, bl, hL⟩ : ∃ (pv : Value) (bl : Bool), (Instr.lookup 97 (.map (some mn)) (.string ⟨#[106, 111, 117, 114, 110, 97, 108]⟩) true).run Tryz.prog W1.drew = .ok (.tuple #[pv, .bool bl]) W1.drew := by
    cases fn with
    | none => exact ⟨_, _, Tryz.lookF_no (W := W1.drew) hM⟩
    | some q => exact ⟨_, _, Tryz.lookF (W := W1.drew) hM⟩
  clear key
  have Hlen := hid_intro hlen
  have Hz := hid_intro hz1s
  clear hlen hz1s
  cases bl
  all_goals
    go_region
    go_wp2
    go_region_with (go_at_call 98; refine hDo.mono ?_; rintro e W2 ⟨rfl, b, hb, hM2, bS2, hS2⟩)
    all_goals
      have hz := hid_elim Hz
      have hb' : w.heap.size ≤ b := by have : W1.drew.drew.heap.size = W1.heap.size := rfl; omega
      have bD2 := hS2.box (W := W1.drew.drew) hD1.box (by simpa using Ne.symm hD1.nes.2)
      have bO2 := hS2.box (W := W1.drew.drew) bO (by have := hM.lt; have := lD.2.2; simp; omega)
      obtain ⟨n1, hn1, hMd⟩ := hD1.dm
      have hMd2 := hS2.map (W := W1.drew.drew) hMd (by simpa using hD1.ne)
      have hsd2 : ∀ q, fd = some q → BoxN W2 q.1 9 #[.string ⟨q.2.toArray⟩] := fun q hq => hS2.box (W := W1.drew.drew) (hD1.sd q hq) (by have := BoxN.ne_map' (hD1.sd q hq) hM; simpa using Ne.symm this)
      have hs2 : Spares [db, mn] w W2 := hs1.drew.drew.trans (hS2.mono (bs' := [db, mn]) (by simp))
      have hz2s := hS2.size
      have hz2s : w.heap.size + 1 ≤ W2.heap.size := by have : W1.drew.drew.heap.size = W1.heap.size := rfl; omega
      have HD := hid_intro (show Tryz.DiskAt W2 db md mn fd (some (b, oldS fn ++ data)) (.slice none 0 0) (l - 1) (f - 1) from ⟨bD2, ⟨n1, hn1, hMd2⟩, ⟨1, by omega, hM2⟩, hsd2, fun q hq => by cases hq; exact bS2, hD1.ne⟩)
      have v0 := bD2.cell 2 (v := .slice none 0 0) rfl
      have fv0 := bD2.frozen 2
      have lv := bD2.lt
      have y0 := bO2.cell 0 (v := .int .i64 2) rfl
      have y1 := bO2.cell 1 (v := .string ⟨#[106, 111, 117, 114, 110, 97, 108]⟩) rfl
      have y2 := bO2.cell 2 (v := .string ⟨data.toArray⟩) rfl
      clear hDo hL d1 o0 o1 o2 hM hS2 hM2 bS2 hMd hMd2 hsd2
      go_wp2
      go_region_law ((refine step_append_lies _ (by rfl) _ _ _ (by rfl) w.heap.size 172 i0 _ 3 40 Tryz.underlying98 hi hz0 hz1 hz2 rfl (by decide) _ _ _ (by rfl) (World.ownsRow_nil _ _ _ _) ⟨W2.heap.size, 0, none⟩ 1 1 [.int .i64 2, .string ⟨#[106, 111, 117, 114, 110, 97, 108]⟩, .string ⟨data.toArray⟩] (by rfl) rfl (World.news_of_block (heap_alloc_new _ _)) (by simp [Value.oneCell']) (by omega) (by unfold maxLen; omega) (by omega) (by simp; omega) _ rfl ?_; intro g' cap' w3 hown' hgrow hat hlt; have bV3 := (bD2.below (n₀ := W2.heap.size) (by first | exact grewBelow ((Grew.refl W2).alloc _) | exact grewBelow (((Grew.refl W2).drew).alloc _)) bD2.lt).kept hgrow (by simp [Value.ownBlock]); have d0 := bV3.cell 2 (v := .slice none 0 0) rfl; have d1 := bV3.frozen 2))
  all_goals
    have hD2 := hid_elim HD
    have hg2 : W2.heap.size ≤ g' := by
      rcases hat with e | e
      · simp [Value.ownBlock] at e
      · have : g' = W2.heap.size + 1 := by simpa using e
        omega
    have hS3 : Spares [db, mn] w w3 := ((hs2.alloc _).drew).trans ⟨hgrow.os, hgrow.tape, hgrow.output, hgrow.size, fun k hk _ => hgrow.block k hk (by simp [Value.ownBlock])⟩
    have hB3 : Below W2.heap.size W2 w3 := ((Below.refl _ W2).alloc (Nat.le_refl _) _).drew.grown hgrow (by simp) (by simp [Value.ownBlock])
    have hD3 := hD2.below hB3
    have bN := bV3.set 2 (.slice (some ⟨g', 0, none⟩) 1 cap')
    have hD4 := hD3.cells ((Spares.of_below (Below.refl _ w3)).set (bs := [db]) (by simp) 2 (.slice (some ⟨g', 0, none⟩) 1 cap')) bN
    have hR4 := hown'.kept (grownSet w3 db 2 (.slice (some ⟨g', 0, none⟩) 1 cap')) (.inr (by simp [Value.ownBlock]; omega))
    have hS4 := hS3.set (b := db) (by simp) 2 (.slice (some ⟨g', 0, none⟩) 1 cap')
    have HH := hid_intro (And.intro hD4 (And.intro hR4 hS4))
    clear hD4 hR4 hS4 bN hD3 hB3 hS3 hown' hgrow hat hlt bV3 d0 d1 v0 fv0 y0 y1 y2
    generalize (w3.setCell ⟨db, 2, none⟩ (.slice (some ⟨g', 0, none⟩) 1 cap')) = W4 at *
    go_wp2
    go_ret
    exact ⟨rfl, b, g', cap', hb', by omega, (hid_elim HH).1, (hid_elim HH).2.1, (hid_elim HH).2.2⟩
end Go.Proofs

/-
  plain's disk: put, Append, Sync.
-/
namespace Go.Proofs
open Go.RowKit Go.Sort Go.Maps Go.WideMaps

/-- bytes that may be written. -/
def BytesAt (W : World) (k : Nat) (data : List UInt8) : Prop := ∀ j (hj : j < data.length), W.cell? ⟨k, j, none⟩ = some (.int .u8 (data[j].toNat : Int)) ∧ W.frozen? ⟨k, j, none⟩ = false
theorem cell_of_block {W W' : World} {k : Nat} (h : W'.heap[k]? = W.heap[k]?) (j : Nat) : W'.cell? ⟨k, j, none⟩ = W.cell? ⟨k, j, none⟩ ∧ W'.frozen? ⟨k, j, none⟩ = W.frozen? ⟨k, j, none⟩ := by
  simp [World.cell?, World.frozen?, h]

set_option maxRecDepth 100000 in
set_option maxHeartbeats 4000000 in
theorem Tryz.dPut (db md mn k cap : Nat) (fd fn : Option (Nat × List UInt8)) (l f : Int) (data : List UInt8) (w : World) (hD : Tryz.DiskAt w db md mn fd fn (.slice none 0 0) l f) (hl : l < 0) (hl1 : -1000000000 ≤ l) (hf : f < 0) (hf1 : -1000000000 ≤ f) (hlen : (oldS fn).length + data.length ≤ 1000000000000)
    (hK : BytesAt w k data) (hk : k < w.heap.size) (n1 : db ≠ k) (n2 : md ≠ k) (n3 : mn ≠ k) (n4 : ∀ q, fd = some q → q.1 ≠ k) :
    Calls Tryz.prog 311 #[.pointer (some ⟨db, 0, none⟩), .int .i64 2, .string ⟨#[106, 111, 117, 114, 110, 97, 108]⟩, .slice (some ⟨k, 0, none⟩) data.length cap] w fun e w' => e = .returned .nilIface ∧ ∃ b g cap, w.heap.size ≤ b ∧ w.heap.size ≤ g ∧ Tryz.DiskAt w' db md mn fd (some (b, oldS fn ++ data)) (.slice (some ⟨g, 0, none⟩) 1 cap) (l - 1) (f - 1) ∧
      w'.ownsRow w.heap.size 172 3 (.slice (some ⟨g, 0, none⟩) 1 cap) 1 [.int .i64 2, .string ⟨#[106, 111, 117, 114, 110, 97, 108]⟩, .string ⟨data.toArray⟩] ∧ Spares [db, mn, k] w w' := by
  have hT := Tryz.dTell db md mn fd fn l f data w hD hl hl1 hf hf1 hlen
  have hcv : (convert 267 9 (.slice (some ⟨k, 0, none⟩) data.length cap)).run Tryz.prog w = .ok (.string ⟨data.toArray⟩) w :=
    run_convert_bytes_back w 267 9 5 ⟨k, 0, none⟩ cap data Tryz.underlying267 Tryz.underlying5 Tryz.underlying9 (fun j hj => by
      have := (hK j hj).1
      by_cases h0 : j = 0
      · subst h0; simpa [Addr.add] using this
      · simpa [Addr.add, h0] using this)
  have hdl : data.length ≤ 1000000000000 := by omega
  obtain ⟨n, hn⟩ : ∃ n, data.length = n := ⟨_, rfl⟩
  rw [hn] at hcv hdl ⊢
  have Hn := hid_intro hn
  have Hlen := hid_intro hlen
  clear hn hlen
  go_enter Tryz.func311, Tryz.ntmps311
  go_wp2_with (go_at_call 313; refine hT.mono ?_; rintro e w1 ⟨rfl, b, g, cap1, hb, hg, hD1, hR1, hS1⟩)
  have hK1 : ∀ j, j < n → ∃ v, w1.cell? ⟨k, j, none⟩ = some v ∧ w1.frozen? ⟨k, j, none⟩ = false := fun j hj => by
    obtain ⟨e1, e2⟩ := cell_of_block (hS1.block k hk (by simp; omega)) j
    obtain ⟨e3, e4⟩ := hK j (by have := hid_elim Hn; omega)
    exact ⟨_, e1.trans e3, e2.trans e4⟩
  clear hT hcv
  go_loopw [20] (fun i wr => ∃ q : Nat, q ≤ n ∧ i = .int .i64 q ∧ Spares [k] w1 wr ∧ ∀ j, j < n → ∃ v, wr.cell? ⟨k, j, none⟩ = some v ∧ wr.frozen? ⟨k, j, none⟩ = false) (fun i _ => n - (intOf i).toNat)
  case atStart => exact ⟨0, Nat.zero_le _, rfl, Spares.of_below (Below.refl _ _), hK1⟩
  case round =>
    obtain ⟨q, hq, rfl, hSq, hKq⟩ := hrel
    by_cases hqn : q < n
    · obtain ⟨v, hv, hvf⟩ := hKq q hqn
      have HK := hid_intro hKq
      clear hKq
      go_wp2
      go_roundw
      case rel =>
        refine ⟨q + 1, by omega, rfl, hSq.set (by simp) _ _, fun j hj => ?_⟩
        obtain ⟨u, hu, huf⟩ := hid_elim HK j hj
        obtain ⟨y, hy⟩ := cell?_setCell_some (w := wr) (p := ⟨k, q, none⟩) (x := .int .u8 33) hu
        exact ⟨y, hy, by rw [World.frozen?_setCell]; exact huf⟩
      case measure => simp [intOf]; omega
    · obtain rfl : q = n := by omega
      have hD2 := hD1.spared hSq (by simpa using n1) (by simpa using n2) (by simpa using n3) (fun z hz => by simpa using n4 z hz) (fun z hz => by cases hz; simp; omega)
      have hR2 := hSq.row hR1 (by simp; omega)
      have hS2 : Spares [db, mn, k] w wr := (hS1.mono (by simp)).trans (hSq.mono (by simp))
      clear hKq
      go_wp2
      go_ret
      exact ⟨rfl, b, g, cap1, hb, hg, hD2, hR2, hS2⟩

set_option maxHeartbeats 1000000 in
theorem Tryz.dAppend (db md mn k cap : Nat) (fd fn : Option (Nat × List UInt8)) (l f : Int) (data : List UInt8) (w : World) (hD : Tryz.DiskAt w db md mn fd fn (.slice none 0 0) l f) (hl : l < 0) (hl1 : -1000000000 ≤ l) (hf : f < 0) (hf1 : -1000000000 ≤ f) (hlen : (oldS fn).length + data.length ≤ 1000000000000)
    (hK : BytesAt w k data) (hk : k < w.heap.size) (n1 : db ≠ k) (n2 : md ≠ k) (n3 : mn ≠ k) (n4 : ∀ q, fd = some q → q.1 ≠ k) :
    Calls Tryz.prog 305 #[.pointer (some ⟨db, 0, none⟩), .string ⟨#[106, 111, 117, 114, 110, 97, 108]⟩, .slice (some ⟨k, 0, none⟩) data.length cap] w fun e w' => e = .returned .nilIface ∧ ∃ b g cap, w.heap.size ≤ b ∧ w.heap.size ≤ g ∧ Tryz.DiskAt w' db md mn fd (some (b, oldS fn ++ data)) (.slice (some ⟨g, 0, none⟩) 1 cap) (l - 1) (f - 1) ∧
      w'.ownsRow w.heap.size 172 3 (.slice (some ⟨g, 0, none⟩) 1 cap) 1 [.int .i64 2, .string ⟨#[106, 111, 117, 114, 110, 97, 108]⟩, .string ⟨data.toArray⟩] ∧ Spares [db, mn, k] w w' := by
  have hP := Tryz.dPut db md mn k cap fd fn l f data w hD hl hl1 hf hf1 hlen hK hk n1 n2 n3 n4
  generalize data.length = n at hP ⊢
  go_enter Tryz.func305, Tryz.ntmps305
  go_wp2_with (go_at_call 311; refine hP.mono ?_; rintro e w1 ⟨rfl, hR⟩)
  go_ret
  exact ⟨rfl, hR⟩

/-- the row of one operation. -/
theorem row_cells {B g cap : Nat} {e : TypeId} {W : World} {a b c : Value} (h : W.ownsRow B e 3 (.slice (some ⟨g, 0, none⟩) 1 cap) 1 [a, b, c]) : W.cell? ⟨g, 0, none⟩ = some a ∧ W.cell? ⟨g, 1, none⟩ = some b ∧ W.cell? ⟨g, 2, none⟩ = some c ∧ g < W.heap.size := by
  obtain ⟨-, ⟨e1, -⟩ | ⟨g', cap', cur, e1, e2, e3, e4⟩⟩ := h
  · cases e1
  · cases e1
    have t : ∀ j, j < 3 → cur[j]? = [a, b, c][j]? := fun j hj => by
      have h1 := congrArg (fun l : List Value => l[j]?) e4.2.2.2
      simp only [List.getElem?_take, if_pos (show j < 1 * 3 by omega)] at h1
      rw [← h1]
      simp
    have s : ∀ j, W.cell? ⟨g, j, none⟩ = cur[j]? := fun j => by simp [World.cell?, e3]
    exact ⟨(s 0).trans (t 0 (by omega)), (s 1).trans (t 1 (by omega)), (s 2).trans (t 2 (by omega)), (Array.getElem?_eq_some_iff.1 e3).1⟩

set_option maxRecDepth 100000 in
set_option maxHeartbeats 4000000 in
theorem Tryz.dSync (db md mn g cap B : Nat) (fd fn : Option (Nat × List UInt8)) (l f : Int) (data : List UInt8) (w : World) (hD : Tryz.DiskAt w db md mn fd fn (.slice (some ⟨g, 0, none⟩) 1 cap) l f) (hl : l < 0) (hl1 : -1000000000 ≤ l) (hf : f < 0) (hf1 : -1000000000 ≤ f) (hlen : (oldS fd).length + data.length ≤ 1000000000000)
    (hR : w.ownsRow B 172 3 (.slice (some ⟨g, 0, none⟩) 1 cap) 1 [.int .i64 2, .string ⟨#[106, 111, 117, 114, 110, 97, 108]⟩, .string ⟨data.toArray⟩]) (hg1 : db ≠ g) :
    Calls Tryz.prog 309 #[.pointer (some ⟨db, 0, none⟩)] w fun e w' => e = .returned .nilIface ∧ ∃ b, w.heap.size ≤ b ∧ Tryz.DiskAt w' db md mn (some (b, oldS fd ++ data)) fn (.slice none 0 0) (l - 1) (f - 1) ∧ Spares [db, md] w w' := by
  have hW := Tryz.dWrites' db _ _ _ l f _ hD.box hl hl1 hf hf1
  obtain ⟨-, -, -, lg⟩ := row_cells hR
  go_enter Tryz.func309, Tryz.ntmps309
  go_wp2_with (go_at_call 314; refine hW.mono ?_; rintro e W1 ⟨rfl, bD1, hS1⟩; have d2 := bD1.cell 2 (v := .slice (some ⟨g, 0, none⟩) 1 cap) rfl)
  have hD1 := hD.cells hS1 bD1
  obtain ⟨o0, o1, o2, lg1⟩ := row_cells (hS1.row hR (by simpa using Ne.symm hg1))
  have d0 := bD1.cell 0 (v := .map (some md)) rfl
  have f2 := bD1.frozen 2
  have lD := hD1.lt
  obtain ⟨nn, hnn, hM⟩ := hD1.dm
  have hsz := hS1.size
  clear hW
  have hDo := Tryz.dDo md nn fd data (W1.alloc (.cells #[.int .i64 2, .string ⟨#[106, 111, 117, 114, 110, 97, 108]⟩, .string ⟨data.toArray⟩] 172)).drew (hM.alloc _) hnn (fun p hp => (hD1.sd p hp).alloc _) hlen
  have Hsz := hid_intro hsz
  have Hlen := hid_intro hlen
  clear hlen hsz
  refine wp_loop_rounds 2 ?_
  rw [rounds_succ]
  go_wp2
  go_region_with (go_at_call 98; refine hDo.mono ?_; rintro e W2 ⟨rfl, b, hb, hM2, bS2, hS2⟩)
  all_goals
    have hsz := hid_elim Hsz
    have hbb : w.heap.size ≤ b := by
      have : (W1.alloc (.cells #[.int .i64 2, .string ⟨#[106, 111, 117, 114, 110, 97, 108]⟩, .string ⟨data.toArray⟩] 172)).drew.heap.size = W1.heap.size + 1 := by simp
      omega
    have bD2 := hS2.box (W := (W1.alloc (.cells #[.int .i64 2, .string ⟨#[106, 111, 117, 114, 110, 97, 108]⟩, .string ⟨data.toArray⟩] 172)).drew) (bD1.alloc _) (by simpa using Ne.symm hD1.nes.1)
    obtain ⟨n1, hn1, hMn⟩ := hD1.nm
    have hMn2 := hS2.map (W := (W1.alloc (.cells #[.int .i64 2, .string ⟨#[106, 111, 117, 114, 110, 97, 108]⟩, .string ⟨data.toArray⟩] 172)).drew) (hMn.alloc _) (by simpa using Ne.symm hD1.ne)
    have hsn2 : ∀ q, fn = some q → BoxN W2 q.1 9 #[.string ⟨q.2.toArray⟩] := fun q hq => hS2.box (W := (W1.alloc (.cells #[.int .i64 2, .string ⟨#[106, 111, 117, 114, 110, 97, 108]⟩, .string ⟨data.toArray⟩] 172)).drew) ((hD1.sn q hq).alloc _) (by have := BoxN.ne_map' (hD1.sn q hq) hM; simpa using Ne.symm this)
    have hs2 : Spares [db, md] w W2 := (((hS1.mono (bs' := [db, md]) (by simp)).alloc _).drew).trans (hS2.mono (bs' := [db, md]) (by simp))
    have hD2 : Tryz.DiskAt W2 db md mn (some (b, oldS fd ++ data)) fn (.slice (some ⟨g, 0, none⟩) 1 cap) (l - 1) (f - 1) := ⟨bD2, ⟨1, by omega, hM2⟩, ⟨n1, hn1, hMn2⟩, fun q hq => by cases hq; exact bS2, hsn2, hD1.ne⟩
    have e2 := bD2.cell 2 (v := .slice (some ⟨g, 0, none⟩) 1 cap) rfl
    have e3 := bD2.frozen 2
    have hD3 := hD2.cells ((Spares.of_below (Below.refl _ W2)).set (bs := [db]) (by simp) 2 (.slice none 0 0)) (bD2.set 2 _)
    have hs3 := hs2.set (b := db) (by simp) 2 (.slice none 0 0)
    have HH := hid_intro (And.intro hbb (And.intro hD3 hs3))
    clear hsz hbb hD3 hs3 hDo hM hM2 bS2 hS2 hMn hMn2 hsn2 hs2 hD2 bD2 d0 d2 o0 o1 o2 f2
    go_wp2
    try rw [rounds_succ]
    go_wp2
    go_ret
    exact ⟨rfl, b, (hid_elim HH).1, (hid_elim HH).2.1, (hid_elim HH).2.2⟩
end Go.Proofs
