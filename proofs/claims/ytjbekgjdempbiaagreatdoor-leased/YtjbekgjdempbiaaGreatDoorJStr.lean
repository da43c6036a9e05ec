import Derived.Test.YtjbekgjdempbiaaGreatDoorJLay
import Derived.Test.YtjbekgjdempbiaaGreatDoorJRangeO
import Derived.Lib.ItoaMem
import Derived.Lib.Walk
import Derived.WalkKit
import Derived.WalkSmall
import Derived.WalkSpells
import Derived.BigCall
import Derived.BigGuard
/-
  strconv.FormatUint at base 10; (Name).String.
-/
namespace Go.Proofs
open Go.RowKit Go.Sort Go.Lib Go.Shelf

/-- the package variables that the calls read. -/
structure Tryz.Env (w : World) : Prop where
  tab : Lib.TabIs Tryz.prog w "internal/strconv.uint64pow10" .u64 Lib.pow10Tab
  syn : ∃ tp p, w.var? Tryz.prog "strconv.ErrSyntax" = some #[.iface tp p]
  rng : ∃ tp p, w.var? Tryz.prog "strconv.ErrRange" = some #[.iface tp p]
theorem Tryz.gTab : Tryz.prog.globalNamed "internal/strconv.uint64pow10" = some 3 := by kernel_rfl
theorem Tryz.gSyn : Tryz.prog.globalNamed "strconv.ErrSyntax" = some 1 := by kernel_rfl
theorem Tryz.gRng : Tryz.prog.globalNamed "strconv.ErrRange" = some 2 := by kernel_rfl
theorem Tryz.Env.below {w w' : World} {B : Nat} (h : Tryz.Env w) (hb : Below B w w') (hB : 6 ≤ B) : Tryz.Env w' := by
  obtain ⟨h1, ⟨t2, p2, h2⟩, ⟨t3, p3, h3⟩⟩ := h
  exact ⟨var?_below hb Tryz.gTab (by omega) h1, ⟨t2, p2, var?_below hb Tryz.gSyn (by omega) h2⟩, ⟨t3, p3, var?_below hb Tryz.gRng (by omega) h3⟩⟩

theorem Grew.below {w w' : World} (h : Grew w w') : Below w.heap.size w w' := by
  obtain ⟨q, os, rfl⟩ := h
  refine ⟨rfl, rfl, rfl, by simp [grow, World.drewN], fun k hk => ?_⟩
  show (w.heap ++ os)[k]? = w.heap[k]?
  rw [Array.getElem?_append_left hk]

theorem zeros24_holds (w : World) (T : TypeId) (nd : Nat) (hs : nd ≤ 24) : Holds (fun (b : UInt8) => Value.int .u8 (b.toNat : Int)) (w.alloc (.cells Lib.zeros24 T)) w.heap.size 0 (Array.replicate nd (0 : UInt8)) := fun j hj => by
  have hj' : j < nd := by simpa using hj
  refine ⟨?_, World.frozen?_alloc_new _ _ _ _⟩
  rw [World.cell?_alloc_new, Lib.zeros24_at _ (by omega), getElem!_pos _ j hj]
  simp

set_option maxHeartbeats 1000000 in
theorem Tryz.fmtSmall (u : Nat) (hu : u < 100) (w : World) :
    Calls Tryz.prog 164 #[.int .u64 u, .int .i64 10] w fun e w' => e = .returned (.string ⟨(Lib.decDigits u).toArray⟩) ∧ w' = w := by
  have hs := fun W => Any.internal_strconv_small Tryz.lays283 u hu W
  change ∀ W, Calls Tryz.prog 195 _ _ _ at hs
  have hlt : (u : Int) < 100 := by omega
  go_enter Tryz.func164, Tryz.ntmps164
  go_wp2_with (go_at_call 195; refine (hs _).mono ?_; rintro e w' ⟨rfl, rfl⟩)
  go_ret
  exact ⟨rfl, rfl⟩

set_option maxRecDepth 100000 in
set_option maxHeartbeats 2000000 in
theorem Tryz.fmtGreat (u : Nat) (hu : 100 ≤ u) (hu64 : u < 18446744073709551616) (w : World) (hE : Tryz.Env w) :
    Calls Tryz.prog 164 #[.int .u64 u, .int .i64 10] w fun e w' => e = .returned (.string ⟨(Lib.decDigits u).toArray⟩) ∧ Below w.heap.size w w' := by
  have hge : ¬ (u : Int) < 100 := by omega
  have hnd20 : Lib.nDigits u ≤ 20 := by have := Lib.numDigits_eq u (by omega) hu64; split at this <;> omega
  have hal : Tryz.prog.arrayLen 291 = 24 := by simp [Program.arrayLen, Tryz.underlying291]
  have hsl : ∀ W, (Instr.sliceAt 291 (.pointer (some ⟨w.heap.size, 0, none⟩)) none (some (.int .i64 (Lib.nDigits u : Int))) none).run Tryz.prog W = .ok (.slice (some ⟨w.heap.size, 0, none⟩) (Lib.nDigits u) 24) W := fun W => by
    rw [run_sliceAt_array_h W 291 ⟨w.heap.size, 0, none⟩ (by simp [Program.arrayLen, Program.elem, Tryz.underlying291]) .i64 (Lib.nDigits u : Int) (by omega) (by rw [hal]; omega)]
    go_simp
  have hH0 := zeros24_holds w 291 (Lib.nDigits u) (by omega)
  have hnum := Any.internal_strconv_numDigits Tryz.laysM284 u (by omega) hu64 _ (Lib.tabIs_alloc hE.tab (.cells Lib.zeros24 291))
  change Calls Tryz.prog 196 _ _ _ at hnum
  have hfmt := Any.internal_strconv_formatBase10 Tryz.lays285 w.heap.size 0 24 u (Array.replicate (Lib.nDigits u) 0) (w.alloc (.cells Lib.zeros24 291)) hH0 (by rw [Array.size_replicate]; exact Lib.lt_pow_nDigits u) hu64 (by rw [Array.size_replicate]; omega)
  change Calls Tryz.prog 197 _ _ _ at hfmt
  rw [Array.size_replicate] at hfmt
  have HH0 := Lib.hid hH0
  clear hH0 hal
  go_enter Tryz.func164, Tryz.ntmps164
  go_wp2_with (first
    | (go_at_call 196; refine hnum.mono ?_; rintro e w' ⟨rfl, rfl⟩))
  refine hfmt.mono ?_
  rintro e w' ⟨rfl, k, v', dk, rfl, hF⟩
  have hcv : (convert 267 9 (.slice (some ⟨w.heap.size, 0, none⟩) (Lib.nDigits u) 24)).run Tryz.prog ((putRow (fun (b : UInt8) => Value.int .u8 (b.toNat : Int)) (w.alloc (.cells Lib.zeros24 291)) w.heap.size 0 dk).drewN k) = .ok (.string ⟨(Lib.decDigits u).toArray⟩) ((putRow (fun (b : UInt8) => Value.int .u8 (b.toNat : Int)) (w.alloc (.cells Lib.zeros24 291)) w.heap.size 0 dk).drewN k) := by
    have h := run_convert_bytes_back (P := Tryz.prog) ((putRow (fun (b : UInt8) => Value.int .u8 (b.toNat : Int)) (w.alloc (.cells Lib.zeros24 291)) w.heap.size 0 dk).drewN k) 267 9 5 ⟨w.heap.size, 0, none⟩ 24 (Lib.decDigits u) Tryz.underlying267 Tryz.underlying5 Tryz.underlying9 (fun j hj => by
      rw [Lib.row_is_numeral hF j hj, Lib.add_plain, World.cell?_drewN]
      exact cell?_putRow (fun (b : UInt8) => Value.int .u8 (b.toNat : Int)) _ w.heap.size 0 _ dk HH0.out (by rw [hF.size, Array.size_replicate]) j (by rw [hF.size]; rw [Lib.decDigits_length] at hj; exact hj))
    rw [Lib.decDigits_length] at h
    exact h
  have hfin : Hid (Below w.heap.size w ((putRow (fun (b : UInt8) => Value.int .u8 (b.toNat : Int)) (w.alloc (.cells Lib.zeros24 291)) w.heap.size 0 dk).drewN k)) := by
    rw [alloc_eq_grow]
    obtain ⟨os', _, e⟩ := putRow_grow_new (fun (b : UInt8) => Value.int .u8 (b.toNat : Int)) w #[.cells Lib.zeros24 291] w.heap.size 0 dk (Nat.le_refl _)
    rw [e]
    exact Grew.below ⟨k, os', rfl⟩
  go_wp2
  go_ret
  exact ⟨rfl, hfin⟩

/-- what (Name).String writes. -/
def nmStr (k : Int) (u : Nat) : List UInt8 := if k = 1 then 116 :: Lib.decDigits u else if k = 2 then 108 :: Lib.decDigits u else []

theorem Tryz.fmt (u : Nat) (hu64 : u < 18446744073709551616) (w : World) (hE : Tryz.Env w) :
    Calls Tryz.prog 164 #[.int .u64 u, .int .i64 10] w fun e w' => e = .returned (.string ⟨(Lib.decDigits u).toArray⟩) ∧ Below w.heap.size w w' := by
  by_cases h : u < 100
  · exact (Tryz.fmtSmall u h w).mono fun _ _ ⟨h1, h2⟩ => ⟨h1, by rw [h2]; exact Below.refl _ _⟩
  · exact Tryz.fmtGreat u (by omega) hu64 w hE

set_option maxHeartbeats 1000000 in
theorem Tryz.fmtUint (u : Nat) (hu64 : u < 18446744073709551616) (w : World) (hE : Tryz.Env w) :
    Calls Tryz.prog 122 #[.int .u64 u, .int .i64 10] w fun e w' => e = .returned (.string ⟨(Lib.decDigits u).toArray⟩) ∧ Below w.heap.size w w' := by
  have hs := Tryz.fmt u hu64 w hE
  generalize Lib.decDigits u = ds at *
  go_enter Tryz.func122, Tryz.ntmps122
  go_wp2_with (go_at_call 164; refine hs.mono ?_; rintro e w' ⟨rfl, hb⟩)
  go_ret
  exact ⟨rfl, hb⟩

theorem ret_str {a b : ByteArray} (h : a = b) : Ending.returned (.string a) = .returned (.string b) := by rw [h]
theorem bytes_cons (c : UInt8) (ds : List UInt8) : (⟨#[c]⟩ : ByteArray) ++ ⟨ds.toArray⟩ = ⟨(c :: ds).toArray⟩ := by
  apply ByteArray.ext
  simp

theorem decDigits_len (u : Nat) (hu64 : u < 18446744073709551616) : (Lib.decDigits u).length ≤ 20 := by
  rw [Lib.decDigits_length]
  by_cases h : u = 0
  · subst h; rw [← Lib.decDigits_length, Lib.decDigits]; simp
  · have := Lib.numDigits_eq u (by omega) hu64; split at this <;> omega

set_option maxHeartbeats 1000000 in
theorem Tryz.nameString (k : Int) (u : Nat) (hu64 : u < 18446744073709551616) (w : World) (hE : Tryz.Env w) (h6 : 6 ≤ w.heap.size) :
    Calls Tryz.prog 68 #[.agg #[.int .i64 k, .int .u64 u]] w fun e w' => e = .returned (.string ⟨(nmStr k u).toArray⟩) ∧ Below w.heap.size w w' := by
  have hB0 : Below w.heap.size w (w.alloc (.cells #[.int .i64 k, .int .u64 u] 114)) := (Below.refl _ w).alloc (Nat.le_refl _) _
  have hs := Tryz.fmtUint u hu64 (w.alloc (.cells #[.int .i64 k, .int .u64 u] 114)) (hE.below hB0 h6)
  have hl := decDigits_len u hu64
  by_cases h1 : k = 1
  · have hfin : Hid (nmStr k u = 116 :: Lib.decDigits u) := by show _ = _; simp [nmStr, h1]
    have h1' : (k == 1) = true := by simp [h1]
    generalize Lib.decDigits u = ds at *
    generalize nmStr k u = r at *
    clear h1
    go_enter Tryz.func68, Tryz.ntmps68
    go_wp2_with (go_at_call 122; refine hs.mono ?_; rintro e w' ⟨rfl, hb⟩)
    go_ret
    exact ⟨ret_str (b := ⟨r.toArray⟩) ((bytes_cons 116 ds).trans (by rw [show r = 116 :: ds from hfin])), hB0.trans (hb.mono (by simp))⟩
  · have h1' : (k == 1) = false := by simp [h1]
    by_cases h2 : k = 2
    · have hfin : Hid (nmStr k u = 108 :: Lib.decDigits u) := by show _ = _; simp [nmStr, h2]
      have h2' : (k == 2) = true := by simp [h2]
      generalize Lib.decDigits u = ds at *
      generalize nmStr k u = r at *
      clear h1 h2
      go_enter Tryz.func68, Tryz.ntmps68
      go_wp2_with (go_at_call 122; refine hs.mono ?_; rintro e w' ⟨rfl, hb⟩)
      go_ret
      exact ⟨ret_str (b := ⟨r.toArray⟩) ((bytes_cons 108 ds).trans (by rw [show r = 108 :: ds from hfin])), hB0.trans (hb.mono (by simp))⟩
    · have hfin : Hid (nmStr k u = []) := by show _ = _; simp [nmStr, h1, h2]
      have h2' : (k == 2) = false := by simp [h2]
      generalize nmStr k u = r at *
      clear h1 h2 hs hl
      go_enter Tryz.func68, Tryz.ntmps68
      go_wp2
      go_ret
      exact ⟨ret_str (a := ⟨#[]⟩) (b := ⟨r.toArray⟩) (by rw [show r = [] from hfin]), hB0⟩
end Go.Proofs
