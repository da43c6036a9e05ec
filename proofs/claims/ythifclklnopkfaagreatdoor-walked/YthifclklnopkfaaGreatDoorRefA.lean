import Derived.Test.YthifclklnopkfaaGreatDoorState
import Derived.BigQuiet
/-
  The document's answer: plus, digits, Id, state.
-/
namespace Go.Proofs
open Go.RowKit Go.Sort Go.Lib Go.Shelf

def plusI (a b : Int) : Int := if 18446744073709551615 - b < a then 18446744073709551615 else a + b

set_option maxHeartbeats 1000000 in
theorem Tryz.rPlus (a b : Int) (ha : 0 ≤ a) (hb0 : 0 ≤ b) (hb : b ≤ 18446744073709551615) (w : World) :
    Calls Tryz.prog 110 #[.int .u64 a, .int .u64 b] w fun e w' => e = .returned (.int .u64 (plusI a b)) ∧ w' = w := by
  by_cases h : 18446744073709551615 - b < a
  · have hp : Hid (plusI a b = 18446744073709551615) := hid_intro (by simp [plusI, h])
    generalize plusI a b = r at *
    go_enter Tryz.func110, Tryz.ntmps110
    go_wp2
    go_ret
    exact ⟨by rw [hid_elim hp]; rfl, rfl⟩
  · have hp : Hid (plusI a b = a + b) := hid_intro (by simp [plusI, h])
    generalize plusI a b = r at *
    have hle : a + b ≤ 18446744073709551615 := by omega
    go_enter Tryz.func110, Tryz.ntmps110
    go_wp2
    go_ret
    exact ⟨by rw [hid_elim hp]; rfl, rfl⟩

theorem u8Digit (d : Nat) (h : d < 10) : ((UInt8.ofNat (48 + d)).toNat : Int) = 48 + (d : Int) := by
  have : (UInt8.ofNat (48 + d)).toNat = 48 + d := by simp; omega
  omega
/-- one digit as a string. -/
theorem Tryz.oneDigit (d : Nat) (h : d < 10) (w : World) (c : UInt8) (hc : c = UInt8.ofNat (48 + d)) : (convert 232 9 (.slice (some ⟨w.heap.size, 0, none⟩) 1 1)).run Tryz.prog (w.alloc (.cells #[.int .u8 (48 + (d : Int))] 5)) = .ok (.string ⟨#[c]⟩) (w.alloc (.cells #[.int .u8 (48 + (d : Int))] 5)) := by
  subst hc
  exact run_convert_bytes_back (P := Tryz.prog) (w.alloc (.cells #[.int .u8 (48 + (d : Int))] 5)) 232 9 5 ⟨w.heap.size, 0, none⟩ 1 [UInt8.ofNat (48 + d)] Tryz.underlying232 Tryz.underlying5 Tryz.underlying9 (fun j hj => by
    have : j = 0 := by simpa using hj
    subst this
    have hc := (BoxN.new w 5 #[.int .u8 (48 + (d : Int))]).cell 0 (v := .int .u8 (48 + (d : Int))) rfl
    rw [Lib.add_plain]
    refine hc.trans ?_
    rw [List.getElem_singleton, u8Digit d h])

set_option maxRecDepth 100000 in
set_option maxHeartbeats 2000000 in
theorem Tryz.rDigits (n : Nat) : ∀ (_ : n < 9223372036854775808) (w : World),
    Calls Tryz.prog 108 #[.int .i64 n] w fun e w' => e = .returned (.string ⟨(Lib.decDigits n).toArray⟩) ∧ Below w.heap.size w w' := by
  induction n using Nat.strongRecOn with
  | _ n ih =>
    intro hn w
    by_cases h : n < 10
    · have hi : (n : Int) < 10 := by omega
      have hf0 := Lib.decDigits_one h
      obtain ⟨c, hc⟩ : ∃ c, c = UInt8.ofNat (48 + n) := ⟨_, rfl⟩
      have hcv := Tryz.oneDigit n h w c hc
      rw [← hc] at hf0
      have hf := hid_intro hf0
      clear hc hf0
      generalize Lib.decDigits n = r at *
      go_enter Tryz.func108, Tryz.ntmps108
      go_wp2
      go_ret
      exact ⟨by rw [hid_elim hf]; rfl, (Below.refl _ w).alloc (Nat.le_refl _) _⟩
    · have hi : ¬ (n : Int) < 10 := by omega
      have hI := ih (n / 10) (by omega) (by omega)
      have hf0 : Lib.decDigits n = Lib.decDigits (n / 10) ++ [UInt8.ofNat (48 + n % 10)] := by rw [Lib.decDigits, dif_neg h]
      obtain ⟨c, hc⟩ : ∃ c, c = UInt8.ofNat (48 + n % 10) := ⟨_, rfl⟩
      have hcv := fun W => Tryz.oneDigit (n % 10) (by omega) W c hc
      rw [show (48 + ((n % 10 : Nat) : Int)) = 48 + (n : Int) % 10 by omega] at hcv
      rw [← hc] at hf0
      have hf := hid_intro hf0
      clear hc hf0
      have hlen : ¬ 9223372036854775807 < (Lib.decDigits (n / 10)).length + 1 := by have := decDigits_len (n / 10) (by omega); omega
      generalize Lib.decDigits n = r at *
      generalize Lib.decDigits (n / 10) = r' at *
      go_enter Tryz.func108, Tryz.ntmps108
      go_wp2_with (go_at_call 108; refine (hI _).mono ?_; rintro e w' ⟨rfl, hb⟩)
      go_ret
      exact ⟨by rw [hid_elim hf]; exact ret_str (ByteArray.ext (by simp)), hb.alloc hb.size _⟩

/-- a token or a lease, in the document's answer. -/
structure ThingD where
  token : Bool
  n : Nat
  of_ : Int
  pth : List UInt8
  at_ : Int
  last : Int
  doomed : Bool
  tries : Int
def ThingD.cells (t : ThingD) : Array Value := #[.bool t.token, .int .i64 t.n, .int .i64 t.of_, .string ⟨t.pth.toArray⟩, .int .u64 t.at_, .int .u64 t.last, .bool t.doomed, .int .i64 t.tries]
def ThingD.id (t : ThingD) : List UInt8 := (if t.token then 116 else 108) :: Lib.decDigits t.n
def ThingD.state (tm : Int) (t : ThingD) : Int := if t.doomed || (!t.token && decide (t.at_ ≤ tm)) then 2 else 1

set_option maxRecDepth 100000 in
set_option maxHeartbeats 2000000 in
theorem Tryz.rId (t : ThingD) (hn : t.n < 9223372036854775808) (w : World) :
    Calls Tryz.prog 63 #[.agg t.cells] w fun e w' => e = .returned (.string ⟨t.id.toArray⟩) ∧ Below w.heap.size w w' := by
  obtain ⟨tk, n, o, p, a, l, dm, tr⟩ := t
  simp only [ThingD.cells, ThingD.id] at hn ⊢
  have hD := fun W => Tryz.rDigits n hn W
  have hlen : ¬ 9223372036854775807 < 1 + (Lib.decDigits n).length := by have := decDigits_len n (by omega); omega
  have hlen' : ¬ 9223372036854775807 < (Lib.decDigits n).length + 1 := by omega
  generalize Lib.decDigits n = r at *
  have bX := fun (V : World) (hb : Below (w.alloc (.cells #[.bool tk, .int .i64 n, .int .i64 o, .string ⟨p.toArray⟩, .int .u64 a, .int .u64 l, .bool dm, .int .i64 tr] 82)).heap.size (w.alloc (.cells #[.bool tk, .int .i64 n, .int .i64 o, .string ⟨p.toArray⟩, .int .u64 a, .int .u64 l, .bool dm, .int .i64 tr] 82)) V) => cell_later hb ((BoxN.new w 82 #[.bool tk, .int .i64 n, .int .i64 o, .string ⟨p.toArray⟩, .int .u64 a, .int .u64 l, .bool dm, .int .i64 tr]).cell 0 (v := .bool tk) rfl)
  have hB0 : Below w.heap.size w (w.alloc (.cells #[.bool tk, .int .i64 n, .int .i64 o, .string ⟨p.toArray⟩, .int .u64 a, .int .u64 l, .bool dm, .int .i64 tr] 82)) := (Below.refl _ w).alloc (Nat.le_refl _) _
  cases tk with
  | true =>
    go_enter Tryz.func63, Tryz.ntmps63
    go_wp2_with (go_at_call 108; refine (hD _).mono ?_; rintro e w' ⟨rfl, hb⟩; have c0 := bX w' hb)
    go_ret
    exact ⟨ret_str (bytes_cons 116 r), hB0.trans (hb.mono (by simp))⟩
  | false =>
    go_enter Tryz.func63, Tryz.ntmps63
    go_wp2_with (go_at_call 108; refine (hD _).mono ?_; rintro e w' ⟨rfl, hb⟩; have c0 := bX w' hb)
    go_ret
    exact ⟨ret_str (bytes_cons 108 r), hB0.trans (hb.mono (by simp))⟩

set_option maxRecDepth 100000 in
set_option maxHeartbeats 2000000 in
theorem Tryz.rState (t : ThingD) (vb : Nat) (tm : Int) (w : World) (h1 : w.cell? ⟨vb, 1, none⟩ = some (.int .u64 tm)) :
    Calls Tryz.prog 107 #[.pointer (some ⟨vb, 0, none⟩), .agg t.cells] w fun e w' => e = .returned (.int .i64 (t.state tm)) ∧ Below w.heap.size w w' := by
  obtain ⟨tk, n, o, p, a, l, dm, tr⟩ := t
  have hr : Hid (ThingD.state tm ⟨tk, n, o, p, a, l, dm, tr⟩ = if dm || (!tk && decide (a ≤ tm)) then 2 else 1) := hid_intro rfl
  generalize ThingD.state tm ⟨tk, n, o, p, a, l, dm, tr⟩ = r at *
  simp only [ThingD.cells]
  have hB0 : Below w.heap.size w (w.alloc (.cells #[.bool tk, .int .i64 n, .int .i64 o, .string ⟨p.toArray⟩, .int .u64 a, .int .u64 l, .bool dm, .int .i64 tr] 82)) := (Below.refl _ w).alloc (Nat.le_refl _) _
  have h1' := cell_later hB0 h1
  cases dm with
  | true =>
    go_enter Tryz.func107, Tryz.ntmps107
    go_wp2_with fail
    go_quiet (fail)
    go_wp2
    go_ret
    exact ⟨by rw [hid_elim hr]; rfl, below_drewN hB0 _⟩
  | false =>
    cases tk with
    | true =>
      go_enter Tryz.func107, Tryz.ntmps107
      go_wp2_with fail
      go_quiet (fail)
      go_wp2
      go_ret
      exact ⟨by rw [hid_elim hr]; rfl, below_drewN hB0 _⟩
    | false =>
      by_cases h : a ≤ tm
      · have hr' : Hid (r = 2) := hid_intro (by rw [hid_elim hr]; simp [h])
        clear hr
        go_enter Tryz.func107, Tryz.ntmps107
        go_wp2_with fail
        go_quiet (fail)
        go_wp2
        go_ret
        exact ⟨by rw [hid_elim hr']; rfl, below_drewN hB0 _⟩
      · have hr' : Hid (r = 1) := hid_intro (by rw [hid_elim hr]; simp [h])
        clear hr
        go_enter Tryz.func107, Tryz.ntmps107
        go_wp2_with fail
        go_quiet (fail)
        go_wp2
        go_ret
        exact ⟨by rw [hid_elim hr']; rfl, below_drewN hB0 _⟩
end Go.Proofs
