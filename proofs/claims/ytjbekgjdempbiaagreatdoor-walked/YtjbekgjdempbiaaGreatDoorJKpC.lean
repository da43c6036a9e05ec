import Derived.Test.YtjbekgjdempbiaaGreatDoorJLawA
/-
  leasekeeperkeep.Walked.
-/
namespace Go.Proofs
open Go.RowKit Go.Sort Go.Lib Go.Shelf Go.Maps Go.WideMaps

/-- pick's answer. -/
def pickI (c n : Int) : Int := (if c < 0 then -(c + 1) else c) % n

set_option maxHeartbeats 1000000 in
theorem Tryz.kPick (c n : Int) (h0 : -9223372036854775808 ≤ c) (h1 : c ≤ 9223372036854775807) (hn : 0 < n) (hn1 : n ≤ 1000) (w : World) :
    Calls Tryz.prog 17 #[.int .i64 c, .int .i64 n] w fun e w' => e = .returned (.int .i64 (pickI c n)) ∧ w' = w := by
  by_cases hc : c < 0
  · have hp : Hid (pickI c n = -(c + 1) % n) := hid_intro (by simp [pickI, hc])
    generalize pickI c n = r at *
    go_enter Tryz.func17, Tryz.ntmps17
    go_wp2
    go_ret
    refine ⟨ret_int ?_, rfl⟩
    rw [hid_elim hp, ← Int.neg_tmod, Int.tmod_eq_emod_of_nonneg (by omega)]
  · have hp : Hid (pickI c n = c % n) := hid_intro (by simp [pickI, hc])
    generalize pickI c n = r at *
    go_enter Tryz.func17, Tryz.ntmps17
    go_wp2
    go_ret
    exact ⟨ret_int (hid_elim hp).symm, rfl⟩
theorem pick_nat (c n : Int) (hn : 0 < n) : ∃ k : Nat, pickI c n = (k : Int) ∧ (k : Int) < n := by
  have h1 := Int.emod_nonneg (if c < 0 then -(c + 1) else c) (show n ≠ 0 by omega)
  have h2 := Int.emod_lt_of_pos (if c < 0 then -(c + 1) else c) hn
  exact ⟨(pickI c n).toNat, by unfold pickI; omega, by unfold pickI; omega⟩

set_option maxRecDepth 100000 in
set_option maxHeartbeats 4000000 in
theorem Tryz.walked (x y : Int) (x0 : -9223372036854775808 ≤ x) (x1 : x ≤ 9223372036854775807) (y0 : -9223372036854775808 ≤ y) (y1 : y ≤ 9223372036854775807) (w : World) (h9 : 9 ≤ w.heap.size) (hE : Tryz.Env w) (hT : Tryz.ErrT w) :
    Calls Tryz.prog 9 #[.int .i64 x, .int .i64 y] w fun e w' => e = .returned (.bool true) ∧ Below w.heap.size w w' := by
  have hw := fun W => Tryz.well W
  unfold fallV at hw
  obtain ⟨n, hn, hn12⟩ := pick_nat x 12 (by omega)
  obtain ⟨k, hk, hk15⟩ := pick_nat y 15 (by omega)
  have hP1 := fun W => Tryz.kPick x 12 x0 x1 (by omega) (by omega) W
  have hP2 := fun W => Tryz.kPick y 15 y0 y1 (by omega) (by omega) W
  rw [hn] at hP1
  rw [hk] at hP2
  clear hn hk x0 x1 y0 y1
  go_enter Tryz.func9, Tryz.ntmps9
  go_wp2_with (go_at_call 15; refine (Tryz.opened _ h9 hE hT).mono ?_; rintro e w1 ⟨hb, rb, kk, vx, c, rfl, hS1, hc, hb1⟩)
  refine (hw _).mono ?_
  rintro e w2 ⟨rfl, hb2⟩
  have hba : Below w2.heap.size w2 (w2.alloc (.cells #[.int .i64 (-1), .int .i64 (-1), .int .i64 0, .int .i64 0] 29)) := (Below.refl _ w2).alloc (Nat.le_refl _) _
  have hb13 := hb2.trans (hba.mono hb2.size)
  have hS3 := hS1.below hb13
  have bF3 := BoxN.new w2 29 #[.int .i64 (-1), .int .i64 (-1), .int .i64 0, .int .i64 0]
  have hb03 := hb1.trans (hb13.mono hb1.size)
  clear hw hS1 hb2 hba hb13
  generalize hfb : w2.heap.size = fb at *
  go_wp2_with (go_at_call 17; refine (hP1 _).mono ?_; rintro e w3 ⟨rfl, rfl⟩)
  go_loopw [8] (fun i wr => ∃ j : Nat, j ≤ n ∧ i = .int .i64 j ∧ ∃ (lks : List LeaE) (c : List UInt8), lks.length = j ∧ c.length ≤ 300000000 + 1300000 * j ∧ Tryz.Sys w.heap.size wr hb rb ⟨kk, vx, 100, ⟨0, 1 + j, [rootE], lks⟩, c⟩ ∧ BoxN wr fb 29 #[.int .i64 (-1), .int .i64 (-1), .int .i64 0, .int .i64 0] ∧ Below w.heap.size w wr) (fun i _ => n - (intOf i).toNat)
  case atStart => exact ⟨0, Nat.zero_le _, rfl, [], c, rfl, by omega, hS3, bF3, hb03⟩
  case round =>
    clear hS3 bF3 hb03
    obtain ⟨j, hj, rfl, lks, c, hlen, hc, hS, bF, hbw⟩ := hrel
    by_cases hlt : j < n
    · have hlt' : (j : Int) < (n : Int) := by omega
      have g0 := bF.cell 0 (v := .int .i64 (-1)) rfl
      have g1 := bF.cell 1 (v := .int .i64 (-1)) rfl
      have g2 := bF.cell 2 (v := .int .i64 0) rfl
      have g3 := bF.cell 3 (v := .int .i64 0) rfl
      have hI := Tryz.kIssue hS rootE (by simp) rfl [112] (by decide) 5 5 (by omega) (by omega) (by omega) (by omega) (by omega) (by omega) (by omega) 0 0
      rw [show (rootE.n) = 0 from rfl, nm_t0] at hI
      unfold fallV at hI
      go_wp2_with (go_at_call 18; refine hI.mono ?_; rintro e w6 ⟨rfl, ⟨c6, hc6, hS6⟩, hs6⟩)
      have bF6 := hs6.box bF (hS.wh.no bF (by decide) (by decide))
      have hb6 := hbw.trans (hs6.below hbw.size (fun q hq => hS.low q hq))
      go_roundw
      case rel => exact ⟨j + 1, by omega, by go_num, _, c6, by simp [hlen], by rw [Nat.mul_succ, ← Nat.add_assoc]; exact Nat.le_trans hc6 (Nat.add_le_add_right hc _), hS6, bF6, hb6⟩
      case measure => simp [intOf]; omega
    · have hge : ¬ (j : Int) < (n : Int) := by omega
      obtain rfl : j = n := by omega
      have hA := callsIn_wide.1 (Tryz.hAll0 hb kk.vb kk.mt kk.ml vx 100 _ _ [rootE] lks wr _ _ hS.host hS.wh.v.va)
      have hlenI : (infosOf 100 [rootE] lks).length = j + 1 := by simp [infosOf, hlen]
      go_wp2_with (go_at_call 24; refine hA.mono ?_; rintro e w7 ⟨v1, rfl, r1, hb7⟩)
      rw [hlenI] at r1
      obtain ⟨ga, ca, rfl⟩ := ownsRow_succ r1
      have hS7 := hS.below hb7
      have hb07 := hbw.trans (hb7.mono hbw.size)
      have hAK := callsIn_wide.1 (Tryz.hAllK (k + 1) (1 + (k : Int)) (hid_intro (by omega)) (by omega) hb kk.vb kk.mt kk.ml vx 100 _ _ [rootE] lks w7 _ _ hS7.host hS7.wh.v.va)
      have hlenK : ((infosOf 100 [rootE] lks).take (k + 1)).length = min (k + 1) (j + 1) := by rw [List.length_take, hlenI]
      obtain ⟨m, hm⟩ : ∃ m, min (k + 1) (j + 1) = m + 1 := ⟨min k j, by omega⟩
      rw [hlenK, hm] at hAK
      have HX := hid_intro hlenK
      generalize infosOf 100 [rootE] lks = xs at *
      clear hA hP1 hS hS7
      refine (hP2 _).mono ?_
      rintro e w8 ⟨rfl, rfl⟩
      by_cases hkj : j < k
      · obtain rfl : m = j := by omega
        have hgt : (m : Int) + 1 < 1 + (k : Int) := by omega
        go_wp2_with (go_at_call 24; refine hAK.mono ?_; rintro e w9 ⟨v2, rfl, r2, hb9⟩; obtain ⟨gs, cs2, rfl⟩ := ownsRow_succ r2)
        have r1' := ownsRow_below r1 hb9
        go_loopw [16] (fun i wr => ∃ q : Nat, q ≤ m + 1 ∧ i = .int .i64 q ∧ Below w9.heap.size w9 wr) (fun i _ => m + 1 - (intOf i).toNat)
        case atStart => exact ⟨0, Nat.zero_le _, rfl, Below.refl _ _⟩
        case round =>
          obtain ⟨q, hq, rfl, hBw⟩ := hrel
          by_cases hqm : q < m + 1
          · have hqi : (q : Int) < ((m : Int) + 1) := by omega
            have hqj : (q : Int) < (m : Int) + 1 := by omega
            have hqk : (q : Int) < (m : Int) + 1 := by omega
            obtain ⟨t, ht⟩ : ∃ t, xs[q]? = some t := ⟨xs[q]'(by omega), by simp⟩
            have ht2 : (xs.take (k + 1))[q]? = some t := by rw [List.getElem?_take, if_pos (by omega)]; exact ht
            obtain ⟨a0, a1, a2, a3, a4, a5⟩ := infoRow (ownsRow_below r2 hBw) ht2
            obtain ⟨c0, c1, c2, c3, c4, c5⟩ := infoRow (ownsRow_below r1' hBw) ht
            have hnq := Tryz.infoNeq t t
            simp only [beq_self_eq_true, Bool.and_self, Bool.not_true] at hnq
            clear ht ht2
            obtain ⟨e0, e1, e2, e3, e4, e5⟩ := t
            simp only [InfoD.cells, infoCells] at hnq a0 a1 a2 a3 a4 a5 c0 c1 c2 c3 c4 c5
            go_wp2
            go_quiet (fail)
            go_wp2
            go_roundw
            case rel => exact ⟨q + 1, by omega, by go_num, below_drewN hBw _⟩
            case measure => simp [intOf]; omega
          · have hqi : ¬ (q : Int) < ((m : Int) + 1) := by omega
            go_wp2
            go_ret
            exact ⟨rfl, (hb07.trans (hb9.mono hb07.size)).trans (hBw.mono (Nat.le_trans hb07.size hb9.size))⟩
      · obtain rfl : m = k := by omega
        have hgt : ¬ (j : Int) + 1 < 1 + (m : Int) := by omega
        have hcmp : ((m : Int) + 1 == 1 + (m : Int)) = true := by simp; omega
        go_wp2_with (go_at_call 24; refine hAK.mono ?_; rintro e w9 ⟨v2, rfl, r2, hb9⟩; obtain ⟨gs, cs2, rfl⟩ := ownsRow_succ r2)
        have r1' := ownsRow_below r1 hb9
        go_loopw [16] (fun i wr => ∃ q : Nat, q ≤ m + 1 ∧ i = .int .i64 q ∧ Below w9.heap.size w9 wr) (fun i _ => m + 1 - (intOf i).toNat)
        case atStart => exact ⟨0, Nat.zero_le _, rfl, Below.refl _ _⟩
        case round =>
          obtain ⟨q, hq, rfl, hBw⟩ := hrel
          by_cases hqm : q < m + 1
          · have hqi : (q : Int) < (1 + (m : Int)) := by omega
            have hqj : (q : Int) < (j : Int) + 1 := by omega
            have hqk : (q : Int) < (m : Int) + 1 := by omega
            obtain ⟨t, ht⟩ : ∃ t, xs[q]? = some t := ⟨xs[q]'(by omega), by simp⟩
            have ht2 : (xs.take (m + 1))[q]? = some t := by rw [List.getElem?_take, if_pos (by omega)]; exact ht
            obtain ⟨a0, a1, a2, a3, a4, a5⟩ := infoRow (ownsRow_below r2 hBw) ht2
            obtain ⟨c0, c1, c2, c3, c4, c5⟩ := infoRow (ownsRow_below r1' hBw) ht
            have hnq := Tryz.infoNeq t t
            simp only [beq_self_eq_true, Bool.and_self, Bool.not_true] at hnq
            clear ht ht2
            obtain ⟨e0, e1, e2, e3, e4, e5⟩ := t
            simp only [InfoD.cells, infoCells] at hnq a0 a1 a2 a3 a4 a5 c0 c1 c2 c3 c4 c5
            go_wp2
            go_quiet (fail)
            go_wp2
            go_roundw
            case rel => exact ⟨q + 1, by omega, by go_num, below_drewN hBw _⟩
            case measure => simp [intOf]; omega
          · have hqi : ¬ (q : Int) < (1 + (m : Int)) := by omega
            go_wp2
            go_ret
            exact ⟨rfl, (hb07.trans (hb9.mono hb07.size)).trans (hBw.mono (Nat.le_trans hb07.size hb9.size))⟩
end Go.Proofs
