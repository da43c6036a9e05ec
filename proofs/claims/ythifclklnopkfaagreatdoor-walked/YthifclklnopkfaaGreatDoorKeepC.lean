import Derived.Test.YthifclklnopkfaaGreatDoorHOpenS
import Derived.Test.YthifclklnopkfaaGreatDoorLawA
/-
  leasekeeperkeep.opened: a vault that does what it must with a lease.
-/
namespace Go.Proofs
open Go.RowKit Go.Sort Go.Lib Go.Shelf Go.Maps Go.WideMaps

theorem nm_l1 : nmStr 2 1 = [108, 49] := by simp [nmStr, Lib.decDigits_one]
def lea1 (at_ : Int) (pd : Bool) (nb : Nat) : LeaE := ⟨1, 1, 0, at_, 0, pd, [97, 47, 98], 120, nb⟩

set_option maxRecDepth 100000 in
set_option maxHeartbeats 4000000 in
theorem Tryz.opened (w : World) (h6 : 6 ≤ w.heap.size) (hE : Tryz.Env w) (hT : Tryz.ErrT w) :
    Calls Tryz.prog 10 #[] w fun e w' => ∃ hb db rb vb mt ml vx bt, e = .returned (.pointer (some ⟨hb, 0, none⟩)) ∧ Tryz.Sys w' hb db rb vb mt ml vx 100 0 1 [rootE bt] [] ∧ Below w.heap.size w w' ∧ w.heap.size ≤ db ∧ w.heap.size ≤ vb ∧ w.heap.size ≤ ml := by
  have hw := fun W => Tryz.well W
  have hO := Tryz.hOpenS
  unfold fallV at hw hO
  go_enter Tryz.func10, Tryz.ntmps10
  go_wp2_with (go_at_call 16; refine (Tryz.newHost _).mono ?_; rintro e w1 ⟨hb, db, rb, m1, m2, rfl, bH1, bD1, bR1, q1, q2, q3, hb1⟩)
  refine (hw _).mono ?_
  rintro e w2 ⟨rfl, hb2⟩
  have bH2 := bH1.below hb2 bH1.lt
  have bD2 := bD1.below hb2 bD1.lt
  have bR2 := bR1.below hb2 bR1.lt
  have hb02 : Below w.heap.size w w2 := hb1.trans (hb2.mono hb1.size)
  go_wp2_with (go_at_call 17; refine (hO w.heap.size hb db rb _ _ _ _ _ _ 100 (-1) (-1) 0 0 w2 bH2 bD2 q1 q2).mono ?_; rintro e w3 ⟨vb, mt, ml, bt, n, rfl, bH3, bD3, bV3, hM3, hn3, hL3, bT3, hb3, hlow, hs3⟩)
  have hb03 : Below w.heap.size w w3 := hb02.trans hb3
  have hS3 := Tryz.Sys.start 100 (by omega) (by omega) hb03 h6 hb03.size hE hT bH3 bD3 bV3 hM3 hn3 hL3 bT3 q1 q2 hlow
  have bR3 := hs3.box bR2 (fun hm => by
    rcases List.mem_cons.1 hm with e | hm
    · exact bR2.ne bH2 (by decide) e
    · exact bR2.ne bD2 (by decide) (List.mem_singleton.1 hm))
  clear hO hs3 bH3 bD3 bV3 hM3 hn3 hL3 bT3 hb3 hb2 hb1 bH1 bD1 bR1 bH2 bD2 bR2 hb02
  refine (hw _).mono ?_
  rintro e w4 ⟨rfl, hb4⟩
  clear hw
  have hba : Below w4.heap.size w4 (w4.alloc (.cells #[.int .i64 (-1), .int .i64 (-1), .int .i64 0, .int .i64 0] 29)) := (Below.refl _ w4).alloc (Nat.le_refl _) _
  have hb35 : Below w3.heap.size w3 (w4.alloc (.cells #[.int .i64 (-1), .int .i64 (-1), .int .i64 0, .int .i64 0] 29)) := hb4.trans (hba.mono hb4.size)
  have hS5 := hS3.below hb35
  have bR5 := bR3.below hb35 bR3.lt
  have bF5 := BoxN.new w4 29 #[.int .i64 (-1), .int .i64 (-1), .int .i64 0, .int .i64 0]
  have hb05 := hb03.trans (hb35.mono hb03.size)
  have g0 := bF5.cell 0 (v := .int .i64 (-1)) rfl
  have g1 := bF5.cell 1 (v := .int .i64 (-1)) rfl
  have g2 := bF5.cell 2 (v := .int .i64 0) rfl
  have g3 := bF5.cell 3 (v := .int .i64 0) rfl
  have hI := Tryz.kIssue hS5 [97, 47, 98] (by simp) (by decide) 10 20 (by omega) (by omega) (by omega) (by simp) (by omega) (by omega) (-1) (-1) 0 0
  unfold fallV at hI
  obtain ⟨p1, p2, p3, p4, p5⟩ := hlow
  have hr6 : 6 ≤ rb := by omega
  have hdisk := hS5.disk
  have hmaps := hS5.v.va.held
  clear hS3 bR3 hb4 hba hb35 hb03
  generalize hfb : w4.heap.size = fb at *
  go_wp2_with (go_at_call 13; refine hI.mono ?_; rintro e w6 ⟨nb, hnb, rfl, hS6, hs6⟩)
  have nF : ∀ {W : World} {vx : VX} {tm : Int} {ln : Nat} {lks : List LeaE} {q : Nat} {t : TypeId} {cs : Array Value}, Tryz.Sys W hb db rb vb mt ml vx tm 0 ln [rootE bt] lks → BoxN W q t cs → t ≠ 76 → t ≠ 108 → q ∉ [db, vb, ml] := fun hS hB h1 h2 hm => by
    obtain ⟨_, _, _, hD⟩ := hS.disk
    obtain ⟨_, ⟨_, -, hm2⟩, -, -⟩ := hS.v.va.held
    rcases List.mem_cons.1 hm with e | hm
    · exact hB.ne hD h1 e
    · rcases List.mem_cons.1 hm with e | hm
      · exact hB.ne hS.v.va.v h2 e
      · exact hB.ne_map hm2 (List.mem_singleton.1 hm).symm
  have nL : ∀ {W : World} {vx : VX} {tm : Int} {ln : Nat} {lks : List LeaE} {l : LeaE} {q : Nat} {t : TypeId} {cs : Array Value}, Tryz.Sys W hb db rb vb mt ml vx tm 0 ln [rootE bt] lks → l ∈ lks → BoxN W q t cs → t ≠ 76 → t ≠ 114 → q ∉ [db, l.blk] := fun hS hl hB h1 h2 hm => by
    obtain ⟨_, _, _, hD⟩ := hS.disk
    rcases List.mem_cons.1 hm with e | hm
    · exact hB.ne hD h1 e
    · exact hB.ne (hS.v.va.held.lea _ hl) h2 (List.mem_singleton.1 hm)
  have bF6 := hs6.box bF5 (nF hS5 bF5 (by decide) (by decide))
  have bR6 := hs6.box bR5 (nF hS5 bR5 (by decide) (by decide))
  have hb06 : Below w.heap.size w w6 := hb05.trans (hs6.below hb05.size (fun q hq => by
    rcases List.mem_cons.1 hq with rfl | hq
    · exact q2
    · rcases List.mem_cons.1 hq with rfl | hq
      · exact p1
      · rw [List.mem_singleton.1 hq]; exact p3))
  have hS6' : Tryz.Sys w6 hb db rb vb mt ml ⟨.iface 61 (.pointer (some ⟨rb, 0, none⟩)), false, .slice none 0 0⟩ 100 0 1 [rootE bt] [lea1 110 false nb] := hS6
  have hnw : w.heap.size ≤ nb := Nat.le_trans hb05.size hnb
  clear hS6 hs6 hI hS5 bF5 bR5 hb05 g0 g1 g2 g3 hdisk hmaps hnb
  have hA1 := Tryz.kAuth hS6' (lea1 110 false nb) (by simp) [97, 47, 98]
  rw [show (((!(lea1 110 false nb).pd && decide ((100 : Int) < (lea1 110 false nb).at_)) && ((lea1 110 false nb).pth == [97, 47, 98]))) = true from by simp [lea1]] at hA1
  refine hA1.mono ?_
  rintro e w7 ⟨rfl, hb7⟩
  have hS7 := hS6'.below hb7
  have hA2 := Tryz.kAuth hS7 (lea1 110 false nb) (by simp) [97]
  rw [show (((!(lea1 110 false nb).pd && decide ((100 : Int) < (lea1 110 false nb).at_)) && ((lea1 110 false nb).pth == [97]))) = false from by simp [lea1]] at hA2
  go_wp2_with fail
  refine hA2.mono ?_
  rintro e w8 ⟨rfl, hb8⟩
  have hb68 := hb7.trans (hb8.mono hb7.size)
  have hS8 := hS6'.below hb68
  have bF8 := bF6.below hb68 bF6.lt
  have bR8 := bR6.below hb68 bR6.lt
  have hb08 := hb06.trans (hb68.mono hb06.size)
  clear hA1 hA2 hS7 hS6' hb7 hb8 hb68 bF6 bR6 hb06
  have g0 := bF8.cell 0 (v := .int .i64 (-1)) rfl
  have g1 := bF8.cell 1 (v := .int .i64 (-1)) rfl
  have g2 := bF8.cell 2 (v := .int .i64 0) rfl
  have g3 := bF8.cell 3 (v := .int .i64 0) rfl
  have hRn := Tryz.kRenew hS8 0 (lea1 110 false nb) rfl (by simp [lea1]) 15 (by omega) (by omega) (-1) (-1) 0 0
  have e115 : renewL 100 15 (lea1 110 false nb) = 115 := by
    simp [renewL, lea1, plusI]
    omega
  rw [e115] at hRn
  unfold fallV at hRn
  go_wp2_with fail
  refine hRn.mono ?_
  rintro e w9 ⟨rfl, hS9, hs9⟩
  have hS9' : Tryz.Sys w9 hb db rb vb mt ml ⟨.iface 61 (.pointer (some ⟨rb, 0, none⟩)), false, .slice none 0 0⟩ 100 0 1 [rootE bt] [lea1 115 false nb] := hS9
  have bF9 := hs9.box bF8 (nL hS8 (l := lea1 110 false nb) (by simp) bF8 (by decide) (by decide))
  have bR9 := hs9.box bR8 (nL hS8 (l := lea1 110 false nb) (by simp) bR8 (by decide) (by decide))
  have hb09 : Below w.heap.size w w9 := hb08.trans (hs9.below hb08.size (fun q hq => by
    rcases List.mem_cons.1 hq with rfl | hq
    · exact q2
    · rw [List.mem_singleton.1 hq]; exact hnw))
  clear hS9 hs9 hS8 bF8 bR8 hb08 hRn g0 g1 g2 g3 e115
  have g0 := bF9.cell 0 (v := .int .i64 (-1)) rfl
  have g1 := bF9.cell 1 (v := .int .i64 (-1)) rfl
  have g2 := bF9.cell 2 (v := .int .i64 0) rfl
  have g3 := bF9.cell 3 (v := .int .i64 0) rfl
  have hRv := Tryz.kRevoke hS9' 0 (lea1 115 false nb) rfl (by simp [lea1]) (-1) (-1) 0 0
  unfold fallV at hRv
  go_wp2_with fail
  refine hRv.mono ?_
  rintro e w10 ⟨rfl, hS10, hs10⟩
  have hS10' : Tryz.Sys w10 hb db rb vb mt ml ⟨.iface 61 (.pointer (some ⟨rb, 0, none⟩)), false, .slice none 0 0⟩ 100 0 1 [rootE bt] [lea1 100 true nb] := hS10
  have bF10 := hs10.box bF9 (nL hS9' (l := lea1 115 false nb) (by simp) bF9 (by decide) (by decide))
  have bR10 := hs10.box bR9 (nL hS9' (l := lea1 115 false nb) (by simp) bR9 (by decide) (by decide))
  have hb010 : Below w.heap.size w w10 := hb09.trans (hs10.below hb09.size (fun q hq => by
    rcases List.mem_cons.1 hq with rfl | hq
    · exact q2
    · rw [List.mem_singleton.1 hq]; exact hnw))
  clear hS10 hs10 hS9' bF9 bR9 hb09 hRv g0 g1 g2 g3
  have hA3 := Tryz.kAuth hS10' (lea1 100 true nb) (by simp) [97, 47, 98]
  rw [show (((!(lea1 100 true nb).pd && decide ((100 : Int) < (lea1 100 true nb).at_)) && ((lea1 100 true nb).pth == [97, 47, 98]))) = false from by simp [lea1]] at hA3
  go_wp2_with fail
  refine hA3.mono ?_
  rintro e w11 ⟨rfl, hb11⟩
  have hS11 := hS10'.below hb11
  have bF11 := bF10.below hb11 bF10.lt
  have bR11 := bR10.below hb11 bR10.lt
  have hb011 := hb010.trans (hb11.mono hb010.size)
  clear hA3 hS10' bF10 bR10 hb010 hb11
  have g0 := bF11.cell 0 (v := .int .i64 (-1)) rfl
  have g1 := bF11.cell 1 (v := .int .i64 (-1)) rfl
  have g2 := bF11.cell 2 (v := .int .i64 0) rfl
  have g3 := bF11.cell 3 (v := .int .i64 0) rfl
  have hTk := Tryz.hTick_ok hb db rb vb mt ml _ 100 0 1 [rootE bt] (lea1 100 true nb) w11 hS11 rfl rfl (World.ownsRow_nil _ _ _ _) _ _ bR11 hr6 0 (by omega) (by omega) (by decide) (rootE bt) (by simp) (fun t ht => by rw [List.mem_singleton.1 ht]) rfl rfl 100 (by omega) (by omega) (by simp [lea1]) (-1) (-1) 0 0
  unfold fallV at hTk
  go_wp2_with fail
  refine hTk.mono ?_
  rintro e w12 ⟨vx', g, cap, rfl, hS12, -, -, -, hR12, hs12⟩
  have hS12' : Tryz.Sys w12 hb db rb vb mt ml vx' 100 0 1 [rootE bt] [] := hS12
  have hb012 : Below w.heap.size w w12 := hb011.trans (hs12.below hb011.size (fun q hq => by
    simp only [tickB, revB, List.mem_cons, List.mem_append] at hq
    rcases hq with rfl | rfl | rfl | rfl | ⟨rfl | e⟩ | e
    · exact q2
    · exact p1
    · exact p2
    · exact p3
    · exact q3
    · simp [Value.ownBlock] at e
    · simp [Value.ownBlock] at e))
  have s0 : w12.cell? ⟨g, 0, none⟩ = some (.string ⟨(nmStr 2 1).toArray⟩) := hR12.row.cellAt 0 (by omega)
  clear hs12 hS12 hS11 bF11 bR11 hb011 hTk g0 g1 g2 g3 hR12
  rw [nm_l1] at s0
  simp only [nm_l1]
  go_wp2
  go_ret
  exact ⟨hb, db, rb, vb, mt, ml, vx', bt, rfl, hS12', hb012, q2, p1, p3⟩
end Go.Proofs

/-
  leasekeeperkeep.Walked.
-/
namespace Go.Proofs
open Go.RowKit Go.Sort Go.Lib Go.Shelf Go.Maps Go.WideMaps

/-- pick's answer. -/
def pickI (c n : Int) : Int := (if c < 0 then -(c + 1) else c) % n

set_option maxHeartbeats 1000000 in
theorem Tryz.kPick (c n : Int) (h0 : -9223372036854775808 ≤ c) (h1 : c ≤ 9223372036854775807) (hn : 0 < n) (hn1 : n ≤ 1000) (w : World) :
    Calls Tryz.prog 12 #[.int .i64 c, .int .i64 n] w fun e w' => e = .returned (.int .i64 (pickI c n)) ∧ w' = w := by
  by_cases hc : c < 0
  · have hp : Hid (pickI c n = -(c + 1) % n) := hid_intro (by simp [pickI, hc])
    generalize pickI c n = r at *
    go_enter Tryz.func12, Tryz.ntmps12
    go_wp2
    go_ret
    refine ⟨ret_int ?_, rfl⟩
    rw [hid_elim hp, ← Int.neg_tmod, Int.tmod_eq_emod_of_nonneg (by omega)]
  · have hp : Hid (pickI c n = c % n) := hid_intro (by simp [pickI, hc])
    generalize pickI c n = r at *
    go_enter Tryz.func12, Tryz.ntmps12
    go_wp2
    go_ret
    exact ⟨ret_int (hid_elim hp).symm, rfl⟩
theorem pick_nat (c n : Int) (hn : 0 < n) : ∃ k : Nat, pickI c n = (k : Int) ∧ (k : Int) < n := by
  have h1 := Int.emod_nonneg (if c < 0 then -(c + 1) else c) (show n ≠ 0 by omega)
  have h2 := Int.emod_lt_of_pos (if c < 0 then -(c + 1) else c) hn
  exact ⟨(pickI c n).toNat, by unfold pickI; omega, by unfold pickI; omega⟩

set_option maxRecDepth 100000 in
set_option maxHeartbeats 4000000 in
theorem Tryz.walked (x y : Int) (x0 : -9223372036854775808 ≤ x) (x1 : x ≤ 9223372036854775807) (y0 : -9223372036854775808 ≤ y) (y1 : y ≤ 9223372036854775807) (w : World) (h6 : 6 ≤ w.heap.size) (hE : Tryz.Env w) (hT : Tryz.ErrT w) :
    Calls Tryz.prog 8 #[.int .i64 x, .int .i64 y] w fun e w' => e = .returned (.bool true) ∧ Below w.heap.size w w' := by
  have hw := fun W => Tryz.well W
  unfold fallV at hw
  obtain ⟨n, hn, hn12⟩ := pick_nat x 12 (by omega)
  obtain ⟨k, hk, hk15⟩ := pick_nat y 15 (by omega)
  have hP1 := fun W => Tryz.kPick x 12 x0 x1 (by omega) (by omega) W
  have hP2 := fun W => Tryz.kPick y 15 y0 y1 (by omega) (by omega) W
  rw [hn] at hP1
  rw [hk] at hP2
  clear hn hk x0 x1 y0 y1
  go_enter Tryz.func8, Tryz.ntmps8
  go_wp2_with (go_at_call 10; refine (Tryz.opened _ h6 hE hT).mono ?_; rintro e w1 ⟨hb, db, rb, vb, mt, ml, vx, bt, rfl, hS1, hb1, q1, q2, q3⟩)
  refine (hw _).mono ?_
  rintro e w2 ⟨rfl, hb2⟩
  have hba : Below w2.heap.size w2 (w2.alloc (.cells #[.int .i64 (-1), .int .i64 (-1), .int .i64 0, .int .i64 0] 29)) := (Below.refl _ w2).alloc (Nat.le_refl _) _
  have hb13 := hb2.trans (hba.mono hb2.size)
  have hS3 := hS1.below hb13
  have bF3 := BoxN.new w2 29 #[.int .i64 (-1), .int .i64 (-1), .int .i64 0, .int .i64 0]
  have hb03 := hb1.trans (hb13.mono hb1.size)
  clear hw hS1 hb2 hba hb13
  generalize hfb : w2.heap.size = fb at *
  go_wp2_with (go_at_call 12; refine (hP1 _).mono ?_; rintro e w3 ⟨rfl, rfl⟩)
  have nF : ∀ {W : World} {vx : VX} {tm : Int} {ln : Nat} {lks : List LeaE} {q : Nat} {t : TypeId} {cs : Array Value}, Tryz.Sys W hb db rb vb mt ml vx tm 0 ln [rootE bt] lks → BoxN W q t cs → t ≠ 76 → t ≠ 108 → q ∉ [db, vb, ml] := fun hS hB h1 h2 hm => by
    obtain ⟨_, _, _, hD⟩ := hS.disk
    obtain ⟨_, ⟨_, -, hm2⟩, -, -⟩ := hS.v.va.held
    rcases List.mem_cons.1 hm with e | hm
    · exact hB.ne hD h1 e
    · rcases List.mem_cons.1 hm with e | hm
      · exact hB.ne hS.v.va.v h2 e
      · exact hB.ne_map hm2 (List.mem_singleton.1 hm).symm
  have hlow : ∀ q ∈ [db, vb, ml], w.heap.size ≤ q := fun q hq => by
    rcases List.mem_cons.1 hq with rfl | hq
    · exact q1
    · rcases List.mem_cons.1 hq with rfl | hq
      · exact q2
      · rw [List.mem_singleton.1 hq]; exact q3
  go_loopw [8] (fun i wr => ∃ j : Nat, j ≤ n ∧ i = .int .i64 j ∧ ∃ lks : List LeaE, lks.length = j ∧ Tryz.Sys wr hb db rb vb mt ml vx 100 0 (1 + j) [rootE bt] lks ∧ BoxN wr fb 29 #[.int .i64 (-1), .int .i64 (-1), .int .i64 0, .int .i64 0] ∧ Below w.heap.size w wr) (fun i _ => n - (intOf i).toNat)
  case atStart => exact ⟨0, Nat.zero_le _, rfl, [], rfl, hS3, bF3, hb03⟩
  case round =>
    obtain ⟨j, hj, rfl, lks, hlen, hS, bF, hbw⟩ := hrel
    clear hS3 bF3 hb03
    by_cases hlt : j < n
    · have hlt' : (j : Int) < (n : Int) := by omega
      have g0 := bF.cell 0 (v := .int .i64 (-1)) rfl
      have g1 := bF.cell 1 (v := .int .i64 (-1)) rfl
      have g2 := bF.cell 2 (v := .int .i64 0) rfl
      have g3 := bF.cell 3 (v := .int .i64 0) rfl
      have hI := Tryz.kIssue hS [112] (by simp) (by decide) 5 5 (by omega) (by omega) (by omega) (by omega) (by omega) (by omega) (-1) (-1) 0 0
      unfold fallV at hI
      go_wp2_with (go_at_call 13; refine hI.mono ?_; rintro e w6 ⟨nb, hnb, rfl, hS6, hs6⟩)
      have bF6 := hs6.box bF (nF hS bF (by decide) (by decide))
      have hb6 := hbw.trans (hs6.below hbw.size hlow)
      go_roundw
      case rel => exact ⟨j + 1, by omega, by go_num, _, by simp [hlen], hS6, bF6, hb6⟩
      case measure => simp [intOf]; omega
    · have hge : ¬ (j : Int) < (n : Int) := by omega
      obtain rfl : j = n := by omega
      have hA := callsIn_wide.1 (Tryz.hAll0 hb vb mt ml vx 100 _ _ [rootE bt] lks wr _ _ hS.host hS.v.va)
      have hlenI : (infosOf 100 [rootE bt] lks).length = j + 1 := by simp [infosOf, hlen]
      go_wp2_with (go_at_call 14; refine hA.mono ?_; rintro e w7 ⟨v1, rfl, r1, hb7⟩)
      rw [hlenI] at r1
      obtain ⟨ga, ca, rfl⟩ := ownsRow_succ r1
      have hS7 := hS.below hb7
      have hb07 := hbw.trans (hb7.mono hbw.size)
      have hAK := callsIn_wide.1 (Tryz.hAllK (k + 1) (1 + (k : Int)) (hid_intro (by omega)) (by omega) hb vb mt ml vx 100 _ _ [rootE bt] lks w7 _ _ hS7.host hS7.v.va)
      have hlenK : ((infosOf 100 [rootE bt] lks).take (k + 1)).length = min (k + 1) (j + 1) := by rw [List.length_take, hlenI]
      obtain ⟨m, hm⟩ : ∃ m, min (k + 1) (j + 1) = m + 1 := ⟨min k j, by omega⟩
      rw [hlenK, hm] at hAK
      have HX := hid_intro hlenK
      generalize infosOf 100 [rootE bt] lks = xs at *
      clear hA hP1 hS hS7 nF hlow
      refine (hP2 _).mono ?_
      rintro e w8 ⟨rfl, rfl⟩
      by_cases hkj : j < k
      · obtain rfl : m = j := by omega
        have hgt : (m : Int) + 1 < 1 + (k : Int) := by omega
        go_wp2_with (go_at_call 14; refine hAK.mono ?_; rintro e w9 ⟨v2, rfl, r2, hb9⟩; obtain ⟨gs, cs2, rfl⟩ := ownsRow_succ r2)
        have r1' := ownsRow_below r1 hb9
        go_loopw [16] (fun i wr => ∃ q : Nat, q ≤ m + 1 ∧ i = .int .i64 q ∧ Below w9.heap.size w9 wr) (fun i _ => m + 1 - (intOf i).toNat)
        case atStart => exact ⟨0, Nat.zero_le _, rfl, Below.refl _ _⟩
        case round =>
          obtain ⟨q, hq, rfl, hBw⟩ := hrel
          by_cases hqm : q < m + 1
          · have hqi : (q : Int) < ((m : Int) + 1) := by omega
            have hqj : (q : Int) < (m : Int) + 1 := by omega
            have hqk : (q : Int) < (m : Int) + 1 := by omega
            obtain ⟨t, ht⟩ : ∃ t, xs[q]? = some t := ⟨xs[q]'(by omega), by simp⟩
            have ht2 : (xs.take (k + 1))[q]? = some t := by rw [List.getElem?_take, if_pos (by omega)]; exact ht
            obtain ⟨a0, a1, a2, a3, a4, a5⟩ := infoRow (ownsRow_below r2 hBw) ht2
            obtain ⟨c0, c1, c2, c3, c4, c5⟩ := infoRow (ownsRow_below r1' hBw) ht
            have hnq := Tryz.infoNeq t t
            simp only [beq_self_eq_true, Bool.and_self, Bool.not_true] at hnq
            clear ht ht2
            obtain ⟨e0, e1, e2, e3, e4, e5⟩ := t
            simp only [InfoD.cells, infoCells] at hnq a0 a1 a2 a3 a4 a5 c0 c1 c2 c3 c4 c5
            go_wp2
            go_quiet (fail)
            go_wp2
            go_roundw
            case rel => exact ⟨q + 1, by omega, by go_num, below_drewN hBw _⟩
            case measure => simp [intOf]; omega
          · have hqi : ¬ (q : Int) < ((m : Int) + 1) := by omega
            go_wp2
            go_ret
            exact ⟨rfl, (hb07.trans (hb9.mono hb07.size)).trans (hBw.mono (Nat.le_trans hb07.size hb9.size))⟩
      · obtain rfl : m = k := by omega
        have hgt : ¬ (j : Int) + 1 < 1 + (m : Int) := by omega
        have hcmp : ((m : Int) + 1 == 1 + (m : Int)) = true := by simp; omega
        go_wp2_with (go_at_call 14; refine hAK.mono ?_; rintro e w9 ⟨v2, rfl, r2, hb9⟩; obtain ⟨gs, cs2, rfl⟩ := ownsRow_succ r2)
        have r1' := ownsRow_below r1 hb9
        go_loopw [16] (fun i wr => ∃ q : Nat, q ≤ m + 1 ∧ i = .int .i64 q ∧ Below w9.heap.size w9 wr) (fun i _ => m + 1 - (intOf i).toNat)
        case atStart => exact ⟨0, Nat.zero_le _, rfl, Below.refl _ _⟩
        case round =>
          obtain ⟨q, hq, rfl, hBw⟩ := hrel
          by_cases hqm : q < m + 1
          · have hqi : (q : Int) < (1 + (m : Int)) := by omega
            have hqj : (q : Int) < (j : Int) + 1 := by omega
            have hqk : (q : Int) < (m : Int) + 1 := by omega
            obtain ⟨t, ht⟩ : ∃ t, xs[q]? = some t := ⟨xs[q]'(by omega), by simp⟩
            have ht2 : (xs.take (m + 1))[q]? = some t := by rw [List.getElem?_take, if_pos (by omega)]; exact ht
            obtain ⟨a0, a1, a2, a3, a4, a5⟩ := infoRow (ownsRow_below r2 hBw) ht2
            obtain ⟨c0, c1, c2, c3, c4, c5⟩ := infoRow (ownsRow_below r1' hBw) ht
            have hnq := Tryz.infoNeq t t
            simp only [beq_self_eq_true, Bool.and_self, Bool.not_true] at hnq
            clear ht ht2
            obtain ⟨e0, e1, e2, e3, e4, e5⟩ := t
            simp only [InfoD.cells, infoCells] at hnq a0 a1 a2 a3 a4 a5 c0 c1 c2 c3 c4 c5
            go_wp2
            go_quiet (fail)
            go_wp2
            go_roundw
            case rel => exact ⟨q + 1, by omega, by go_num, below_drewN hBw _⟩
            case measure => simp [intOf]; omega
          · have hqi : ¬ (q : Int) < (1 + (m : Int)) := by omega
            go_wp2
            go_ret
            exact ⟨rfl, (hb07.trans (hb9.mono hb07.size)).trans (hBw.mono (Nat.le_trans hb07.size hb9.size))⟩
end Go.Proofs
