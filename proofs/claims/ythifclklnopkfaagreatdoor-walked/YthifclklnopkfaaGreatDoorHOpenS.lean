import Derived.Test.YthifclklnopkfaaGreatDoorTickG
import Derived.Test.YthifclklnopkfaaGreatDoorHostK
/-
  plain.Host: Tick where one lease is there, and due, and the revoker does not fail.
-/
namespace Go.Proofs
open Go.RowKit Go.Sort Go.Lib Go.Shelf Go.Maps Go.WideMaps

abbrev Tryz.CallsP (hb rb : Nat) (c : Value) (W : World) : Prop := W.cell? ⟨hb, 1, none⟩ = some (.pointer (some ⟨rb, 0, none⟩)) ∧ W.cell? ⟨rb, 0, none⟩ = some c

set_option maxRecDepth 100000 in
set_option maxHeartbeats 4000000 in
theorem Tryz.hTick_ok (hb db rb vb mt ml : Nat) (vx : VX) (tm : Int) (tn ln : Nat) (tks : List TokE) (l : LeaE) (w : World) (hS : Tryz.Sys w hb db rb vb mt ml vx tm tn ln tks [l]) (hrv : vx.rv = .iface 61 (.pointer (some ⟨rb, 0, none⟩))) (htk : vx.tk = false) (hrow : w.ownsRow 6 157 3 vx.due 0 [])
    (c0 c1 : Value) (hR : BoxN w rb 78 #[c0, c1]) (hr6 : 6 ≤ rb) (f : Int) (hf0 : 0 ≤ f) (hf1 : f ≤ 18446744073709551615) (hfe : (f % 2 == 1) = false) (up : TokE) (hup : up ∈ tks) (hlive : ∀ t ∈ tks, t.pd = false) (hak : l.ak = 1) (hau : l.au = up.n)
    (now : Int) (hn0 : 0 ≤ now) (hn1 : now ≤ 18446744073709551615) (hdue : decide (l.at_ ≤ max tm now) = true) (a b c d : Int) :
    Calls Tryz.prog 25 #[.pointer (some ⟨hb, 0, none⟩), .int .u64 now, .int .u64 f, fallV a b c d] w fun e w' => ∃ vx' g cap, e = .returned (.tuple #[.slice (some ⟨g, 0, none⟩) 1 cap, .int .i64 0]) ∧ Tryz.Sys w' hb db rb vb mt ml vx' (max tm now) tn ln tks [] ∧ vx'.rv = vx.rv ∧ vx'.tk = false ∧ w'.ownsRow 6 157 3 vx'.due 0 [] ∧ Tryz.RevAt w' rb (f / 2) (.slice (some ⟨g, 0, none⟩) 1 cap) 1 [.string ⟨(nmStr 2 l.n).toArray⟩] ∧ Spares (db :: tickB vb mt ml rb (.slice none 0 0) vx.due) w w' := by
  obtain ⟨m1, m2, p, hD⟩ := hS.disk
  have hH := hS.host
  have hV := hS.v
  have hne := hH.ne hD (by decide)
  have lH := hH.lt
  have lD := hD.lt
  have lR := hR.lt
  have hB0 : Below w.heap.size w (w.alloc (.cells #[.int .i64 a, .int .i64 b, .int .i64 c, .int .i64 d] 29)) := (Below.refl _ w).alloc (Nat.le_refl _) _
  have bF := BoxN.new w 29 #[.int .i64 a, .int .i64 b, .int .i64 c, .int .i64 d]
  have h2 := hH.cell 2 (v := .pointer (some ⟨vb, 0, none⟩)) rfl
  have hBf := Tryz.before hb db _ _ _ _ _ _ _ _ a b c d _ (hH.alloc (.cells #[.int .i64 a, .int .i64 b, .int .i64 c, .int .i64 d] 29)) (hD.alloc _)
  have hV0 := hV.below hB0
  unfold fallV at hBf ⊢
  go_enter Tryz.func25, Tryz.ntmps25
  go_wp2_with (go_at_call 26; refine hBf.mono ?_; rintro e w1 ⟨rfl, bD1, hg1⟩; have bH1 := (hH.alloc (.cells #[.int .i64 a, .int .i64 b, .int .i64 c, .int .i64 d] 29)).kept hg1 (by intro e; injection e with e; exact hne e); have bR1 := (hR.alloc (.cells #[.int .i64 a, .int .i64 b, .int .i64 c, .int .i64 d] 29)).kept hg1 (by intro e; injection e with e; exact hR.ne hD (by decide) e))
  have bF1 := bF.kept hg1 (by intro e; injection e with e; omega)
  have hV1 := hV0.grown (hD.alloc _) hS.d6 hg1 (by decide) (by decide) (by decide)
  have hS1 : Spares (db :: tickB vb mt ml rb (.slice none 0 0) vx.due) w w1 := (Spares.of_below hB0).trans (Spares.of_grown hg1 (by simp))
  have hrow1 := Tryz.nilRow_spares (ownsRow_below hrow hB0) (Spares.of_grown (bs := [db]) hg1 (by simp)) (fun q hq hm => by
    obtain ⟨-, cs, hB⟩ := Tryz.row_box (ownsRow_below hrow hB0) hq
    exact hB.ne (hD.alloc _) (by decide) (List.mem_singleton.1 hm))
  have hE1 : Tryz.ErrT w1 := hS.err.below ((hB0.mono hV.va.six).grown hg1 (by have := hV.va.six; simp; omega) (fun q hq => by cases hq; exact hS.d6))
  have r1 := bH1.cell 1 (v := .pointer (some ⟨rb, 0, none⟩)) rfl
  have cc0 := bR1.cell 0 (v := c0) rfl
  have cc1 := bR1.cell 1 (v := c1) rfl
  have ff0 := bR1.frozen 0
  have ff1 := bR1.frozen 1
  have hHR := bH1.ne bR1 (by decide)
  clear hBf hg1 h2 hB0 hV0
  go_region
  have bR2 : BoxN ((w1.setCell ⟨rb, 0, none⟩ (.slice none 0 0)).setCell ⟨rb, 1, none⟩ (.int .u64 f)).drew rb 78 #[.slice none 0 0, .int .u64 f] := (bR1.set 0 (.slice none 0 0)).set 1 (.int .u64 f)
  have hSr : Spares [rb] w1 ((w1.setCell ⟨rb, 0, none⟩ (.slice none 0 0)).setCell ⟨rb, 1, none⟩ (.int .u64 f)).drew := (((Spares.of_below (Below.refl _ w1)).set (by simp) _ _).set (by simp) _ _).drew
  clear r1 cc0 cc1 ff0 ff1
  generalize ((w1.setCell ⟨rb, 0, none⟩ (.slice none 0 0)).setCell ⟨rb, 1, none⟩ (.int .u64 f)).drew = W2 at *
  have hV2 := hV1.spares hSr (fun q hq => by obtain rfl := List.mem_singleton.1 hq; exact ⟨hr6, _, _, bR1, by decide, by decide, by decide⟩)
  have bH2 := hSr.box bH1 (fun hm => hHR (List.mem_singleton.1 hm))
  have bD2 := hSr.box bD1 (fun hm => bD1.ne bR1 (by decide) (List.mem_singleton.1 hm))
  have bF2 := hSr.box bF1 (fun hm => bF1.ne bR1 (by decide) (List.mem_singleton.1 hm))
  have hrow2 := Tryz.nilRow_spares hrow1 hSr (fun q hq hm => by
    obtain ⟨-, cs, hB⟩ := Tryz.row_box hrow1 hq
    exact hB.ne bR1 (by decide) (List.mem_singleton.1 hm))
  have hE2 : Tryz.ErrT W2 := hE1.below (hSr.below hV1.va.six (fun q hq => by obtain rfl := List.mem_singleton.1 hq; exact hr6))
  have hS2 : Spares (db :: tickB vb mt ml rb (.slice none 0 0) vx.due) w W2 := hS1.trans (hSr.mono (fun q hq => by obtain rfl := List.mem_singleton.1 hq; simp [tickB, revB]))
  have hRA : Tryz.RevAt W2 rb f (.slice none 0 0) 0 [] := ⟨bR2, World.ownsRow_nil _ _ _ _, hr6⟩
  have hTk := Tryz.vTick_ok vb mt ml rb vx tm tn ln tks l W2 hV2 hrv htk hrow2 f hf0 hf1 hfe _ 0 [] (by omega) hRA up hup hlive hak hau now hn0 hn1 hdue
  have hnt : ∀ {q : Nat} {t : TypeId} {cs : Array Value}, BoxN W2 q t cs → t ≠ 108 → t ≠ 78 → t ≠ 157 → q ∉ tickB vb mt ml rb (.slice none 0 0) vx.due := fun hB h1 h2 h3 hm => by
    obtain ⟨⟨k1, -, hm1⟩, ⟨k2, -, hm2⟩, -, -⟩ := hV2.va.held
    simp only [tickB, revB, List.mem_cons, List.mem_append] at hm
    rcases hm with e | e | e | ⟨e | e⟩ | e
    · exact hB.ne hV2.va.v h1 e
    · exact hB.ne_map hm1 e.symm
    · exact hB.ne_map hm2 e.symm
    · exact hB.ne bR2 h2 e
    · simp [Value.ownBlock] at e
    · obtain ⟨-, cs, hB'⟩ := Tryz.row_box hrow2 (by simpa using e)
      exact h3 (hB.type_eq hB')
  have hs6 : ∀ q ∈ tickB vb mt ml rb (.slice none 0 0) vx.due, 6 ≤ q := fun q hm => by
    simp only [tickB, revB, List.mem_cons, List.mem_append] at hm
    rcases hm with rfl | rfl | rfl | ⟨rfl | e⟩ | e
    · exact hV2.v6
    · exact hV2.m6
    · exact hV2.l6
    · exact hr6
    · simp [Value.ownBlock] at e
    · exact (Tryz.row_box hrow2 (by simpa using e)).1
  have h22 := bH2.cell 2 (v := .pointer (some ⟨vb, 0, none⟩)) rfl
  clear hV1 bH1 bD1 bF1 hrow1 hE1 hS1 hSr bR1
  go_wp2_with (first
    | (go_at_call 44; refine hTk.mono ?_; rintro e w3 ⟨rfl, vx', g, cap, hV3, hrv3, htk3, r3, hR3, hs3⟩; have bH3 := hs3.box bH2 (hnt bH2 (by decide) (by decide) (by decide)); have bD3 := hs3.box bD2 (hnt bD2 (by decide) (by decide) (by decide)); have bF3 := hs3.box bF2 (hnt bF2 (by decide) (by decide) (by decide)); have g0 := bF3.cell 0 (v := .int .i64 a) rfl; have g1 := bF3.cell 1 (v := .int .i64 b) rfl; have g2 := bF3.cell 2 (v := .int .i64 c) rfl; have g3 := bF3.cell 3 (v := .int .i64 d) rfl; have hBa := Tryz.after hb db _ _ _ _ _ _ _ a b c d _ bH3 bD3; unfold fallV at hBa; have HS3 := hid_intro hs3; clear hs3)
    | (go_at_call 28; refine hBa.mono ?_; rintro e w4 ⟨rfl, bD4, hg4⟩; have HG4 := hid_intro hg4; clear hg4))
  have hg4 := hid_elim HG4
  have hs3 := hid_elim HS3
  have hE3 : Tryz.ErrT w3 := hE2.below (hs3.below hV2.va.six hs6)
  have bH4 := bH3.kept hg4 (by intro e; injection e with e; exact hne e)
  have hV4 := hV3.grown bD3 hS.d6 hg4 (by decide) (by decide) (by decide)
  have hR4 := hR3.spares (Spares.of_grown (bs := [db]) hg4 (by simp)) (fun q hq => by obtain rfl := List.mem_singleton.1 hq; exact ⟨_, _, bD3, by decide, by decide⟩)
  have r4 := Tryz.nilRow_spares r3 (Spares.of_grown (bs := [db]) hg4 (by simp)) (fun q hq hm => by
    obtain ⟨-, cs, hB⟩ := Tryz.row_box r3 hq
    exact hB.ne bD3 (by decide) (List.mem_singleton.1 hm))
  have hE4 : Tryz.ErrT w4 := hE3.below ⟨hg4.os, hg4.tape, hg4.output, hg4.size, fun q hq => hg4.block q (by have := hV3.va.six; omega) (by intro e; injection e with e; have := hS.d6; omega)⟩
  have hS4 : Spares (db :: tickB vb mt ml rb (.slice none 0 0) vx.due) w w4 := (hS2.trans (hs3.mono (fun q hq => List.mem_cons_of_mem _ hq))).trans (Spares.of_grown hg4 (by simp))
  have hP4 : Tryz.CallsP hb rb (.slice (some ⟨g, 0, none⟩) 1 cap) w4 := ⟨bH4.cell 1 rfl, hR4.box.cell 0 rfl⟩
  clear HG4 HS3 hg4 hs3 hE3 hV3 hR3 r3 bH3 bD3 bF3 g0 g1 g2 g3 hBa hTk hnt hs6 hRA hE2 hV2 hS2 bH2 bD2 bF2 hrow2 h22 bR2
  refine wp_region_held_drew (S := Tryz.CallsP hb rb (.slice (some ⟨g, 0, none⟩) 1 cap)) (by kernel_rfl) hP4 (fun hS0 => ?_)
  refine wpAnyH_take (i := 0) (v := ?v0) rfl (by kernel_rfl) (by kernel_rfl) (by kernel_rfl) (fun _ _ _ h => h) (Or.inl ⟨by rfl, ?y0⟩) hS0 ?_
  case y0 => (intro w hSw; obtain ⟨q0, q1⟩ := hSw; go_simp; try with_reducible rfl)
  refine wpAnyH_take (i := 1) (v := ?v1) rfl (by kernel_rfl) (by kernel_rfl) (by kernel_rfl) (fun _ _ _ h => h) (Or.inl ⟨by rfl, ?y1⟩) hS0 ?_
  case y1 => (intro w hSw; obtain ⟨q0, q1⟩ := hSw; go_simp; try with_reducible rfl)
  refine wpAnyH_take (i := 2) (v := ?v2) rfl (by kernel_rfl) (by kernel_rfl) (by kernel_rfl) (fun _ _ _ h => h) (Or.inl ⟨by rfl, ?y2⟩) hS0 ?_
  case y2 => (intro w hSw; obtain ⟨q0, q1⟩ := hSw; go_simp; try with_reducible rfl)
  refine wpAnyH_take (i := 3) (v := ?v3) rfl (by kernel_rfl) (by kernel_rfl) (by kernel_rfl) (fun _ _ _ h => h) (Or.inl ⟨by rfl, ?y3⟩) hS0 ?_
  case y3 => (intro w hSw; obtain ⟨q0, q1⟩ := hSw; go_simp; try with_reducible rfl)
  refine wpAnyH_take (i := 4) (v := ?v4) rfl (by kernel_rfl) (by kernel_rfl) (by kernel_rfl) (fun _ _ _ h => h) (Or.inl ⟨by rfl, ?y4⟩) hS0 ?_
  case y4 => (intro w hSw; obtain ⟨q0, q1⟩ := hSw; go_simp; try with_reducible rfl)
  refine wpAnyH_take (i := 5) (v := ?v5) rfl (by kernel_rfl) (by kernel_rfl) (by kernel_rfl) (fun _ _ _ h => h) (Or.inl ⟨by rfl, ?y5⟩) hS0 ?_
  case y5 => (intro w hSw; obtain ⟨q0, q1⟩ := hSw; go_simp; try with_reducible rfl)
  refine wpAnyH_take (i := 6) (v := ?v6) rfl (by kernel_rfl) (by kernel_rfl) (by kernel_rfl) (fun _ _ _ h => h) (Or.inl ⟨by rfl, ?y6⟩) hS0 ?_
  case y6 => (intro w hSw; obtain ⟨q0, q1⟩ := hSw; go_simp; try with_reducible rfl)
  refine wpAnyH_take (i := 7) (v := ?v7) rfl (by kernel_rfl) (by kernel_rfl) (by kernel_rfl) (fun _ _ _ h => h) (Or.inl ⟨by rfl, ?y7⟩) hS0 ?_
  case y7 => (intro w hSw; obtain ⟨q0, q1⟩ := hSw; go_simp; try with_reducible rfl)
  refine wpAnyH_ready (rs := [8]) (by kernel_rfl) (by simp) ?_
  refine AllReadyH.cons rfl (fun K hK => ?_) AllReadyH.nil
  go_simp
  refine (Tryz.told_nil _).mono ?_
  rintro e w5 ⟨rfl, hb5⟩
  have hb45 : Below w4.heap.size w4 w5 := ((Below.refl _ w4).drew).trans hb5
  have hP5 : Tryz.CallsP hb rb (.slice (some ⟨g, 0, none⟩) 1 cap) w5 := ⟨cell_below hb45 hP4.1, cell_below hb45 hP4.2⟩
  refine hK.out _ _ hP5 (fun hS1 => ?_)
  clear hK K
  refine wpAnyH_take (i := 9) (v := ?v9) rfl (by kernel_rfl) (by kernel_rfl) (by kernel_rfl) (fun _ _ _ h => h) (Or.inl ⟨by rfl, ?y9⟩) hS1 ?_
  case y9 => (intro w hSw; obtain ⟨q0, q1⟩ := hSw; go_simp; try with_reducible rfl)
  refine wpAnyH_take (i := 10) (v := ?v10) rfl (by kernel_rfl) (by kernel_rfl) (by kernel_rfl) (fun _ _ _ h => h) (Or.inl ⟨by rfl, ?y10⟩) hS1 ?_
  case y10 => (intro w hSw; obtain ⟨q0, q1⟩ := hSw; go_simp; try with_reducible rfl)
  refine wpAnyH_done (by kernel_rfl) ?_ _
  go_wp2
  exact bodyPost_ret (v := .tuple #[.slice (some ⟨g, 0, none⟩) 1 cap, .int .i64 0]) (by simp [results, Tryz.results25, go_sem]) rfl ⟨vx', g, cap, rfl, ⟨bH4.below hb45 bH4.lt, ⟨m1, m2, p, bD4.below hb45 bD4.lt⟩, hV4.below hb45, hE4.below (hb45.mono hV4.va.six), hS.h6, hS.d6⟩, hrv3, htk3, ownsRow_below r4 hb45, hR4.below hb45, hS4.trans (Spares.of_below hb45)⟩
end Go.Proofs

/-
  plain.Host's calls at a vault that has the root alone, and leases of it.
-/
namespace Go.Proofs
open Go.RowKit Go.Sort Go.Lib Go.Shelf Go.Maps Go.WideMaps

abbrev rootE (bt : Nat) : TokE := ⟨0, 0, 0, 18446744073709551615, 0, false, bt⟩
theorem nm_t0 : nmStr 1 0 = [116, 48] := by simp [nmStr, Lib.decDigits_one]
theorem parse_t0 : parseN [116, 48] = (1, ((0 : Nat) : Int)) := by
  have h := parseN_nm true (n := 0) (by decide)
  rw [show kd true = 1 from rfl, nm_t0] at h
  exact h
theorem parse_lea {n : Nat} (h : n < u64lim) : parseN (nmStr 2 n) = (2, (n : Int)) := parseN_nm false h

section
variable {hb db rb vb mt ml : Nat} {vx : VX} {tm : Int} {ln bt : Nat} {lks : List LeaE} {w : World}
theorem Tryz.Sys.ne (hS : Tryz.Sys w hb db rb vb mt ml vx tm 0 ln [rootE bt] lks) : vb ≠ hb ∧ vb ≠ db ∧ ml ≠ hb ∧ ml ≠ db ∧ vb < w.heap.size ∧ ml < w.heap.size := by
  obtain ⟨m1, m2, p, hD⟩ := hS.disk
  obtain ⟨⟨k1, -, hm1⟩, ⟨k2, -, hm2⟩, -, -⟩ := hS.v.va.held
  exact ⟨hS.v.va.v.ne hS.host (by decide), hS.v.va.v.ne hD (by decide), hS.host.ne_map hm2, hD.ne_map hm2, hS.v.va.v.lt, hm2.lt⟩

theorem Tryz.kIssue (hS : Tryz.Sys w hb db rb vb mt ml vx tm 0 ln [rootE bt] lks) (pth : List UInt8) (hpl : pth.length ≤ 1000000) (hpv : pathI pth = true) (ttl most : Int) (h1 : 0 < ttl) (h2 : ttl ≤ most) (h3 : most ≤ 18446744073709551615) (h14 : lks.length < 14) (hln : ln < 1000000) (htm : tm ≠ 18446744073709551615) (a b c d : Int) :
    Calls Tryz.prog 13 #[.pointer (some ⟨hb, 0, none⟩), .string ⟨#[116, 48]⟩, .string ⟨pth.toArray⟩, .int .u64 ttl, .int .u64 most, fallV a b c d] w fun e w' => ∃ nb, w.heap.size ≤ nb ∧ e = .returned (.tuple #[.string ⟨(nmStr 2 (ln + 1)).toArray⟩, .int .i64 0]) ∧ Tryz.Sys w' hb db rb vb mt ml vx tm 0 (ln + 1) [rootE bt] (lks ++ [⟨ln + 1, 1, 0, plusI tm ttl, 0, false, pth, plusI tm most, nb⟩]) ∧ Spares [db, vb, ml] w w' := by
  obtain ⟨n1, n2, n3, n4, l1, l2⟩ := hS.ne
  have hv6 := hS.v.v6
  have hl6 := hS.v.l6
  have h := Tryz.hIssue hb db rb vb mt ml vx tm 0 ln [rootE bt] lks w hS [116, 48] pth ttl most a b c d (.string ⟨(nmStr 2 (ln + 1)).toArray⟩) .nilIface 0 (fun W _ => Tryz.told_nil W) [vb, ml] (fun x hx => by
      rcases List.mem_cons.1 hx with rfl | hx
      · exact ⟨hv6, n1, n2, l1⟩
      · obtain rfl := List.mem_singleton.1 hx
        exact ⟨hl6, n3, n4, l2⟩)
    (fun tn' ln' tks' lks' => tn' = 0 ∧ ln' = ln + 1 ∧ tks' = [rootE bt] ∧ ∃ nb, w.heap.size ≤ nb ∧ lks' = lks ++ [⟨ln + 1, 1, 0, plusI tm ttl, 0, false, pth, plusI tm most, nb⟩])
    (fun W hsz hV => by
      have hMay : ∀ W', Below W.heap.size W W' → Calls Tryz.prog 46 #[.pointer (some ⟨vb, 0, none⟩), nmV (parseN [116, 48]), .string ⟨pth.toArray⟩, .int .u64 ttl, .int .u64 most] W' fun e w' => e = .returned .nilIface ∧ Below W'.heap.size W' w' := fun W' hb' => by
        have hm := Tryz.mayIssue vb mt ml vx tm (0 : Nat) ln [rootE bt] lks W' (hV.va.below hb') (parseN [116, 48]) true pth hpl ttl most (fun W2 hb2 => by
          rw [parse_t0]
          exact Tryz.isLive_hit vb mt ml vx tm _ _ [rootE bt] lks W2 ((hV.va.below hb').below hb2) (rootE bt) (by simp))
        have he : mayE true (pathI pth) ttl most lks.length tm = 0 := by
          unfold mayE
          rw [hpv, if_neg (by simp), if_neg (by simp), if_neg (by omega), if_neg (by omega), if_neg htm]
        rw [he] at hm
        exact hm
      refine (Tryz.vIssue_ok vb mt ml vx tm 0 ln [rootE bt] lks W hV [116, 48] pth (by simp) ttl most (by omega) (by omega) (by omega) h3 0 (by decide) parse_t0 hMay h14 (by omega)).mono ?_
      rintro e w' ⟨nb, hnb, rfl, hV', hs⟩
      exact ⟨0, ln + 1, [rootE bt], _, ⟨rfl, rfl, rfl, nb, Nat.le_trans hsz hnb, rfl⟩, rfl, hV', hs⟩)
  refine h.mono ?_
  rintro e w' ⟨tn', ln', tks', lks', ⟨rfl, rfl, rfl, nb, hnb, rfl⟩, rfl, hS', hs⟩
  exact ⟨nb, hnb, rfl, hS', hs⟩

theorem Tryz.kAuth (hS : Tryz.Sys w hb db rb vb mt ml vx tm 0 ln [rootE bt] lks) (l : LeaE) (hl : l ∈ lks) (pth : List UInt8) :
    Calls Tryz.prog 22 #[.pointer (some ⟨hb, 0, none⟩), .string ⟨(nmStr 2 l.n).toArray⟩, .string ⟨pth.toArray⟩] w fun e w' => e = .returned (.bool ((!l.pd && decide (tm < l.at_)) && (l.pth == pth))) ∧ Below w.heap.size w w' := by
  have hlim := (hS.v.va.ok.limL l hl).1
  have hidl : (nmStr 2 l.n).length ≤ 1000000 := by
    have := decDigits_len l.n hlim
    simp [nmStr]
    omega
  cases hlv : (!l.pd && decide (tm < l.at_))
  · have hF := Tryz.liveLease_hit vb mt ml vx tm _ _ [rootE bt] lks w hS.v.va (nmStr 2 l.n) hidl l hl (parse_lea hlim)
    rw [if_neg (by simp [hlv])] at hF
    exact Tryz.hAuth hb db rb vb w hS.host _ _ false (Tryz.vAuth_miss vb w _ _ hF)
  · have hF := Tryz.vAuth_hit vb mt ml vx tm _ _ [rootE bt] lks w hS.v.va (nmStr 2 l.n) pth hidl l hl (parse_lea hlim) hlv
    exact Tryz.hAuth hb db rb vb w hS.host _ _ _ (by simpa using hF)

theorem Tryz.Sys.leaNe (hS : Tryz.Sys w hb db rb vb mt ml vx tm 0 ln [rootE bt] lks) {l : LeaE} (hl : l ∈ lks) : 6 ≤ l.blk ∧ l.blk ≠ hb ∧ l.blk ≠ db ∧ l.blk < w.heap.size := by
  obtain ⟨m1, m2, p, hD⟩ := hS.disk
  have hB := hS.v.va.held.lea l hl
  exact ⟨hS.v.lb6 l hl, hB.ne hS.host (by decide), hB.ne hD (by decide), hB.lt⟩
theorem nm_len {n : Nat} (h : n < u64lim) : (nmStr 2 n).length ≤ 1000000 := by
  have := decDigits_len n h
  simp [nmStr]
  omega

theorem Tryz.kRenew (hS : Tryz.Sys w hb db rb vb mt ml vx tm 0 ln [rootE bt] lks) (k : Nat) (l : LeaE) (hl : lks[k]? = some l) (hlv : (!l.pd && decide (tm < l.at_)) = true) (ttl : Int) (h0 : 0 ≤ ttl) (h1 : ttl ≤ 18446744073709551615) (a b c d : Int) :
    Calls Tryz.prog 23 #[.pointer (some ⟨hb, 0, none⟩), .string ⟨(nmStr 2 l.n).toArray⟩, .int .u64 ttl, fallV a b c d] w fun e w' => e = .returned (.tuple #[.int .u64 (renewL tm ttl l), .int .i64 0]) ∧ Tryz.Sys w' hb db rb vb mt ml vx tm 0 ln [rootE bt] (lks.set k { l with at_ := renewL tm ttl l }) ∧ Spares [db, l.blk] w w' := by
  have hm := List.mem_of_getElem? hl
  have hlim := (hS.v.va.ok.limL l hm).1
  have hne := hS.leaNe hm
  have h := Tryz.hRenew hb db rb vb mt ml vx tm 0 ln [rootE bt] lks w hS (nmStr 2 l.n) ttl a b c d (.int .u64 (renewL tm ttl l)) .nilIface 0 (fun W _ => Tryz.told_nil W) [l.blk] (fun x hx => by obtain rfl := List.mem_singleton.1 hx; exact hne)
    (fun tn' ln' tks' lks' => tn' = 0 ∧ ln' = ln ∧ tks' = [rootE bt] ∧ lks' = lks.set k { l with at_ := renewL tm ttl l })
    (fun W hsz hV => by
      refine (Tryz.vRenew_hit vb mt ml vx tm 0 ln [rootE bt] lks W hV (nmStr 2 l.n) (nm_len hlim) k l hl (parse_lea hlim) hlv ttl h0 h1).mono ?_
      rintro e w' ⟨rfl, hV', hg⟩
      exact ⟨0, ln, [rootE bt], _, ⟨rfl, rfl, rfl, rfl⟩, rfl, hV', Spares.of_grown hg (by simp)⟩)
  refine h.mono ?_
  rintro e w' ⟨tn', ln', tks', lks', ⟨rfl, rfl, rfl, rfl⟩, rfl, hS', hs⟩
  exact ⟨rfl, hS', hs⟩

theorem Tryz.kRevoke (hS : Tryz.Sys w hb db rb vb mt ml vx tm 0 ln [rootE bt] lks) (k : Nat) (l : LeaE) (hl : lks[k]? = some l) (hlv : (!l.pd && decide (tm < l.at_)) = true) (a b c d : Int) :
    Calls Tryz.prog 24 #[.pointer (some ⟨hb, 0, none⟩), .string ⟨(nmStr 2 l.n).toArray⟩, fallV a b c d] w fun e w' => e = .returned (.int .i64 0) ∧ Tryz.Sys w' hb db rb vb mt ml vx tm 0 ln [rootE bt] (lks.set k { l with pd := true, at_ := tm }) ∧ Spares [db, l.blk] w w' := by
  have hm := List.mem_of_getElem? hl
  have hlim := (hS.v.va.ok.limL l hm).1
  have hne := hS.leaNe hm
  have h := Tryz.hRevoke hb db rb vb mt ml vx tm 0 ln [rootE bt] lks w hS (nmStr 2 l.n) a b c d .nilIface 0 (fun W _ => Tryz.told_nil W) [l.blk] (fun x hx => by obtain rfl := List.mem_singleton.1 hx; exact hne)
    (fun tn' ln' tks' lks' => tn' = 0 ∧ ln' = ln ∧ tks' = [rootE bt] ∧ lks' = lks.set k { l with pd := true, at_ := tm })
    (fun W hsz hV => by
      refine (Tryz.vRevoke_hit vb mt ml vx tm 0 ln [rootE bt] lks W hV (nmStr 2 l.n) (nm_len hlim) k l hl (parse_lea hlim) hlv).mono ?_
      rintro e w' ⟨rfl, hV', hg⟩
      exact ⟨0, ln, [rootE bt], _, ⟨rfl, rfl, rfl, rfl⟩, rfl, hV', Spares.of_grown hg (by simp)⟩)
  refine h.mono ?_
  rintro e w' ⟨tn', ln', tks', lks', ⟨rfl, rfl, rfl, rfl⟩, rfl, hS', hs⟩
  exact ⟨rfl, hS', hs⟩

/-- a host over an empty disk, and a vault that is opened over it. -/
theorem Tryz.Sys.start {w0 W : World} {B hb db rb vb mt ml bt n : Nat} {m1 m2 p : Value} (tm : Int) (ht0 : 0 ≤ tm) (ht1 : tm ≤ 18446744073709551615) (hbel : Below B w0 W) (b6 : 6 ≤ B) (hB : B ≤ W.heap.size) (hE : Tryz.Env w0) (hT : Tryz.ErrT w0)
    (bH : BoxN W hb 64 #[.pointer (some ⟨db, 0, none⟩), .pointer (some ⟨rb, 0, none⟩), .pointer (some ⟨vb, 0, none⟩)]) (bD : BoxN W db 76 #[m1, m2, p, .int .i64 (-1), .int .i64 (-1), .bool false])
    (bV : BoxN W vb 108 #[.iface 61 (.pointer (some ⟨rb, 0, none⟩)), .int .u64 tm, .map (some mt), .map (some ml), .int .u64 0, .int .u64 0, .bool false, .slice none 0 0])
    (hM : W.ownsMap Tryz.prog 97 ptrR mt n (mapD [((1, 0), bt)])) (hn : n ≤ 1) (hL : W.ownsMap Tryz.prog 97 ptrR ml 0 (.map [])) (bT : BoxN W bt 133 #[.int .i64 0, .int .u64 0, .int .u64 18446744073709551615, .int .i64 0, .bool false])
    (l1 : B ≤ hb) (l2 : B ≤ db) (hlow : B ≤ vb ∧ B ≤ mt ∧ B ≤ ml ∧ B ≤ bt ∧ mt ≠ ml) :
    Tryz.Sys W hb db rb vb mt ml ⟨.iface 61 (.pointer (some ⟨rb, 0, none⟩)), false, .slice none 0 0⟩ tm 0 0 [rootE bt] [] := by
  obtain ⟨q1, q2, q3, q4, q5⟩ := hlow
  have hb6 : Below 6 w0 W := hbel.mono b6
  have hok : ListsOk [rootE bt] [] := ⟨by simp, by simp, by simp, by simp, fun t ht => by rw [List.mem_singleton.1 ht]; exact ⟨by show (0 : Nat) < u64lim; decide, by show (0 : Nat) < u64lim; decide⟩, fun l hl => (by cases hl)⟩
  have hV : Tryz.VFull W vb mt ml ⟨.iface 61 (.pointer (some ⟨rb, 0, none⟩)), false, .slice none 0 0⟩ tm 0 0 [rootE bt] [] :=
    ⟨⟨bV, ⟨⟨n, by omega, hM⟩, ⟨0, by omega, hL⟩, fun t ht => by rw [List.mem_singleton.1 ht]; exact bT, fun l hl => (by cases hl)⟩, hok, hE.below hb6 (Nat.le_refl _), by omega⟩, by simp, by simp, fun t ht => by rw [List.mem_singleton.1 ht]; exact Nat.le_refl _, fun l hl => (by cases hl), ht0, ht1, q5, by omega, by omega, by omega, fun t ht => by rw [List.mem_singleton.1 ht]; show 6 ≤ bt; omega, fun l hl => (by cases hl)⟩
  exact ⟨bH, ⟨m1, m2, p, bD⟩, hV, hT.below hb6, by omega, by omega⟩
end
end Go.Proofs

/-
  plain.Host.Open over an empty disk: all that it leaves alone.
-/
namespace Go.Proofs
open Go.RowKit Go.Sort Go.Maps Go.WideMaps

set_option maxRecDepth 100000 in
set_option maxHeartbeats 2000000 in
theorem Tryz.hOpenS (B hb db rb : Nat) (vv m1 m2 p l f : Value) (now a b c d : Int) (w : World) (hH : BoxN w hb 64 #[.pointer (some ⟨db, 0, none⟩), .pointer (some ⟨rb, 0, none⟩), vv]) (hD : BoxN w db 76 #[m1, m2, p, l, f, .bool false]) (hB0 : B ≤ hb) (hB1 : B ≤ db) :
    Calls Tryz.prog 17 #[.pointer (some ⟨hb, 0, none⟩), .int .u64 now, fallV a b c d] w fun e w' => ∃ vb mt ml bt n, e = .returned (.int .i64 0) ∧ BoxN w' hb 64 #[.pointer (some ⟨db, 0, none⟩), .pointer (some ⟨rb, 0, none⟩), .pointer (some ⟨vb, 0, none⟩)] ∧
      BoxN w' db 76 #[m1, m2, p, .int .i64 (-1), .int .i64 (-1), .bool false] ∧
      BoxN w' vb 108 #[.iface 61 (.pointer (some ⟨rb, 0, none⟩)), .int .u64 now, .map (some mt), .map (some ml), .int .u64 0, .int .u64 0, .bool false, .slice none 0 0] ∧
      w'.ownsMap Tryz.prog 97 ptrR mt n (mapD [((1, 0), bt)]) ∧ n ≤ 1 ∧ w'.ownsMap Tryz.prog 97 ptrR ml 0 (.map []) ∧ BoxN w' bt 133 #[.int .i64 0, .int .u64 0, .int .u64 18446744073709551615, .int .i64 0, .bool false] ∧ Below B w w' ∧ ((B ≤ vb ∧ B ≤ mt ∧ B ≤ ml ∧ B ≤ bt ∧ mt ≠ ml) ∧ Spares [hb, db] w w') := by
  have hne := hH.ne hD (by decide)
  have lH := hH.lt
  have lD := hD.lt
  have bF := BoxN.new w 29 #[.int .i64 a, .int .i64 b, .int .i64 c, .int .i64 d]
  have hBf := Tryz.before hb db _ _ _ _ _ _ _ _ a b c d _ (hH.alloc (.cells #[.int .i64 a, .int .i64 b, .int .i64 c, .int .i64 d] 29)) (hD.alloc _)
  unfold fallV at hBf ⊢
  go_enter Tryz.func17, Tryz.ntmps17
  go_wp2_with (go_at_call 26; refine hBf.mono ?_; rintro e w1 ⟨rfl, bD1, hg1⟩)
  have bH1 := (hH.alloc (.cells #[.int .i64 a, .int .i64 b, .int .i64 c, .int .i64 d] 29)).kept hg1 (by simpa using hne)
  have bF1 := bF.kept hg1 (by simp; omega)
  have hP1 : HostP hb db rb w1 := ⟨bH1.cell 0 rfl, bH1.cell 1 rfl⟩
  have l1 := bH1.lt
  have HG1 := hid_intro hg1
  clear hg1 hBf
  go_region_held3 (HostP hb db rb) (first
    | with_reducible exact HostP.drew hP1
    | with_reducible assumption) (first | (go_at_call 32; refine (Tryz.open_ _ rb now _).mono ?_; rintro e w2 ⟨vb, mt, ml, bt, n, rfl, bV, hM, hn, hL, bT, hb2, hvb, hmt, hml, hbt, hmm⟩; have bH2 := BoxN.below (W := w1.drew) bH1 hb2 bH1.lt; have hP2 : HostP hb db rb w2 := ⟨bH2.cell 0 rfl, bH2.cell 1 rfl⟩))
  have bF2 := BoxN.below (W := w1.drew) bF1 hb2 bF1.lt
  have bD2 := BoxN.below (W := w1.drew) bD1 hb2 bD1.lt
  have nF : w.heap.size ≠ hb := by omega
  have nV : vb ≠ hb := by have : hb < w1.drew.heap.size := l1; omega
  have nT := bT.ne bH2 (by decide)
  have bH3 := bH2.set 2 (.pointer (some ⟨vb, 0, none⟩))
  have bF3 := bF2.other nF 2 (.pointer (some ⟨vb, 0, none⟩))
  have bD3 := bD2.other (Ne.symm hne) 2 (.pointer (some ⟨vb, 0, none⟩))
  have bV3 := bV.other nV 2 (.pointer (some ⟨vb, 0, none⟩))
  have bT3 := bT.other nT 2 (.pointer (some ⟨vb, 0, none⟩))
  have hM3 := hM.setCell (a := ⟨hb, 2, none⟩) (bH2.ne_map hM) (.pointer (some ⟨vb, 0, none⟩))
  have hL3 := hL.setCell (a := ⟨hb, 2, none⟩) (bH2.ne_map hL) (.pointer (some ⟨vb, 0, none⟩))
  have hB3 : Below B w (w2.setCell ⟨hb, 2, none⟩ (.pointer (some ⟨vb, 0, none⟩))) := ((((Below.refl B w).alloc (by omega) _).grown (hid_elim HG1) (by simp; omega) (fun q hq => by cases hq; exact hB1)).drew.trans (hb2.mono (by show B ≤ w1.heap.size; omega))).setCell (p := ⟨hb, 2, none⟩) hB0 _
  have hBa := Tryz.after hb db _ _ _ _ _ _ _ a b c d _ bH3 bD3
  have fz := bH2.frozen 2
  have h2 := bH2.cell 2 (v := vv) rfl
  have g0 := bF2.cell 0 (v := .int .i64 a) rfl
  have g1 := bF2.cell 1 (v := .int .i64 b) rfl
  have g2 := bF2.cell 2 (v := .int .i64 c) rfl
  have g3 := bF2.cell 3 (v := .int .i64 d) rfl
  unfold fallV at hBa
  go_wp2_with (first
    | (go_at_call 28; refine hBa.mono ?_; rintro e w4 ⟨rfl, bD4, hg4⟩)
    | (go_at_call 29; refine (Tryz.told_nil _).mono ?_; rintro e w5 ⟨rfl, hb5⟩))
  go_ret
  have kH := bH3.kept hg4 (by intro e; injection e with e; exact hne e)
  have kV := bV3.kept hg4 (by intro e; injection e with e; exact bV3.ne bD3 (by decide) e)
  have kT := bT3.kept hg4 (by intro e; injection e with e; exact bT3.ne bD3 (by decide) e)
  have kM := hM3.kept hg4 (by intro e; injection e with e; exact bD3.ne_map hM3 e)
  have kL := hL3.kept hg4 (by intro e; injection e with e; exact bD3.ne_map hL3 e)
  have hB4 := hB3.grown hg4 (by simp; have := hb2.size; have : hb < w1.drew.heap.size := l1; omega) (fun q hq => by cases hq; exact hB1)
  exact ⟨vb, mt, ml, bt, n, rfl, kH.below hb5 kH.lt, bD4.below hb5 bD4.lt, kV.below hb5 kV.lt, ownsMap_below kM hb5, hn, ownsMap_below kL hb5, kT.below hb5 kT.lt, hB4.trans (hb5.mono (by have := kH.lt; omega)), ⟨by have : w1.drew.heap.size = w1.heap.size := rfl; omega, ((((((Spares.of_below (Below.refl _ w)).alloc _).trans (Spares.of_grown (hid_elim HG1) (by simp))).drew.trans (Spares.of_below hb2)).set (by simp) _ _).trans (Spares.of_grown hg4 (by simp))).trans (Spares.of_below hb5)⟩⟩
end Go.Proofs
