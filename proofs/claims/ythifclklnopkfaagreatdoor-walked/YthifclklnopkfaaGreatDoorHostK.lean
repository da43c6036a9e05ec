import Derived.Test.YthifclklnopkfaaGreatDoorCodeF
import Derived.Test.YthifclklnopkfaaGreatDoorCodeC
import Derived.Test.YthifclklnopkfaaGreatDoorHOpen
import Derived.Test.YthifclklnopkfaaGreatDoorNext
/-
  plain.Host: a vault, its disk and what is kept true of both; the calls that turn something.
-/
namespace Go.Proofs
open Go.RowKit Go.Sort Go.Lib Go.Shelf Go.Maps

/-- what errors.As asks of a package's variable. -/
def Tryz.ErrT (W : World) : Prop := W.cell? ⟨0, 0, none⟩ = some (.iface 211 (.agg #[.pointer (some ⟨6, 67, none⟩)]))
theorem Tryz.ErrT.below {W W' : World} (h : Tryz.ErrT W) (hb : Below 6 W W') : Tryz.ErrT W' := (hb.cell (p := ⟨0, 0, none⟩) (by show 0 < 6; decide)).trans h
structure Tryz.Sys (W : World) (hb db rb vb mt ml : Nat) (vx : VX) (tm : Int) (tn ln : Nat) (tks : List TokE) (lks : List LeaE) : Prop where
  host : BoxN W hb 64 #[.pointer (some ⟨db, 0, none⟩), .pointer (some ⟨rb, 0, none⟩), .pointer (some ⟨vb, 0, none⟩)]
  disk : ∃ m1 m2 p, BoxN W db 76 #[m1, m2, p, .int .i64 (-1), .int .i64 (-1), .bool false]
  v : Tryz.VFull W vb mt ml vx tm tn ln tks lks
  err : Tryz.ErrT W
  h6 : 6 ≤ hb
  d6 : 6 ≤ db
theorem Tryz.Sys.below {W W' : World} {hb db rb vb mt ml : Nat} {vx : VX} {tm : Int} {tn ln : Nat} {tks : List TokE} {lks : List LeaE} (h : Tryz.Sys W hb db rb vb mt ml vx tm tn ln tks lks) (hB : Below W.heap.size W W') : Tryz.Sys W' hb db rb vb mt ml vx tm tn ln tks lks := by
  obtain ⟨m1, m2, p, hd⟩ := h.disk
  exact ⟨h.host.below hB h.host.lt, ⟨m1, m2, p, hd.below hB hd.lt⟩, h.v.below hB, h.err.below (hB.mono h.v.va.six), h.h6, h.d6⟩

set_option maxRecDepth 100000 in
set_option maxHeartbeats 2000000 in
theorem Tryz.hCreate (hb db rb vb mt ml : Nat) (vx : VX) (tm : Int) (tn ln : Nat) (tks : List TokE) (lks : List LeaE) (w : World) (hS : Tryz.Sys w hb db rb vb mt ml vx tm tn ln tks lks) (id : List UInt8) (a b c d : Int) (s er : Value) (k : Int)
    (hT : ∀ W, Tryz.ErrT W → Calls Tryz.prog 29 #[er] W fun e w' => e = .returned (.int .i64 k) ∧ Below W.heap.size W w') (bs : List Nat) (hbs : ∀ x ∈ bs, 6 ≤ x ∧ x ≠ hb ∧ x ≠ db ∧ x < w.heap.size) (Q : Nat → Nat → List TokE → List LeaE → Prop)
    (hC : ∀ W, w.heap.size ≤ W.heap.size → Tryz.VFull W vb mt ml vx tm tn ln tks lks → Calls Tryz.prog 111 #[.pointer (some ⟨vb, 0, none⟩), .string ⟨id.toArray⟩] W fun e w' => ∃ tn' ln' tks' lks', Q tn' ln' tks' lks' ∧ e = .returned (.tuple #[s, er]) ∧ Tryz.VFull w' vb mt ml vx tm tn' ln' tks' lks' ∧ Spares bs W w') :
    Calls Tryz.prog 67 #[.pointer (some ⟨hb, 0, none⟩), .string ⟨id.toArray⟩, fallV a b c d] w fun e w' => ∃ tn' ln' tks' lks', Q tn' ln' tks' lks' ∧ e = .returned (.tuple #[s, .int .i64 k]) ∧ Tryz.Sys w' hb db rb vb mt ml vx tm tn' ln' tks' lks' ∧ Spares (db :: bs) w w' := by
  obtain ⟨m1, m2, p, hD⟩ := hS.disk
  have hH := hS.host
  have hne := hH.ne hD (by decide)
  have lH := hH.lt
  have lD := hD.lt
  have hB0 : Below w.heap.size w (w.alloc (.cells #[.int .i64 a, .int .i64 b, .int .i64 c, .int .i64 d] 29)) := (Below.refl _ w).alloc (Nat.le_refl _) _
  have bF := BoxN.new w 29 #[.int .i64 a, .int .i64 b, .int .i64 c, .int .i64 d]
  have h2 := hH.cell 2 (v := .pointer (some ⟨vb, 0, none⟩)) rfl
  have hBf := Tryz.before hb db _ _ _ _ _ _ _ _ a b c d _ (hH.alloc (.cells #[.int .i64 a, .int .i64 b, .int .i64 c, .int .i64 d] 29)) (hD.alloc _)
  have hV0 := hS.v.below hB0
  unfold fallV at hBf ⊢
  go_enter Tryz.func67, Tryz.ntmps67
  go_wp2_with (first
    | (go_at_call 26; refine hBf.mono ?_; rintro e w1 ⟨rfl, bD1, hg1⟩; have bH1 := (hH.alloc (.cells #[.int .i64 a, .int .i64 b, .int .i64 c, .int .i64 d] 29)).kept hg1 (by intro e; injection e with e; exact hne e); have bF1 := bF.kept hg1 (by intro e; injection e with e; omega); have hV1 := hV0.grown (hD.alloc _) hS.d6 hg1 (by decide) (by decide) (by decide); have hC1 := hC w1 (by have := hg1.size; simp at this; omega) hV1; have h21 := bH1.cell 2 (v := .pointer (some ⟨vb, 0, none⟩)) rfl; have f0 := bF1.cell 0 (v := .int .i64 a) rfl; have f1 := bF1.cell 1 (v := .int .i64 b) rfl; have f2 := bF1.cell 2 (v := .int .i64 c) rfl; have f3 := bF1.cell 3 (v := .int .i64 d) rfl; have HG1 := hid_intro hg1; clear hg1)
    | (go_at_call 111; refine hC1.mono ?_; rintro e w2 ⟨tn', ln', tks', lks', hQ, rfl, hV2, hs2⟩; have bH2 := hs2.box bH1 (fun hx => (hbs _ hx).2.1 rfl); have bD2 := hs2.box bD1 (fun hx => (hbs _ hx).2.2.1 rfl); have bF2 := hs2.box bF1 (fun hx => by have := (hbs _ hx).2.2.2; omega); have g0 := bF2.cell 0 (v := .int .i64 a) rfl; have g1 := bF2.cell 1 (v := .int .i64 b) rfl; have g2 := bF2.cell 2 (v := .int .i64 c) rfl; have g3 := bF2.cell 3 (v := .int .i64 d) rfl; have hBa := Tryz.after hb db _ _ _ _ _ _ _ a b c d _ bH2 bD2; unfold fallV at hBa; have HS2 := hid_intro hs2; clear hs2)
    | (go_at_call 28; refine hBa.mono ?_; rintro e w3 ⟨rfl, bD3, hg3⟩; have hE3 : Tryz.ErrT w3 := (hS.err.below (((hB0.mono hS.v.va.six).grown (hid_elim HG1) (by have := hS.v.va.six; simp; omega) (fun q hq => by cases hq; exact hS.d6)).trans (((hid_elim HS2).below (by have := hV1.va.six; exact this) (fun x hx => (hbs x hx).1)))) |>.below ⟨hg3.os, hg3.tape, hg3.output, hg3.size, fun q hq => hg3.block q (by have := hV2.va.six; omega) (by intro e; injection e with e; have := hS.d6; omega)⟩); have HG3 := hid_intro hg3; clear hg3)
    | (go_at_call 29; refine (hT _ hE3).mono ?_; rintro e w4 ⟨rfl, hb4⟩))
  have hg1 := hid_elim HG1
  have hs2 := hid_elim HS2
  have hg3 := hid_elim HG3
  have bH3 := bH2.kept hg3 (by intro e; injection e with e; exact hne e)
  have hV3 := hV2.grown bD2 hS.d6 hg3 (by decide) (by decide) (by decide)
  have hsp : Spares (db :: bs) w w4 := ((((Spares.of_below hB0).trans (Spares.of_grown hg1 (by simp))).trans (hs2.mono (fun x hx => List.mem_cons_of_mem _ hx))).trans (Spares.of_grown hg3 (by simp))).trans (Spares.of_below hb4)
  exact bodyPost_ret (v := .tuple #[s, .int .i64 k]) (by simp [results, Tryz.results67, go_sem]) rfl ⟨tn', ln', tks', lks', hQ, rfl, ⟨bH3.below hb4 bH3.lt, ⟨m1, m2, p, bD3.below hb4 bD3.lt⟩, hV3.below hb4, hE3.below (hb4.mono hV3.va.six), hS.h6, hS.d6⟩, hsp⟩

end Go.Proofs

/-
  plain.Host: Issue, Renew, Authorize.
-/
namespace Go.Proofs
open Go.RowKit Go.Sort Go.Lib Go.Shelf Go.Maps

set_option maxRecDepth 100000 in
set_option maxHeartbeats 2000000 in
theorem Tryz.hIssue (hb db rb vb mt ml : Nat) (vx : VX) (tm : Int) (tn ln : Nat) (tks : List TokE) (lks : List LeaE) (w : World) (hS : Tryz.Sys w hb db rb vb mt ml vx tm tn ln tks lks) (id pth : List UInt8) (ttl most : Int) (a b c d : Int) (s er : Value) (k : Int)
    (hT : ∀ W, Tryz.ErrT W → Calls Tryz.prog 29 #[er] W fun e w' => e = .returned (.int .i64 k) ∧ Below W.heap.size W w') (bs : List Nat) (hbs : ∀ x ∈ bs, 6 ≤ x ∧ x ≠ hb ∧ x ≠ db ∧ x < w.heap.size) (Q : Nat → Nat → List TokE → List LeaE → Prop)
    (hC : ∀ W, w.heap.size ≤ W.heap.size → Tryz.VFull W vb mt ml vx tm tn ln tks lks → Calls Tryz.prog 27 #[.pointer (some ⟨vb, 0, none⟩), .string ⟨id.toArray⟩, .string ⟨pth.toArray⟩, .int .u64 ttl, .int .u64 most] W fun e w' => ∃ tn' ln' tks' lks', Q tn' ln' tks' lks' ∧ e = .returned (.tuple #[s, er]) ∧ Tryz.VFull w' vb mt ml vx tm tn' ln' tks' lks' ∧ Spares bs W w') :
    Calls Tryz.prog 13 #[.pointer (some ⟨hb, 0, none⟩), .string ⟨id.toArray⟩, .string ⟨pth.toArray⟩, .int .u64 ttl, .int .u64 most, fallV a b c d] w fun e w' => ∃ tn' ln' tks' lks', Q tn' ln' tks' lks' ∧ e = .returned (.tuple #[s, .int .i64 k]) ∧ Tryz.Sys w' hb db rb vb mt ml vx tm tn' ln' tks' lks' ∧ Spares (db :: bs) w w' := by
  obtain ⟨m1, m2, p, hD⟩ := hS.disk
  have hH := hS.host
  have hne := hH.ne hD (by decide)
  have lH := hH.lt
  have lD := hD.lt
  have hB0 : Below w.heap.size w (w.alloc (.cells #[.int .i64 a, .int .i64 b, .int .i64 c, .int .i64 d] 29)) := (Below.refl _ w).alloc (Nat.le_refl _) _
  have bF := BoxN.new w 29 #[.int .i64 a, .int .i64 b, .int .i64 c, .int .i64 d]
  have h2 := hH.cell 2 (v := .pointer (some ⟨vb, 0, none⟩)) rfl
  have hBf := Tryz.before hb db _ _ _ _ _ _ _ _ a b c d _ (hH.alloc (.cells #[.int .i64 a, .int .i64 b, .int .i64 c, .int .i64 d] 29)) (hD.alloc _)
  have hV0 := hS.v.below hB0
  unfold fallV at hBf ⊢
  go_enter Tryz.func13, Tryz.ntmps13
  go_wp2_with (first
    | (go_at_call 26; refine hBf.mono ?_; rintro e w1 ⟨rfl, bD1, hg1⟩; have bH1 := (hH.alloc (.cells #[.int .i64 a, .int .i64 b, .int .i64 c, .int .i64 d] 29)).kept hg1 (by intro e; injection e with e; exact hne e); have bF1 := bF.kept hg1 (by intro e; injection e with e; omega); have hV1 := hV0.grown (hD.alloc _) hS.d6 hg1 (by decide) (by decide) (by decide); have hC1 := hC w1 (by have := hg1.size; simp at this; omega) hV1; have h21 := bH1.cell 2 (v := .pointer (some ⟨vb, 0, none⟩)) rfl; have f0 := bF1.cell 0 (v := .int .i64 a) rfl; have f1 := bF1.cell 1 (v := .int .i64 b) rfl; have f2 := bF1.cell 2 (v := .int .i64 c) rfl; have f3 := bF1.cell 3 (v := .int .i64 d) rfl; have HG1 := hid_intro hg1; clear hg1)
    | (go_at_call 27; refine hC1.mono ?_; rintro e w2 ⟨tn', ln', tks', lks', hQ, rfl, hV2, hs2⟩; have bH2 := hs2.box bH1 (fun hx => (hbs _ hx).2.1 rfl); have bD2 := hs2.box bD1 (fun hx => (hbs _ hx).2.2.1 rfl); have bF2 := hs2.box bF1 (fun hx => by have := (hbs _ hx).2.2.2; omega); have g0 := bF2.cell 0 (v := .int .i64 a) rfl; have g1 := bF2.cell 1 (v := .int .i64 b) rfl; have g2 := bF2.cell 2 (v := .int .i64 c) rfl; have g3 := bF2.cell 3 (v := .int .i64 d) rfl; have hBa := Tryz.after hb db _ _ _ _ _ _ _ a b c d _ bH2 bD2; unfold fallV at hBa; have HS2 := hid_intro hs2; clear hs2)
    | (go_at_call 28; refine hBa.mono ?_; rintro e w3 ⟨rfl, bD3, hg3⟩; have hE3 : Tryz.ErrT w3 := (hS.err.below (((hB0.mono hS.v.va.six).grown (hid_elim HG1) (by have := hS.v.va.six; simp; omega) (fun q hq => by cases hq; exact hS.d6)).trans (((hid_elim HS2).below (by have := hV1.va.six; exact this) (fun x hx => (hbs x hx).1)))) |>.below ⟨hg3.os, hg3.tape, hg3.output, hg3.size, fun q hq => hg3.block q (by have := hV2.va.six; omega) (by intro e; injection e with e; have := hS.d6; omega)⟩); have HG3 := hid_intro hg3; clear hg3)
    | (go_at_call 29; refine (hT _ hE3).mono ?_; rintro e w4 ⟨rfl, hb4⟩))
  have hg1 := hid_elim HG1
  have hs2 := hid_elim HS2
  have hg3 := hid_elim HG3
  have bH3 := bH2.kept hg3 (by intro e; injection e with e; exact hne e)
  have hV3 := hV2.grown bD2 hS.d6 hg3 (by decide) (by decide) (by decide)
  have hsp : Spares (db :: bs) w w4 := ((((Spares.of_below hB0).trans (Spares.of_grown hg1 (by simp))).trans (hs2.mono (fun x hx => List.mem_cons_of_mem _ hx))).trans (Spares.of_grown hg3 (by simp))).trans (Spares.of_below hb4)
  exact bodyPost_ret (v := .tuple #[s, .int .i64 k]) (by simp [results, Tryz.results13, go_sem]) rfl ⟨tn', ln', tks', lks', hQ, rfl, ⟨bH3.below hb4 bH3.lt, ⟨m1, m2, p, bD3.below hb4 bD3.lt⟩, hV3.below hb4, hE3.below (hb4.mono hV3.va.six), hS.h6, hS.d6⟩, hsp⟩

set_option maxRecDepth 100000 in
set_option maxHeartbeats 2000000 in
theorem Tryz.hRenew (hb db rb vb mt ml : Nat) (vx : VX) (tm : Int) (tn ln : Nat) (tks : List TokE) (lks : List LeaE) (w : World) (hS : Tryz.Sys w hb db rb vb mt ml vx tm tn ln tks lks) (id : List UInt8) (ttl : Int) (a b c d : Int) (s er : Value) (k : Int)
    (hT : ∀ W, Tryz.ErrT W → Calls Tryz.prog 29 #[er] W fun e w' => e = .returned (.int .i64 k) ∧ Below W.heap.size W w') (bs : List Nat) (hbs : ∀ x ∈ bs, 6 ≤ x ∧ x ≠ hb ∧ x ≠ db ∧ x < w.heap.size) (Q : Nat → Nat → List TokE → List LeaE → Prop)
    (hC : ∀ W, w.heap.size ≤ W.heap.size → Tryz.VFull W vb mt ml vx tm tn ln tks lks → Calls Tryz.prog 42 #[.pointer (some ⟨vb, 0, none⟩), .string ⟨id.toArray⟩, .int .u64 ttl] W fun e w' => ∃ tn' ln' tks' lks', Q tn' ln' tks' lks' ∧ e = .returned (.tuple #[s, er]) ∧ Tryz.VFull w' vb mt ml vx tm tn' ln' tks' lks' ∧ Spares bs W w') :
    Calls Tryz.prog 23 #[.pointer (some ⟨hb, 0, none⟩), .string ⟨id.toArray⟩, .int .u64 ttl, fallV a b c d] w fun e w' => ∃ tn' ln' tks' lks', Q tn' ln' tks' lks' ∧ e = .returned (.tuple #[s, .int .i64 k]) ∧ Tryz.Sys w' hb db rb vb mt ml vx tm tn' ln' tks' lks' ∧ Spares (db :: bs) w w' := by
  obtain ⟨m1, m2, p, hD⟩ := hS.disk
  have hH := hS.host
  have hne := hH.ne hD (by decide)
  have lH := hH.lt
  have lD := hD.lt
  have hB0 : Below w.heap.size w (w.alloc (.cells #[.int .i64 a, .int .i64 b, .int .i64 c, .int .i64 d] 29)) := (Below.refl _ w).alloc (Nat.le_refl _) _
  have bF := BoxN.new w 29 #[.int .i64 a, .int .i64 b, .int .i64 c, .int .i64 d]
  have h2 := hH.cell 2 (v := .pointer (some ⟨vb, 0, none⟩)) rfl
  have hBf := Tryz.before hb db _ _ _ _ _ _ _ _ a b c d _ (hH.alloc (.cells #[.int .i64 a, .int .i64 b, .int .i64 c, .int .i64 d] 29)) (hD.alloc _)
  have hV0 := hS.v.below hB0
  unfold fallV at hBf ⊢
  go_enter Tryz.func23, Tryz.ntmps23
  go_wp2_with (first
    | (go_at_call 26; refine hBf.mono ?_; rintro e w1 ⟨rfl, bD1, hg1⟩; have bH1 := (hH.alloc (.cells #[.int .i64 a, .int .i64 b, .int .i64 c, .int .i64 d] 29)).kept hg1 (by intro e; injection e with e; exact hne e); have bF1 := bF.kept hg1 (by intro e; injection e with e; omega); have hV1 := hV0.grown (hD.alloc _) hS.d6 hg1 (by decide) (by decide) (by decide); have hC1 := hC w1 (by have := hg1.size; simp at this; omega) hV1; have h21 := bH1.cell 2 (v := .pointer (some ⟨vb, 0, none⟩)) rfl; have f0 := bF1.cell 0 (v := .int .i64 a) rfl; have f1 := bF1.cell 1 (v := .int .i64 b) rfl; have f2 := bF1.cell 2 (v := .int .i64 c) rfl; have f3 := bF1.cell 3 (v := .int .i64 d) rfl; have HG1 := hid_intro hg1; clear hg1)
    | (go_at_call 42; refine hC1.mono ?_; rintro e w2 ⟨tn', ln', tks', lks', hQ, rfl, hV2, hs2⟩; have bH2 := hs2.box bH1 (fun hx => (hbs _ hx).2.1 rfl); have bD2 := hs2.box bD1 (fun hx => (hbs _ hx).2.2.1 rfl); have bF2 := hs2.box bF1 (fun hx => by have := (hbs _ hx).2.2.2; omega); have g0 := bF2.cell 0 (v := .int .i64 a) rfl; have g1 := bF2.cell 1 (v := .int .i64 b) rfl; have g2 := bF2.cell 2 (v := .int .i64 c) rfl; have g3 := bF2.cell 3 (v := .int .i64 d) rfl; have hBa := Tryz.after hb db _ _ _ _ _ _ _ a b c d _ bH2 bD2; unfold fallV at hBa; have HS2 := hid_intro hs2; clear hs2)
    | (go_at_call 28; refine hBa.mono ?_; rintro e w3 ⟨rfl, bD3, hg3⟩; have hE3 : Tryz.ErrT w3 := (hS.err.below (((hB0.mono hS.v.va.six).grown (hid_elim HG1) (by have := hS.v.va.six; simp; omega) (fun q hq => by cases hq; exact hS.d6)).trans (((hid_elim HS2).below (by have := hV1.va.six; exact this) (fun x hx => (hbs x hx).1)))) |>.below ⟨hg3.os, hg3.tape, hg3.output, hg3.size, fun q hq => hg3.block q (by have := hV2.va.six; omega) (by intro e; injection e with e; have := hS.d6; omega)⟩); have HG3 := hid_intro hg3; clear hg3)
    | (go_at_call 29; refine (hT _ hE3).mono ?_; rintro e w4 ⟨rfl, hb4⟩))
  have hg1 := hid_elim HG1
  have hs2 := hid_elim HS2
  have hg3 := hid_elim HG3
  have bH3 := bH2.kept hg3 (by intro e; injection e with e; exact hne e)
  have hV3 := hV2.grown bD2 hS.d6 hg3 (by decide) (by decide) (by decide)
  have hsp : Spares (db :: bs) w w4 := ((((Spares.of_below hB0).trans (Spares.of_grown hg1 (by simp))).trans (hs2.mono (fun x hx => List.mem_cons_of_mem _ hx))).trans (Spares.of_grown hg3 (by simp))).trans (Spares.of_below hb4)
  exact bodyPost_ret (v := .tuple #[s, .int .i64 k]) (by simp [results, Tryz.results23, go_sem]) rfl ⟨tn', ln', tks', lks', hQ, rfl, ⟨bH3.below hb4 bH3.lt, ⟨m1, m2, p, bD3.below hb4 bD3.lt⟩, hV3.below hb4, hE3.below (hb4.mono hV3.va.six), hS.h6, hS.d6⟩, hsp⟩

set_option maxHeartbeats 1000000 in
theorem Tryz.hAuth (hb db rb vb : Nat) (w : World) (hH : BoxN w hb 64 #[.pointer (some ⟨db, 0, none⟩), .pointer (some ⟨rb, 0, none⟩), .pointer (some ⟨vb, 0, none⟩)]) (id pth : List UInt8) (r : Bool)
    (hC : Calls Tryz.prog 41 #[.pointer (some ⟨vb, 0, none⟩), .string ⟨id.toArray⟩, .string ⟨pth.toArray⟩] w fun e w' => e = .returned (.bool r) ∧ Below w.heap.size w w') :
    Calls Tryz.prog 22 #[.pointer (some ⟨hb, 0, none⟩), .string ⟨id.toArray⟩, .string ⟨pth.toArray⟩] w fun e w' => e = .returned (.bool r) ∧ Below w.heap.size w w' := by
  have h2 := hH.cell 2 (v := .pointer (some ⟨vb, 0, none⟩)) rfl
  go_enter Tryz.func22, Tryz.ntmps22
  go_wp2_with (go_at_call 41; refine hC.mono ?_; rintro e w1 ⟨rfl, hb1⟩)
  go_ret
  exact ⟨rfl, hb1⟩
end Go.Proofs

/-
  plain.Host.All, left early: the beginning of the whole walk.
-/
namespace Go.Proofs
open Go.RowKit Go.Sort Go.Lib Go.Shelf Go.Maps

attribute [local go_sem] Oper.semAt_some

set_option maxRecDepth 100000 in
set_option maxHeartbeats 2000000 in
theorem Tryz.hAllK (K : Nat) (z : Int) (hz : Hid (z = (K : Int))) (hK1 : 1 ≤ K) (hb vb mt ml : Nat) (vx : VX) (tm tn ln : Int) (tks : List TokE) (lks : List LeaE) (w : World) (dv rv : Value) (hH : BoxN w hb 64 #[dv, rv, .pointer (some ⟨vb, 0, none⟩)]) (hV : Tryz.VaultAt w vb mt ml vx tm tn ln tks lks) :
    CallsIn Fence.wide 9 Tryz.prog 14 #[.pointer (some ⟨hb, 0, none⟩), .int .i64 z] w fun e w' => ∃ v : Value, e = .returned (.tuple #[v, .bool true]) ∧ w'.ownsRow w.heap.size 40 6 v ((infosOf tm tks lks).take K).length (flatI ((infosOf tm tks lks).take K)) ∧ Below w.heap.size w w' := by
  obtain ⟨i0, hi, hz0, hz1, hz2⟩ := info_parts Tryz.infoInfo
  have hfa : Fence.wide.fn 30 := trivial
  have c2 := hH.cell 2 (v := .pointer (some ⟨vb, 0, none⟩)) rfl
  have lH := hH.lt
  have hnf : ∀ (p : Addr) (W : World), Sem.run Tryz.prog (binOp .eql 71 (.func (.func 52) #[] #[.pointer (some p)]) .nilFunc) W = .ok (.bool false) W := fun _ _ => by kernel_rfl
  refine callsIn_of_wp_marks Tryz.func14 rfl trivial ?_ rfl
  simp only [Tryz.ntmps14, List.size_toArray, List.length_cons, List.length_nil, Nat.reduceAdd, Nat.reduceSub, Array.replicate_succ, Array.replicate_zero, List.push_toArray, List.append_toArray, List.nil_append, List.cons_append]
  gi_wp2_with (gi_at_call 30; refine (callsIn_wide.2 (Tryz.vAll vb _)).mono ?_; rintro e w' ⟨rfl, rfl⟩)
  clear hnf c2
  have bZ := ((BoxN.new w 3 #[.int .i64 z]).alloc (.cells #[.pointer (some ⟨vb, 0, none⟩)] 62)).alloc (.cells #[.slice none 0 0] 36)
  have bV := (BoxN.new (w.alloc (.cells #[.int .i64 z] 3)) 62 #[.pointer (some ⟨vb, 0, none⟩)]).alloc (.cells #[.slice none 0 0] 36)
  have bL := Boxed.new ((w.alloc (.cells #[.int .i64 z] 3)).alloc (.cells #[.pointer (some ⟨vb, 0, none⟩)] 62)) 36 (.slice none 0 0)
  have hB0 : Below w.heap.size w (((w.alloc (.cells #[.int .i64 z] 3)).alloc (.cells #[.pointer (some ⟨vb, 0, none⟩)] 62)).alloc (.cells #[.slice none 0 0] 36)) := (((Below.refl _ w).alloc (Nat.le_refl _) _).alloc (by simp) _).alloc (by simp; omega) _
  have hsz : (((w.alloc (.cells #[.int .i64 z] 3)).alloc (.cells #[.pointer (some ⟨vb, 0, none⟩)] 62)).alloc (.cells #[.slice none 0 0] 36)).heap.size = w.heap.size + 3 := by simp
  simp only [World.size_alloc] at bV bL
  have hV0 := hV.below hB0
  obtain ⟨W0, hW0⟩ : ∃ W0, ((w.alloc (.cells #[.int .i64 z] 3)).alloc (.cells #[.pointer (some ⟨vb, 0, none⟩)] 62)).alloc (.cells #[.slice none 0 0] 36) = W0 := ⟨_, rfl⟩
  rw [hW0] at bZ bV bL hB0 hsz hV0 ⊢
  clear hW0
  have hlen : (infosOf tm tks lks).length ≤ 1000 := by have := hV.ok.lenT; have := hV.ok.lenL; simp [infosOf]; omega
  let J : List InfoD → World → Prop := fun pre V => ((∃ v, Boxed V (w.heap.size + 1 + 1) 36 v ∧ V.ownsRow w.heap.size 40 6 v pre.length (flatI pre) ∧ (v = .slice none 0 0 ↔ pre = [])) ∧ BoxN V w.heap.size 3 #[.int .i64 z]) ∧ Below w.heap.size w V
  have hJ : OwnFrom W0.heap.size J := by
    exact (OwnFrom.and (OwnFrom.and (Own.from (holdsRow_own _ _ _ _ _ (fun pre : List InfoD => pre.length) (fun pre => flatI pre) (fun pre v => (v = .slice none 0 0 ↔ pre = []))) _) (Own.from (boxN_own _ _ (fun _ => #[.int .i64 z])) _)) (ownFrom_below (Nat.le_refl _) (by omega)))
  refine wpIn_rangeO (n := 9) (by omega) (gf := 52) (lb := #[.pointer (some ⟨w.heap.size + 1, 0, none⟩)]) rfl Tryz.enters52
    (Tryz.vAll_seq 8 (by omega) Tryz.badAll Tryz.goodAll (w.heap.size + 1) vb mt ml vx tm tn ln tks lks hV.ok W0 bV hV0.v hV0.held) keepsT_t keepsT_b (Below.refl _ _) (fun _ => rfl)
    (fun pre V => pre.length < K ∧ J pre V)
    (fun c pre V => c = .exit 0 ∧ pre.length = K ∧ J pre V)
    (fun s V V' row hs hg hr => ⟨hs.1, hJ s V V' row hs.2 hg hr⟩)
    (fun c s V V' row hs hg hr => ⟨hs.1, hs.2.1, hJ s V V' row hs.2.2 hg hr⟩)
    (fun s V hs => ⟨hV.env.below hs.2.2 hV.six, Nat.le_trans hV.six hs.2.2.size⟩)
    ⟨hK1, ⟨⟨_, bL, World.ownsRow_nil _ _ _ _, by simp⟩, bZ⟩, hB0⟩
    (fun x a' V => ∃ Bx, w.heap.size + 1 + 1 < Bx ∧ BoxN V Bx 40 x.cells ∧ a' = { tmps := #[.pointer (some ⟨hb, 0, none⟩), .int .i64 z, undef, .pointer (some ⟨w.heap.size, 0, none⟩), .slice none 0 0, .bool false, .func (.func 52) #[] #[.pointer (some ⟨w.heap.size + 1, 0, none⟩)], .pointer (some ⟨w.heap.size + 1 + 1, 0, none⟩), .pointer (some ⟨Bx, 0, none⟩), .pointer (some ⟨hb, 0, none⟩), .pointer (some ⟨hb, 0, none⟩), .pointer (some ⟨hb, 2, none⟩), .pointer (some ⟨vb, 0, none⟩), .bool false, .pointer (some ⟨hb, 0, none⟩), .pointer (some ⟨hb, 0, none⟩), .pointer (some ⟨hb, 2, none⟩), .pointer (some ⟨vb, 0, none⟩), .func (.func 52) #[] #[.pointer (some ⟨w.heap.size + 1, 0, none⟩)], .func (.func 52) #[] #[.pointer (some ⟨w.heap.size + 1, 0, none⟩)], .bool false, .func (.func 52) #[] #[.pointer (some ⟨w.heap.size + 1, 0, none⟩)], .agg x.cells, undef, undef, undef, undef, undef, undef, undef, undef, undef], defers := [] })
    (fun x a' _ X Y row hs hg hr => by obtain ⟨Bx, h1, h2, h3⟩ := hs; exact ⟨Bx, h1, boxN_own Bx 40 (fun (_ : Unit) => x.cells) () X Y row h2 hg (fun r e => (hr r e).2), h3⟩)
    ?assign ?body ?done ?stop
  case assign =>
    rintro l pre x V KK ⟨hpk, ⟨⟨v, b1, hr1, hnil⟩, bz⟩, hB1⟩ hK
    obtain ⟨id, st, at_, tr, tok, pth⟩ := x
    simp only [InfoD.cells, infoCells]
    gi_wp2
    exact hK _ _ ((KeepsOthers.alloc _ _).from _) (KeepsT.alloc _ _) ⟨hpk, ⟨⟨v, b1.alloc _, hr1.alloc _, hnil⟩, bz.alloc _⟩, hB1.alloc hB1.size _⟩ ⟨V.heap.size, b1.lt, BoxN.new V 40 _, rfl⟩
  case body =>
    rintro l pre x a' V hl ⟨hpk, ⟨⟨v, b1, hr1, hnil⟩, bz⟩, hB1⟩ ⟨Bx, hBx, bX, rfl⟩ hlt
    have hpk' := hid_intro hpk
    have hfl := flatI_snoc pre x
    obtain ⟨id, st, at_, tr, tok, pth⟩ := x
    simp only [InfoD.cells, infoCells] at bX hfl ⊢
    have HF := hid_intro hfl
    clear hfl
    have cS := b1.cell
    have cz := bz.cell 0 (v := .int .i64 z) rfl
    have hne0 : (((pre.length : Int) + 1) == z) = decide (pre.length + 1 = K) := by
      rw [hid_elim hz, Bool.eq_iff_iff, beq_iff_eq, decide_eq_true_iff]; omega
    clear hpk
    have x0 := bX.cell 0 (v := .string ⟨id.toArray⟩) rfl
    have x1 := bX.cell 1 (v := .int .i64 st) rfl
    have x2 := bX.cell 2 (v := .int .u64 at_) rfl
    have x3 := bX.cell 3 (v := .int .i64 tr) rfl
    have x4 := bX.cell 4 (v := .string ⟨tok.toArray⟩) rfl
    have x5 := bX.cell 5 (v := .string ⟨pth.toArray⟩) rfl
    have bz0 := bz.alloc (.cells #[.string ⟨id.toArray⟩, .int .i64 st, .int .u64 at_, .int .i64 tr, .string ⟨tok.toArray⟩, .string ⟨pth.toArray⟩] 40)
    have hnr : Hid (some w.heap.size ≠ v.ownBlock) := bz0.not_row (e := 40) (by decide) (hr1.alloc _)
    by_cases hke : pre.length + 1 = K
    all_goals simp only [hke, decide_true, decide_false] at hne0
    all_goals have HKE := hid_intro hke
    all_goals clear hke
    all_goals gi_wp2_with (gi_at_builtin; refine wpListIn_append_own _ rfl _ _ 36 rfl w.heap.size 40 i0 _ 6 72 Tryz.underlying36 hi hz0 hz1 hz2 rfl (by decide) _ _ _ rfl (hr1.alloc _) ⟨V.heap.size, 0, none⟩ 1 1 [.string ⟨id.toArray⟩, .int .i64 st, .int .u64 at_, .int .i64 tr, .string ⟨tok.toArray⟩, .string ⟨pth.toArray⟩] rfl rfl (cell_six_new _ _ _ _ _ _ _ _) (by simp [Value.oneCell']) (by unfold maxLen; omega) (by omega) (by have := hB1.size; simp; omega) ?_; intro v' w1 hown' hgrow hn'; obtain ⟨g', cap', rfl⟩ := ownsRow_succ hown'; obtain ⟨hv1, hv2, hr2, hk2, hb2⟩ := b1.appended (by decide) hr1 hB1.size (by omega) hown' hgrow; have hc1 := hv1.cell; have hf1 := hv1.frozen; have bz1 := bz0.kept hgrow hnr; have cz1 := bz1.cell 0 (v := .int .i64 z) rfl)
    all_goals have hkT := ((KeepsT.alloc (bad := Tryz.badAll) V (.cells #[.string ⟨id.toArray⟩, .int .i64 st, .int .u64 at_, .int .i64 tr, .string ⟨tok.toArray⟩, .string ⟨pth.toArray⟩] 40)).trans (KeepsT.row_grown (hr1.alloc _) (by decide) hgrow)).trans (KeepsT.boxed_set hv1 (by decide) (.slice (some ⟨g', 0, none⟩) (pre.length + 1) cap'))
    · exact ⟨hk2.from _, rfl, by rw [List.length_append]; exact hid_elim HKE, ⟨⟨_, hv2, by rw [show flatI _ = _ from hid_elim HF, List.length_append]; exact hr2, by simp⟩, bz1.other (by omega) _ _⟩, hB1.trans hb2⟩
    · exact ⟨hk2.from _, hkT, by rw [List.length_append]; have h1 := hid_elim HKE; have h2 := hid_elim hpk'; simp only [List.length_cons, List.length_nil]; omega, ⟨⟨_, hv2, by rw [show flatI _ = _ from hid_elim HF, List.length_append]; exact hr2, by simp⟩, bz1.other (by omega) _ _⟩, hB1.trans hb2⟩
  case done =>
    rintro D zs V hD hzs ⟨hpk, ⟨⟨v, b1, hr1, hnil⟩, bz⟩, hB1⟩ hK
    have cS := b1.cell
    have ht : Hid ((infosOf tm tks lks).take K = zs) := hid_intro (by rw [List.take_of_length_le (by rw [← hzs]; omega), hzs])
    clear hpk hzs
    gi_wp2
    refine ⟨by simp, .inl ⟨_, _, rfl, run_takeDeferred hK, ?_⟩⟩
    exact ⟨_, by simp [results, Tryz.results14, go_sem], v, rfl, by rw [hid_elim ht]; exact ownsRow_putObj hr1 _ hK rfl, hB1.trans (belowK_b (w := w) (Nat.le_refl _) V D _ _ (by omega) hK rfl rfl)⟩
  case stop =>
    rintro D c pre V hD hSp ⟨rfl, hpl, ⟨⟨v, b1, hr1, hnil⟩, bz⟩, hB1⟩ hK
    have cS := b1.cell
    have ht : Hid ((infosOf tm tks lks).take K = pre) := hid_intro (by rw [← hpl]; exact (List.prefix_iff_eq_take.1 hSp).symm)
    clear hpl hSp
    gi_wp2
    refine ⟨by simp, .inl ⟨_, _, rfl, run_takeDeferred hK, ?_⟩⟩
    exact ⟨_, by simp [results, Tryz.results14, go_sem], v, rfl, by rw [hid_elim ht]; exact ownsRow_putObj hr1 _ hK rfl, hB1.trans (belowK_b (w := w) (Nat.le_refl _) V D _ _ (by omega) hK rfl rfl)⟩
end Go.Proofs
