import Derived.Test.YthifclklnopkfaaGreatDoorCodeF
import Derived.Test.YthifclklnopkfaaGreatDoorCodeC
import Derived.Test.YthifclklnopkfaaGreatDoorHOpen
/-
  plain.Host: a vault, its disk and what is kept true of both; the calls that turn something.
-/
namespace Go.Proofs
open Go.RowKit Go.Sort Go.Lib Go.Shelf Go.Maps

/-- what errors.As asks of a package's variable. -/
def Tryz.ErrT (W : World) : Prop := W.cell? ⟨0, 0, none⟩ = some (.iface 211 (.agg #[.pointer (some ⟨6, 67, none⟩)]))
theorem Tryz.ErrT.below {W W' : World} (h : Tryz.ErrT W) (hb : Below 6 W W') : Tryz.ErrT W' := (hb.cell (p := ⟨0, 0, none⟩) (by show 0 < 6; decide)).trans h
structure Tryz.Sys (W : World) (hb db rb vb mt ml : Nat) (vx : VX) (tm : Int) (tn ln : Nat) (tks : List TokE) (lks : List LeaE) : Prop where
  host : BoxN W hb 64 #[.pointer (some ⟨db, 0, none⟩), .pointer (some ⟨rb, 0, none⟩), .pointer (some ⟨vb, 0, none⟩)]
  disk : ∃ m1 m2 p, BoxN W db 76 #[m1, m2, p, .int .i64 (-1), .int .i64 (-1), .bool false]
  v : Tryz.VFull W vb mt ml vx tm tn ln tks lks
  err : Tryz.ErrT W
  h6 : 6 ≤ hb
  d6 : 6 ≤ db
theorem Tryz.Sys.below {W W' : World} {hb db rb vb mt ml : Nat} {vx : VX} {tm : Int} {tn ln : Nat} {tks : List TokE} {lks : List LeaE} (h : Tryz.Sys W hb db rb vb mt ml vx tm tn ln tks lks) (hB : Below W.heap.size W W') : Tryz.Sys W' hb db rb vb mt ml vx tm tn ln tks lks := by
  obtain ⟨m1, m2, p, hd⟩ := h.disk
  exact ⟨h.host.below hB h.host.lt, ⟨m1, m2, p, hd.below hB hd.lt⟩, h.v.below hB, h.err.below (hB.mono h.v.va.six), h.h6, h.d6⟩

set_option maxRecDepth 100000 in
set_option maxHeartbeats 2000000 in
theorem Tryz.hCreate (hb db rb vb mt ml : Nat) (vx : VX) (tm : Int) (tn ln : Nat) (tks : List TokE) (lks : List LeaE) (w : World) (hS : Tryz.Sys w hb db rb vb mt ml vx tm tn ln tks lks) (id : List UInt8) (a b c d : Int) (s er : Value) (k : Int)
    (hT : ∀ W, Tryz.ErrT W → Calls Tryz.prog 29 #[er] W fun e w' => e = .returned (.int .i64 k) ∧ Below W.heap.size W w') (bs : List Nat) (hbs : ∀ x ∈ bs, 6 ≤ x ∧ x ≠ hb ∧ x ≠ db ∧ x < w.heap.size) (Q : Nat → Nat → List TokE → List LeaE → Prop)
    (hC : ∀ W, w.heap.size ≤ W.heap.size → Tryz.VFull W vb mt ml vx tm tn ln tks lks → Calls Tryz.prog 111 #[.pointer (some ⟨vb, 0, none⟩), .string ⟨id.toArray⟩] W fun e w' => ∃ tn' ln' tks' lks', Q tn' ln' tks' lks' ∧ e = .returned (.tuple #[s, er]) ∧ Tryz.VFull w' vb mt ml vx tm tn' ln' tks' lks' ∧ Spares bs W w') :
    Calls Tryz.prog 67 #[.pointer (some ⟨hb, 0, none⟩), .string ⟨id.toArray⟩, fallV a b c d] w fun e w' => ∃ tn' ln' tks' lks', Q tn' ln' tks' lks' ∧ e = .returned (.tuple #[s, .int .i64 k]) ∧ Tryz.Sys w' hb db rb vb mt ml vx tm tn' ln' tks' lks' ∧ Spares (db :: bs) w w' := by
  obtain ⟨m1, m2, p, hD⟩ := hS.disk
  have hH := hS.host
  have hne := hH.ne hD (by decide)
  have lH := hH.lt
  have lD := hD.lt
  have hB0 : Below w.heap.size w (w.alloc (.cells #[.int .i64 a, .int .i64 b, .int .i64 c, .int .i64 d] 29)) := (Below.refl _ w).alloc (Nat.le_refl _) _
  have bF := BoxN.new w 29 #[.int .i64 a, .int .i64 b, .int .i64 c, .int .i64 d]
  have h2 := hH.cell 2 (v := .pointer (some ⟨vb, 0, none⟩)) rfl
  have hBf := Tryz.before hb db _ _ _ _ _ _ _ _ a b c d _ (hH.alloc (.cells #[.int .i64 a, .int .i64 b, .int .i64 c, .int .i64 d] 29)) (hD.alloc _)
  have hV0 := hS.v.below hB0
  unfold fallV at hBf ⊢
  go_enter Tryz.func67, Tryz.ntmps67
  go_wp2_with (first
    | (go_at_call 26; refine hBf.mono ?_; rintro e w1 ⟨rfl, bD1, hg1⟩; have bH1 := (hH.alloc (.cells #[.int .i64 a, .int .i64 b, .int .i64 c, .int .i64 d] 29)).kept hg1 (by intro e; injection e with e; exact hne e); have bF1 := bF.kept hg1 (by intro e; injection e with e; omega); have hV1 := hV0.grown (hD.alloc _) hS.d6 hg1 (by decide) (by decide) (by decide); have hC1 := hC w1 (by have := hg1.size; simp at this; omega) hV1; have h21 := bH1.cell 2 (v := .pointer (some ⟨vb, 0, none⟩)) rfl; have f0 := bF1.cell 0 (v := .int .i64 a) rfl; have f1 := bF1.cell 1 (v := .int .i64 b) rfl; have f2 := bF1.cell 2 (v := .int .i64 c) rfl; have f3 := bF1.cell 3 (v := .int .i64 d) rfl; have HG1 := hid_intro hg1; clear hg1)
    | (go_at_call 111; refine hC1.mono ?_; rintro e w2 ⟨tn', ln', tks', lks', hQ, rfl, hV2, hs2⟩; have bH2 := hs2.box bH1 (fun hx => (hbs _ hx).2.1 rfl); have bD2 := hs2.box bD1 (fun hx => (hbs _ hx).2.2.1 rfl); have bF2 := hs2.box bF1 (fun hx => by have := (hbs _ hx).2.2.2; omega); have g0 := bF2.cell 0 (v := .int .i64 a) rfl; have g1 := bF2.cell 1 (v := .int .i64 b) rfl; have g2 := bF2.cell 2 (v := .int .i64 c) rfl; have g3 := bF2.cell 3 (v := .int .i64 d) rfl; have hBa := Tryz.after hb db _ _ _ _ _ _ _ a b c d _ bH2 bD2; unfold fallV at hBa; have HS2 := hid_intro hs2; clear hs2)
    | (go_at_call 28; refine hBa.mono ?_; rintro e w3 ⟨rfl, bD3, hg3⟩; have hE3 : Tryz.ErrT w3 := (hS.err.below (((hB0.mono hS.v.va.six).grown (hid_elim HG1) (by have := hS.v.va.six; simp; omega) (fun q hq => by cases hq; exact hS.d6)).trans (((hid_elim HS2).below (by have := hV1.va.six; exact this) (fun x hx => (hbs x hx).1)))) |>.below ⟨hg3.os, hg3.tape, hg3.output, hg3.size, fun q hq => hg3.block q (by have := hV2.va.six; omega) (by intro e; injection e with e; have := hS.d6; omega)⟩); have HG3 := hid_intro hg3; clear hg3)
    | (go_at_call 29; refine (hT _ hE3).mono ?_; rintro e w4 ⟨rfl, hb4⟩))
  have hg1 := hid_elim HG1
  have hs2 := hid_elim HS2
  have hg3 := hid_elim HG3
  have bH3 := bH2.kept hg3 (by intro e; injection e with e; exact hne e)
  have hV3 := hV2.grown bD2 hS.d6 hg3 (by decide) (by decide) (by decide)
  have hsp : Spares (db :: bs) w w4 := ((((Spares.of_below hB0).trans (Spares.of_grown hg1 (by simp))).trans (hs2.mono (fun x hx => List.mem_cons_of_mem _ hx))).trans (Spares.of_grown hg3 (by simp))).trans (Spares.of_below hb4)
  exact bodyPost_ret (v := .tuple #[s, .int .i64 k]) (by simp [results, Tryz.results67, go_sem]) rfl ⟨tn', ln', tks', lks', hQ, rfl, ⟨bH3.below hb4 bH3.lt, ⟨m1, m2, p, bD3.below hb4 bD3.lt⟩, hV3.below hb4, hE3.below (hb4.mono hV3.va.six), hS.h6, hS.d6⟩, hsp⟩

end Go.Proofs

/-
  plain.Host: Issue, Renew, Authorize.
-/
namespace Go.Proofs
open Go.RowKit Go.Sort Go.Lib Go.Shelf Go.Maps

set_option maxRecDepth 100000 in
set_option maxHeartbeats 2000000 in
theorem Tryz.hIssue (hb db rb vb mt ml : Nat) (vx : VX) (tm : Int) (tn ln : Nat) (tks : List TokE) (lks : List LeaE) (w : World) (hS : Tryz.Sys w hb db rb vb mt ml vx tm tn ln tks lks) (id pth : List UInt8) (ttl most : Int) (a b c d : Int) (s er : Value) (k : Int)
    (hT : ∀ W, Tryz.ErrT W → Calls Tryz.prog 29 #[er] W fun e w' => e = .returned (.int .i64 k) ∧ Below W.heap.size W w') (bs : List Nat) (hbs : ∀ x ∈ bs, 6 ≤ x ∧ x ≠ hb ∧ x ≠ db ∧ x < w.heap.size) (Q : Nat → Nat → List TokE → List LeaE → Prop)
    (hC : ∀ W, w.heap.size ≤ W.heap.size → Tryz.VFull W vb mt ml vx tm tn ln tks lks → Calls Tryz.prog 27 #[.pointer (some ⟨vb, 0, none⟩), .string ⟨id.toArray⟩, .string ⟨pth.toArray⟩, .int .u64 ttl, .int .u64 most] W fun e w' => ∃ tn' ln' tks' lks', Q tn' ln' tks' lks' ∧ e = .returned (.tuple #[s, er]) ∧ Tryz.VFull w' vb mt ml vx tm tn' ln' tks' lks' ∧ Spares bs W w') :
    Calls Tryz.prog 13 #[.pointer (some ⟨hb, 0, none⟩), .string ⟨id.toArray⟩, .string ⟨pth.toArray⟩, .int .u64 ttl, .int .u64 most, fallV a b c d] w fun e w' => ∃ tn' ln' tks' lks', Q tn' ln' tks' lks' ∧ e = .returned (.tuple #[s, .int .i64 k]) ∧ Tryz.Sys w' hb db rb vb mt ml vx tm tn' ln' tks' lks' ∧ Spares (db :: bs) w w' := by
  obtain ⟨m1, m2, p, hD⟩ := hS.disk
  have hH := hS.host
  have hne := hH.ne hD (by decide)
  have lH := hH.lt
  have lD := hD.lt
  have hB0 : Below w.heap.size w (w.alloc (.cells #[.int .i64 a, .int .i64 b, .int .i64 c, .int .i64 d] 29)) := (Below.refl _ w).alloc (Nat.le_refl _) _
  have bF := BoxN.new w 29 #[.int .i64 a, .int .i64 b, .int .i64 c, .int .i64 d]
  have h2 := hH.cell 2 (v := .pointer (some ⟨vb, 0, none⟩)) rfl
  have hBf := Tryz.before hb db _ _ _ _ _ _ _ _ a b c d _ (hH.alloc (.cells #[.int .i64 a, .int .i64 b, .int .i64 c, .int .i64 d] 29)) (hD.alloc _)
  have hV0 := hS.v.below hB0
  unfold fallV at hBf ⊢
  go_enter Tryz.func13, Tryz.ntmps13
  go_wp2_with (first
    | (go_at_call 26; refine hBf.mono ?_; rintro e w1 ⟨rfl, bD1, hg1⟩; have bH1 := (hH.alloc (.cells #[.int .i64 a, .int .i64 b, .int .i64 c, .int .i64 d] 29)).kept hg1 (by intro e; injection e with e; exact hne e); have bF1 := bF.kept hg1 (by intro e; injection e with e; omega); have hV1 := hV0.grown (hD.alloc _) hS.d6 hg1 (by decide) (by decide) (by decide); have hC1 := hC w1 (by have := hg1.size; simp at this; omega) hV1; have h21 := bH1.cell 2 (v := .pointer (some ⟨vb, 0, none⟩)) rfl; have f0 := bF1.cell 0 (v := .int .i64 a) rfl; have f1 := bF1.cell 1 (v := .int .i64 b) rfl; have f2 := bF1.cell 2 (v := .int .i64 c) rfl; have f3 := bF1.cell 3 (v := .int .i64 d) rfl; have HG1 := hid_intro hg1; clear hg1)
    | (go_at_call 27; refine hC1.mono ?_; rintro e w2 ⟨tn', ln', tks', lks', hQ, rfl, hV2, hs2⟩; have bH2 := hs2.box bH1 (fun hx => (hbs _ hx).2.1 rfl); have bD2 := hs2.box bD1 (fun hx => (hbs _ hx).2.2.1 rfl); have bF2 := hs2.box bF1 (fun hx => by have := (hbs _ hx).2.2.2; omega); have g0 := bF2.cell 0 (v := .int .i64 a) rfl; have g1 := bF2.cell 1 (v := .int .i64 b) rfl; have g2 := bF2.cell 2 (v := .int .i64 c) rfl; have g3 := bF2.cell 3 (v := .int .i64 d) rfl; have hBa := Tryz.after hb db _ _ _ _ _ _ _ a b c d _ bH2 bD2; unfold fallV at hBa; have HS2 := hid_intro hs2; clear hs2)
    | (go_at_call 28; refine hBa.mono ?_; rintro e w3 ⟨rfl, bD3, hg3⟩; have hE3 : Tryz.ErrT w3 := (hS.err.below (((hB0.mono hS.v.va.six).grown (hid_elim HG1) (by have := hS.v.va.six; simp; omega) (fun q hq => by cases hq; exact hS.d6)).trans (((hid_elim HS2).below (by have := hV1.va.six; exact this) (fun x hx => (hbs x hx).1)))) |>.below ⟨hg3.os, hg3.tape, hg3.output, hg3.size, fun q hq => hg3.block q (by have := hV2.va.six; omega) (by intro e; injection e with e; have := hS.d6; omega)⟩); have HG3 := hid_intro hg3; clear hg3)
    | (go_at_call 29; refine (hT _ hE3).mono ?_; rintro e w4 ⟨rfl, hb4⟩))
  have hg1 := hid_elim HG1
  have hs2 := hid_elim HS2
  have hg3 := hid_elim HG3
  have bH3 := bH2.kept hg3 (by intro e; injection e with e; exact hne e)
  have hV3 := hV2.grown bD2 hS.d6 hg3 (by decide) (by decide) (by decide)
  have hsp : Spares (db :: bs) w w4 := ((((Spares.of_below hB0).trans (Spares.of_grown hg1 (by simp))).trans (hs2.mono (fun x hx => List.mem_cons_of_mem _ hx))).trans (Spares.of_grown hg3 (by simp))).trans (Spares.of_below hb4)
  exact bodyPost_ret (v := .tuple #[s, .int .i64 k]) (by simp [results, Tryz.results13, go_sem]) rfl ⟨tn', ln', tks', lks', hQ, rfl, ⟨bH3.below hb4 bH3.lt, ⟨m1, m2, p, bD3.below hb4 bD3.lt⟩, hV3.below hb4, hE3.below (hb4.mono hV3.va.six), hS.h6, hS.d6⟩, hsp⟩

set_option maxRecDepth 100000 in
set_option maxHeartbeats 2000000 in
theorem Tryz.hRenew (hb db rb vb mt ml : Nat) (vx : VX) (tm : Int) (tn ln : Nat) (tks : List TokE) (lks : List LeaE) (w : World) (hS : Tryz.Sys w hb db rb vb mt ml vx tm tn ln tks lks) (id : List UInt8) (ttl : Int) (a b c d : Int) (s er : Value) (k : Int)
    (hT : ∀ W, Tryz.ErrT W → Calls Tryz.prog 29 #[er] W fun e w' => e = .returned (.int .i64 k) ∧ Below W.heap.size W w') (bs : List Nat) (hbs : ∀ x ∈ bs, 6 ≤ x ∧ x ≠ hb ∧ x ≠ db ∧ x < w.heap.size) (Q : Nat → Nat → List TokE → List LeaE → Prop)
    (hC : ∀ W, w.heap.size ≤ W.heap.size → Tryz.VFull W vb mt ml vx tm tn ln tks lks → Calls Tryz.prog 42 #[.pointer (some ⟨vb, 0, none⟩), .string ⟨id.toArray⟩, .int .u64 ttl] W fun e w' => ∃ tn' ln' tks' lks', Q tn' ln' tks' lks' ∧ e = .returned (.tuple #[s, er]) ∧ Tryz.VFull w' vb mt ml vx tm tn' ln' tks' lks' ∧ Spares bs W w') :
    Calls Tryz.prog 23 #[.pointer (some ⟨hb, 0, none⟩), .string ⟨id.toArray⟩, .int .u64 ttl, fallV a b c d] w fun e w' => ∃ tn' ln' tks' lks', Q tn' ln' tks' lks' ∧ e = .returned (.tuple #[s, .int .i64 k]) ∧ Tryz.Sys w' hb db rb vb mt ml vx tm tn' ln' tks' lks' ∧ Spares (db :: bs) w w' := by
  obtain ⟨m1, m2, p, hD⟩ := hS.disk
  have hH := hS.host
  have hne := hH.ne hD (by decide)
  have lH := hH.lt
  have lD := hD.lt
  have hB0 : Below w.heap.size w (w.alloc (.cells #[.int .i64 a, .int .i64 b, .int .i64 c, .int .i64 d] 29)) := (Below.refl _ w).alloc (Nat.le_refl _) _
  have bF := BoxN.new w 29 #[.int .i64 a, .int .i64 b, .int .i64 c, .int .i64 d]
  have h2 := hH.cell 2 (v := .pointer (some ⟨vb, 0, none⟩)) rfl
  have hBf := Tryz.before hb db _ _ _ _ _ _ _ _ a b c d _ (hH.alloc (.cells #[.int .i64 a, .int .i64 b, .int .i64 c, .int .i64 d] 29)) (hD.alloc _)
  have hV0 := hS.v.below hB0
  unfold fallV at hBf ⊢
  go_enter Tryz.func23, Tryz.ntmps23
  go_wp2_with (first
    | (go_at_call 26; refine hBf.mono ?_; rintro e w1 ⟨rfl, bD1, hg1⟩; have bH1 := (hH.alloc (.cells #[.int .i64 a, .int .i64 b, .int .i64 c, .int .i64 d] 29)).kept hg1 (by intro e; injection e with e; exact hne e); have bF1 := bF.kept hg1 (by intro e; injection e with e; omega); have hV1 := hV0.grown (hD.alloc _) hS.d6 hg1 (by decide) (by decide) (by decide); have hC1 := hC w1 (by have := hg1.size; simp at this; omega) hV1; have h21 := bH1.cell 2 (v := .pointer (some ⟨vb, 0, none⟩)) rfl; have f0 := bF1.cell 0 (v := .int .i64 a) rfl; have f1 := bF1.cell 1 (v := .int .i64 b) rfl; have f2 := bF1.cell 2 (v := .int .i64 c) rfl; have f3 := bF1.cell 3 (v := .int .i64 d) rfl; have HG1 := hid_intro hg1; clear hg1)
    | (go_at_call 42; refine hC1.mono ?_; rintro e w2 ⟨tn', ln', tks', lks', hQ, rfl, hV2, hs2⟩; have bH2 := hs2.box bH1 (fun hx => (hbs _ hx).2.1 rfl); have bD2 := hs2.box bD1 (fun hx => (hbs _ hx).2.2.1 rfl); have bF2 := hs2.box bF1 (fun hx => by have := (hbs _ hx).2.2.2; omega); have g0 := bF2.cell 0 (v := .int .i64 a) rfl; have g1 := bF2.cell 1 (v := .int .i64 b) rfl; have g2 := bF2.cell 2 (v := .int .i64 c) rfl; have g3 := bF2.cell 3 (v := .int .i64 d) rfl; have hBa := Tryz.after hb db _ _ _ _ _ _ _ a b c d _ bH2 bD2; unfold fallV at hBa; have HS2 := hid_intro hs2; clear hs2)
    | (go_at_call 28; refine hBa.mono ?_; rintro e w3 ⟨rfl, bD3, hg3⟩; have hE3 : Tryz.ErrT w3 := (hS.err.below (((hB0.mono hS.v.va.six).grown (hid_elim HG1) (by have := hS.v.va.six; simp; omega) (fun q hq => by cases hq; exact hS.d6)).trans (((hid_elim HS2).below (by have := hV1.va.six; exact this) (fun x hx => (hbs x hx).1)))) |>.below ⟨hg3.os, hg3.tape, hg3.output, hg3.size, fun q hq => hg3.block q (by have := hV2.va.six; omega) (by intro e; injection e with e; have := hS.d6; omega)⟩); have HG3 := hid_intro hg3; clear hg3)
    | (go_at_call 29; refine (hT _ hE3).mono ?_; rintro e w4 ⟨rfl, hb4⟩))
  have hg1 := hid_elim HG1
  have hs2 := hid_elim HS2
  have hg3 := hid_elim HG3
  have bH3 := bH2.kept hg3 (by intro e; injection e with e; exact hne e)
  have hV3 := hV2.grown bD2 hS.d6 hg3 (by decide) (by decide) (by decide)
  have hsp : Spares (db :: bs) w w4 := ((((Spares.of_below hB0).trans (Spares.of_grown hg1 (by simp))).trans (hs2.mono (fun x hx => List.mem_cons_of_mem _ hx))).trans (Spares.of_grown hg3 (by simp))).trans (Spares.of_below hb4)
  exact bodyPost_ret (v := .tuple #[s, .int .i64 k]) (by simp [results, Tryz.results23, go_sem]) rfl ⟨tn', ln', tks', lks', hQ, rfl, ⟨bH3.below hb4 bH3.lt, ⟨m1, m2, p, bD3.below hb4 bD3.lt⟩, hV3.below hb4, hE3.below (hb4.mono hV3.va.six), hS.h6, hS.d6⟩, hsp⟩

set_option maxHeartbeats 1000000 in
theorem Tryz.hAuth (hb db rb vb : Nat) (w : World) (hH : BoxN w hb 64 #[.pointer (some ⟨db, 0, none⟩), .pointer (some ⟨rb, 0, none⟩), .pointer (some ⟨vb, 0, none⟩)]) (id pth : List UInt8) (r : Bool)
    (hC : Calls Tryz.prog 41 #[.pointer (some ⟨vb, 0, none⟩), .string ⟨id.toArray⟩, .string ⟨pth.toArray⟩] w fun e w' => e = .returned (.bool r) ∧ Below w.heap.size w w') :
    Calls Tryz.prog 22 #[.pointer (some ⟨hb, 0, none⟩), .string ⟨id.toArray⟩, .string ⟨pth.toArray⟩] w fun e w' => e = .returned (.bool r) ∧ Below w.heap.size w w' := by
  have h2 := hH.cell 2 (v := .pointer (some ⟨vb, 0, none⟩)) rfl
  go_enter Tryz.func22, Tryz.ntmps22
  go_wp2_with (go_at_call 41; refine hC.mono ?_; rintro e w1 ⟨rfl, hb1⟩)
  go_ret
  exact ⟨rfl, hb1⟩
end Go.Proofs
