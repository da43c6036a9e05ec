import Derived.Test.YtjbekgjdempbiaaGreatDoorJCntA
import Derived.Test.YtjbekgjdempbiaaGreatDoorJRecC
/-
  (Vault).put, count: a token or lease that is kept.
-/
namespace Go.Proofs
open Go.RowKit Go.Sort Go.Lib Go.Shelf Go.Maps

theorem ownsMap_below {H : Type} {P : Program} {k : TypeId} {R : Value → Option (DataW H × List MemPlace)} {D : DataW H} {W W' : World} {b n : Nat} (h : W.ownsMap P k R b n D) (hb : Below W.heap.size W W') : W'.ownsMap P k R b n D :=
  h.kept (row := none) ⟨hb.os, hb.tape, hb.output, hb.size, fun k hk _ => hb.block k hk⟩ (by simp)
abbrev PutP (vb rb fo mp : Nat) (c0 c1 c2 c3 c4 c5 c6 c7 c8 c9 : Value) (W : World) : Prop := W.cell? ⟨vb, fo, none⟩ = some (.map (some mp)) ∧ Hold10 W rb c0 c1 c2 c3 c4 c5 c6 c7 c8 c9
theorem PutP.below {vb rb fo mp : Nat} {c0 c1 c2 c3 c4 c5 c6 c7 c8 c9 : Value} {W W' : World} (h : PutP vb rb fo mp c0 c1 c2 c3 c4 c5 c6 c7 c8 c9 W) (hb : Below W.heap.size W W') : PutP vb rb fo mp c0 c1 c2 c3 c4 c5 c6 c7 c8 c9 W' := ⟨cell_later hb h.1, h.2.below hb⟩

set_option maxRecDepth 100000 in
set_option maxHeartbeats 4000000 in
theorem Tryz.put_tok (vb mt ml : Nat) (vx : VX) (tm : Int) (tn ln : Nat) (tks : List TokE) (lks : List LeaE) (w : World) (hV : Tryz.VFull w vb mt ml vx tm tn ln tks lks) (kind last : Int) (pth : List UInt8) (t : TokE) (hok : TokOk t) (hf : FitsTok t tks) (hl : tks.length < 500) (h1 : t.n < u64lim) (h2 : t.au < u64lim) :
    Calls Tryz.prog 148 #[.pointer (some ⟨vb, 0, none⟩), .agg (recCells kind 1 t.n t.ak t.au t.pd t.at_ t.tr last pth)] w fun e w' => e = .returned (.tuple #[]) ∧ Tryz.VFull w' vb mt ml vx tm (max tn t.n) ln (putTok t tks) lks ∧ Spares [vb, mt] w w' := by
  have hOf := fun W => Tryz.tokenOf kind 1 t.n t.ak t.au t.pd t.at_ t.tr last pth W
  have hSt := fun W (hH : Tryz.Held W mt ml tks lks) => Tryz.storeT hH hV.va.ok hf hl h1 h2
  unfold nmV TokE.cells at hSt
  unfold recCells at hOf ⊢
  have bR0 := BoxN.new w 135 #[.int .i64 kind, .int .i64 1, .int .u64 t.n, .int .i64 t.ak, .int .u64 t.au, .bool t.pd, .int .u64 t.at_, .int .i64 t.tr, .int .u64 last, .string ⟨pth.toArray⟩]
  have hB0 : Below w.heap.size w (w.alloc (.cells #[.int .i64 kind, .int .i64 1, .int .u64 t.n, .int .i64 t.ak, .int .u64 t.au, .bool t.pd, .int .u64 t.at_, .int .i64 t.tr, .int .u64 last, .string ⟨pth.toArray⟩] 135)) := (Below.refl _ w).alloc (Nat.le_refl _) _
  have hV0 := hV.below hB0
  have hU := Tryz.use_tn vb mt ml vx tm tn ln t.n _ hV0.va.v
  unfold Tryz.kd_tn Tryz.usetn at hU
  have lV := hV.va.v.lt
  have lH := hV.va.held.lt
  have hne := hV.nes
  go_enter Tryz.func148, Tryz.ntmps148
  go_wp2_with (go_at_call 149; refine hU.mono ?_; rintro e w1 ⟨rfl, bV1, hS1⟩; have bR1 := hS1.box bR0 (by simp; omega); have y1 := bR1.cell 1 (v := .int .i64 1) rfl)
  have hz1 := hS1.size
  have hH1 : Tryz.Held w1 mt ml tks lks := by
    obtain ⟨⟨n1, k1, m1⟩, ⟨n2, k2, m2⟩⟩ := hV0.va.held
    exact ⟨⟨n1, k1, hS1.map m1 (by simpa using hne.1)⟩, ⟨n2, k2, hS1.map m2 (by simpa using hne.2)⟩⟩
  have hP1 : PutP vb w.heap.size 3 mt (.int .i64 kind) (.int .i64 1) (.int .u64 t.n) (.int .i64 t.ak) (.int .u64 t.au) (.bool t.pd) (.int .u64 t.at_) (.int .i64 t.tr) (.int .u64 last) (.string ⟨pth.toArray⟩) w1.drew := ⟨bV1.cell 3 rfl, bR1.hold10⟩
  have Hz1 := hid_intro hz1
  clear hz1 hU y1
  go_region_held3 (PutP vb w.heap.size 3 mt (.int .i64 kind) (.int .i64 1) (.int .u64 t.n) (.int .i64 t.ak) (.int .u64 t.au) (.bool t.pd) (.int .u64 t.at_) (.int .i64 t.tr) (.int .u64 last) (.string ⟨pth.toArray⟩)) (first
    | with_reducible exact hP1
    | with_reducible exact hP2
    | with_reducible exact hP4
    | with_reducible assumption) (first
    | (go_at_call 187; refine (hOf _).mono ?_; rintro e w2 ⟨rfl, hb2⟩; have hP2 := PutP.below hP1 hb2; have hB2 : Below w1.heap.size w1 w2 := (Below.refl _ w1).drew.trans hb2; obtain ⟨w4, hrun, hM4, hg4⟩ := hSt w2 (hH1.keeps (KeepsT.below (bad := fun _ => false) hB2)); have bV4 := (bV1.below hB2 bV1.lt).kept hg4 (by intro e; injection e with e; exact hne.1 e.symm); have bR4 := (bR1.below hB2 bR1.lt).kept hg4 (by intro e; injection e with e; omega); have hP4 : PutP vb w.heap.size 3 mt (.int .i64 kind) (.int .i64 1) (.int .u64 t.n) (.int .i64 t.ak) (.int .u64 t.au) (.bool t.pd) (.int .u64 t.at_) (.int .i64 t.tr) (.int .u64 last) (.string ⟨pth.toArray⟩) w4 := ⟨bV4.cell 3 rfl, bR4.hold10⟩))
  all_goals
    have hsp : Spares [vb, mt] w w4 := (((Spares.of_below hB0).trans (hS1.mono (by simp))).trans (Spares.of_below hB2)).trans (Spares.of_grown hg4 (by simp))
    have hF : Hid (Tryz.VFull w4 vb mt ml vx tm (max tn t.n) ln (putTok t tks) lks) := hid_intro (by
      have hb6 := hsp.below (B := 6) hV.va.six (fun b hb => by
        have h9 := hV.v9
        have h9' := hV.m9
        rcases List.mem_cons.1 hb with rfl | hb
        · omega
        · rw [List.mem_singleton.1 hb]; omega)
      have hm : ((max tn t.n : Nat) : Int) = max (tn : Int) t.n := by omega
      obtain ⟨n2, k2, m2⟩ := hH1.mapL
      have m4 := (ownsMap_below m2 hB2).kept hg4 (by intro e; injection e with e; exact hV.mne e.symm)
      refine ⟨⟨?_, ⟨hM4, ⟨n2, k2, m4⟩⟩, hV.va.ok.putT hf hl h1 h2, hV.va.env.below hb6 (Nat.le_refl _), Nat.le_trans hV.va.six hsp.size⟩, fun x hx => ?_, hV.nl, hV.t0, hV.t1, fun x hx => ?_, hV.okL, hV.mne, hV.v9, hV.m9, hV.l9⟩
      · rw [hm]; exact bV4
      · rcases putTok_mem hV.va.ok.incT hx with rfl | hx
        · omega
        · have := hV.nt x hx; omega
      · rcases putTok_mem hV.va.ok.incT hx with rfl | hx
        · exact hok
        · exact hV.okT x hx)
    clear hrun hM4 hg4 hP4 hP2 hP1 bV4 bR4 bV1 bR1 hSt hOf
    go_wp2
    go_end0
    exact ⟨rfl, hid_elim hF, hsp⟩
set_option maxRecDepth 100000 in
set_option maxHeartbeats 4000000 in
theorem Tryz.put_lea (vb mt ml : Nat) (vx : VX) (tm : Int) (tn ln : Nat) (tks : List TokE) (lks : List LeaE) (w : World) (hV : Tryz.VFull w vb mt ml vx tm tn ln tks lks) (kind : Int) (t : LeaE) (hok : LeaOk t) (hf : FitsLea t lks) (hl : lks.length < 500) (h1 : t.n < u64lim) (h2 : t.au < u64lim) :
    Calls Tryz.prog 148 #[.pointer (some ⟨vb, 0, none⟩), .agg (recCells kind 2 t.n t.ak t.au t.pd t.at_ t.tr t.last t.pth)] w fun e w' => e = .returned (.tuple #[]) ∧ Tryz.VFull w' vb mt ml vx tm tn (max ln t.n) tks (putLea t lks) ∧ Spares [vb, ml] w w' := by
  have hOf := fun W => Tryz.leaseOf kind 2 t.n t.ak t.au t.pd t.at_ t.tr t.last t.pth W
  have hSt := fun W (hH : Tryz.Held W mt ml tks lks) => Tryz.storeL hH hV.va.ok hf hl h1 h2
  unfold nmV LeaE.cells at hSt
  unfold recCells at hOf ⊢
  have bR0 := BoxN.new w 135 #[.int .i64 kind, .int .i64 2, .int .u64 t.n, .int .i64 t.ak, .int .u64 t.au, .bool t.pd, .int .u64 t.at_, .int .i64 t.tr, .int .u64 t.last, .string ⟨t.pth.toArray⟩]
  have hB0 : Below w.heap.size w (w.alloc (.cells #[.int .i64 kind, .int .i64 2, .int .u64 t.n, .int .i64 t.ak, .int .u64 t.au, .bool t.pd, .int .u64 t.at_, .int .i64 t.tr, .int .u64 t.last, .string ⟨t.pth.toArray⟩] 135)) := (Below.refl _ w).alloc (Nat.le_refl _) _
  have hV0 := hV.below hB0
  have hU := Tryz.use_ln vb mt ml vx tm tn ln t.n _ hV0.va.v
  unfold Tryz.kd_ln Tryz.useln at hU
  have lV := hV.va.v.lt
  have lH := hV.va.held.lt
  have hne := hV.nes
  go_enter Tryz.func148, Tryz.ntmps148
  go_wp2_with (go_at_call 149; refine hU.mono ?_; rintro e w1 ⟨rfl, bV1, hS1⟩; have bR1 := hS1.box bR0 (by simp; omega); have y1 := bR1.cell 1 (v := .int .i64 2) rfl)
  have hz1 := hS1.size
  have hH1 : Tryz.Held w1 mt ml tks lks := by
    obtain ⟨⟨n1, k1, m1⟩, ⟨n2, k2, m2⟩⟩ := hV0.va.held
    exact ⟨⟨n1, k1, hS1.map m1 (by simpa using hne.1)⟩, ⟨n2, k2, hS1.map m2 (by simpa using hne.2)⟩⟩
  have hP1 : PutP vb w.heap.size 4 ml (.int .i64 kind) (.int .i64 2) (.int .u64 t.n) (.int .i64 t.ak) (.int .u64 t.au) (.bool t.pd) (.int .u64 t.at_) (.int .i64 t.tr) (.int .u64 t.last) (.string ⟨t.pth.toArray⟩) w1.drew := ⟨bV1.cell 4 rfl, bR1.hold10⟩
  have Hz1 := hid_intro hz1
  clear hz1 hU y1
  go_region_held3 (PutP vb w.heap.size 4 ml (.int .i64 kind) (.int .i64 2) (.int .u64 t.n) (.int .i64 t.ak) (.int .u64 t.au) (.bool t.pd) (.int .u64 t.at_) (.int .i64 t.tr) (.int .u64 t.last) (.string ⟨t.pth.toArray⟩)) (first
    | with_reducible exact hP1
    | with_reducible exact hP2
    | with_reducible exact hP4
    | with_reducible assumption) (first
    | (go_at_call 188; refine (hOf _).mono ?_; rintro e w2 ⟨rfl, hb2⟩; have hP2 := PutP.below hP1 hb2; have hB2 : Below w1.heap.size w1 w2 := (Below.refl _ w1).drew.trans hb2; obtain ⟨w4, hrun, hM4, hg4⟩ := hSt w2 (hH1.keeps (KeepsT.below (bad := fun _ => false) hB2)); have bV4 := (bV1.below hB2 bV1.lt).kept hg4 (by intro e; injection e with e; exact hne.2 e.symm); have bR4 := (bR1.below hB2 bR1.lt).kept hg4 (by intro e; injection e with e; omega); have hP4 : PutP vb w.heap.size 4 ml (.int .i64 kind) (.int .i64 2) (.int .u64 t.n) (.int .i64 t.ak) (.int .u64 t.au) (.bool t.pd) (.int .u64 t.at_) (.int .i64 t.tr) (.int .u64 t.last) (.string ⟨t.pth.toArray⟩) w4 := ⟨bV4.cell 4 rfl, bR4.hold10⟩))
  all_goals
    have hsp : Spares [vb, ml] w w4 := (((Spares.of_below hB0).trans (hS1.mono (by simp))).trans (Spares.of_below hB2)).trans (Spares.of_grown hg4 (by simp))
    have hF : Hid (Tryz.VFull w4 vb mt ml vx tm tn (max ln t.n) tks (putLea t lks)) := hid_intro (by
      have hb6 := hsp.below (B := 6) hV.va.six (fun b hb => by
        have h9 := hV.v9
        have h9' := hV.l9
        rcases List.mem_cons.1 hb with rfl | hb
        · omega
        · rw [List.mem_singleton.1 hb]; omega)
      have hm : ((max ln t.n : Nat) : Int) = max (ln : Int) t.n := by omega
      obtain ⟨n2, k2, m2⟩ := hH1.mapT
      have m4 := (ownsMap_below m2 hB2).kept hg4 (by intro e; injection e with e; exact hV.mne e)
      refine ⟨⟨?_, ⟨⟨n2, k2, m4⟩, hM4⟩, hV.va.ok.putL hf hl h1 h2, hV.va.env.below hb6 (Nat.le_refl _), Nat.le_trans hV.va.six hsp.size⟩, hV.nt, fun x hx => ?_, hV.t0, hV.t1, hV.okT, fun x hx => ?_, hV.mne, hV.v9, hV.m9, hV.l9⟩
      · rw [hm]; exact bV4
      · rcases putLea_mem hV.va.ok.incL hx with rfl | hx
        · omega
        · have := hV.nl x hx; omega
      · rcases putLea_mem hV.va.ok.incL hx with rfl | hx
        · exact hok
        · exact hV.okL x hx)
    clear hrun hM4 hg4 hP4 hP2 hP1 bV4 bR4 bV1 bR1 hSt hOf
    go_wp2
    go_end0
    exact ⟨rfl, hid_elim hF, hsp⟩
end Go.Proofs

/-
  (Vault).count: what is kept.
-/
namespace Go.Proofs
open Go.RowKit Go.Sort Go.Lib Go.Shelf Go.Maps

set_option maxRecDepth 100000 in
set_option maxHeartbeats 2000000 in
theorem Tryz.count_tok (vb mt ml : Nat) (vx : VX) (tm : Int) (tn ln : Nat) (tks : List TokE) (lks : List LeaE) (w : World) (hV : Tryz.VFull w vb mt ml vx tm tn ln tks lks) (last : Int) (pth : List UInt8) (t : TokE) (hok : TokOk t) (hf : FitsTok t tks) (hl : tks.length < 500) (h1 : t.n < u64lim) (h2 : t.au < u64lim) :
    Calls Tryz.prog 100 #[.pointer (some ⟨vb, 0, none⟩), .agg (recCells 1 1 t.n t.ak t.au t.pd t.at_ t.tr last pth)] w fun e w' => e = .returned (.tuple #[]) ∧ Tryz.VFull w' vb mt ml vx tm (max tn t.n) ln (putTok t tks) lks ∧ Spares [vb, mt] w w' := by
  have hB0 : Below w.heap.size w (w.alloc (.cells (recCells 1 1 t.n t.ak t.au t.pd t.at_ t.tr last pth) 135)) := (Below.refl _ w).alloc (Nat.le_refl _) _
  have hP := Tryz.put_tok vb mt ml vx tm tn ln tks lks _ (hV.below hB0) 1 last pth t hok hf hl h1 h2
  unfold recCells at hP hB0 ⊢
  go_enter Tryz.func100, Tryz.ntmps100
  go_wp2_with (go_at_call 148; refine hP.mono ?_; rintro e w1 ⟨rfl, hV1, hS1⟩)
  go_end0
  exact ⟨rfl, hV1, (Spares.of_below hB0).trans hS1⟩

set_option maxRecDepth 100000 in
set_option maxHeartbeats 2000000 in
theorem Tryz.count_lea (vb mt ml : Nat) (vx : VX) (tm : Int) (tn ln : Nat) (tks : List TokE) (lks : List LeaE) (w : World) (hV : Tryz.VFull w vb mt ml vx tm tn ln tks lks) (t : LeaE) (hok : LeaOk t) (hf : FitsLea t lks) (hl : lks.length < 500) (h1 : t.n < u64lim) (h2 : t.au < u64lim) :
    Calls Tryz.prog 100 #[.pointer (some ⟨vb, 0, none⟩), .agg (recCells 1 2 t.n t.ak t.au t.pd t.at_ t.tr t.last t.pth)] w fun e w' => e = .returned (.tuple #[]) ∧ Tryz.VFull w' vb mt ml vx tm tn (max ln t.n) tks (putLea t lks) ∧ Spares [vb, ml] w w' := by
  have hB0 : Below w.heap.size w (w.alloc (.cells (recCells 1 2 t.n t.ak t.au t.pd t.at_ t.tr t.last t.pth) 135)) := (Below.refl _ w).alloc (Nat.le_refl _) _
  have hP := Tryz.put_lea vb mt ml vx tm tn ln tks lks _ (hV.below hB0) 1 t hok hf hl h1 h2
  unfold recCells at hP hB0 ⊢
  go_enter Tryz.func100, Tryz.ntmps100
  go_wp2_with (go_at_call 148; refine hP.mono ?_; rintro e w1 ⟨rfl, hV1, hS1⟩)
  go_end0
  exact ⟨rfl, hV1, (Spares.of_below hB0).trans hS1⟩
end Go.Proofs

/-
  A vault with its journal and its disk, the disk being well; what is kept, one by one.
-/
namespace Go.Proofs
open Go.RowKit Go.Sort Go.Lib Go.Shelf Go.Maps

/-- a vault's own lists and numbers. -/
structure VSt where
  tn : Nat
  ln : Nat
  tks : List TokE
  lks : List LeaE
/-- what is kept: a token, a lease. -/
inductive Item where
  | tok (t : TokE)
  | lea (t : LeaE)
def TokE.rec_ (t : TokE) : RecD := ⟨1, 1, t.n, t.ak, t.au, t.pd, t.at_, t.tr, 0, []⟩
def LeaE.rec_ (t : LeaE) : RecD := ⟨1, 2, t.n, t.ak, t.au, t.pd, t.at_, t.tr, t.last, t.pth⟩
def Item.rec_ : Item → RecD
  | .tok t => t.rec_
  | .lea t => t.rec_
def Item.app : Item → VSt → VSt
  | .tok t, s => ⟨max s.tn t.n, s.ln, putTok t s.tks, s.lks⟩
  | .lea t, s => ⟨s.tn, max s.ln t.n, s.tks, putLea t s.lks⟩
def Item.Fits : Item → VSt → Prop
  | .tok t, s => TokOk t ∧ FitsTok t s.tks ∧ s.tks.length < 500 ∧ t.n < u64lim ∧ t.au < u64lim
  | .lea t, s => LeaOk t ∧ FitsLea t s.lks ∧ s.lks.length < 500 ∧ t.n < u64lim ∧ t.au < u64lim
def FitsAll : List Item → VSt → Prop
  | [], _ => True
  | i :: is, s => i.Fits s ∧ FitsAll is (i.app s)
def appAll (is : List Item) (s : VSt) : VSt := is.foldl (fun s i => i.app s) s
theorem FitsAll.get : ∀ {is : List Item} {s : VSt} {k : Nat} {i : Item}, FitsAll is s → is[k]? = some i → i.Fits (appAll (is.take k) s)
  | [], _, _, _, _, h => by simp at h
  | a :: is, s, 0, i, h, hi => by
    obtain rfl : a = i := by simpa using hi
    exact h.1
  | a :: is, s, k + 1, i, h, hi => FitsAll.get (is := is) (s := a.app s) h.2 (by simpa using hi)
theorem appAll_take {is : List Item} {s : VSt} {k : Nat} {i : Item} (h : is[k]? = some i) : appAll (is.take (k + 1)) s = i.app (appAll (is.take k) s) := by
  unfold appAll
  rw [List.take_add_one, h]
  simp
theorem Item.ok_of {i : Item} {s : VSt} (h : i.Fits s) : i.rec_.Ok ∧ Ascii i.rec_.pth := by
  cases i with
  | tok t =>
    obtain ⟨⟨a0, a1, r0, r1⟩, -, -, h1, h2⟩ := h
    unfold u64lim at h1 h2
    exact ⟨⟨show (-9223372036854775808 : Int) ≤ 1 by decide, show (1 : Int) ≤ 9223372036854775807 by decide, h1, h2, a0, a1, r0, r1, show (0 : Int) ≤ 0 by decide, show (0 : Int) ≤ 18446744073709551615 by decide, show 0 ≤ 1000 by decide⟩, ascii_nil⟩
  | lea t =>
    obtain ⟨⟨a0, a1, r0, r1, l0, l1, p1, pa⟩, -, -, h1, h2⟩ := h
    unfold u64lim at h1 h2
    exact ⟨⟨show (-9223372036854775808 : Int) ≤ 1 by decide, show (1 : Int) ≤ 9223372036854775807 by decide, h1, h2, a0, a1, r0, r1, l0, l1, by show t.pth.length ≤ 1000; omega⟩, pa⟩
theorem FitsAll.ok : ∀ {is : List Item} {s : VSt}, FitsAll is s → ∀ r ∈ is.map Item.rec_, r.Ok ∧ Ascii r.pth
  | [], _, _, r, h => by simp at h
  | a :: is, s, hf, r, h => by
    rw [List.map_cons] at h
    rcases List.mem_cons.1 h with rfl | h
    · exact Item.ok_of hf.1
    · exact FitsAll.ok (is := is) (s := a.app s) hf.2 r h

/-- records, cell by cell. -/
def flatR (rs : List RecD) : List Value := rs.flatMap fun r => r.cells.toList
theorem RecD.cells_len (r : RecD) : r.cells.toList.length = 10 := rfl
theorem flatR_length (rs : List RecD) : (flatR rs).length = rs.length * 10 := by
  induction rs with
  | nil => rfl
  | cons x xs ih => simp only [flatR, List.flatMap_cons, List.length_append, RecD.cells_len, List.length_cons] at ih ⊢; omega
theorem flatR_get : ∀ (xs : List RecD) (k j : Nat) (t : RecD), xs[k]? = some t → j < 10 → (flatR xs)[k * 10 + j]? = t.cells[j]?
  | [], _, _, _, h, _ => by simp at h
  | x :: xs, 0, j, t, h, hj => by
    obtain rfl : x = t := by simpa using h
    show (x.cells.toList ++ flatR xs)[0 * 10 + j]? = _
    rw [List.getElem?_append_left (by rw [RecD.cells_len]; omega)]
    simp
  | x :: xs, k + 1, j, t, h, hj => by
    show (x.cells.toList ++ flatR xs)[(k + 1) * 10 + j]? = _
    rw [List.getElem?_append_right (by rw [RecD.cells_len]; omega), RecD.cells_len, show (k + 1) * 10 + j - 10 = k * 10 + j by omega]
    exact flatR_get xs k j t (by simpa using h) hj
theorem rowR_of {W : World} {g : Nat} {rs : List RecD} (h : ∀ j u, (flatR rs)[j]? = some u → W.cell? ⟨g, j, none⟩ = some u) : RecRow W g rs := fun i r hr j v hv => by
  have hj : j < 10 := (Array.getElem?_eq_some_iff.1 hv).1
  exact h _ _ (by rw [flatR_get rs i j r hr hj]; exact hv)
theorem RecRow.flat {W : World} {g : Nat} {rs : List RecD} (h : RecRow W g rs) : ∀ j u, (flatR rs)[j]? = some u → W.cell? ⟨g, j, none⟩ = some u := fun j u hu => by
  have hl : j < (flatR rs).length := (List.getElem?_eq_some_iff.1 hu).1
  rw [flatR_length] at hl
  obtain ⟨r, hr⟩ : ∃ r, rs[j / 10]? = some r := ⟨rs[j / 10]'(by omega), by simp⟩
  have e : j = (j / 10) * 10 + j % 10 := by omega
  rw [e] at hu ⊢
  rw [flatR_get rs (j / 10) (j % 10) r hr (by omega)] at hu
  exact h _ r hr _ u hu
theorem RecRow.spared {W W' : World} {g : Nat} {rs : List RecD} {bs : List Nat} (h : RecRow W g rs) (hS : Spares bs W W') (hg : g < W.heap.size) (hn : g ∉ bs) : RecRow W' g rs := fun i r hr j v hv => (cell_of_block (hS.block g hg hn) _).1.trans (h i r hr j v hv)

/-- the blocks of a vault, its journal and its disk. -/
structure Blk where
  vb : Nat
  mt : Nat
  ml : Nat
  jb : Nat
  db : Nat
  md : Nat
  mn : Nat
/-- those that a call may turn. -/
def Blk.turns (k : Blk) : List Nat := [k.vb, k.mt, k.ml, k.db, k.md, k.mn]
/-- a vault with its journal and its disk: what the disk's file has, c. -/
structure Tryz.Whole (W : World) (k : Blk) (vx : VX) (tm : Int) (s : VSt) (c : List UInt8) (l f : Int) : Prop where
  v : Tryz.VFull W k.vb k.mt k.ml vx tm s.tn s.ln s.tks s.lks
  jn : vx.jn = .pointer (some ⟨k.jb, 0, none⟩)
  j : BoxN W k.jb 212 #[Tryz.diskV k.db, .int .u64 0, .nilIface]
  d : ∃ fd fn, Tryz.DiskAt W k.db k.md k.mn fd fn (.slice none 0 0) l f ∧ oldS fd = c ∧ oldS fn = c
  j9 : 9 ≤ k.jb
  d9 : 9 ≤ k.db
  md9 : 9 ≤ k.md
  mn9 : 9 ≤ k.mn
  ne1 : k.md ≠ k.mt ∧ k.md ≠ k.ml ∧ k.mn ≠ k.mt ∧ k.mn ≠ k.ml
section
variable {W W' : World} {k : Blk} {vx : VX} {tm : Int} {s : VSt} {c : List UInt8} {l f : Int}
theorem Tryz.Whole.below (h : Tryz.Whole W k vx tm s c l f) (hb : Below W.heap.size W W') : Tryz.Whole W' k vx tm s c l f := by
  obtain ⟨fd, fn, hd, e1, e2⟩ := h.d
  exact { h with v := h.v.below hb, j := h.j.below hb h.j.lt, d := ⟨fd, fn, hd.below hb, e1, e2⟩ }
theorem Tryz.Whole.turns9 (h : Tryz.Whole W k vx tm s c l f) : ∀ b ∈ k.turns, 9 ≤ b := fun b hb => by
  have := h.v.v9; have := h.v.m9; have := h.v.l9; have := h.d9; have := h.md9; have := h.mn9
  simp only [Blk.turns, List.mem_cons, List.not_mem_nil, or_false] at hb
  omega
/-- what is different from what. -/
theorem Tryz.Whole.nes (h : Tryz.Whole W k vx tm s c l f) : (k.vb ∉ [k.db, k.md, k.mn] ∧ k.mt ∉ [k.db, k.md, k.mn] ∧ k.ml ∉ [k.db, k.md, k.mn]) ∧ k.jb ∉ k.turns ∧ (k.db ≠ k.vb ∧ k.db ≠ k.mt ∧ k.db ≠ k.ml) := by
  obtain ⟨fd, fn, hd, -, -⟩ := h.d
  obtain ⟨n1, -, m1⟩ := h.v.va.held.mapT
  obtain ⟨n2, -, m2⟩ := h.v.va.held.mapL
  obtain ⟨n3, -, m3⟩ := hd.dm
  obtain ⟨n4, -, m4⟩ := hd.nm
  have a1 := h.v.va.v.ne hd.box (by decide)
  have a2 := BoxN.ne_map' h.v.va.v m3
  have a3 := BoxN.ne_map' h.v.va.v m4
  have a4 := BoxN.ne_map' hd.box m1
  have a5 := BoxN.ne_map' hd.box m2
  have b1 := h.j.ne h.v.va.v (by decide)
  have b2 := BoxN.ne_map' h.j m1
  have b3 := BoxN.ne_map' h.j m2
  have b4 := h.j.ne hd.box (by decide)
  have b5 := BoxN.ne_map' h.j m3
  have b6 := BoxN.ne_map' h.j m4
  obtain ⟨c1, c2, c3, c4⟩ := h.ne1
  refine ⟨⟨by simp [a1, Ne.symm a2, Ne.symm a3], by simp [a4, Ne.symm c1, Ne.symm c3], by simp [a5, Ne.symm c2, Ne.symm c4]⟩, by simp [Blk.turns, b1, Ne.symm b2, Ne.symm b3, b4, Ne.symm b5, Ne.symm b6], Ne.symm a1, Ne.symm a4, Ne.symm a5⟩
end
end Go.Proofs
