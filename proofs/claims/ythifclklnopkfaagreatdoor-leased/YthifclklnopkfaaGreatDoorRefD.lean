import Derived.Test.YthifclklnopkfaaGreatDoorRefB
import Derived.Test.YthifclklnopkfaaGreatDoorNext
/-
  The document's answer: Info, All.
-/
namespace Go.Proofs
open Go.RowKit Go.Sort Go.Lib Go.Shelf

def ofStr (o : Int) : List UInt8 := if 0 ≤ o then 116 :: Lib.decDigits o.toNat else []
def ThingD.info (tm : Int) (t : ThingD) : InfoD := ⟨t.id, t.state tm, t.at_, t.tries, ofStr t.of_, t.pth⟩

theorem six_new (W : World) (t : TypeId) (z0 z1 z2 z3 z4 z5 v0 v1 v2 v3 v4 v5 : Value) :
    BoxN (((((((W.alloc (.cells #[z0, z1, z2, z3, z4, z5] t)).setCell ⟨W.heap.size, 0, none⟩ v0).setCell ⟨W.heap.size, 1, none⟩ v1).setCell ⟨W.heap.size, 2, none⟩ v2).setCell ⟨W.heap.size, 3, none⟩ v3).setCell ⟨W.heap.size, 4, none⟩ v4).setCell ⟨W.heap.size, 5, none⟩ v5) W.heap.size t #[v0, v1, v2, v3, v4, v5] :=
  ((((((BoxN.new W t #[z0, z1, z2, z3, z4, z5]).set 0 v0).set 1 v1).set 2 v2).set 3 v3).set 4 v4).set 5 v5
theorem BoxN.c8 {W : World} {b : Nat} {t : TypeId} {c0 c1 c2 c3 c4 c5 c6 c7 : Value} (h : BoxN W b t #[c0, c1, c2, c3, c4, c5, c6, c7]) :
    W.cell? ⟨b, 0, none⟩ = some c0 ∧ W.cell? ⟨b, 1, none⟩ = some c1 ∧ W.cell? ⟨b, 2, none⟩ = some c2 ∧ W.cell? ⟨b, 3, none⟩ = some c3 ∧ W.cell? ⟨b, 4, none⟩ = some c4 ∧ W.cell? ⟨b, 5, none⟩ = some c5 ∧ W.cell? ⟨b, 6, none⟩ = some c6 ∧ W.cell? ⟨b, 7, none⟩ = some c7 :=
  ⟨h.cell 0 rfl, h.cell 1 rfl, h.cell 2 rfl, h.cell 3 rfl, h.cell 4 rfl, h.cell 5 rfl, h.cell 6 rfl, h.cell 7 rfl⟩
theorem BoxN.c6 {W : World} {b : Nat} {t : TypeId} {c0 c1 c2 c3 c4 c5 : Value} (h : BoxN W b t #[c0, c1, c2, c3, c4, c5]) :
    (W.cell? ⟨b, 0, none⟩ = some c0 ∧ W.cell? ⟨b, 1, none⟩ = some c1 ∧ W.cell? ⟨b, 2, none⟩ = some c2 ∧ W.cell? ⟨b, 3, none⟩ = some c3 ∧ W.cell? ⟨b, 4, none⟩ = some c4 ∧ W.cell? ⟨b, 5, none⟩ = some c5) ∧
    (W.frozen? ⟨b, 0, none⟩ = false ∧ W.frozen? ⟨b, 1, none⟩ = false ∧ W.frozen? ⟨b, 2, none⟩ = false ∧ W.frozen? ⟨b, 3, none⟩ = false ∧ W.frozen? ⟨b, 4, none⟩ = false ∧ W.frozen? ⟨b, 5, none⟩ = false) :=
  ⟨⟨h.cell 0 rfl, h.cell 1 rfl, h.cell 2 rfl, h.cell 3 rfl, h.cell 4 rfl, h.cell 5 rfl⟩, h.frozen 0, h.frozen 1, h.frozen 2, h.frozen 3, h.frozen 4, h.frozen 5⟩
theorem six_below {w W : World} {B q : Nat} (h : Below B w W) (hq : B ≤ q) (v0 v1 v2 v3 v4 v5 : Value) :
    Below B w ((((((W.setCell ⟨q, 0, none⟩ v0).setCell ⟨q, 1, none⟩ v1).setCell ⟨q, 2, none⟩ v2).setCell ⟨q, 3, none⟩ v3).setCell ⟨q, 4, none⟩ v4).setCell ⟨q, 5, none⟩ v5) :=
  (((((h.setCell (p := ⟨q, 0, none⟩) hq v0).setCell (p := ⟨q, 1, none⟩) hq v1).setCell (p := ⟨q, 2, none⟩) hq v2).setCell (p := ⟨q, 3, none⟩) hq v3).setCell (p := ⟨q, 4, none⟩) hq v4).setCell (p := ⟨q, 5, none⟩) hq v5
abbrev zero6 : Array Value := #[.string ⟨#[]⟩, .int .i64 0, .int .u64 0, .int .i64 0, .string ⟨#[]⟩, .string ⟨#[]⟩]

set_option maxRecDepth 100000 in
set_option maxHeartbeats 2000000 in
theorem Tryz.rInfo (t : ThingD) (vb : Nat) (tm : Int) (w : World) (h1 : w.cell? ⟨vb, 1, none⟩ = some (.int .u64 tm)) (hn : t.n < 9223372036854775808) (ho : t.OfOk) :
    Calls Tryz.prog 58 #[.pointer (some ⟨vb, 0, none⟩), .agg t.cells] w fun e w' => e = .returned (.agg (t.info tm).cells) ∧ Below w.heap.size w w' := by
  have hS := fun W (h : W.cell? ⟨vb, 1, none⟩ = some (.int .u64 tm)) => Tryz.rState t vb tm W h
  have hI := fun W => Tryz.rId t hn W
  simp only [ThingD.info, InfoD.cells]
  generalize t.state tm = st at *
  generalize t.id = tid at *
  obtain ⟨tk, n, o, p, a, l, dm, tr⟩ := t
  simp only [ThingD.cells] at *
  have hB0 : Below w.heap.size w ((w.alloc (.cells #[.bool tk, .int .i64 n, .int .i64 o, .string ⟨p.toArray⟩, .int .u64 a, .int .u64 l, .bool dm, .int .i64 tr] 82)).alloc (.cells zero6 40)) := ((Below.refl _ w).alloc (Nat.le_refl _) _).alloc (by simp) _
  have bT := (BoxN.new w 82 #[.bool tk, .int .i64 n, .int .i64 o, .string ⟨p.toArray⟩, .int .u64 a, .int .u64 l, .bool dm, .int .i64 tr]).alloc (.cells zero6 40)
  have bR := BoxN.new (w.alloc (.cells #[.bool tk, .int .i64 n, .int .i64 o, .string ⟨p.toArray⟩, .int .u64 a, .int .u64 l, .bool dm, .int .i64 tr] 82)) 40 zero6
  rw [World.size_alloc] at bR
  have h1' := cell_later hB0 h1
  rcases ho with ho | ⟨m, ho, hm⟩
  · simp only at ho
    subst ho
    have hof : Hid (ofStr (-1) = []) := hid_intro rfl
    generalize ofStr (-1) = os at *
    go_enter Tryz.func58, Tryz.ntmps58
    go_wp2_with (first
      | (go_at_call 107; refine (hS _ h1').mono ?_; rintro e w1 ⟨rfl, hb1⟩; have bT1 := bT.below hb1 bT.lt; obtain ⟨x0, x1, x2, x3, x4, x5, x6, x7⟩ := bT1.c8)
      | (go_at_call 63; refine (hI _).mono ?_; rintro e w2 ⟨rfl, hb2⟩; have bT2 := bT1.below hb2 bT1.lt; obtain ⟨y0, y1, y2, y3, y4, y5, y6, y7⟩ := bT2.c8; have bR2 := (bR.below hb1 bR.lt).below hb2 (bR.below hb1 bR.lt).lt; obtain ⟨⟨r0, r1, r2, r3, r4, r5⟩, f0, f1, f2, f3, f4, f5⟩ := bR2.c6; have lt2 := bT2.lt; have ltR := bR2.lt))
    have hB2 : Below w.heap.size w w2 := (hB0.trans (hb1.mono (by simp; omega))).trans (hb2.mono (by have := hb1.size; simp at this; omega))
    obtain ⟨g0, g1, g2, g3, g4, g5⟩ := ((six_box bR2 (.string ⟨tid.toArray⟩) (.int .i64 st) (.int .u64 a) (.int .i64 tr) (.string ⟨#[]⟩) (.string ⟨p.toArray⟩)).alloc (.cells #[.string ⟨tid.toArray⟩, .int .i64 st, .int .u64 a, .int .i64 tr, .string ⟨#[]⟩, .string ⟨p.toArray⟩] 40)).c6.1
    have hBF := (six_below hB2 (Nat.le_succ _) (.string ⟨tid.toArray⟩) (.int .i64 st) (.int .u64 a) (.int .i64 tr) (.string ⟨#[]⟩) (.string ⟨p.toArray⟩)).alloc (by simp only [World.size_setCell]; omega) (.cells #[.string ⟨tid.toArray⟩, .int .i64 st, .int .u64 a, .int .i64 tr, .string ⟨#[]⟩, .string ⟨p.toArray⟩] 40)
    clear hS hI hb1 hb2 hB0 bT bR h1 h1' x0 x1 x2 x3 x4 x5 x6 x7 y0 y1 y2 y3 y4 y5 y6 y7 bT1 bT2
    generalize World.alloc _ _ = WF at *
    exact bodyPost_ret (v := .agg (infoCells tid st a tr [] p)) (by simp [results, Tryz.results58, go_sem, g0, g1, g2, g3, g4, g5, infoCells]) rfl ⟨by rw [hid_elim hof], hBF⟩
  · simp only at ho
    subst ho
    have hof : Hid (ofStr (m : Int) = 116 :: Lib.decDigits m) := hid_intro (by simp [ofStr])
    have hD := fun W => Tryz.rDigits m hm W
    have hlen : ¬ 9223372036854775807 < 1 + (Lib.decDigits m).length := by have := decDigits_len m (by omega); omega
    have hlen' : ¬ 9223372036854775807 < (Lib.decDigits m).length + 1 := by omega
    generalize ofStr (m : Int) = os at *
    generalize Lib.decDigits m = ds at *
    go_enter Tryz.func58, Tryz.ntmps58
    go_wp2_with (first
      | (go_at_call 107; refine (hS _ h1').mono ?_; rintro e w1 ⟨rfl, hb1⟩; have bT1 := bT.below hb1 bT.lt; obtain ⟨x0, x1, x2, x3, x4, x5, x6, x7⟩ := bT1.c8)
      | (go_at_call 63; refine (hI _).mono ?_; rintro e w2 ⟨rfl, hb2⟩; have bT2 := bT1.below hb2 bT1.lt; obtain ⟨y0, y1, y2, y3, y4, y5, y6, y7⟩ := bT2.c8; have bR2 := (bR.below hb1 bR.lt).below hb2 (bR.below hb1 bR.lt).lt; have lt2 := bT2.lt; have ltR := bR2.lt; have bX2 := BoxN.new w2 40 #[.string ⟨tid.toArray⟩, .int .i64 st, .int .u64 a, .int .i64 tr, .string ⟨#[]⟩, .string ⟨p.toArray⟩])
      | (go_at_call 108; refine (hD _).mono ?_; rintro e w3 ⟨rfl, hb3⟩; have bX3 := bX2.below hb3 bX2.lt; have bR3 := (bR2.alloc (.cells #[.string ⟨tid.toArray⟩, .int .i64 st, .int .u64 a, .int .i64 tr, .string ⟨#[]⟩, .string ⟨p.toArray⟩] 40)).below hb3 (by simp; omega); obtain ⟨⟨r0, r1, r2, r3, r4, r5⟩, f0, f1, f2, f3, f4, f5⟩ := bR3.c6; obtain ⟨⟨z0, z1, z2, z3, z4, z5⟩, k0, k1, k2, k3, k4, k5⟩ := bX3.c6))
    have hB2 : Below w.heap.size w w2 := (hB0.trans (hb1.mono (by simp; omega))).trans (hb2.mono (by have := hb1.size; simp at this; omega))
    have hB3 : Below w.heap.size w w3 := (hB2.alloc (by omega) _).trans (hb3.mono (by simp; omega))
    obtain ⟨g0, g1, g2, g3, g4, g5⟩ := (six_box (bR3.other (B' := w2.heap.size) (by omega) 4 (.string (⟨#[116]⟩ ++ ⟨ds.toArray⟩))) (.string ⟨tid.toArray⟩) (.int .i64 st) (.int .u64 a) (.int .i64 tr) (.string (⟨#[116]⟩ ++ ⟨ds.toArray⟩)) (.string ⟨p.toArray⟩)).c6.1
    have hBF := six_below (hB3.setCell (p := ⟨w2.heap.size, 4, none⟩) (by simp; omega) (.string (⟨#[116]⟩ ++ ⟨ds.toArray⟩))) (Nat.le_succ _) (.string ⟨tid.toArray⟩) (.int .i64 st) (.int .u64 a) (.int .i64 tr) (.string (⟨#[116]⟩ ++ ⟨ds.toArray⟩)) (.string ⟨p.toArray⟩)
    clear hS hI hb1 hb2 hb3 hB0 bT bR h1 h1' x0 x1 x2 x3 x4 x5 x6 x7 y0 y1 y2 y3 y4 y5 y6 y7 bT1 bT2 r0 r1 r2 r3 r4 r5 z0 z1 z2 z3 z4 z5 bX3 bX2 bR3 bR2
    generalize World.setCell _ ⟨w.heap.size + 1, 5, none⟩ _ = WF at *
    have hos := hid_intro (bytes_cons 116 ds)
    generalize (⟨#[116]⟩ : ByteArray) ++ ⟨ds.toArray⟩ = sb at *
    exact bodyPost_ret (v := .agg (infoCells tid st a tr (116 :: ds) p)) (by simp [results, Tryz.results58, go_sem, g0, g1, g2, g3, g4, g5, infoCells, hid_elim hos]) rfl ⟨by rw [hid_elim hof], hBF⟩

def allInfos (tm : Int) (L : List ThingD) : List InfoD := ((L.filter (fun t => t.token)) ++ (L.filter (fun t => !t.token))).map (ThingD.info tm)
end Go.Proofs

/-
  The document's answer: All.
-/
namespace Go.Proofs
open Go.RowKit Go.Sort Go.Lib Go.Shelf

/-- the infos of the things of one sort. -/
def partI (tm : Int) (b : Bool) (L : List ThingD) : List InfoD := (L.filter (fun t => t.token == b)).map (ThingD.info tm)
theorem partI_snoc (tm : Int) (b : Bool) (L : List ThingD) (t : ThingD) : partI tm b (L ++ [t]) = partI tm b L ++ (if t.token == b then [t.info tm] else []) := by
  unfold partI
  by_cases h : (t.token == b) = true <;> simp [h]
theorem partI_le (tm : Int) (b : Bool) (L : List ThingD) : (partI tm b L).length ≤ L.length := by
  unfold partI; rw [List.length_map]; exact List.length_filter_le _ _
/-- all that the document's vault tells. -/
def tellI (tm : Int) (L : List ThingD) : List InfoD := partI tm true L ++ partI tm false L
def uptoI (tm : Int) (L : List ThingD) (k : Nat) : List InfoD := match k with | 0 => [] | 1 => partI tm true L | _ => tellI tm L

theorem ownsRow_below {W W' : World} {base size n : Nat} {e : TypeId} {v : Value} {xs : List Value} (h : W.ownsRow base e size v n xs) (hb : Below W.heap.size W W') : W'.ownsRow base e size v n xs :=
  h.kept (row := none) ⟨hb.os, hb.tape, hb.output, hb.size, fun k hk _ => hb.block k hk⟩ (by by_cases h : v.ownBlock = none; exact .inl h; exact .inr h)

set_option maxRecDepth 100000 in
set_option maxHeartbeats 4000000 in
theorem Tryz.rAll (B : Nat) (vb g cap : Nat) (L : List ThingD) (tm tn ln : Int) (w : World) (h : Tryz.RVAt B w vb g cap L tm tn ln) :
    Calls Tryz.prog 33 #[.pointer (some ⟨vb, 0, none⟩)] w fun e w' => ∃ v : Value, e = .returned v ∧ w'.ownsRow w.heap.size 40 6 v (tellI tm L).length (flatI (tellI tm L)) ∧ Below w.heap.size w w' := by
  obtain ⟨i0, hi, hz0, hz1, hz2⟩ := info_parts Tryz.infoInfo
  have hlim := h.lim
  obtain ⟨len, hlen⟩ : ∃ len, L.length = len := ⟨_, rfl⟩
  rw [hlen] at hlim
  have Hlen := hid_intro hlen
  clear hlen
  go_enter Tryz.func33, Tryz.ntmps33
  go_wp2
  go_loopw [3, 4] (fun v j wr => ∃ k : Nat, k ≤ 2 ∧ j = .int .i64 k ∧ wr.ownsRow w.heap.size 40 6 v (uptoI tm L k).length (flatI (uptoI tm L k)) ∧ Below w.heap.size w wr) (fun _ j _ => 2 - (intOf j).toNat)
  case atStart => exact ⟨0, by omega, rfl, World.ownsRow_nil _ _ _ _, Below.refl _ _⟩
  case round =>
    obtain ⟨k, hk, rfl, hrow, hB⟩ := hrel
    by_cases hk2 : k < 2
    · obtain ⟨pre, hpre⟩ : ∃ pre, uptoI tm L k = pre := ⟨_, rfl⟩
      obtain ⟨b, hb⟩ : ∃ b : Bool, ((k : Int) == 0) = b := ⟨_, rfl⟩
      have hfin : Hid (uptoI tm L (k + 1) = pre ++ partI tm b L) := hid_intro (by
        match k, hk2 with
        | 0, _ => simp [uptoI] at hpre hb ⊢; simp [hpre, hb.symm]
        | 1, _ => simp [uptoI, tellI] at hpre hb ⊢; simp [← hpre, ← hb])
      have hpl : pre.length ≤ 100 := by
        rw [← hpre]
        match k, hk2 with
        | 0, _ => simp [uptoI]
        | 1, _ => simp only [uptoI]; have := partI_le tm true L; have := hid_elim Hlen; omega
      rw [hpre] at hrow
      clear hpre
      go_wp2
      rw [show decide ((k : Int) < 2) = true by simp; omega]
      go_loopw [3, 5] (fun v j wq => ∃ i : Nat, i ≤ len ∧ j = .int .i64 i ∧ wq.ownsRow w.heap.size 40 6 v (pre ++ partI tm b (L.take i)).length (flatI (pre ++ partI tm b (L.take i))) ∧ Below w.heap.size w wq) (fun _ j _ => len - (intOf j).toNat)
      case atStart => exact ⟨0, Nat.zero_le _, rfl, by simpa [partI] using hrow, hB⟩
      case round =>
        clear hrow hB
        obtain ⟨i, hil, rfl, hrow, hB⟩ := hrel
        have h' := h.below hB
        have c0 := h'.v.cell 0 (v := .slice (some ⟨g, 0, none⟩) L.length cap) rfl
        rw [hid_elim Hlen] at c0
        by_cases hin : i < len
        · obtain ⟨t, ht⟩ : ∃ t, L[i]? = some t := ⟨L[i]'(by have := hid_elim Hlen; omega), by simp [hid_elim Hlen, hin]⟩
          obtain ⟨x0, x1, x2, x3, x4, x5, x6, x7⟩ := h'.cells ht
          have htk := hid_intro (take_get ht)
          have hsn := hid_intro (partI_snoc tm b (L.take i) t)
          have hI := Tryz.rInfo t vb tm wr (h'.v.cell 1 (v := .int .u64 tm) rfl) (h.num t (List.mem_of_getElem? ht)) (h.ofs t (List.mem_of_getElem? ht))
          have hpl2 : (pre ++ partI tm b (L.take i)).length ≤ 200 := by
            have := partI_le tm b (L.take i)
            simp only [List.length_append]
            simp at this ⊢; omega
          simp only [ThingD.cells] at hI
          generalize t.info tm = x at *
          obtain ⟨id, st, at_, tr, tok, pth⟩ := x
          simp only [InfoD.cells, infoCells] at hI
          obtain ⟨acc, hacc⟩ : ∃ acc, pre ++ partI tm b (L.take i) = acc := ⟨_, rfl⟩
          rw [hacc] at hrow hpl2
          have Hacc := hid_intro hacc
          clear hacc
          have hwl := hB.size
          by_cases htb : (t.token == b) = true
          · have htb' : t.token = b := by simpa using htb
            have hsn' := hid_intro (show partI tm b (L.take i ++ [t]) = partI tm b (L.take i) ++ [⟨id, st, at_, tr, tok, pth⟩] by rw [hid_elim hsn, if_pos htb])
            have hfs := hid_intro (flatI_snoc acc ⟨id, st, at_, tr, tok, pth⟩)
            clear hsn htb
            rw [htb'] at x0 hI
            go_wp2_with (first
              | (go_at_call 58; refine hI.mono ?_; rintro e w1 ⟨rfl, hb1⟩; have hrow1 := ownsRow_below hrow hb1; have hwl1 := hb1.size)
              | (at_builtin; refine wpList_append_own _ rfl _ _ 36 rfl w.heap.size 40 i0 _ 6 72 Tryz.underlying36 hi hz0 hz1 hz2 rfl (by decide) _ _ _ rfl ((hrow1.alloc _).alloc _) ⟨w1.heap.size + 1, 0, none⟩ 1 1 [.string ⟨id.toArray⟩, .int .i64 st, .int .u64 at_, .int .i64 tr, .string ⟨tok.toArray⟩, .string ⟨pth.toArray⟩] rfl rfl (by have := cell_six_new (w1.alloc (.cells #[.string ⟨id.toArray⟩, .int .i64 st, .int .u64 at_, .int .i64 tr, .string ⟨tok.toArray⟩, .string ⟨pth.toArray⟩] 40)) (.string ⟨id.toArray⟩) (.int .i64 st) (.int .u64 at_) (.int .i64 tr) (.string ⟨tok.toArray⟩) (.string ⟨pth.toArray⟩) 40; rwa [World.size_alloc] at this) (by simp [Value.oneCell']) (by unfold maxLen; omega) (by omega) (by simp; omega) ?_))
            intro v' w2 hown' hgrow hn'
            clear hn'
            have hbk : ∀ q, u3.ownBlock = some q → w.heap.size ≤ q := fun q hq => (hrow.lt q hq).1
            have hB2 : Below w.heap.size w w2 := (((hB.trans (hb1.mono hwl)).alloc (by omega) _).alloc (by simp; omega) _).grown hgrow (by simp; omega) hbk
            have e : Hid (pre ++ partI tm b (L.take (i + 1)) = acc ++ [⟨id, st, at_, tr, tok, pth⟩]) := hid_intro (by rw [hid_elim htk, hid_elim hsn', ← List.append_assoc, hid_elim Hacc])
            clear hgrow hrow1 hrow hB hb1 x0 x1 x2 x3 x4 x5 x6 x7 hI c0
            go_wp2
            go_roundw
            case rel => exact ⟨i + 1, by omega, rfl, by rw [hid_elim e, List.length_append, hid_elim hfs]; exact hown', hB2⟩
            case measure => simp [intOf]; omega
          · have hne : (t.token == b) = false := by simpa using htb
            have e : Hid (pre ++ partI tm b (L.take (i + 1)) = acc) := hid_intro (by rw [hid_elim htk, hid_elim hsn, if_neg htb, List.append_nil, hid_elim Hacc])
            clear hsn htb hI
            go_wp2
            go_roundw
            case rel => exact ⟨i + 1, by omega, rfl, by rw [hid_elim e]; exact hrow, hB⟩
            case measure => simp [intOf]; omega
        · obtain rfl : i = len := by omega
          have e : Hid (pre ++ partI tm b (L.take i) = uptoI tm L (k + 1)) := hid_intro (by rw [take_all (Nat.le_of_eq (hid_elim Hlen)), hid_elim hfin])
          rw [hid_elim e] at hrow
          go_wp2
          go_roundw
          case rel => exact ⟨k + 1, by omega, rfl, hrow, hB⟩
          case measure => simp [intOf]; omega
    · obtain rfl : k = 2 := by omega
      go_wp2
      go_ret
      exact ⟨_, rfl, hrow, hB⟩
end Go.Proofs
