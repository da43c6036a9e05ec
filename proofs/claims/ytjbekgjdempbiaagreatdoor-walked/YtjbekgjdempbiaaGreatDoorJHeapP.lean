import Derived.Test.YtjbekgjdempbiaaGreatDoorJParse
import Derived.Test.YtjbekgjdempbiaaGreatDoorJKeys
import Derived.Test.YtjbekgjdempbiaaGreatDoorJRefI
import Derived.Laws.OwnMore
/-
  plain.Host.All, left early: the beginning of the whole walk.
-/
namespace Go.Proofs
open Go.RowKit Go.Sort Go.Lib Go.Shelf Go.Maps

attribute [local go_sem] Oper.semAt_some

set_option maxRecDepth 100000 in
set_option maxHeartbeats 2000000 in
theorem Tryz.hAllK (K : Nat) (z : Int) (hz : Hid (z = (K : Int))) (hK1 : 1 ≤ K) (hb vb mt ml : Nat) (vx : VX) (tm tn ln : Int) (tks : List TokE) (lks : List LeaE) (w : World) (dv rv : Value) (hH : BoxN w hb 78 #[dv, rv, .pointer (some ⟨vb, 0, none⟩)]) (hV : Tryz.VaultAt w vb mt ml vx tm tn ln tks lks) :
    CallsIn Fence.wide 9 Tryz.prog 24 #[.pointer (some ⟨hb, 0, none⟩), .int .i64 z] w fun e w' => ∃ v : Value, e = .returned (.tuple #[v, .bool true]) ∧ w'.ownsRow w.heap.size 49 6 v ((infosOf tm tks lks).take K).length (flatI ((infosOf tm tks lks).take K)) ∧ Below w.heap.size w w' := by
  obtain ⟨i0, hi, hz0, hz1, hz2⟩ := info_parts Tryz.infoInfo
  have hfa : Fence.wide.fn 48 := trivial
  have c2 := hH.cell 2 (v := .pointer (some ⟨vb, 0, none⟩)) rfl
  have lH := hH.lt
  have hnf : ∀ (p : Addr) (W : World), Sem.run Tryz.prog (binOp .eql 90 (.func (.func 78) #[] #[.pointer (some p)]) .nilFunc) W = .ok (.bool false) W := fun _ _ => by kernel_rfl
  refine callsIn_of_wp_marks Tryz.func24 rfl trivial ?_ rfl
  simp only [Tryz.ntmps24, List.size_toArray, List.length_cons, List.length_nil, Nat.reduceAdd, Nat.reduceSub, Array.replicate_succ, Array.replicate_zero, List.push_toArray, List.append_toArray, List.nil_append, List.cons_append]
  gi_wp2_with (gi_at_call 48; refine (callsIn_wide.2 (Tryz.vAll vb _)).mono ?_; rintro e w' ⟨rfl, rfl⟩)
  clear hnf c2
  have bZ := ((BoxN.new w 3 #[.int .i64 z]).alloc (.cells #[.pointer (some ⟨vb, 0, none⟩)] 76)).alloc (.cells #[.slice none 0 0] 45)
  have bV := (BoxN.new (w.alloc (.cells #[.int .i64 z] 3)) 76 #[.pointer (some ⟨vb, 0, none⟩)]).alloc (.cells #[.slice none 0 0] 45)
  have bL := Boxed.new ((w.alloc (.cells #[.int .i64 z] 3)).alloc (.cells #[.pointer (some ⟨vb, 0, none⟩)] 76)) 45 (.slice none 0 0)
  have hB0 : Below w.heap.size w (((w.alloc (.cells #[.int .i64 z] 3)).alloc (.cells #[.pointer (some ⟨vb, 0, none⟩)] 76)).alloc (.cells #[.slice none 0 0] 45)) := (((Below.refl _ w).alloc (Nat.le_refl _) _).alloc (by simp) _).alloc (by simp; omega) _
  have hsz : (((w.alloc (.cells #[.int .i64 z] 3)).alloc (.cells #[.pointer (some ⟨vb, 0, none⟩)] 76)).alloc (.cells #[.slice none 0 0] 45)).heap.size = w.heap.size + 3 := by simp
  simp only [World.size_alloc] at bV bL
  have hV0 := hV.below hB0
  obtain ⟨W0, hW0⟩ : ∃ W0, ((w.alloc (.cells #[.int .i64 z] 3)).alloc (.cells #[.pointer (some ⟨vb, 0, none⟩)] 76)).alloc (.cells #[.slice none 0 0] 45) = W0 := ⟨_, rfl⟩
  rw [hW0] at bZ bV bL hB0 hsz hV0 ⊢
  clear hW0
  have hlen : (infosOf tm tks lks).length ≤ 1000 := by have := hV.ok.lenT; have := hV.ok.lenL; simp [infosOf]; omega
  let J : List InfoD → World → Prop := fun pre V => ((∃ v, Boxed V (w.heap.size + 1 + 1) 45 v ∧ V.ownsRow w.heap.size 49 6 v pre.length (flatI pre) ∧ (v = .slice none 0 0 ↔ pre = [])) ∧ BoxN V w.heap.size 3 #[.int .i64 z]) ∧ Below w.heap.size w V
  have hJ : OwnFrom W0.heap.size J := by
    exact (OwnFrom.and (OwnFrom.and (Own.from (holdsRow_own _ _ _ _ _ (fun pre : List InfoD => pre.length) (fun pre => flatI pre) (fun pre v => (v = .slice none 0 0 ↔ pre = []))) _) (Own.from (boxN_own _ _ (fun _ => #[.int .i64 z])) _)) (ownFrom_below (Nat.le_refl _) (by omega)))
  refine wpIn_rangeO (n := 9) (by omega) (gf := 78) (lb := #[.pointer (some ⟨w.heap.size + 1, 0, none⟩)]) rfl Tryz.enters78
    (Tryz.vAll_seq 8 (by omega) Tryz.badAll Tryz.goodAll (w.heap.size + 1) vb mt ml vx tm tn ln tks lks hV.ok W0 bV hV0.v hV0.held) keepsT_t keepsT_b (Below.refl _ _) (fun _ => rfl)
    (fun pre V => pre.length < K ∧ J pre V)
    (fun c pre V => c = .exit 0 ∧ pre.length = K ∧ J pre V)
    (fun s V V' row hs hg hr => ⟨hs.1, hJ s V V' row hs.2 hg hr⟩)
    (fun c s V V' row hs hg hr => ⟨hs.1, hs.2.1, hJ s V V' row hs.2.2 hg hr⟩)
    (fun s V hs => ⟨hV.env.below hs.2.2 hV.six, Nat.le_trans hV.six hs.2.2.size⟩)
    ⟨hK1, ⟨⟨_, bL, World.ownsRow_nil _ _ _ _, by simp⟩, bZ⟩, hB0⟩
    (fun x a' V => ∃ Bx, w.heap.size + 1 + 1 < Bx ∧ BoxN V Bx 49 x.cells ∧ a' = { tmps := #[.pointer (some ⟨hb, 0, none⟩), .int .i64 z, undef, .pointer (some ⟨w.heap.size, 0, none⟩), .slice none 0 0, .bool false, .func (.func 78) #[] #[.pointer (some ⟨w.heap.size + 1, 0, none⟩)], .pointer (some ⟨w.heap.size + 1 + 1, 0, none⟩), .pointer (some ⟨Bx, 0, none⟩), .pointer (some ⟨hb, 0, none⟩), .pointer (some ⟨hb, 0, none⟩), .pointer (some ⟨hb, 2, none⟩), .pointer (some ⟨vb, 0, none⟩), .bool false, .pointer (some ⟨hb, 0, none⟩), .pointer (some ⟨hb, 0, none⟩), .pointer (some ⟨hb, 2, none⟩), .pointer (some ⟨vb, 0, none⟩), .func (.func 78) #[] #[.pointer (some ⟨w.heap.size + 1, 0, none⟩)], .func (.func 78) #[] #[.pointer (some ⟨w.heap.size + 1, 0, none⟩)], .bool false, .func (.func 78) #[] #[.pointer (some ⟨w.heap.size + 1, 0, none⟩)], .agg x.cells, undef, undef, undef, undef, undef, undef, undef, undef, undef], defers := [] })
    (fun x a' _ X Y row hs hg hr => by obtain ⟨Bx, h1, h2, h3⟩ := hs; exact ⟨Bx, h1, boxN_own Bx 49 (fun (_ : Unit) => x.cells) () X Y row h2 hg (fun r e => (hr r e).2), h3⟩)
    ?assign ?body ?done ?stop
  case assign =>
    rintro l pre x V KK ⟨hpk, ⟨⟨v, b1, hr1, hnil⟩, bz⟩, hB1⟩ hK
    obtain ⟨id, st, at_, tr, tok, pth⟩ := x
    simp only [InfoD.cells, infoCells]
    gi_wp2
    exact hK _ _ ((KeepsOthers.alloc _ _).from _) (KeepsT.alloc _ _) ⟨hpk, ⟨⟨v, b1.alloc _, hr1.alloc _, hnil⟩, bz.alloc _⟩, hB1.alloc hB1.size _⟩ ⟨V.heap.size, b1.lt, BoxN.new V 49 _, rfl⟩
  case body =>
    rintro l pre x a' V hl ⟨hpk, ⟨⟨v, b1, hr1, hnil⟩, bz⟩, hB1⟩ ⟨Bx, hBx, bX, rfl⟩ hlt
    have hpk' := hid_intro hpk
    have hfl := flatI_snoc pre x
    obtain ⟨id, st, at_, tr, tok, pth⟩ := x
    simp only [InfoD.cells, infoCells] at bX hfl ⊢
    have HF := hid_intro hfl
    clear hfl
    have cS := b1.cell
    have cz := bz.cell 0 (v := .int .i64 z) rfl
    have hne0 : (((pre.length : Int) + 1) == z) = decide (pre.length + 1 = K) := by
      rw [hid_elim hz, Bool.eq_iff_iff, beq_iff_eq, decide_eq_true_iff]; omega
    clear hpk
    have x0 := bX.cell 0 (v := .string ⟨id.toArray⟩) rfl
    have x1 := bX.cell 1 (v := .int .i64 st) rfl
    have x2 := bX.cell 2 (v := .int .u64 at_) rfl
    have x3 := bX.cell 3 (v := .int .i64 tr) rfl
    have x4 := bX.cell 4 (v := .string ⟨tok.toArray⟩) rfl
    have x5 := bX.cell 5 (v := .string ⟨pth.toArray⟩) rfl
    have bz0 := bz.alloc (.cells #[.string ⟨id.toArray⟩, .int .i64 st, .int .u64 at_, .int .i64 tr, .string ⟨tok.toArray⟩, .string ⟨pth.toArray⟩] 49)
    have hnr : Hid (some w.heap.size ≠ v.ownBlock) := bz0.not_row (e := 49) (by decide) (hr1.alloc _)
    by_cases hke : pre.length + 1 = K
    all_goals simp only [hke, decide_true, decide_false] at hne0
    all_goals have HKE := hid_intro hke
    all_goals clear hke
    all_goals gi_wp2_with (gi_at_builtin; refine wpListIn_append_own _ rfl _ _ 45 rfl w.heap.size 49 i0 _ 6 72 Tryz.underlying45 hi hz0 hz1 hz2 rfl (by decide) _ _ _ rfl (hr1.alloc _) ⟨V.heap.size, 0, none⟩ 1 1 [.string ⟨id.toArray⟩, .int .i64 st, .int .u64 at_, .int .i64 tr, .string ⟨tok.toArray⟩, .string ⟨pth.toArray⟩] rfl rfl (cell_six_new _ _ _ _ _ _ _ _) (by simp [Value.oneCell']) (by unfold maxLen; omega) (by omega) (by have := hB1.size; simp; omega) ?_; intro v' w1 hown' hgrow hn'; obtain ⟨g', cap', rfl⟩ := ownsRow_succ hown'; obtain ⟨hv1, hv2, hr2, hk2, hb2⟩ := b1.appended (by decide) hr1 hB1.size (by omega) hown' hgrow; have hc1 := hv1.cell; have hf1 := hv1.frozen; have bz1 := bz0.kept hgrow hnr; have cz1 := bz1.cell 0 (v := .int .i64 z) rfl)
    all_goals have hkT := ((KeepsT.alloc (bad := Tryz.badAll) V (.cells #[.string ⟨id.toArray⟩, .int .i64 st, .int .u64 at_, .int .i64 tr, .string ⟨tok.toArray⟩, .string ⟨pth.toArray⟩] 49)).trans (KeepsT.row_grown (hr1.alloc _) (by decide) hgrow)).trans (KeepsT.boxed_set hv1 (by decide) (.slice (some ⟨g', 0, none⟩) (pre.length + 1) cap'))
    · exact ⟨hk2.from _, rfl, by rw [List.length_append]; exact hid_elim HKE, ⟨⟨_, hv2, by rw [show flatI _ = _ from hid_elim HF, List.length_append]; exact hr2, by simp⟩, bz1.other (by omega) _ _⟩, hB1.trans hb2⟩
    · exact ⟨hk2.from _, hkT, by rw [List.length_append]; have h1 := hid_elim HKE; have h2 := hid_elim hpk'; simp only [List.length_cons, List.length_nil]; omega, ⟨⟨_, hv2, by rw [show flatI _ = _ from hid_elim HF, List.length_append]; exact hr2, by simp⟩, bz1.other (by omega) _ _⟩, hB1.trans hb2⟩
  case done =>
    rintro D zs V hD hzs ⟨hpk, ⟨⟨v, b1, hr1, hnil⟩, bz⟩, hB1⟩ hK
    have cS := b1.cell
    have ht : Hid ((infosOf tm tks lks).take K = zs) := hid_intro (by rw [List.take_of_length_le (by rw [← hzs]; omega), hzs])
    clear hpk hzs
    gi_wp2
    refine ⟨by simp, .inl ⟨_, _, rfl, run_takeDeferred hK, ?_⟩⟩
    exact ⟨_, by simp [results, Tryz.results24, go_sem], v, rfl, by rw [hid_elim ht]; exact ownsRow_putObj hr1 _ hK rfl, hB1.trans (belowK_b (w := w) (Nat.le_refl _) V D _ _ (by omega) hK rfl rfl)⟩
  case stop =>
    rintro D c pre V hD hSp ⟨rfl, hpl, ⟨⟨v, b1, hr1, hnil⟩, bz⟩, hB1⟩ hK
    have cS := b1.cell
    have ht : Hid ((infosOf tm tks lks).take K = pre) := hid_intro (by rw [← hpl]; exact (List.prefix_iff_eq_take.1 hSp).symm)
    clear hpl hSp
    gi_wp2
    refine ⟨by simp, .inl ⟨_, _, rfl, run_takeDeferred hK, ?_⟩⟩
    exact ⟨_, by simp [results, Tryz.results24, go_sem], v, rfl, by rw [hid_elim ht]; exact ownsRow_putObj hr1 _ hK rfl, hB1.trans (belowK_b (w := w) (Nat.le_refl _) V D _ _ (by omega) hK rfl rfl)⟩
end Go.Proofs

/-
  The queue: the order of what is due.
-/
namespace Go.Proofs
open Go.RowKit Go.Sort

/-- the place of one among what is due. -/
structure TurnD where
  at_ : Int
  k : Int
  n : Int
def TurnD.cells (t : TurnD) : Array Value := #[.int .u64 t.at_, .int .i64 t.k, .int .u64 t.n]
def cmpT (x y : TurnD) : Int := orI (cmpI x.at_ y.at_) (orI (cmpI y.k x.k) (cmpI x.n y.n))
theorem cmpI_self (a : Int) : cmpI a a = 0 := cmpI_eq (Int.le_refl _) (Int.le_refl _)
theorem cmpT_self (x : TurnD) : cmpT x x = 0 := by simp [cmpT, cmpI_self, orI]

set_option maxHeartbeats 1000000 in
theorem Tryz.cmpOr3 (a b c : Int) (blk : Nat) (w : World) (h0 : w.cell? ⟨blk, 0, none⟩ = some (.int .i64 a)) (h1 : w.cell? ⟨blk, 1, none⟩ = some (.int .i64 b)) (h2 : w.cell? ⟨blk, 2, none⟩ = some (.int .i64 c)) :
    Calls Tryz.prog 333 #[.slice (some ⟨blk, 0, none⟩) 3 3] w fun e w' => e = .returned (.int .i64 (orI a (orI b c))) ∧ w' = w := by
  obtain ⟨r, hr⟩ : ∃ r, orI a (orI b c) = r := ⟨_, rfl⟩
  rw [hr]
  by_cases ha : a = 0
  · have ha' : (a != 0) = false := by simp [ha]
    by_cases hb : b = 0
    · have hb' : (b != 0) = false := by simp [hb]
      by_cases hc : c = 0
      · have hc' : (c != 0) = false := by simp [hc]
        have hfin : Hid (r = 0) := hid_intro (by rw [← hr]; simp [orI, ha, hb, hc])
        clear ha hb hc hr
        go_enter Tryz.func333, Tryz.ntmps333
        go_wp2
        refine wp_loop_rounds 4 ?_
        rw [rounds_succ]
        go_wp2
        rw [rounds_succ]
        go_wp2
        rw [rounds_succ]
        go_wp2
        rw [rounds_succ]
        go_wp2
        go_ret
        exact ⟨ret_int (hid_elim hfin).symm, rfl⟩
      · have hc' : (c != 0) = true := by simp [hc]
        have hfin : Hid (r = c) := hid_intro (by rw [← hr]; simp [orI, ha, hb])
        clear ha hb hc hr
        go_enter Tryz.func333, Tryz.ntmps333
        go_wp2
        refine wp_loop_rounds 4 ?_
        rw [rounds_succ]
        go_wp2
        rw [rounds_succ]
        go_wp2
        rw [rounds_succ]
        go_wp2
        go_ret
        exact ⟨ret_int (hid_elim hfin).symm, rfl⟩
    · have hb' : (b != 0) = true := by simp [hb]
      have hfin : Hid (r = b) := hid_intro (by rw [← hr]; simp [orI, ha, hb])
      clear ha hb hr
      go_enter Tryz.func333, Tryz.ntmps333
      go_wp2
      refine wp_loop_rounds 4 ?_
      rw [rounds_succ]
      go_wp2
      rw [rounds_succ]
      go_wp2
      go_ret
      exact ⟨ret_int (hid_elim hfin).symm, rfl⟩
  · have ha' : (a != 0) = true := by simp [ha]
    have hfin : Hid (r = a) := hid_intro (by rw [← hr]; simp [orI, ha])
    clear ha hr
    go_enter Tryz.func333, Tryz.ntmps333
    go_wp2
    refine wp_loop_rounds 4 ?_
    rw [rounds_succ]
    go_wp2
    go_ret
    exact ⟨ret_int (hid_elim hfin).symm, rfl⟩

/-- the two that are held against each other. -/
structure Tryz.CmpP (B : Nat) (x1 x2 x3 y1 y2 y3 : Int) (W : World) : Prop where
  a0 : W.cell? ⟨B, 0, none⟩ = some (.int .u64 x1)
  a1 : W.cell? ⟨B, 1, none⟩ = some (.int .i64 x2)
  a2 : W.cell? ⟨B, 2, none⟩ = some (.int .u64 x3)
  b0 : W.cell? ⟨B + 1, 0, none⟩ = some (.int .u64 y1)
  b1 : W.cell? ⟨B + 1, 1, none⟩ = some (.int .i64 y2)
  b2 : W.cell? ⟨B + 1, 2, none⟩ = some (.int .u64 y3)
theorem Tryz.CmpP.alloc {B : Nat} {x1 x2 x3 y1 y2 y3 : Int} {W : World} (h : Tryz.CmpP B x1 x2 x3 y1 y2 y3 W) (o : Obj) : Tryz.CmpP B x1 x2 x3 y1 y2 y3 (W.alloc o) :=
  ⟨(World.cell?_alloc_some _ _ _ (by rw [h.a0]; rfl)).trans h.a0, (World.cell?_alloc_some _ _ _ (by rw [h.a1]; rfl)).trans h.a1, (World.cell?_alloc_some _ _ _ (by rw [h.a2]; rfl)).trans h.a2,
   (World.cell?_alloc_some _ _ _ (by rw [h.b0]; rfl)).trans h.b0, (World.cell?_alloc_some _ _ _ (by rw [h.b1]; rfl)).trans h.b1, (World.cell?_alloc_some _ _ _ (by rw [h.b2]; rfl)).trans h.b2⟩

set_option maxRecDepth 100000 in
set_option maxHeartbeats 2000000 in
theorem Tryz.turnCmp (x y : TurnD) (w : World) : Calls Tryz.prog 337 #[.agg x.cells, .agg y.cells] w fun e w' => e = .returned (.int .i64 (cmpT x y)) ∧ Grew w w' := by
  have hN : Hid (cmpT x y = orI (cmpI x.at_ y.at_) (orI (cmpI y.k x.k) (cmpI x.n y.n))) := hid_intro rfl
  have ha := fun W => Tryz.cmpU64 x.at_ y.at_ W
  have hk := fun W => Tryz.cmpKind y.k x.k W
  have hu := fun W => Tryz.cmpU64 x.n y.n W
  generalize cmpI x.at_ y.at_ = a at *
  generalize cmpI y.k x.k = b at *
  generalize cmpI x.n y.n = c at *
  generalize cmpT x y = r at *
  obtain ⟨x1, x2, x3⟩ := x
  obtain ⟨y1, y2, y3⟩ := y
  simp only [TurnD.cells] at *
  go_enter Tryz.func337, Tryz.ntmps337
  go_wp2_with fail
  have hP : Tryz.CmpP w.heap.size x1 x2 x3 y1 y2 y3 ((w.alloc (.cells #[.int .u64 x1, .int .i64 x2, .int .u64 x3] 144)).alloc (.cells #[.int .u64 y1, .int .i64 y2, .int .u64 y3] 144)).drew := by
    have b1 := (BoxN.new w 144 #[.int .u64 x1, .int .i64 x2, .int .u64 x3]).alloc (.cells #[.int .u64 y1, .int .i64 y2, .int .u64 y3] 144)
    have b2 := BoxN.new (w.alloc (.cells #[.int .u64 x1, .int .i64 x2, .int .u64 x3] 144)) 144 #[.int .u64 y1, .int .i64 y2, .int .u64 y3]
    rw [World.size_alloc] at b2
    exact ⟨b1.cell 0 rfl, b1.cell 1 rfl, b1.cell 2 rfl, b2.cell 0 rfl, b2.cell 1 rfl, b2.cell 2 rfl⟩
  refine wp_region_held_drew (S := Tryz.CmpP w.heap.size x1 x2 x3 y1 y2 y3) (by kernel_rfl) hP (fun hS0 => ?_)
  refine wpAnyH_take (i := 0) (v := ?v0) rfl (by kernel_rfl) (by kernel_rfl) (by kernel_rfl) (fun _ _ _ h => h) (Or.inl ⟨by rfl, ?y0⟩) hS0 ?_
  case y0 => (intro w hSw; obtain ⟨q0, q1, q2, q3, q4, q5⟩ := hSw; go_simp; try with_reducible rfl)
  refine wpAnyH_take (i := 1) (v := ?v1) rfl (by kernel_rfl) (by kernel_rfl) (by kernel_rfl) (fun _ _ _ h => h) (Or.inl ⟨by rfl, ?y1⟩) hS0 ?_
  case y1 => (intro w hSw; obtain ⟨q0, q1, q2, q3, q4, q5⟩ := hSw; go_simp; try with_reducible rfl)
  refine wpAnyH_take (i := 2) (v := ?v2) rfl (by kernel_rfl) (by kernel_rfl) (by kernel_rfl) (fun _ _ _ h => h) (Or.inl ⟨by rfl, ?y2⟩) hS0 ?_
  case y2 => (intro w hSw; obtain ⟨q0, q1, q2, q3, q4, q5⟩ := hSw; go_simp; try with_reducible rfl)
  refine wpAnyH_take (i := 3) (v := ?v3) rfl (by kernel_rfl) (by kernel_rfl) (by kernel_rfl) (fun _ _ _ h => h) (Or.inl ⟨by rfl, ?y3⟩) hS0 ?_
  case y3 => (intro w hSw; obtain ⟨q0, q1, q2, q3, q4, q5⟩ := hSw; go_simp; try with_reducible rfl)
  refine wpAnyH_take (i := 5) (v := ?v5) rfl (by kernel_rfl) (by kernel_rfl) (by kernel_rfl) (fun _ _ _ h => h) (Or.inl ⟨by rfl, ?y5⟩) hS0 ?_
  case y5 => (intro w hSw; obtain ⟨q0, q1, q2, q3, q4, q5⟩ := hSw; go_simp; try with_reducible rfl)
  refine wpAnyH_take (i := 6) (v := ?v6) rfl (by kernel_rfl) (by kernel_rfl) (by kernel_rfl) (fun _ _ _ h => h) (Or.inl ⟨by rfl, ?y6⟩) hS0 ?_
  case y6 => (intro w hSw; obtain ⟨q0, q1, q2, q3, q4, q5⟩ := hSw; go_simp; try with_reducible rfl)
  refine wpAnyH_take (i := 7) (v := ?v7) rfl (by kernel_rfl) (by kernel_rfl) (by kernel_rfl) (fun _ _ _ h => h) (Or.inl ⟨by rfl, ?y7⟩) hS0 ?_
  case y7 => (intro w hSw; obtain ⟨q0, q1, q2, q3, q4, q5⟩ := hSw; go_simp; try with_reducible rfl)
  refine wpAnyH_take (i := 8) (v := ?v8) rfl (by kernel_rfl) (by kernel_rfl) (by kernel_rfl) (fun _ _ _ h => h) (Or.inl ⟨by rfl, ?y8⟩) hS0 ?_
  case y8 => (intro w hSw; obtain ⟨q0, q1, q2, q3, q4, q5⟩ := hSw; go_simp; try with_reducible rfl)
  refine wpAnyH_take (i := 9) (v := ?v9) rfl (by kernel_rfl) (by kernel_rfl) (by kernel_rfl) (fun _ _ _ h => h) (Or.inl ⟨by rfl, ?y9⟩) hS0 ?_
  case y9 => (intro w hSw; obtain ⟨q0, q1, q2, q3, q4, q5⟩ := hSw; go_simp; try with_reducible rfl)
  refine wpAnyH_take (i := 10) (v := ?v10) rfl (by kernel_rfl) (by kernel_rfl) (by kernel_rfl) (fun _ _ _ h => h) (Or.inl ⟨by rfl, ?y10⟩) hS0 ?_
  case y10 => (intro w hSw; obtain ⟨q0, q1, q2, q3, q4, q5⟩ := hSw; go_simp; try with_reducible rfl)
  refine wpAnyH_take (i := 12) (v := ?v12) rfl (by kernel_rfl) (by kernel_rfl) (by kernel_rfl) (fun _ _ _ h => h) (Or.inl ⟨by rfl, ?y12⟩) hS0 ?_
  case y12 => (intro w hSw; obtain ⟨q0, q1, q2, q3, q4, q5⟩ := hSw; go_simp; try with_reducible rfl)
  refine wpAnyH_take (i := 13) (v := ?v13) rfl (by kernel_rfl) (by kernel_rfl) (by kernel_rfl) (fun _ _ _ h => h) (Or.inl ⟨by rfl, ?y13⟩) hS0 ?_
  case y13 => (intro w hSw; obtain ⟨q0, q1, q2, q3, q4, q5⟩ := hSw; go_simp; try with_reducible rfl)
  refine wpAnyH_take (i := 14) (v := ?v14) rfl (by kernel_rfl) (by kernel_rfl) (by kernel_rfl) (fun _ _ _ h => h) (Or.inl ⟨by rfl, ?y14⟩) hS0 ?_
  case y14 => (intro w hSw; obtain ⟨q0, q1, q2, q3, q4, q5⟩ := hSw; go_simp; try with_reducible rfl)
  refine wpAnyH_take (i := 15) (v := ?v15) rfl (by kernel_rfl) (by kernel_rfl) (by kernel_rfl) (fun _ _ _ h => h) (Or.inl ⟨by rfl, ?y15⟩) hS0 ?_
  case y15 => (intro w hSw; obtain ⟨q0, q1, q2, q3, q4, q5⟩ := hSw; go_simp; try with_reducible rfl)
  refine wpAnyH_take (i := 16) (v := ?v16) rfl (by kernel_rfl) (by kernel_rfl) (by kernel_rfl) (fun _ _ _ h => h) (Or.inl ⟨by rfl, ?y16⟩) hS0 ?_
  case y16 => (intro w hSw; obtain ⟨q0, q1, q2, q3, q4, q5⟩ := hSw; go_simp; try with_reducible rfl)
  refine wpAnyH_take (i := 17) (v := ?v17) rfl (by kernel_rfl) (by kernel_rfl) (by kernel_rfl) (fun _ _ _ h => h) (Or.inl ⟨by rfl, ?y17⟩) hS0 ?_
  case y17 => (intro w hSw; obtain ⟨q0, q1, q2, q3, q4, q5⟩ := hSw; go_simp; try with_reducible rfl)
  refine wpAnyH_ready (rs := [4]) (by kernel_rfl) (by simp) ?_
  refine AllReadyH.cons rfl (fun K hK => ?_) AllReadyH.nil
  go_simp
  refine (ha _).mono ?_
  rintro e w5 ⟨rfl, rfl⟩
  refine hK.out _ _ hS0 (fun _ => ?_)
  clear hK K
  refine wpAnyH_ready (rs := [11]) (by kernel_rfl) (by simp) ?_
  refine AllReadyH.cons rfl (fun K hK => ?_) AllReadyH.nil
  go_simp
  refine (hk _).mono ?_
  rintro e w5 ⟨rfl, rfl⟩
  refine hK.out _ _ hS0 (fun _ => ?_)
  clear hK K
  refine wpAnyH_ready (rs := [18]) (by kernel_rfl) (by simp) ?_
  refine AllReadyH.cons rfl (fun K hK => ?_) AllReadyH.nil
  go_simp
  refine (hu _).mono ?_
  rintro e w5 ⟨rfl, rfl⟩
  refine hK.out _ _ hS0 (fun _ => ?_)
  clear hK K
  refine wpAnyH_ready (rs := [19]) (by kernel_rfl) (by simp) ?_
  refine AllReadyH.cons rfl (fun K hK => ?_) AllReadyH.nil
  go_simp
  refine hK.out _ _ (hS0.alloc _) (fun hS1 => ?_)
  clear hK K
  refine wpAnyH_ready (rs := [20]) (by kernel_rfl) (by simp) ?_
  refine AllReadyH.cons rfl (fun K hK => ?_) AllReadyH.nil
  go_simp
  refine (Tryz.cmpOr3 a b c _ _ ?_ ?_ ?_).mono ?_
  · go_simp
  · go_simp
  · go_simp
  rintro e w5 ⟨rfl, rfl⟩
  refine hK.out _ _ hS1 (fun _ => ?_)
  clear hK K
  refine wpAnyH_ready (rs := [21]) (by kernel_rfl) (by simp) ?_
  refine AllReadyH.cons rfl (fun K hK => ?_) AllReadyH.nil
  go_simp
  refine hK.out _ _ hS1 (fun _ => ?_)
  clear hK K
  refine wpAnyH_done (by kernel_rfl) ?_ _
  go_wp2
  go_ret
  exact ⟨ret_int (hid_elim hN).symm, ((((Grew.refl w).alloc _).alloc _).drew.alloc _)⟩

theorem Tryz.method_turn (x : TurnD) (w : World) : Sem.run Tryz.prog (method 517 144 (.agg x.cells) "Compare") w = .ok (337, .agg x.cells) w := by kernel_rfl
end Go.Proofs

/-
  A heap of places, as a list: the plain mathematics.
-/
namespace Go.Proofs
open Go.RowKit Go.Sort

/-- this one goes ahead of that one. -/
def ltT (x y : TurnD) : Prop := x.at_ < y.at_ ∨ (x.at_ = y.at_ ∧ (y.k < x.k ∨ (x.k = y.k ∧ x.n < y.n)))
instance (x y : TurnD) : Decidable (ltT x y) := by unfold ltT; exact inferInstance
theorem cmpI_neg {a b : Int} : cmpI a b < 0 ↔ a < b := by
  unfold cmpI
  split <;> (try split) <;> omega
theorem cmpI_zero {a b : Int} : cmpI a b = 0 ↔ a = b := by
  unfold cmpI
  split <;> (try split) <;> omega
theorem cmpT_neg (x y : TurnD) : cmpT x y < 0 ↔ ltT x y := by
  unfold cmpT ltT orI
  have h1 := @cmpI_neg x.at_ y.at_
  have h2 := @cmpI_zero x.at_ y.at_
  have h3 := @cmpI_neg y.k x.k
  have h4 := @cmpI_zero y.k x.k
  have h5 := @cmpI_neg x.n y.n
  split
  · split
    · omega
    · omega
  · omega
theorem ltT_irr (x : TurnD) : ¬ ltT x x := by unfold ltT; omega
theorem ltT_trans {x y z : TurnD} (h : ltT x y) (h' : ltT y z) : ltT x z := by unfold ltT at *; omega
theorem ltT_asymm {x y : TurnD} (h : ltT x y) : ¬ ltT y x := by unfold ltT at *; omega
/-- not behind. -/
def leT (x y : TurnD) : Prop := ¬ ltT y x
theorem leT_refl (x : TurnD) : leT x x := ltT_irr x
theorem leT_trans {x y z : TurnD} (h : leT x y) (h' : leT y z) : leT x z := by unfold leT ltT at *; omega
theorem leT_of_lt {x y : TurnD} (h : ltT x y) : leT x y := ltT_asymm h

abbrev par (i : Nat) : Nat := (i - 1) / 2
def getT (xs : List TurnD) (i : Nat) : TurnD := xs.getD i ⟨0, 0, 0⟩
theorem getT_of {xs : List TurnD} {i : Nat} {t : TurnD} (h : xs[i]? = some t) : getT xs i = t := by
  unfold getT; simp [List.getD, h]
theorem getT_some {xs : List TurnD} {i : Nat} (h : i < xs.length) : xs[i]? = some (getT xs i) := by
  unfold getT; simp [List.getD, h]
def swapT (xs : List TurnD) (i j : Nat) : List TurnD := (xs.set i (getT xs j)).set j (getT xs i)
theorem swapT_len (xs : List TurnD) (i j : Nat) : (swapT xs i j).length = xs.length := by simp [swapT]
theorem swapT_get {xs : List TurnD} {i j : Nat} (hi : i < xs.length) (hj : j < xs.length) (k : Nat) : getT (swapT xs i j) k = if k = j then getT xs i else if k = i then getT xs j else getT xs k := by
  have key : (swapT xs i j)[k]? = if k = j then some (getT xs i) else if k = i then some (getT xs j) else xs[k]? := by
    unfold swapT
    rw [List.getElem?_set, List.getElem?_set]
    simp only [List.length_set]
    by_cases e1 : j = k
    · subst e1
      simp [hj]
    · by_cases e2 : i = k
      · subst e2
        simp [e1, hi, Ne.symm e1]
      · simp [e1, e2, Ne.symm e1, Ne.symm e2]
  unfold getT at key ⊢
  rw [List.getD_eq_getElem?_getD, key]
  split
  · rfl
  · split
    · rfl
    · rw [List.getD_eq_getElem?_getD]
theorem swapT_perm {xs : List TurnD} {i j : Nat} (hi : i < xs.length) (hj : j < xs.length) : (swapT xs i j).Perm xs := by
  unfold swapT
  have e1 : getT xs j = xs[j] := getT_of (by simp [hj])
  have e2 : getT xs i = xs[i] := getT_of (by simp [hi])
  rw [e1, e2]
  exact List.set_set_perm hi hj

/-- a heap. -/
def Heap (xs : List TurnD) : Prop := ∀ i, 0 < i → i < xs.length → leT (getT xs (par i)) (getT xs i)
theorem Heap.root {xs : List TurnD} (h : Heap xs) : ∀ i, i < xs.length → leT (getT xs 0) (getT xs i) := by
  intro i
  induction i using Nat.strongRecOn with
  | ind i ih =>
    intro hi
    by_cases h0 : i = 0
    · subst h0; exact leT_refl _
    · exact leT_trans (ih (par i) (by unfold par; omega) (by unfold par; omega)) (h i (by omega) hi)
theorem heap_nil : Heap [] := fun i _ h => by simp at h

/-- a heap but for one that may be too far down. -/
structure RiseH (xs : List TurnD) (a : Nat) : Prop where
  lt : a < xs.length
  h1 : ∀ i, 0 < i → i < xs.length → i ≠ a → leT (getT xs (par i)) (getT xs i)
  h2 : ∀ i, 0 < i → i < xs.length → par i = a → 0 < a → leT (getT xs (par a)) (getT xs i)
theorem RiseH.start {xs : List TurnD} (h : Heap xs) (t : TurnD) : RiseH (xs ++ [t]) xs.length := by
  have hg : ∀ i, i < xs.length → getT (xs ++ [t]) i = getT xs i := fun i hi => by
    unfold getT; rw [List.getD_eq_getElem?_getD, List.getD_eq_getElem?_getD, List.getElem?_append_left hi]
  refine ⟨by simp, fun i h0 hi hne => ?_, fun i h0 hi hp _ => ?_⟩
  · have : i < xs.length := by simp at hi; omega
    rw [hg i this, hg (par i) (by unfold par; omega)]
    exact h i h0 this
  · simp at hi
    unfold par at hp
    omega
theorem RiseH.done {xs : List TurnD} {a : Nat} (h : RiseH xs a) (hs : ¬ ltT (getT xs a) (getT xs (par a))) : Heap xs := fun i h0 hi => by
  by_cases e : i = a
  · subst e; exact hs
  · exact h.h1 i h0 hi e
theorem RiseH.step {xs : List TurnD} {a : Nat} (h : RiseH xs a) (ha : 0 < a) (hs : ltT (getT xs a) (getT xs (par a))) : RiseH (swapT xs (par a) a) (par a) := by
  have hal := h.lt
  have hpl : par a < xs.length := by unfold par; omega
  have hpa : par a ≠ a := by unfold par; omega
  refine ⟨by rw [swapT_len]; exact hpl, fun i h0 hi hne => ?_, fun i h0 hi hp h0p => ?_⟩
  · rw [swapT_len] at hi
    rw [swapT_get hpl hal, swapT_get hpl hal]
    by_cases e : i = a
    · subst e
      rw [if_neg hpa, if_pos rfl, if_pos rfl]
      exact leT_of_lt hs
    · rw [if_neg e, if_neg hne]
      by_cases ep : par i = a
      · rw [if_pos ep]
        exact h.h2 i h0 hi ep ha
      · rw [if_neg ep]
        by_cases eq : par i = par a
        · rw [if_pos eq]
          have := h.h1 i h0 hi e
          rw [eq] at this
          exact leT_trans (leT_of_lt hs) this
        · rw [if_neg eq]
          exact h.h1 i h0 hi e
  · rw [swapT_len] at hi
    rw [swapT_get hpl hal, swapT_get hpl hal]
    have e1 : par (par a) ≠ a := by unfold par; omega
    have e2 : par (par a) ≠ par a := by unfold par at *; omega
    rw [if_neg e1, if_neg e2]
    have hup := h.h1 (par a) h0p hpl hpa
    by_cases e : i = a
    · subst e
      rw [if_pos rfl]
      exact hup
    · rw [if_neg e]
      have hip : i ≠ par a := by unfold par at *; omega
      rw [if_neg hip]
      have := h.h1 i h0 hi e
      rw [hp] at this
      exact leT_trans hup this

/-- a heap but for one that may be too far up. -/
structure FallH (xs : List TurnD) (a : Nat) : Prop where
  h1 : ∀ i, 0 < i → i < xs.length → par i ≠ a → leT (getT xs (par i)) (getT xs i)
  h2 : ∀ i, 0 < i → i < xs.length → par i = a → 0 < a → leT (getT xs (par a)) (getT xs i)
/-- the least of one and of those behind it. -/
def leastT (xs : List TurnD) (f : Nat) : List Nat → Nat
  | [] => f
  | p :: ps => leastT xs (if p < xs.length ∧ ltT (getT xs p) (getT xs f) then p else f) ps
theorem least2_le {xs : List TurnD} {a : Nat} : (leT (getT xs (leastT xs a [2 * a + 1, 2 * a + 2])) (getT xs a)) ∧ (2 * a + 1 < xs.length → leT (getT xs (leastT xs a [2 * a + 1, 2 * a + 2])) (getT xs (2 * a + 1))) ∧ (2 * a + 2 < xs.length → leT (getT xs (leastT xs a [2 * a + 1, 2 * a + 2])) (getT xs (2 * a + 2))) := by
  simp only [leastT]
  by_cases c1 : 2 * a + 1 < xs.length ∧ ltT (getT xs (2 * a + 1)) (getT xs a)
  · rw [if_pos c1]
    by_cases c2 : 2 * a + 2 < xs.length ∧ ltT (getT xs (2 * a + 2)) (getT xs (2 * a + 1))
    · rw [if_pos c2]
      exact ⟨leT_of_lt (ltT_trans c2.2 c1.2), fun _ => leT_of_lt c2.2, fun _ => leT_refl _⟩
    · rw [if_neg c2]
      exact ⟨leT_of_lt c1.2, fun _ => leT_refl _, fun h h' => c2 ⟨h, h'⟩⟩
  · rw [if_neg c1]
    by_cases c2 : 2 * a + 2 < xs.length ∧ ltT (getT xs (2 * a + 2)) (getT xs a)
    · rw [if_pos c2]
      exact ⟨leT_of_lt c2.2, fun h => leT_trans (leT_of_lt c2.2) (fun h' => c1 ⟨h, h'⟩), fun _ => leT_refl _⟩
    · rw [if_neg c2]
      exact ⟨leT_refl _, fun h h' => c1 ⟨h, h'⟩, fun h h' => c2 ⟨h, h'⟩⟩
theorem least2_mem {xs : List TurnD} {a : Nat} : leastT xs a [2 * a + 1, 2 * a + 2] = a ∨ ((leastT xs a [2 * a + 1, 2 * a + 2] = 2 * a + 1 ∨ leastT xs a [2 * a + 1, 2 * a + 2] = 2 * a + 2) ∧ leastT xs a [2 * a + 1, 2 * a + 2] < xs.length ∧ ltT (getT xs (leastT xs a [2 * a + 1, 2 * a + 2])) (getT xs a)) := by
  simp only [leastT]
  by_cases c1 : 2 * a + 1 < xs.length ∧ ltT (getT xs (2 * a + 1)) (getT xs a)
  · rw [if_pos c1]
    by_cases c2 : 2 * a + 2 < xs.length ∧ ltT (getT xs (2 * a + 2)) (getT xs (2 * a + 1))
    · rw [if_pos c2]
      exact .inr ⟨.inr rfl, c2.1, ltT_trans c2.2 c1.2⟩
    · rw [if_neg c2]
      exact .inr ⟨.inl rfl, c1⟩
  · rw [if_neg c1]
    by_cases c2 : 2 * a + 2 < xs.length ∧ ltT (getT xs (2 * a + 2)) (getT xs a)
    · rw [if_pos c2]
      exact .inr ⟨.inr rfl, c2⟩
    · rw [if_neg c2]
      exact .inl rfl
theorem FallH.done {xs : List TurnD} {a : Nat} (h : FallH xs a) (hs : leastT xs a [2 * a + 1, 2 * a + 2] = a) : Heap xs := fun i h0 hi => by
  by_cases e : par i = a
  · obtain ⟨-, l1, l2⟩ := @least2_le xs a
    rw [hs] at l1 l2
    rw [e]
    have : i = 2 * a + 1 ∨ i = 2 * a + 2 := by unfold par at e; omega
    rcases this with rfl | rfl
    · exact l1 hi
    · exact l2 hi
  · exact h.h1 i h0 hi e
theorem FallH.step {xs : List TurnD} {a : Nat} (h : FallH xs a) (hs : leastT xs a [2 * a + 1, 2 * a + 2] ≠ a) : a < leastT xs a [2 * a + 1, 2 * a + 2] ∧ leastT xs a [2 * a + 1, 2 * a + 2] < xs.length ∧ FallH (swapT xs (leastT xs a [2 * a + 1, 2 * a + 2]) a) (leastT xs a [2 * a + 1, 2 * a + 2]) := by
  obtain ⟨-, l1, l2⟩ := @least2_le xs a
  obtain ⟨hm, hl, hlt⟩ := (@least2_mem xs a).resolve_left hs
  generalize leastT xs a [2 * a + 1, 2 * a + 2] = c at *
  have hac : a < c := by omega
  have hal : a < xs.length := by omega
  have hpc : par c = a := by unfold par; omega
  refine ⟨hac, hl, fun i h0 hi hne => ?_, fun i h0 hi hp h0c => ?_⟩
  · rw [swapT_len] at hi
    rw [swapT_get hl hal, swapT_get hl hal]
    by_cases e : i = a
    · subst e
      have e1 : par i ≠ i := by unfold par; omega
      have e2 : par i ≠ c := hne
      rw [if_neg e1, if_neg e2, if_pos rfl]
      exact h.h2 c (by omega) hl hpc (by omega)
    · rw [if_neg e]
      by_cases ep : par i = a
      · rw [if_pos ep]
        by_cases ec : i = c
        · rw [if_pos ec]
          exact leT_of_lt hlt
        · rw [if_neg ec]
          have : i = 2 * a + 1 ∨ i = 2 * a + 2 := by unfold par at ep; omega
          rcases this with rfl | rfl
          · exact l1 hi
          · exact l2 hi
      · rw [if_neg ep, if_neg hne]
        have ec : i ≠ c := fun e' => ep (by rw [e']; exact hpc)
        rw [if_neg ec]
        exact h.h1 i h0 hi ep
  · rw [swapT_len] at hi
    rw [swapT_get hl hal, swapT_get hl hal, hpc, if_pos rfl]
    have e1 : i ≠ a := by unfold par at hp; omega
    have e2 : i ≠ c := by unfold par at hp; omega
    rw [if_neg e1, if_neg e2]
    have := h.h1 i h0 hi (by omega)
    rw [hp] at this
    exact this
/-- the first and the last have changed places, and the last has gone. -/
theorem FallH.start {xs : List TurnD} (h : Heap xs) : FallH ((swapT xs 0 (xs.length - 1)).take (xs.length - 1)) 0 := by
  refine ⟨fun i h0 hi hne => ?_, fun i h0 hi hp h00 => by omega⟩
  have hi' : i < xs.length - 1 := by
    rw [List.length_take, swapT_len] at hi; omega
  have hg : ∀ k, k < xs.length - 1 → getT ((swapT xs 0 (xs.length - 1)).take (xs.length - 1)) k = getT (swapT xs 0 (xs.length - 1)) k := fun k hk => by
    unfold getT
    rw [List.getD_eq_getElem?_getD, List.getD_eq_getElem?_getD, List.getElem?_take, if_pos hk]
  rw [hg i hi', hg (par i) (by unfold par; omega)]
  rw [swapT_get (by omega) (by omega), swapT_get (by omega) (by omega)]
  have e1 : par i ≠ xs.length - 1 := by unfold par; omega
  rw [if_neg e1, if_neg hne, if_neg (by omega), if_neg (by omega)]
  exact h i h0 (by omega)
end Go.Proofs
