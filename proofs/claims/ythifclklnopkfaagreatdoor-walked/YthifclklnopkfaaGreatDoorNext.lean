import Derived.Test.YthifclklnopkfaaGreatDoorAll
/-
  plain.Host.All, (Vault).Next, plain.Host.Next.
-/
namespace Go.Proofs
open Go.RowKit Go.Sort Go.Lib Go.Shelf Go.Maps

attribute [local go_sem] Oper.semAt_some

def flatI (xs : List InfoD) : List Value := xs.flatMap fun x => x.cells.toList
theorem flatI_snoc (xs : List InfoD) (x : InfoD) : flatI (xs ++ [x]) = flatI xs ++ x.cells.toList := by simp [flatI]
theorem Tryz.infoInfo : (Tryz.prog.info? 40).map (fun i => (i.zero, i.size, i.bytes)) = some (some (.agg #[.string ⟨#[]⟩, .int .i64 0, .int .u64 0, .int .i64 0, .string ⟨#[]⟩, .string ⟨#[]⟩]), 6, 72) := by kernel_rfl
/-- what Host.All's rounds write. -/
def Tryz.badAll (t : TypeId) : Bool := t == 36 || t == 40
theorem Tryz.goodAll : Tryz.Good Tryz.badAll := ⟨by decide, by decide, by decide, by decide, by decide, by decide, by decide, by decide⟩
/-- what Next's rounds write. -/
def Tryz.badNext (t : TypeId) : Bool := t == 35
theorem Tryz.goodNext : Tryz.Good Tryz.badNext := ⟨by decide, by decide, by decide, by decide, by decide, by decide, by decide, by decide⟩

/-- a vault in memory. -/
structure Tryz.VaultAt (W : World) (vb mt ml : Nat) (vx : VX) (tm tn ln : Int) (tks : List TokE) (lks : List LeaE) : Prop where
  v : BoxN W vb 108 (Tryz.vaultC vx tm mt ml tn ln)
  held : Tryz.Held W mt ml tks lks
  ok : ListsOk tks lks
  env : Tryz.Env W
  six : 6 ≤ W.heap.size
theorem Tryz.VaultAt.below {W W' : World} {vb mt ml : Nat} {vx : VX} {tm tn ln : Int} {tks : List TokE} {lks : List LeaE} (h : Tryz.VaultAt W vb mt ml vx tm tn ln tks lks) (hb : Below W.heap.size W W') : Tryz.VaultAt W' vb mt ml vx tm tn ln tks lks :=
  ⟨h.v.below hb h.v.lt, h.held.keeps (KeepsT.below (bad := fun _ => false) hb) rfl rfl, h.ok, h.env.below hb h.six, Nat.le_trans h.six hb.size⟩

theorem InfoD.cells_size (x : InfoD) : x.cells.toList.length = 6 := rfl
theorem flatI_length (xs : List InfoD) : (flatI xs).length = xs.length * 6 := by
  induction xs with
  | nil => rfl
  | cons x xs ih => simp only [flatI, List.flatMap_cons, List.length_append, InfoD.cells_size, List.length_cons] at ih ⊢; omega

theorem cell_six_new (w : World) (a b c d e f : Value) (t : TypeId) : ∀ j u, [a, b, c, d, e, f][j]? = some u → (w.alloc (.cells #[a, b, c, d, e, f] t)).cell? ((⟨w.heap.size, 0, none⟩ : Addr).add j) = some u := by
  intro j u hj
  match j, hj with
  | 0, hj => simp at hj; subst hj; simp [Addr.add]
  | 1, hj => simp at hj; subst hj; simp [Addr.add]
  | 2, hj => simp at hj; subst hj; simp [Addr.add]
  | 3, hj => simp at hj; subst hj; simp [Addr.add]
  | 4, hj => simp at hj; subst hj; simp [Addr.add]
  | 5, hj => simp at hj; subst hj; simp [Addr.add]
  | (k + 6), hj => simp at hj

theorem BoxN.not_row {W : World} {B : Nat} {t e : TypeId} {cs : Array Value} {n₀ size k : Nat} {v : Value} {xs : List Value} (h : BoxN W B t cs) (hte : t ≠ e) (hrow : W.ownsRow n₀ e size v k xs) : some B ≠ v.ownBlock := by
  rcases hrow.2 with ⟨rfl, _⟩ | ⟨g, cap, cur, rfl, _, hgb, _⟩
  · simp [Value.ownBlock]
  · intro e'
    have : B = g := by simpa [Value.ownBlock] using e'
    subst this
    rw [show W.heap[B]? = _ from h] at hgb
    simp only [Option.some.injEq, Obj.cells.injEq] at hgb
    exact hte hgb.2.1
theorem KeepsT.row_grown {bad : TypeId → Bool} {W W' : World} {n₀ size k : Nat} {e : TypeId} {v : Value} {xs : List Value} (hrow : W.ownsRow n₀ e size v k xs) (he : bad e = true) (hg : W.grownBy W' v.ownBlock) : KeepsT bad W W' :=
  KeepsT.grown hg (fun j ej o ho => by
    rcases hrow.2 with ⟨rfl, _⟩ | ⟨g, cap, cur, rfl, _, hgb, _⟩
    · simp [Value.ownBlock] at ej
    · obtain rfl : g = j := by simpa [Value.ownBlock] using ej
      rw [hgb] at ho; cases ho
      simp [Stays, he])
theorem KeepsT.boxed_set {bad : TypeId → Bool} {W : World} {B : Nat} {t : TypeId} {v : Value} (hb : Boxed W B t v) (ht : bad t = true) (v' : Value) : KeepsT bad W (W.setCell ⟨B, 0, none⟩ v') :=
  KeepsT.grown (grownBy_setCell' W B v') (fun j ej o ho => by
    cases ej
    rw [show W.heap[B]? = _ from hb] at ho; cases ho
    simp [Stays, ht])

set_option maxRecDepth 100000 in
set_option maxHeartbeats 2000000 in
theorem Tryz.hAll0 (hb vb mt ml : Nat) (vx : VX) (tm tn ln : Int) (tks : List TokE) (lks : List LeaE) (w : World) (dv rv : Value) (hH : BoxN w hb 64 #[dv, rv, .pointer (some ⟨vb, 0, none⟩)]) (hV : Tryz.VaultAt w vb mt ml vx tm tn ln tks lks) :
    CallsIn Fence.wide 9 Tryz.prog 14 #[.pointer (some ⟨hb, 0, none⟩), .int .i64 0] w fun e w' => ∃ v : Value, e = .returned (.tuple #[v, .bool true]) ∧ w'.ownsRow w.heap.size 40 6 v (infosOf tm tks lks).length (flatI (infosOf tm tks lks)) ∧ Below w.heap.size w w' := by
  obtain ⟨i0, hi, hz0, hz1, hz2⟩ := info_parts Tryz.infoInfo
  have hfa : Fence.wide.fn 30 := trivial
  have c2 := hH.cell 2 (v := .pointer (some ⟨vb, 0, none⟩)) rfl
  have lH := hH.lt
  have hnf : ∀ (p : Addr) (W : World), Sem.run Tryz.prog (binOp .eql 71 (.func (.func 52) #[] #[.pointer (some p)]) .nilFunc) W = .ok (.bool false) W := fun _ _ => by kernel_rfl
  refine callsIn_of_wp_marks Tryz.func14 rfl trivial ?_ rfl
  simp only [Tryz.ntmps14, List.size_toArray, List.length_cons, List.length_nil, Nat.reduceAdd, Nat.reduceSub, Array.replicate_succ, Array.replicate_zero, List.push_toArray, List.append_toArray, List.nil_append, List.cons_append]
  gi_wp2_with (gi_at_call 30; refine (callsIn_wide.2 (Tryz.vAll vb _)).mono ?_; rintro e w' ⟨rfl, rfl⟩)
  clear hnf c2
  have bZ := ((BoxN.new w 3 #[.int .i64 0]).alloc (.cells #[.pointer (some ⟨vb, 0, none⟩)] 62)).alloc (.cells #[.slice none 0 0] 36)
  have bV := (BoxN.new (w.alloc (.cells #[.int .i64 0] 3)) 62 #[.pointer (some ⟨vb, 0, none⟩)]).alloc (.cells #[.slice none 0 0] 36)
  have bL := Boxed.new ((w.alloc (.cells #[.int .i64 0] 3)).alloc (.cells #[.pointer (some ⟨vb, 0, none⟩)] 62)) 36 (.slice none 0 0)
  have hB0 : Below w.heap.size w (((w.alloc (.cells #[.int .i64 0] 3)).alloc (.cells #[.pointer (some ⟨vb, 0, none⟩)] 62)).alloc (.cells #[.slice none 0 0] 36)) := (((Below.refl _ w).alloc (Nat.le_refl _) _).alloc (by simp) _).alloc (by simp; omega) _
  have hsz : (((w.alloc (.cells #[.int .i64 0] 3)).alloc (.cells #[.pointer (some ⟨vb, 0, none⟩)] 62)).alloc (.cells #[.slice none 0 0] 36)).heap.size = w.heap.size + 3 := by simp
  simp only [World.size_alloc] at bV bL
  have hV0 := hV.below hB0
  obtain ⟨W0, hW0⟩ : ∃ W0, ((w.alloc (.cells #[.int .i64 0] 3)).alloc (.cells #[.pointer (some ⟨vb, 0, none⟩)] 62)).alloc (.cells #[.slice none 0 0] 36) = W0 := ⟨_, rfl⟩
  rw [hW0] at bZ bV bL hB0 hsz hV0 ⊢
  clear hW0
  have hlen : (infosOf tm tks lks).length ≤ 1000 := by have := hV.ok.lenT; have := hV.ok.lenL; simp [infosOf]; omega
  refine wpIn_rangeO (n := 9) (by omega) (gf := 52) (lb := #[.pointer (some ⟨w.heap.size + 1, 0, none⟩)]) rfl Tryz.enters52
    (Tryz.vAll_seq 8 (by omega) Tryz.badAll Tryz.goodAll (w.heap.size + 1) vb mt ml vx tm tn ln tks lks hV.ok W0 bV hV0.v hV0.held) keepsT_t keepsT_b (Below.refl _ _) (fun _ => rfl)
    (fun pre V => ((∃ v, Boxed V (w.heap.size + 1 + 1) 36 v ∧ V.ownsRow w.heap.size 40 6 v pre.length (flatI pre) ∧ (v = .slice none 0 0 ↔ pre = [])) ∧ BoxN V w.heap.size 3 #[.int .i64 0]) ∧ Below w.heap.size w V)
    (fun _ _ _ => False)
    (OwnFrom.and (OwnFrom.and (Own.from (holdsRow_own _ _ _ _ _ (fun pre : List InfoD => pre.length) (fun pre => flatI pre) (fun pre v => (v = .slice none 0 0 ↔ pre = []))) _) (Own.from (boxN_own _ _ (fun _ => #[.int .i64 0])) _)) (ownFrom_below (Nat.le_refl _) (by omega)))
    (fun _ _ _ _ _ hs _ _ => hs)
    (fun s V hs => ⟨hV.env.below hs.2 hV.six, Nat.le_trans hV.six hs.2.size⟩)
    ⟨⟨⟨_, bL, World.ownsRow_nil _ _ _ _, by simp⟩, bZ⟩, hB0⟩
    (fun x a' V => ∃ Bx, w.heap.size + 1 + 1 < Bx ∧ BoxN V Bx 40 x.cells ∧ a' = { tmps := #[.pointer (some ⟨hb, 0, none⟩), .int .i64 0, undef, .pointer (some ⟨w.heap.size, 0, none⟩), .slice none 0 0, .bool false, .func (.func 52) #[] #[.pointer (some ⟨w.heap.size + 1, 0, none⟩)], .pointer (some ⟨w.heap.size + 1 + 1, 0, none⟩), .pointer (some ⟨Bx, 0, none⟩), .pointer (some ⟨hb, 0, none⟩), .pointer (some ⟨hb, 0, none⟩), .pointer (some ⟨hb, 2, none⟩), .pointer (some ⟨vb, 0, none⟩), .bool false, .pointer (some ⟨hb, 0, none⟩), .pointer (some ⟨hb, 0, none⟩), .pointer (some ⟨hb, 2, none⟩), .pointer (some ⟨vb, 0, none⟩), .func (.func 52) #[] #[.pointer (some ⟨w.heap.size + 1, 0, none⟩)], .func (.func 52) #[] #[.pointer (some ⟨w.heap.size + 1, 0, none⟩)], .bool false, .func (.func 52) #[] #[.pointer (some ⟨w.heap.size + 1, 0, none⟩)], .agg x.cells, undef, undef, undef, undef, undef, undef, undef, undef, undef], defers := [] })
    (fun x a' _ X Y row hs hg hr => by obtain ⟨Bx, h1, h2, h3⟩ := hs; exact ⟨Bx, h1, boxN_own Bx 40 (fun (_ : Unit) => x.cells) () X Y row h2 hg (fun r e => (hr r e).2), h3⟩)
    ?assign ?body ?done ?stop
  case assign =>
    rintro l pre x V K ⟨⟨⟨v, b1, hr1, hnil⟩, bz⟩, hB1⟩ hK
    obtain ⟨id, st, at_, tr, tok, pth⟩ := x
    simp only [InfoD.cells, infoCells]
    gi_wp2
    exact hK _ _ ((KeepsOthers.alloc _ _).from _) (KeepsT.alloc _ _) ⟨⟨⟨v, b1.alloc _, hr1.alloc _, hnil⟩, bz.alloc _⟩, hB1.alloc hB1.size _⟩ ⟨V.heap.size, b1.lt, BoxN.new V 40 _, rfl⟩
  case body =>
    rintro l pre x a' V hl ⟨⟨⟨v, b1, hr1, hnil⟩, bz⟩, hB1⟩ ⟨Bx, hBx, bX, rfl⟩ hlt
    have hfl := flatI_snoc pre x
    obtain ⟨id, st, at_, tr, tok, pth⟩ := x
    simp only [InfoD.cells, infoCells] at bX hfl ⊢
    have HF := hid_intro hfl
    clear hfl
    have cS := b1.cell
    have cz := bz.cell 0 (v := .int .i64 0) rfl
    have hne0 : (((pre.length : Int) + 1) == 0) = false := by rw [beq_eq_false_iff_ne]; omega
    have x0 := bX.cell 0 (v := .string ⟨id.toArray⟩) rfl
    have x1 := bX.cell 1 (v := .int .i64 st) rfl
    have x2 := bX.cell 2 (v := .int .u64 at_) rfl
    have x3 := bX.cell 3 (v := .int .i64 tr) rfl
    have x4 := bX.cell 4 (v := .string ⟨tok.toArray⟩) rfl
    have x5 := bX.cell 5 (v := .string ⟨pth.toArray⟩) rfl
    have bz0 := bz.alloc (.cells #[.string ⟨id.toArray⟩, .int .i64 st, .int .u64 at_, .int .i64 tr, .string ⟨tok.toArray⟩, .string ⟨pth.toArray⟩] 40)
    have hnr : Hid (some w.heap.size ≠ v.ownBlock) := bz0.not_row (e := 40) (by decide) (hr1.alloc _)
    gi_wp2_with (gi_at_builtin; refine wpListIn_append_own _ rfl _ _ 36 rfl w.heap.size 40 i0 _ 6 72 Tryz.underlying36 hi hz0 hz1 hz2 rfl (by decide) _ _ _ rfl (hr1.alloc _) ⟨V.heap.size, 0, none⟩ 1 1 [.string ⟨id.toArray⟩, .int .i64 st, .int .u64 at_, .int .i64 tr, .string ⟨tok.toArray⟩, .string ⟨pth.toArray⟩] rfl rfl (cell_six_new _ _ _ _ _ _ _ _) (by simp [Value.oneCell']) (by unfold maxLen; omega) (by omega) (by have := hB1.size; simp; omega) ?_; intro v' w1 hown' hgrow hn'; obtain ⟨g', cap', rfl⟩ := ownsRow_succ hown'; obtain ⟨hv1, hv2, hr2, hk2, hb2⟩ := b1.appended (by decide) hr1 hB1.size (by omega) hown' hgrow; have hc1 := hv1.cell; have hf1 := hv1.frozen; have bz1 := bz0.kept hgrow hnr; have cz1 := bz1.cell 0 (v := .int .i64 0) rfl)
    have hkT := ((KeepsT.alloc (bad := Tryz.badAll) V (.cells #[.string ⟨id.toArray⟩, .int .i64 st, .int .u64 at_, .int .i64 tr, .string ⟨tok.toArray⟩, .string ⟨pth.toArray⟩] 40)).trans (KeepsT.row_grown (hr1.alloc _) (by decide) hgrow)).trans (KeepsT.boxed_set hv1 (by decide) (.slice (some ⟨g', 0, none⟩) (pre.length + 1) cap'))
    exact ⟨hk2.from _, hkT, ⟨⟨_, hv2, by rw [show flatI _ = _ from hid_elim HF, List.length_append]; exact hr2, by simp⟩, bz1.other (by omega) _ _⟩, hB1.trans hb2⟩
  case done =>
    rintro D zs V hD rfl ⟨⟨⟨v, b1, hr1, hnil⟩, bz⟩, hB1⟩ hK
    have cS := b1.cell
    gi_wp2
    refine ⟨by simp, .inl ⟨_, _, rfl, run_takeDeferred hK, ?_⟩⟩
    exact ⟨_, by simp [results, Tryz.results14, go_sem], v, rfl, ownsRow_putObj hr1 _ hK rfl, hB1.trans (belowK_b (w := w) (Nat.le_refl _) V D _ _ (by omega) hK rfl rfl)⟩
  case stop =>
    rintro D c pre V _ _ h _
    exact h.elim
end Go.Proofs

/-
  (Vault).Next, plain.Host.Next.
-/
namespace Go.Proofs
open Go.RowKit Go.Sort Go.Lib Go.Shelf Go.Maps

attribute [local go_sem] Oper.semAt_some

def neverI : Int := 18446744073709551615
def minAt (xs : List InfoD) : Int := xs.foldl (fun m x => min m x.at_) neverI
theorem minAt_snoc (xs : List InfoD) (x : InfoD) : minAt (xs ++ [x]) = min (minAt xs) x.at_ := by simp [minAt]

set_option maxRecDepth 100000 in
set_option maxHeartbeats 2000000 in
theorem Tryz.vNext (vb mt ml : Nat) (vx : VX) (tm tn ln : Int) (tks : List TokE) (lks : List LeaE) (w : World) (hV : Tryz.VaultAt w vb mt ml vx tm tn ln tks lks) :
    CallsIn Fence.wide 9 Tryz.prog 59 #[.pointer (some ⟨vb, 0, none⟩)] w fun e w' => e = .returned (.int .u64 (minAt (infosOf tm tks lks))) ∧ Below w.heap.size w w' := by
  have hfa : Fence.wide.fn 30 := trivial
  refine callsIn_of_wp_marks Tryz.func59 rfl trivial ?_ rfl
  simp only [Tryz.ntmps59, List.size_toArray, List.length_cons, List.length_nil, Nat.reduceAdd, Nat.reduceSub, Array.replicate_succ, Array.replicate_zero, List.push_toArray, List.append_toArray, List.nil_append, List.cons_append]
  gi_wp2_with (gi_at_call 30; refine (callsIn_wide.2 (Tryz.vAll vb _)).mono ?_; rintro e w' ⟨rfl, rfl⟩)
  have bL := (Boxed.new w 35 (.int .u64 neverI)).alloc (.cells #[.pointer (some ⟨vb, 0, none⟩)] 62)
  have bV := BoxN.new (w.alloc (.cells #[.int .u64 neverI] 35)) 62 #[.pointer (some ⟨vb, 0, none⟩)]
  have hB0 : Below w.heap.size w ((w.alloc (.cells #[.int .u64 neverI] 35)).alloc (.cells #[.pointer (some ⟨vb, 0, none⟩)] 62)) := ((Below.refl _ w).alloc (Nat.le_refl _) _).alloc (by simp) _
  have hsz : ((w.alloc (.cells #[.int .u64 neverI] 35)).alloc (.cells #[.pointer (some ⟨vb, 0, none⟩)] 62)).heap.size = w.heap.size + 2 := by simp
  simp only [World.size_alloc] at bV
  have hV0 := hV.below hB0
  obtain ⟨W0, hW0⟩ : ∃ W0, (w.alloc (.cells #[.int .u64 neverI] 35)).alloc (.cells #[.pointer (some ⟨vb, 0, none⟩)] 62) = W0 := ⟨_, rfl⟩
  rw [hW0] at bV bL hB0 hsz hV0
  change Code.wpIn _ _ _ _ _ _ ((w.alloc (.cells #[.int .u64 neverI] 35)).alloc (.cells #[.pointer (some ⟨vb, 0, none⟩)] 62))
  rw [hW0]
  clear hW0
  refine wpIn_rangeO (n := 9) (by omega) (gf := 52) (lb := #[.pointer (some ⟨w.heap.size + 1, 0, none⟩)]) rfl Tryz.enters52
    (Tryz.vAll_seq 8 (by omega) Tryz.badNext Tryz.goodNext (w.heap.size + 1) vb mt ml vx tm tn ln tks lks hV.ok W0 bV hV0.v hV0.held) keepsT_t keepsT_b (Below.refl _ _) (fun _ => rfl)
    (fun pre V => Boxed V w.heap.size 35 (.int .u64 (minAt pre)) ∧ Below w.heap.size w V)
    (fun _ _ _ => False)
    (OwnFrom.and (Own.from (boxed_own _ _ (fun pre : List InfoD => .int .u64 (minAt pre))) _) (ownFrom_below (Nat.le_refl _) (by omega)))
    (fun _ _ _ _ _ hs _ _ => hs)
    (fun s V hs => ⟨hV.env.below hs.2 hV.six, Nat.le_trans hV.six hs.2.size⟩)
    ⟨bL, hB0⟩
    (fun x a' V => ∃ Bx, w.heap.size < Bx ∧ BoxN V Bx 40 x.cells ∧ a' = { tmps := #[.pointer (some ⟨vb, 0, none⟩), undef, .int .u64 0, .pointer (some ⟨w.heap.size, 0, none⟩), .pointer (some ⟨Bx, 0, none⟩), .pointer (some ⟨vb, 0, none⟩), .func (.func 52) #[] #[.pointer (some ⟨w.heap.size + 1, 0, none⟩)], .agg x.cells, undef, undef, undef, undef, undef], defers := [] })
    (fun x a' _ X Y row hs hg hr => by obtain ⟨Bx, h1, h2, h3⟩ := hs; exact ⟨Bx, h1, boxN_own Bx 40 (fun (_ : Unit) => x.cells) () X Y row h2 hg (fun r e => (hr r e).2), h3⟩)
    ?assign ?body ?done ?stop
  case assign =>
    rintro l pre x V K ⟨b1, hB1⟩ hK
    obtain ⟨id, st, at_, tr, tok, pth⟩ := x
    simp only [InfoD.cells, infoCells]
    gi_wp2
    exact hK _ _ ((KeepsOthers.alloc _ _).from _) (KeepsT.alloc _ _) ⟨b1.alloc _, hB1.alloc hB1.size _⟩ ⟨V.heap.size, b1.lt, BoxN.new V 40 _, rfl⟩
  case body =>
    rintro l pre x a' V hl ⟨b1, hB1⟩ ⟨Bx, hBx, bX, rfl⟩ hlt
    have hms := minAt_snoc pre x
    obtain ⟨id, st, at_, tr, tok, pth⟩ := x
    simp only [InfoD.cells, infoCells] at bX hms ⊢
    have HM := hid_intro hms
    clear hms
    generalize minAt pre = m at *
    have c1 := b1.cell
    have f1 := b1.frozen
    have x2 := bX.cell 2 (v := .int .u64 at_) rfl
    gi_wp2
    exact ⟨(KeepsOthers.setCell _ _ _).from _, KeepsT.boxed_set b1 (by decide) _, by rw [show minAt _ = _ from hid_elim HM]; exact b1.set _, hB1.setCell (p := ⟨w.heap.size, 0, none⟩) (Nat.le_refl _) _⟩
  case done =>
    rintro D zs V hD rfl ⟨b1, hB1⟩ hK
    have cS := b1.cell
    gi_wp2
    refine ⟨by simp, .inl ⟨_, _, rfl, run_takeDeferred hK, ?_⟩⟩
    exact ⟨_, results_tmp rfl _ _ _, rfl, hB1.trans (belowK_b (w := w) (Nat.le_refl _) V D _ _ (by omega) hK rfl rfl)⟩
  case stop =>
    rintro D c pre V _ _ h _
    exact h.elim

set_option maxHeartbeats 1000000 in
theorem Tryz.hNext (hb vb mt ml : Nat) (vx : VX) (tm tn ln : Int) (tks : List TokE) (lks : List LeaE) (w : World) (dv rv : Value) (hH : BoxN w hb 64 #[dv, rv, .pointer (some ⟨vb, 0, none⟩)]) (hV : Tryz.VaultAt w vb mt ml vx tm tn ln tks lks) :
    Calls Tryz.prog 35 #[.pointer (some ⟨hb, 0, none⟩)] w fun e w' => e = .returned (.int .u64 (minAt (infosOf tm tks lks))) ∧ Below w.heap.size w w' := by
  have hN := callsIn_wide.1 (Tryz.vNext vb mt ml vx tm tn ln tks lks w hV)
  generalize minAt (infosOf tm tks lks) = m at *
  have c2 := hH.cell 2 (v := .pointer (some ⟨vb, 0, none⟩)) rfl
  go_enter Tryz.func35, Tryz.ntmps35
  go_wp2_with (go_at_call 59; refine hN.mono ?_; rintro e w' ⟨rfl, hb⟩)
  go_ret
  exact ⟨rfl, hb⟩
end Go.Proofs
