import Derived.Test.YtjbekgjdempbiaaGreatDoorJInfo
import Derived.Deep.DeepCutAuto
import Derived.Test.YtjbekgjdempbiaaGreatDoorJWalk
import Derived.BigQuiet
/-
  What a lease tells of itself.
-/
namespace Go.Proofs
open Go.RowKit Go.Sort Go.Lib Go.Shelf

theorem six_box {W : World} {q : Nat} {t : TypeId} {c0 c1 c2 c3 c4 c5 : Value} (h : BoxN W q t #[c0, c1, c2, c3, c4, c5]) (v0 v1 v2 v3 v4 v5 : Value) :
    BoxN ((((((W.setCell ⟨q, 0, none⟩ v0).setCell ⟨q, 1, none⟩ v1).setCell ⟨q, 2, none⟩ v2).setCell ⟨q, 3, none⟩ v3).setCell ⟨q, 4, none⟩ v4).setCell ⟨q, 5, none⟩ v5) q t #[v0, v1, v2, v3, v4, v5] :=
  (((((h.set 0 v0).set 1 v1).set 2 v2).set 3 v3).set 4 v4).set 5 v5
theorem Tryz.InfoP.setQ {w0 W : World} {nb b rb : Nat} {k : Int} {u : Nat} {ak : Int} {au : Nat} {at_ tr : Int} {pd : Bool} (h : Tryz.InfoP w0 nb b rb k u ak au at_ tr pd W) (q i : Nat) (v : Value) (hn : nb ≠ q) (hb : b ≠ q) (_hr : rb ≠ q) (hq : w0.heap.size ≤ q) (h6 : 6 ≤ w0.heap.size) : Tryz.InfoP w0 nb b rb k u ak au at_ tr pd (W.setCell ⟨q, i, none⟩ v) := by
  obtain ⟨⟨⟨c0, c1, c2, c3, c4, c5⟩, hrow, hE, h6', hB⟩, hp⟩ := h
  have o : ∀ (p j : Nat), p ≠ q → (W.setCell ⟨q, i, none⟩ v).cell? ⟨p, j, none⟩ = W.cell? ⟨p, j, none⟩ := fun p j hp => World.cell?_setCell_other _ _ _ _ (by simp)
  have hB' := hB.setCell (p := ⟨q, i, none⟩) hq v
  refine ⟨⟨⟨(o _ _ hn).trans c0, (o _ _ hn).trans c1, (o _ _ hb).trans c2, (o _ _ hb).trans c3, (o _ _ hb).trans c4, (o _ _ hb).trans c5⟩, hrow.set _ _, hE.below ((Below.refl w0.heap.size W).setCell (p := ⟨q, i, none⟩) hq v) h6, ?_, hB'⟩, (o _ _ hb).trans hp⟩
  have := hB'.size; omega

set_option maxRecDepth 100000 in
set_option maxHeartbeats 4000000 in
theorem Tryz.leaseInfo (b : Nat) (k : Int) (u : Nat) (ak : Int) (au : Nat) (at_ tr : Int) (pd : Bool) (tm : Int) (pth : List UInt8) (hu : u < 18446744073709551616) (hau : au < 18446744073709551616) (w : World) (hE : Tryz.Env w) (h6 : 6 ≤ w.heap.size)
    (h0 : w.cell? ⟨b, 0, none⟩ = some (.int .i64 ak)) (h1 : w.cell? ⟨b, 1, none⟩ = some (.int .u64 au)) (h2 : w.cell? ⟨b, 2, none⟩ = some (.int .u64 at_)) (h3 : w.cell? ⟨b, 3, none⟩ = some (.int .i64 tr)) (h4 : w.cell? ⟨b, 4, none⟩ = some (.bool pd)) (h5 : w.cell? ⟨b, 5, none⟩ = some (.string ⟨pth.toArray⟩)) :
    Calls Tryz.prog 82 #[.pointer (some ⟨b, 0, none⟩), .agg #[.int .i64 k, .int .u64 u], .int .u64 tm] w fun e w' => e = .returned (.agg (infoCells (nmStr k u) (if (!pd && decide (tm < at_)) then 1 else 2) at_ tr (nmStr ak au) pth)) ∧ Below w.heap.size w w' := by
  have hb : b < w.heap.size := World.block_lt_of_cell? _ _ h0
  have hS1 := fun W (hI : Tryz.InfoP w w.heap.size b (w.heap.size + 1) k u ak au at_ tr pd W) => Tryz.leaseLive b pd at_ tm W hI.2 hI.1.1.2.2.2.2.1
  generalize (!pd && decide (tm < at_)) = lv at *
  have hS2 := fun W (hI : Tryz.InfoP w w.heap.size b (w.heap.size + 1) k u ak au at_ tr pd W) => Tryz.entryInfo b k u ak au at_ tr lv hu hau W hI.1.2.2.1 hI.1.2.2.2.1 hI.1.1.2.2.1 hI.1.1.2.2.2.1 hI.1.1.2.2.2.2.1 hI.1.1.2.2.2.2.2 (Nat.lt_of_lt_of_le hb hI.1.2.2.2.2.size)
  generalize nmStr k u = s1 at *
  generalize nmStr ak au = s2 at *
  unfold infoCells at hS2 ⊢
  generalize (if lv then (1 : Int) else 2) = st at *
  go_enter Tryz.func82, Tryz.ntmps82
  go_wp2_with fail
  go_cut [7] (fun t7 wx => ∃ q : Nat, t7 = .pointer (some ⟨q, 0, none⟩) ∧ (BoxN wx q 49 #[.string ⟨s1.toArray⟩, .int .i64 st, .int .u64 at_, .int .i64 tr, .string ⟨s2.toArray⟩, .string ⟨#[]⟩] ∧ Row6 wx (w.heap.size + 1)) ∧ wx.cell? ⟨b, 5, none⟩ = some (.string ⟨pth.toArray⟩) ∧ Below w.heap.size w wx ∧ w.heap.size + 1 < q)
  case first =>
    go_region_held3 (Tryz.InfoP w w.heap.size b (w.heap.size + 1) k u ak au at_ tr pd) (first
      | with_reducible exact Tryz.InfoP.start hE h6 h0 h1 h2 h3 h4 _ _ _ _ _ _
      | with_reducible exact Tryz.InfoP.below (by assumption) (by assumption)
      | with_reducible assumption
      | with_reducible exact ((((((Tryz.InfoP.setQ (by assumption) _ 0 _ (by omega) (by omega) (by omega) (by omega) h6).setQ _ 1 _ (by omega) (by omega) (by omega) (by omega) h6).setQ _ 2 _ (by omega) (by omega) (by omega) (by omega) h6).setQ _ 3 _ (by omega) (by omega) (by omega) (by omega) h6).setQ _ 4 _ (by omega) (by omega) (by omega) (by omega) h6).setQ _ 5 _ (by omega) (by omega) (by omega) (by omega) h6)
      | with_reducible exact Tryz.InfoP.below (hid_elim hK2) ((Below.refl _ _).alloc (Nat.le_refl _) _)
      | with_reducible exact Tryz.InfoP.below (by assumption) ((Below.refl _ _).alloc (Nat.le_refl _) _)) (first
      | (go_at_call 91; refine (hS1 _ (by assumption)).mono ?_; rintro e w1 ⟨rfl, rfl⟩)
      | (go_at_call 138; refine (hS2 _ (by assumption)).mono ?_; rintro e w2 ⟨rfl, hbS2⟩; have hK2 := hid_intro (Tryz.InfoP.below (show Tryz.InfoP w w.heap.size b (w.heap.size + 1) k u ak au at_ tr pd _ from by assumption) hbS2); obtain ⟨hc2, hf2⟩ := bcell hbS2; have hz2 := hbS2.size))
    · go_wp2_with fail
      go_meet
      case rel =>
        have hI2 := hid_elim hK2
        have hB2 := hI2.1.2.2.2.2.alloc hI2.1.2.2.2.2.size (.cells #[.string ⟨s1.toArray⟩, .int .i64 st, .int .u64 at_, .int .i64 tr, .string ⟨s2.toArray⟩, .string ⟨#[]⟩] 49)
        simp at hz2
        exact ⟨_, rfl, ⟨BoxN.new _ _ _, hI2.1.2.1.below ((Below.refl _ _).alloc (Nat.le_refl _) _)⟩, cell_later hB2 h5, hB2, by omega⟩
    all_goals
      go_wp2_with fail
      go_meet
      case rel =>
        have hI2 := hid_elim hK2
        have b0 := (BoxN.new ((w.alloc (.cells #[.int .i64 k, .int .u64 u] 114)).alloc (.cells #[.string ⟨#[]⟩, .int .i64 0, .int .u64 0, .int .i64 0, .string ⟨#[]⟩, .string ⟨#[]⟩] 49)) 49 #[.string ⟨#[]⟩, .int .i64 0, .int .u64 0, .int .i64 0, .string ⟨#[]⟩, .string ⟨#[]⟩])
        simp only [World.size_alloc] at b0
        have b1 : BoxN w2 (w.heap.size + 1 + 1) 49 #[.string ⟨#[]⟩, .int .i64 0, .int .u64 0, .int .i64 0, .string ⟨#[]⟩, .string ⟨#[]⟩] := (hbS2.block (w.heap.size + 1 + 1) (by simp)).trans b0
        have bF := six_box b1 (.string ⟨s1.toArray⟩) (.int .i64 st) (.int .u64 at_) (.int .i64 tr) (.string ⟨s2.toArray⟩) (.string ⟨#[]⟩)
        have hR := (((((hI2.1.2.1.set ⟨w.heap.size + 1 + 1, 0, none⟩ (.string ⟨s1.toArray⟩)).set ⟨w.heap.size + 1 + 1, 1, none⟩ (.int .i64 st)).set ⟨w.heap.size + 1 + 1, 2, none⟩ (.int .u64 at_)).set ⟨w.heap.size + 1 + 1, 3, none⟩ (.int .i64 tr)).set ⟨w.heap.size + 1 + 1, 4, none⟩ (.string ⟨s2.toArray⟩)).set ⟨w.heap.size + 1 + 1, 5, none⟩ (.string ⟨#[]⟩)
        have hB2 := (((((hI2.1.2.2.2.2.setCell (p := ⟨w.heap.size + 1 + 1, 0, none⟩) (by simp; omega) (.string ⟨s1.toArray⟩)).setCell (p := ⟨w.heap.size + 1 + 1, 1, none⟩) (by simp; omega) (.int .i64 st)).setCell (p := ⟨w.heap.size + 1 + 1, 2, none⟩) (by simp; omega) (.int .u64 at_)).setCell (p := ⟨w.heap.size + 1 + 1, 3, none⟩) (by simp; omega) (.int .i64 tr)).setCell (p := ⟨w.heap.size + 1 + 1, 4, none⟩) (by simp; omega) (.string ⟨s2.toArray⟩)).setCell (p := ⟨w.heap.size + 1 + 1, 5, none⟩) (by simp; omega) (.string ⟨#[]⟩)
        exact ⟨_, rfl, ⟨bF, hR⟩, cell_later hB2 h5, hB2, by omega⟩
  case rest =>
    obtain ⟨q, rfl, ⟨bq, hr⟩, h5', hB, hq⟩ := hcut
    have hne : q ≠ w.heap.size + 1 := by omega
    have q0 := bq.cell 0 (v := .string ⟨s1.toArray⟩) rfl
    have q1 := bq.cell 1 (v := .int .i64 st) rfl
    have q2 := bq.cell 2 (v := .int .u64 at_) rfl
    have q3 := bq.cell 3 (v := .int .i64 tr) rfl
    have q4 := bq.cell 4 (v := .string ⟨s2.toArray⟩) rfl
    have q5 := bq.cell 5 (v := .string ⟨#[]⟩) rfl
    have qf := bq.frozen 5
    have HR := hid_intro (hr.set ⟨q, 5, none⟩ (.string ⟨pth.toArray⟩))
    obtain ⟨⟨r0, r1, r2, r3, r4, r5⟩, f0, f1, f2, f3, f4, f5⟩ := hr
    go_wp2
    obtain ⟨g0, g1, g2, g3, g4, g5⟩ := six_set (hid_elim HR) (.string ⟨s1.toArray⟩) (.int .i64 st) (.int .u64 at_) (.int .i64 tr) (.string ⟨s2.toArray⟩) (.string ⟨pth.toArray⟩)
    have hBF := ((((((hB.setCell (p := ⟨q, 5, none⟩) (by simp; omega) (.string ⟨pth.toArray⟩)).setCell (p := ⟨w.heap.size + 1, 0, none⟩) (by simp) (.string ⟨s1.toArray⟩)).setCell (p := ⟨w.heap.size + 1, 1, none⟩) (by simp) (.int .i64 st)).setCell (p := ⟨w.heap.size + 1, 2, none⟩) (by simp) (.int .u64 at_)).setCell (p := ⟨w.heap.size + 1, 3, none⟩) (by simp) (.int .i64 tr)).setCell (p := ⟨w.heap.size + 1, 4, none⟩) (by simp) (.string ⟨s2.toArray⟩)).setCell (p := ⟨w.heap.size + 1, 5, none⟩) (by simp) (.string ⟨pth.toArray⟩)
    clear r0 r1 r2 r3 r4 r5 q0 q1 q2 q3 q4 q5
    exact bodyPost_ret (v := .agg #[.string ⟨s1.toArray⟩, .int .i64 st, .int .u64 at_, .int .i64 tr, .string ⟨s2.toArray⟩, .string ⟨pth.toArray⟩]) (by simp [results, Tryz.results82, go_sem, g0, g1, g2, g3, g4, g5]) rfl ⟨rfl, hBF⟩
end Go.Proofs

/-
  What a vault holds in memory, and what it tells.
-/
namespace Go.Proofs
open Go.RowKit Go.Sort Go.Lib Go.Shelf Go.Maps

/-- a token, a lease, that is not gone: its number, the token above, .. -/
structure TokE where
  n : Nat
  ak : Int
  au : Nat
  at_ : Int
  tr : Int
  pd : Bool
structure LeaE where
  n : Nat
  ak : Int
  au : Nat
  at_ : Int
  tr : Int
  pd : Bool
  pth : List UInt8
  last : Int
/-- what is told of one. -/
structure InfoD where
  id : List UInt8
  st : Int
  at_ : Int
  tr : Int
  tok : List UInt8
  pth : List UInt8
def InfoD.cells (x : InfoD) : Array Value := infoCells x.id x.st x.at_ x.tr x.tok x.pth
def TokE.info (t : TokE) : InfoD := ⟨nmStr 1 t.n, if !t.pd then 1 else 2, t.at_, t.tr, nmStr t.ak t.au, []⟩
def LeaE.info (tm : Int) (l : LeaE) : InfoD := ⟨nmStr 2 l.n, if (!l.pd && decide (tm < l.at_)) then 1 else 2, l.at_, l.tr, nmStr l.ak l.au, l.pth⟩
def TokE.cells (t : TokE) : Array Value := #[.int .i64 t.ak, .int .u64 t.au, .int .u64 t.at_, .int .i64 t.tr, .bool t.pd]
def LeaE.cells (l : LeaE) : Array Value := #[.int .i64 l.ak, .int .u64 l.au, .int .u64 l.at_, .int .i64 l.tr, .bool l.pd, .string ⟨l.pth.toArray⟩, .int .u64 l.last]
def TokE.key (t : TokE) : (Int × Int) × Value := ((1, (t.n : Int)), .agg t.cells)
def LeaE.key (l : LeaE) : (Int × Int) × Value := ((2, (l.n : Int)), .agg l.cells)
theorem TokE.sh (tks : List TokE) : ∀ p ∈ tks.map TokE.key, ShTok p.2 := fun p hp => by
  obtain ⟨t, _, rfl⟩ := List.mem_map.1 hp
  exact ⟨_, _, _, _, _, rfl⟩
theorem LeaE.sh (lks : List LeaE) : ∀ p ∈ lks.map LeaE.key, ShLea p.2 := fun p hp => by
  obtain ⟨t, _, rfl⟩ := List.mem_map.1 hp
  exact ⟨_, _, _, _, _, _, _, rfl⟩
/-- what else a vault holds. -/
structure VX where
  jn : Value
  rv : Value
  tk : Bool
  due : Value
def Tryz.vaultC (vx : VX) (tm : Int) (mt ml : Nat) (tn ln : Int) : Array Value := #[vx.jn, vx.rv, .int .u64 tm, .map (some mt), .map (some ml), .int .u64 tn, .int .u64 ln, .bool vx.tk, vx.due]
def u64lim : Nat := 18446744073709551616

/-- the two maps of a vault. -/
structure Tryz.Held (W : World) (mt ml : Nat) (tks : List TokE) (lks : List LeaE) : Prop where
  mapT : ∃ n, n ≤ 1000 ∧ W.ownsMap Tryz.prog 114 valR mt n (mapD (tks.map TokE.key).reverse)
  mapL : ∃ n, n ≤ 1000 ∧ W.ownsMap Tryz.prog 114 valR ml n (mapD (lks.map LeaE.key).reverse)
/-- what is asked of the lists themselves. -/
structure ListsOk (tks : List TokE) (lks : List LeaE) : Prop where
  lenT : tks.length ≤ 500
  lenL : lks.length ≤ 500
  incT : tks.Pairwise (fun a b => a.n < b.n)
  incL : lks.Pairwise (fun a b => a.n < b.n)
  limT : ∀ t ∈ tks, t.n < u64lim ∧ t.au < u64lim
  limL : ∀ l ∈ lks, l.n < u64lim ∧ l.au < u64lim

theorem wfNm {k : Int} (hk : k = 1 ∨ k = 2) {n : Nat} (h : n < u64lim) : NmWf (k, (n : Int)) := by
  unfold u64lim at h
  refine ⟨?_, ?_⟩
  · rcases hk with rfl | rfl
    · show (Lit.int .i64 1).wf = true; decide
    · show (Lit.int .i64 2).wf = true; decide
  · show (Lit.int .u64 (n : Int)).wf = true
    simp [Lit.wf, IntKind.min, IntKind.max, IntKind.bits, IntKind.signed]
    omega

theorem keys_ok {l : List ((Int × Int) × Value)} (k : Int) (hk : k = 1 ∨ k = 2) (hs : l.Pairwise (fun a b => a.1.2 < b.1.2)) (h1 : ∀ p ∈ l, p.1.1 = k ∧ ∃ n : Nat, p.1.2 = (n : Int) ∧ n < u64lim) :
    KsOk l.reverse ∧ SortedN (l.map (·.1)) := by
  have hp : (l.map (·.1)).Pairwise (fun x y => x.2 < y.2) := List.pairwise_map.2 hs
  refine ⟨⟨fun p hp' => ?_, ?_⟩, ?_⟩
  · obtain ⟨e1, n, e2, hn⟩ := h1 p (by simpa using hp')
    have := wfNm hk hn
    rw [← e1, ← e2] at this
    exact this
  · rw [List.map_reverse]
    exact List.pairwise_reverse.2 (hp.imp fun {a b} h e => by rw [e] at h; omega)
  · have h2 : ∀ x ∈ l.map (·.1), x.1 = k := fun x hx => by
      obtain ⟨p, hp', rfl⟩ := List.mem_map.1 hx
      exact (h1 p hp').1
    refine hp.imp_of_mem fun {a b} ha hb h => ?_
    rw [ltOf_cmpN, decide_eq_true_iff]
    exact Or.inr ⟨by rw [h2 a ha, h2 b hb], h⟩

theorem ListsOk.ksT {tks : List TokE} {lks : List LeaE} (h : ListsOk tks lks) : KsOk (tks.map TokE.key).reverse ∧ SortedN ((tks.map TokE.key).map (·.1)) :=
  keys_ok 1 (Or.inl rfl) (List.pairwise_map.2 (h.incT.imp fun {a b} hab => by simp [TokE.key]; omega)) (fun p hp => by
    obtain ⟨t, ht, rfl⟩ := List.mem_map.1 hp
    exact ⟨rfl, t.n, rfl, (h.limT t ht).1⟩)
theorem ListsOk.ksL {tks : List TokE} {lks : List LeaE} (h : ListsOk tks lks) : KsOk (lks.map LeaE.key).reverse ∧ SortedN ((lks.map LeaE.key).map (·.1)) :=
  keys_ok 2 (Or.inr rfl) (List.pairwise_map.2 (h.incL.imp fun {a b} hab => by simp [LeaE.key]; omega)) (fun p hp => by
    obtain ⟨t, ht, rfl⟩ := List.mem_map.1 hp
    exact ⟨rfl, t.n, rfl, (h.limL t ht).1⟩)

theorem Tryz.Held.keeps {bad : TypeId → Bool} {W W' : World} {mt ml : Nat} {tks : List TokE} {lks : List LeaE} (h : Tryz.Held W mt ml tks lks) (hk : KeepsT bad W W') : Tryz.Held W' mt ml tks lks := by
  obtain ⟨⟨n, hn, hm⟩, ⟨n', hn', hm'⟩⟩ := h
  exact ⟨⟨n, hn, hk.map hm⟩, ⟨n', hn', hk.map hm'⟩⟩
/-- it abides the turns of new blocks that are no cells. -/
theorem Tryz.Held.from {β : Type} (B mt ml : Nat) (tks : List TokE) (lks : List LeaE) (hmt : mt < B) (hml : ml < B) : OwnFrom B (fun (_ : β) W => Tryz.Held W mt ml tks lks) := fun _ W W' row h hg hr => by
  obtain ⟨⟨n, hn, hm⟩, ⟨n', hn', hm'⟩⟩ := h
  exact ⟨⟨n, hn, hm.kept hg (fun e => by have := (hr _ e.symm).1; omega)⟩, ⟨n', hn', hm'.kept hg (fun e => by have := (hr _ e.symm).1; omega)⟩⟩
theorem Tryz.Held.lt {W : World} {mt ml : Nat} {tks : List TokE} {lks : List LeaE} (h : Tryz.Held W mt ml tks lks) : mt < W.heap.size ∧ ml < W.heap.size := by
  obtain ⟨⟨n, hn, hm⟩, ⟨n', hn', hm'⟩⟩ := h
  exact ⟨hm.lt, hm'.lt⟩
end Go.Proofs

/-
  The document's answer: plus, digits, Id, state.
-/
namespace Go.Proofs
open Go.RowKit Go.Sort Go.Lib Go.Shelf

def plusI (a b : Int) : Int := if 18446744073709551615 - b < a then 18446744073709551615 else a + b

set_option maxHeartbeats 1000000 in
theorem Tryz.rPlus (a b : Int) (ha : 0 ≤ a) (hb0 : 0 ≤ b) (hb : b ≤ 18446744073709551615) (w : World) :
    Calls Tryz.prog 153 #[.int .u64 a, .int .u64 b] w fun e w' => e = .returned (.int .u64 (plusI a b)) ∧ w' = w := by
  by_cases h : 18446744073709551615 - b < a
  · have hp : Hid (plusI a b = 18446744073709551615) := hid_intro (by simp [plusI, h])
    generalize plusI a b = r at *
    go_enter Tryz.func153, Tryz.ntmps153
    go_wp2
    go_ret
    exact ⟨by rw [hid_elim hp]; rfl, rfl⟩
  · have hp : Hid (plusI a b = a + b) := hid_intro (by simp [plusI, h])
    generalize plusI a b = r at *
    have hle : a + b ≤ 18446744073709551615 := by omega
    go_enter Tryz.func153, Tryz.ntmps153
    go_wp2
    go_ret
    exact ⟨by rw [hid_elim hp]; rfl, rfl⟩

theorem u8Digit (d : Nat) (h : d < 10) : ((UInt8.ofNat (48 + d)).toNat : Int) = 48 + (d : Int) := by
  have : (UInt8.ofNat (48 + d)).toNat = 48 + d := by simp; omega
  omega
/-- one digit as a string. -/
theorem Tryz.oneDigit (d : Nat) (h : d < 10) (w : World) (c : UInt8) (hc : c = UInt8.ofNat (48 + d)) : (convert 267 9 (.slice (some ⟨w.heap.size, 0, none⟩) 1 1)).run Tryz.prog (w.alloc (.cells #[.int .u8 (48 + (d : Int))] 5)) = .ok (.string ⟨#[c]⟩) (w.alloc (.cells #[.int .u8 (48 + (d : Int))] 5)) := by
  subst hc
  exact run_convert_bytes_back (P := Tryz.prog) (w.alloc (.cells #[.int .u8 (48 + (d : Int))] 5)) 267 9 5 ⟨w.heap.size, 0, none⟩ 1 [UInt8.ofNat (48 + d)] Tryz.underlying267 Tryz.underlying5 Tryz.underlying9 (fun j hj => by
    have : j = 0 := by simpa using hj
    subst this
    have hc := (BoxN.new w 5 #[.int .u8 (48 + (d : Int))]).cell 0 (v := .int .u8 (48 + (d : Int))) rfl
    rw [Lib.add_plain]
    refine hc.trans ?_
    rw [List.getElem_singleton, u8Digit d h])

set_option maxRecDepth 100000 in
set_option maxHeartbeats 2000000 in
theorem Tryz.rDigits (n : Nat) : ∀ (_ : n < 9223372036854775808) (w : World),
    Calls Tryz.prog 151 #[.int .i64 n] w fun e w' => e = .returned (.string ⟨(Lib.decDigits n).toArray⟩) ∧ Below w.heap.size w w' := by
  induction n using Nat.strongRecOn with
  | _ n ih =>
    intro hn w
    by_cases h : n < 10
    · have hi : (n : Int) < 10 := by omega
      have hf0 := Lib.decDigits_one h
      obtain ⟨c, hc⟩ : ∃ c, c = UInt8.ofNat (48 + n) := ⟨_, rfl⟩
      have hcv := Tryz.oneDigit n h w c hc
      rw [← hc] at hf0
      have hf := hid_intro hf0
      clear hc hf0
      generalize Lib.decDigits n = r at *
      go_enter Tryz.func151, Tryz.ntmps151
      go_wp2
      go_ret
      exact ⟨by rw [hid_elim hf]; rfl, (Below.refl _ w).alloc (Nat.le_refl _) _⟩
    · have hi : ¬ (n : Int) < 10 := by omega
      have hI := ih (n / 10) (by omega) (by omega)
      have hf0 : Lib.decDigits n = Lib.decDigits (n / 10) ++ [UInt8.ofNat (48 + n % 10)] := by rw [Lib.decDigits, dif_neg h]
      obtain ⟨c, hc⟩ : ∃ c, c = UInt8.ofNat (48 + n % 10) := ⟨_, rfl⟩
      have hcv := fun W => Tryz.oneDigit (n % 10) (by omega) W c hc
      rw [show (48 + ((n % 10 : Nat) : Int)) = 48 + (n : Int) % 10 by omega] at hcv
      rw [← hc] at hf0
      have hf := hid_intro hf0
      clear hc hf0
      have hlen : ¬ 9223372036854775807 < (Lib.decDigits (n / 10)).length + 1 := by have := decDigits_len (n / 10) (by omega); omega
      generalize Lib.decDigits n = r at *
      generalize Lib.decDigits (n / 10) = r' at *
      go_enter Tryz.func151, Tryz.ntmps151
      go_wp2_with (go_at_call 151; refine (hI _).mono ?_; rintro e w' ⟨rfl, hb⟩)
      go_ret
      exact ⟨by rw [hid_elim hf]; exact ret_str (ByteArray.ext (by simp)), hb.alloc hb.size _⟩

/-- a token or a lease, in the document's answer. -/
structure ThingD where
  token : Bool
  n : Nat
  of_ : Int
  pth : List UInt8
  at_ : Int
  last : Int
  doomed : Bool
  tries : Int
def ThingD.cells (t : ThingD) : Array Value := #[.bool t.token, .int .i64 t.n, .int .i64 t.of_, .string ⟨t.pth.toArray⟩, .int .u64 t.at_, .int .u64 t.last, .bool t.doomed, .int .i64 t.tries]
def ThingD.id (t : ThingD) : List UInt8 := (if t.token then 116 else 108) :: Lib.decDigits t.n
def ThingD.state (tm : Int) (t : ThingD) : Int := if t.doomed || (!t.token && decide (t.at_ ≤ tm)) then 2 else 1

set_option maxRecDepth 100000 in
set_option maxHeartbeats 2000000 in
theorem Tryz.rId (t : ThingD) (hn : t.n < 9223372036854775808) (w : World) :
    Calls Tryz.prog 105 #[.agg t.cells] w fun e w' => e = .returned (.string ⟨t.id.toArray⟩) ∧ Below w.heap.size w w' := by
  obtain ⟨tk, n, o, p, a, l, dm, tr⟩ := t
  simp only [ThingD.cells, ThingD.id] at hn ⊢
  have hD := fun W => Tryz.rDigits n hn W
  have hlen : ¬ 9223372036854775807 < 1 + (Lib.decDigits n).length := by have := decDigits_len n (by omega); omega
  have hlen' : ¬ 9223372036854775807 < (Lib.decDigits n).length + 1 := by omega
  generalize Lib.decDigits n = r at *
  have bX := fun (V : World) (hb : Below (w.alloc (.cells #[.bool tk, .int .i64 n, .int .i64 o, .string ⟨p.toArray⟩, .int .u64 a, .int .u64 l, .bool dm, .int .i64 tr] 105)).heap.size (w.alloc (.cells #[.bool tk, .int .i64 n, .int .i64 o, .string ⟨p.toArray⟩, .int .u64 a, .int .u64 l, .bool dm, .int .i64 tr] 105)) V) => cell_later hb ((BoxN.new w 105 #[.bool tk, .int .i64 n, .int .i64 o, .string ⟨p.toArray⟩, .int .u64 a, .int .u64 l, .bool dm, .int .i64 tr]).cell 0 (v := .bool tk) rfl)
  have hB0 : Below w.heap.size w (w.alloc (.cells #[.bool tk, .int .i64 n, .int .i64 o, .string ⟨p.toArray⟩, .int .u64 a, .int .u64 l, .bool dm, .int .i64 tr] 105)) := (Below.refl _ w).alloc (Nat.le_refl _) _
  cases tk with
  | true =>
    go_enter Tryz.func105, Tryz.ntmps105
    go_wp2_with (go_at_call 151; refine (hD _).mono ?_; rintro e w' ⟨rfl, hb⟩; have c0 := bX w' hb)
    go_ret
    exact ⟨ret_str (bytes_cons 116 r), hB0.trans (hb.mono (by simp))⟩
  | false =>
    go_enter Tryz.func105, Tryz.ntmps105
    go_wp2_with (go_at_call 151; refine (hD _).mono ?_; rintro e w' ⟨rfl, hb⟩; have c0 := bX w' hb)
    go_ret
    exact ⟨ret_str (bytes_cons 108 r), hB0.trans (hb.mono (by simp))⟩

set_option maxRecDepth 100000 in
set_option maxHeartbeats 2000000 in
theorem Tryz.rState (t : ThingD) (vb : Nat) (tm : Int) (w : World) (h1 : w.cell? ⟨vb, 1, none⟩ = some (.int .u64 tm)) :
    Calls Tryz.prog 150 #[.pointer (some ⟨vb, 0, none⟩), .agg t.cells] w fun e w' => e = .returned (.int .i64 (t.state tm)) ∧ Below w.heap.size w w' := by
  obtain ⟨tk, n, o, p, a, l, dm, tr⟩ := t
  have hr : Hid (ThingD.state tm ⟨tk, n, o, p, a, l, dm, tr⟩ = if dm || (!tk && decide (a ≤ tm)) then 2 else 1) := hid_intro rfl
  generalize ThingD.state tm ⟨tk, n, o, p, a, l, dm, tr⟩ = r at *
  simp only [ThingD.cells]
  have hB0 : Below w.heap.size w (w.alloc (.cells #[.bool tk, .int .i64 n, .int .i64 o, .string ⟨p.toArray⟩, .int .u64 a, .int .u64 l, .bool dm, .int .i64 tr] 105)) := (Below.refl _ w).alloc (Nat.le_refl _) _
  have h1' := cell_later hB0 h1
  cases dm with
  | true =>
    go_enter Tryz.func150, Tryz.ntmps150
    go_wp2_with fail
    go_quiet (fail)
    go_wp2
    go_ret
    exact ⟨by rw [hid_elim hr]; rfl, below_drewN hB0 _⟩
  | false =>
    cases tk with
    | true =>
      go_enter Tryz.func150, Tryz.ntmps150
      go_wp2_with fail
      go_quiet (fail)
      go_wp2
      go_ret
      exact ⟨by rw [hid_elim hr]; rfl, below_drewN hB0 _⟩
    | false =>
      by_cases h : a ≤ tm
      · have hr' : Hid (r = 2) := hid_intro (by rw [hid_elim hr]; simp [h])
        clear hr
        go_enter Tryz.func150, Tryz.ntmps150
        go_wp2_with fail
        go_quiet (fail)
        go_wp2
        go_ret
        exact ⟨by rw [hid_elim hr']; rfl, below_drewN hB0 _⟩
      · have hr' : Hid (r = 1) := hid_intro (by rw [hid_elim hr]; simp [h])
        clear hr
        go_enter Tryz.func150, Tryz.ntmps150
        go_wp2_with fail
        go_quiet (fail)
        go_wp2
        go_ret
        exact ⟨by rw [hid_elim hr']; rfl, below_drewN hB0 _⟩
end Go.Proofs
