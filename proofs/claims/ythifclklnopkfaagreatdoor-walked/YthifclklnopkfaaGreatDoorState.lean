import Derived.Test.YthifclklnopkfaaGreatDoorWalk
import Derived.Test.YthifclklnopkfaaGreatDoorLInfo
/-
  What a vault holds in memory, and what it tells.
-/
namespace Go.Proofs
open Go.RowKit Go.Sort Go.Lib Go.Shelf Go.Maps

/-- a token, a lease, that is not gone: its number, the token above, .., the block that holds it. -/
structure TokE where
  n : Nat
  ak : Int
  au : Nat
  at_ : Int
  tr : Int
  pd : Bool
  blk : Nat
structure LeaE where
  n : Nat
  ak : Int
  au : Nat
  at_ : Int
  tr : Int
  pd : Bool
  pth : List UInt8
  last : Int
  blk : Nat
/-- what is told of one. -/
structure InfoD where
  id : List UInt8
  st : Int
  at_ : Int
  tr : Int
  tok : List UInt8
  pth : List UInt8
def InfoD.cells (x : InfoD) : Array Value := infoCells x.id x.st x.at_ x.tr x.tok x.pth
def TokE.key (t : TokE) : (Int × Int) × Nat := ((1, (t.n : Int)), t.blk)
def LeaE.key (l : LeaE) : (Int × Int) × Nat := ((2, (l.n : Int)), l.blk)
def TokE.info (t : TokE) : InfoD := ⟨nmStr 1 t.n, if !t.pd then 1 else 2, t.at_, t.tr, nmStr t.ak t.au, []⟩
def LeaE.info (tm : Int) (l : LeaE) : InfoD := ⟨nmStr 2 l.n, if (!l.pd && decide (tm < l.at_)) then 1 else 2, l.at_, l.tr, nmStr l.ak l.au, l.pth⟩
def TokE.cells (t : TokE) : Array Value := #[.int .i64 t.ak, .int .u64 t.au, .int .u64 t.at_, .int .i64 t.tr, .bool t.pd]
def LeaE.cells (l : LeaE) : Array Value := #[.int .i64 l.ak, .int .u64 l.au, .int .u64 l.at_, .int .i64 l.tr, .bool l.pd, .string ⟨l.pth.toArray⟩, .int .u64 l.last]
/-- what else a vault holds. -/
structure VX where
  rv : Value
  tk : Bool
  due : Value
def Tryz.vaultC (vx : VX) (tm : Int) (mt ml : Nat) (tn ln : Int) : Array Value := #[vx.rv, .int .u64 tm, .map (some mt), .map (some ml), .int .u64 tn, .int .u64 ln, .bool vx.tk, vx.due]
def u64lim : Nat := 18446744073709551616

/-- the two maps of a vault, and what they lead to. -/
structure Tryz.Held (W : World) (mt ml : Nat) (tks : List TokE) (lks : List LeaE) : Prop where
  mapT : ∃ n, n ≤ 1000 ∧ W.ownsMap Tryz.prog 97 ptrR mt n (mapD (tks.map TokE.key).reverse)
  mapL : ∃ n, n ≤ 1000 ∧ W.ownsMap Tryz.prog 97 ptrR ml n (mapD (lks.map LeaE.key).reverse)
  tok : ∀ t ∈ tks, BoxN W t.blk 133 t.cells
  lea : ∀ l ∈ lks, BoxN W l.blk 114 l.cells
/-- what is asked of the lists themselves. -/
structure ListsOk (tks : List TokE) (lks : List LeaE) : Prop where
  lenT : tks.length ≤ 500
  lenL : lks.length ≤ 500
  incT : tks.Pairwise (fun a b => a.n < b.n)
  incL : lks.Pairwise (fun a b => a.n < b.n)
  limT : ∀ t ∈ tks, t.n < u64lim ∧ t.au < u64lim
  limL : ∀ l ∈ lks, l.n < u64lim ∧ l.au < u64lim

theorem wfNm {k : Int} (hk : k = 1 ∨ k = 2) {n : Nat} (h : n < u64lim) : NmWf (k, (n : Int)) := by
  unfold u64lim at h
  refine ⟨?_, ?_⟩
  · rcases hk with rfl | rfl
    · show (Lit.int .i64 1).wf = true; decide
    · show (Lit.int .i64 2).wf = true; decide
  · show (Lit.int .u64 (n : Int)).wf = true
    simp [Lit.wf, IntKind.min, IntKind.max, IntKind.bits, IntKind.signed]
    omega

theorem keys_ok {l : List ((Int × Int) × Nat)} (k : Int) (hk : k = 1 ∨ k = 2) (hs : l.Pairwise (fun a b => a.1.2 < b.1.2)) (h1 : ∀ p ∈ l, p.1.1 = k ∧ ∃ n : Nat, p.1.2 = (n : Int) ∧ n < u64lim) :
    KsOk l.reverse ∧ SortedN (l.map (·.1)) := by
  have hp : (l.map (·.1)).Pairwise (fun x y => x.2 < y.2) := List.pairwise_map.2 hs
  refine ⟨⟨fun p hp' => ?_, ?_⟩, ?_⟩
  · obtain ⟨e1, n, e2, hn⟩ := h1 p (by simpa using hp')
    have := wfNm hk hn
    rw [← e1, ← e2] at this
    exact this
  · rw [List.map_reverse]
    exact List.pairwise_reverse.2 (hp.imp fun {a b} h e => by rw [e] at h; omega)
  · have h2 : ∀ x ∈ l.map (·.1), x.1 = k := fun x hx => by
      obtain ⟨p, hp', rfl⟩ := List.mem_map.1 hx
      exact (h1 p hp').1
    refine hp.imp_of_mem fun {a b} ha hb h => ?_
    rw [ltOf_cmpN, decide_eq_true_iff]
    exact Or.inr ⟨by rw [h2 a ha, h2 b hb], h⟩

theorem ListsOk.ksT {tks : List TokE} {lks : List LeaE} (h : ListsOk tks lks) : KsOk (tks.map TokE.key).reverse ∧ SortedN ((tks.map TokE.key).map (·.1)) :=
  keys_ok 1 (Or.inl rfl) (List.pairwise_map.2 (h.incT.imp fun {a b} hab => by simp [TokE.key]; omega)) (fun p hp => by
    obtain ⟨t, ht, rfl⟩ := List.mem_map.1 hp
    exact ⟨rfl, t.n, rfl, (h.limT t ht).1⟩)
theorem ListsOk.ksL {tks : List TokE} {lks : List LeaE} (h : ListsOk tks lks) : KsOk (lks.map LeaE.key).reverse ∧ SortedN ((lks.map LeaE.key).map (·.1)) :=
  keys_ok 2 (Or.inr rfl) (List.pairwise_map.2 (h.incL.imp fun {a b} hab => by simp [LeaE.key]; omega)) (fun p hp => by
    obtain ⟨t, ht, rfl⟩ := List.mem_map.1 hp
    exact ⟨rfl, t.n, rfl, (h.limL t ht).1⟩)

theorem Tryz.Held.keeps {bad : TypeId → Bool} {W W' : World} {mt ml : Nat} {tks : List TokE} {lks : List LeaE} (h : Tryz.Held W mt ml tks lks) (hk : KeepsT bad W W') (h1 : bad 133 = false) (h2 : bad 114 = false) : Tryz.Held W' mt ml tks lks := by
  obtain ⟨⟨n, hn, hm⟩, ⟨n', hn', hm'⟩, ht, hl⟩ := h
  exact ⟨⟨n, hn, hk.map hm⟩, ⟨n', hn', hk.map hm'⟩, fun t h => hk.box (ht t h) h1, fun l h => hk.box (hl l h) h2⟩
/-- it abides the turns of new blocks that are no cells. -/
theorem Tryz.Held.from {β : Type} (B mt ml : Nat) (tks : List TokE) (lks : List LeaE) (hmt : mt < B) (hml : ml < B) : OwnFrom B (fun (_ : β) W => Tryz.Held W mt ml tks lks) := fun _ W W' row h hg hr => by
  obtain ⟨⟨n, hn, hm⟩, ⟨n', hn', hm'⟩, ht, hl⟩ := h
  have nb : ∀ (b : Nat) (t : TypeId) (cs : Array Value), BoxN W b t cs → some b ≠ row := fun b t cs hb e => by
    obtain ⟨_, o, ho, hc⟩ := hr b e.symm
    rw [show W.heap[b]? = _ from hb] at ho; cases ho; cases hc
  exact ⟨⟨n, hn, hm.kept hg (fun e => by have := (hr _ e.symm).1; omega)⟩, ⟨n', hn', hm'.kept hg (fun e => by have := (hr _ e.symm).1; omega)⟩, fun t h => (ht t h).kept hg (nb _ _ _ (ht t h)), fun l h => (hl l h).kept hg (nb _ _ _ (hl l h))⟩
theorem Tryz.Held.lt {W : World} {mt ml : Nat} {tks : List TokE} {lks : List LeaE} (h : Tryz.Held W mt ml tks lks) : mt < W.heap.size ∧ ml < W.heap.size := by
  obtain ⟨⟨n, hn, hm⟩, ⟨n', hn', hm'⟩, _, _⟩ := h
  exact ⟨hm.lt, hm'.lt⟩
end Go.Proofs
