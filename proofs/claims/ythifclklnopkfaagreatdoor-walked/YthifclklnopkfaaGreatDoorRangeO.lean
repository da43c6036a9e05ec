import Derived.Test.YthifclklnopkfaaGreatDoorBox
import Derived.RangeFuncNested
import Derived.RangeFuncLeaves
/-
  A loop over an iterator that itself ranges over iterators: what the caller holds must abide the turns of whatever new blocks are no cells (the inner loops' records). No dump.
-/
namespace Go.Proofs
open Go.RowKit Go.Sort

/-- The iterator's word to a caller whose invariant speaks of cells alone, from the heap's size on. -/
def SeqO {α : Type} (n : Nat) (P : Program) (g : Nat) (lb : Array Value) (encs : α → Array Value) (E : World → Prop) (Kp : World → World → Prop) (S Sp : List α → Prop) (N : Nat) (w : World) : Prop :=
  ∀ (l : Nat) (J Jx : List α → World → Prop) (W : World), Below w.heap.size w W → OwnFrom W.heap.size J → OwnFrom W.heap.size Jx → (∀ s V, J s V → E V) →
    (∀ pre x W1, J pre W1 → pre.length < N → YieldAt Fence.wide (n - 1) P l (encs x) W1 fun e W' =>
      (e = .returned (.bool true) ∧ J (pre ++ [x]) W' ∧ Kp W1 W' ∧ KeepsFrom W.heap.size W1 W') ∨ (e = .returned (.bool false) ∧ Jx (pre ++ [x]) W' ∧ KeepsFrom W.heap.size W1 W')) →
    J [] W →
    CallsIn Fence.wide n P g (#[.func (.yield l) #[] #[]] ++ lb) W fun e W' => (∃ v, e = .returned v) ∧ ((∃ xs, S xs ∧ J xs W') ∨ (∃ pre, Sp pre ∧ Jx pre W'))

/-- the loop's two blocks of book-keeping. -/
structure Booked (W : World) (D : Nat) (r : Loop) : Prop where
  loop : W.heap[D + 1]? = some (.loop r)
  defd : W.heap[D]? = some (.deferred (some []))

theorem Booked.own {W W' : World} {D : Nat} {r : Loop} {row : Option Nat} (h : Booked W D r) (hg : W.grownBy W' row) (hr : ∀ k, row = some k → D + 2 ≤ k) : Booked W' D r :=
  ⟨(hg.block _ (Array.getElem?_eq_some_iff.1 h.loop).1 (fun e => by have := hr _ e.symm; omega)).trans h.loop,
   (hg.block _ (Array.getElem?_eq_some_iff.1 h.defd).1 (fun e => by have := hr _ e.symm; omega)).trans h.defd⟩
theorem Booked.put {W : World} {D : Nat} {r : Loop} (h : Booked W D r) (r' : Loop) : Booked (W.putObj (D + 1) (.loop r')) D r' :=
  ⟨World.putObj_heap_same (Array.getElem?_eq_some_iff.1 h.loop).1, (World.putObj_heap_other (by omega)).trans h.defd⟩
theorem keepsFrom_up {B B' : Nat} {W W' : World} (h : KeepsFrom B W W') (hB : B ≤ B') : KeepsFrom B' W W' := ⟨h.size, fun k o hk h1 h2 => h.same k o (Nat.le_trans hB hk) h1 h2⟩
theorem keepsFrom_put {B j : Nat} (W : World) (o : Obj) (hj : j < B) : KeepsFrom B W (W.putObj j o) := KeepsFrom.of_grownBy (grownBy_putObj' W j o) (fun k e => by cases e; exact hj)
theorem Booked.from {W W' : World} {D : Nat} {r : Loop} (h : Booked W D r) (hk : KeepsFrom D W W') : Booked W' D r :=
  ⟨hk.same _ _ (by omega) h.loop rfl, hk.same _ _ (Nat.le_refl _) h.defd rfl⟩

section
variable {n : Nat} {P : Program}

theorem wpIn_rangeO {α : Type} {g : Operand} {ps : Array Tmp} {assign body : Code} {Q : Exit → Act → World → Prop} {a : Act} {w : World}
    (h1 : 1 ≤ n) {gf : Nat} {lb : Array Value} (hg : a.eval g = .func (.func gf) #[] lb) (eg : ∀ args w, (callFunc gf args).run P w = .ok (.enter gf args) w)
    {encs : α → Array Value} {E : World → Prop} {Kp : World → World → Prop} {S Sp : List α → Prop} {N : Nat} {w0 : World} (hseq : SeqO (n - 1) P gf lb encs E Kp S Sp N w0)
    (hKt : ∀ {A B C : World}, Kp A B → Kp B C → Kp A C) (hKb : ∀ (W : World) (l : Nat) (o o' : Obj), w.heap.size ≤ l → W.heap[l]? = some o → o.isCells = false → o.isWalk = false → Kp W (W.putObj l o'))
    (hb0 : Below w0.heap.size w0 w) (hps : ∀ x, (encs x).size = ps.size)
    (I : List α → World → Prop) (Ix : Code → List α → World → Prop) (hI : OwnFrom w.heap.size I) (hIx : ∀ c, OwnFrom w.heap.size (Ix c)) (hIE : ∀ s V, I s V → E V) (h0 : I [] w)
    (Ax : α → Act → World → Prop) (hAx : ∀ x a', OwnFrom w.heap.size (fun (_ : Unit) W => Ax x a' W))
    (hassign : ∀ (l : Nat) (pre : List α) (x : α) (W : World) (K : Act → World → Prop), I pre W → (∀ a' W', KeepsFrom w.heap.size W W' → Kp W W' → I pre W' → Ax x a' W' → K a' W') →
      assign.wpIn (Fence.wide.inRound l) (n - 1 - 1) P (Exit.then K (fun _ _ _ => False)) { tmps := (ps.zip (encs x)).foldl (fun t (p, v) => t.setIfInBounds p v) a.tmps, defers := [] } W)
    (hbody : ∀ (l : Nat) (pre : List α) (x : α) (a' : Act) (W : World), w.heap.size ≤ l → I pre W → Ax x a' W → pre.length < N → body.wpIn (Fence.wide.inRound l) (n - 1 - 1) P (ownPostG w.heap.size Kp I Ix (pre ++ [x]) W) a' W)
    (hdone : ∀ (D : Nat) (xs : List α) (W : World), w.heap.size ≤ D → S xs → I xs W → W.heap[D]? = some (.deferred (some [])) → Q .normal { a with defers := { target := .collected D, args := #[] } :: a.defers } W)
    (hstop : ∀ (D : Nat) (c : Code) (pre : List α) (W : World), w.heap.size ≤ D → Sp pre → Ix c pre W → W.heap[D]? = some (.deferred (some [])) → c.wpIn Fence.wide n P Q { a with defers := { target := .collected D, args := #[] } :: a.defers } W) :
    (Code.rangeFunc g ps assign body).wpIn Fence.wide n P Q a w := by
  refine wpIn_rangeFunc ?_
  intro fn hfn
  -- the record as it stands at the entering
  let rc : LoopState → Option Code → Loop := fun st pe => { state := st, pending := pe, fn, tmps := a.tmps, params := ps, assign, body, defers := w.heap.size }
  obtain ⟨W1, hW1⟩ : ∃ W1, (w.alloc (.deferred (some []))).alloc (.loop (rc .ready none)) = W1 := ⟨_, rfl⟩
  have hz1 : W1.heap.size = w.heap.size + 2 := by rw [← hW1]; simp
  have hk1 : Booked W1 w.heap.size (rc .ready none) := by
    rw [← hW1]
    refine ⟨?_, (Below.heap_alloc _ _ _ (by simp)).trans (World.alloc_heap_new w _)⟩
    have := World.alloc_heap_new (w.alloc (.deferred (some []))) (.loop (rc .ready none))
    rwa [World.size_alloc] at this
  have hi1 : I [] W1 := by rw [← hW1]; exact hI.alloc _ (hI.alloc _ h0)
  have hb1 : Below w0.heap.size w0 W1 := by
    rw [← hW1]; exact hb0.trans ((((Below.refl _ w).alloc (Nat.le_refl _) _).alloc (by simp) _).mono hb0.size)
  have widen : ∀ {A : World} {row : Option Nat}, (∀ r, row = some r → W1.heap.size ≤ r ∧ ∃ o : Obj, A.heap[r]? = some o ∧ o.isCells = false) → ∀ r, row = some r → w.heap.size ≤ r ∧ ∃ o : Obj, A.heap[r]? = some o ∧ o.isCells = false :=
    fun h r e => ⟨by have := (h r e).1; omega, (h r e).2⟩
  refine ⟨w.heap.size + 1, [{ target := .collected w.heap.size, args := #[] }], W1, { target := .fn (.func gf) lb, args := #[.func (.yield (w.heap.size + 1)) #[] #[]] }, W1, gf,
    #[.func (.yield (w.heap.size + 1)) #[] #[]] ++ lb, W1, ?_, ?_, fun _ _ => trivial, ?_, fun _ => h1, ?_⟩
  · rw [← hW1]; exact run_enterLoop_outer _ _ _ _ _
  · simp only [resolve, hg]; simp [go_sem]
  · simp [invoke, go_sem, eg]
  refine (hseq (w.heap.size + 1) (fun pre W => I pre W ∧ Booked W w.heap.size (rc .ready none)) (fun pre W => ∃ c, Ix c pre W ∧ Booked W w.heap.size (rc .done (some c))) W1 hb1
    (fun s A B row hs hg' hr => ⟨hI s A B row hs.1 hg' (widen hr), hs.2.own hg' (fun k e => by have := (hr k e).1; omega)⟩)
    (fun s A B row ⟨c, hc, hk⟩ hg' hr => ⟨c, hIx c s A B row hc hg' (widen hr), hk.own hg' (fun k e => by have := (hr k e).1; omega)⟩) (fun s V hs => hIE s V hs.1) ?_ ⟨hi1, hk1⟩).mono ?_
  · rintro pre x W ⟨hi, hk⟩ hlen
    have hy := run_yield (P := P) (args := encs x) hk.loop (hps x)
    refine ⟨fn, _, assign, body, hy, roundIn_of_wpIn hfn (hassign _ pre x W _ hi ?_)⟩
    clear hy
    intro a' V kf kp hi' hax
    have hkV := hk.from kf
    have hltV := (Array.getElem?_eq_some_iff.1 hkV.loop).1
    refine ⟨_, run_beginRound hkV.loop rfl, ?_⟩
    have hkB := hkV.put { rc .ready none with state := .busy }
    have kpB : Kp V (V.putObj (w.heap.size + 1) (.loop { rc .ready none with state := .busy })) := hKb _ _ _ _ (by omega) hkV.loop rfl rfl
    refine wpIn_mono (hbody _ pre x a' _ (by omega) (hI.putObj _ hi' (by omega) hkV.loop rfl) ((hAx x a').putObj (s := ()) _ hax (by omega) hkV.loop rfl) hlen) ?_
    rintro e a3 W3 hp
    have kfAll : ∀ {W3 : World} (_ : KeepsFrom w.heap.size (V.putObj (w.heap.size + 1) (.loop { rc .ready none with state := .busy })) W3) (o : Obj), KeepsFrom W1.heap.size W (W3.putObj (w.heap.size + 1) o) := fun k3 o =>
      (((keepsFrom_up kf (by omega)).trans (keepsFrom_put V _ (by omega))).trans (keepsFrom_up k3 (by omega))).trans (keepsFrom_put _ o (by omega))
    have leave : ∀ c, KeepsFrom w.heap.size (V.putObj (w.heap.size + 1) (.loop { rc .ready none with state := .busy })) W3 → Ix c (pre ++ [x]) W3 →
        ∃ v W', (Instr.endRound (w.heap.size + 1) (some c)).run P W3 = .ok v W' ∧ v = .bool false ∧ (∃ c', Ix c' (pre ++ [x]) W' ∧ Booked W' w.heap.size (rc .done (some c'))) ∧ KeepsFrom W1.heap.size W W' := fun c k3 i3 => by
      have hk3 := hkB.from k3
      exact ⟨_, _, run_endRound (P := P) (some c) hk3.loop, rfl, ⟨c, (hIx c).putObj _ i3 (by omega) hk3.loop rfl, hk3.put _⟩, kfAll k3 _⟩
    cases e with
    | normal =>
      obtain ⟨k3, kp3, i3⟩ := hp
      have hk3 := hkB.from k3
      exact ⟨_, _, run_endRound (P := P) none hk3.loop, .inl ⟨rfl, ⟨hI.putObj _ i3 (by omega) hk3.loop rfl, hk3.put _⟩, hKt kp (hKt (hKt kpB kp3) (hKb _ _ _ _ (by omega) hk3.loop rfl rfl)), kfAll k3 _⟩⟩
    | ret =>
      obtain ⟨v, W', hrun, rfl, rest⟩ := leave .ret hp.1 hp.2
      exact ⟨_, _, hrun, .inr ⟨rfl, rest⟩⟩
    | exit id =>
      obtain ⟨v, W', hrun, rfl, rest⟩ := leave (.exit id) hp.1 hp.2
      exact ⟨_, _, hrun, .inr ⟨rfl, rest⟩⟩
    | goto t =>
      obtain ⟨v, W', hrun, rfl, rest⟩ := leave (.goto t) hp.1 hp.2
      exact ⟨_, _, hrun, .inr ⟨rfl, rest⟩⟩
    | panic ch => exact hp.elim
    | outgrown => exact hp.elim
  · rintro e W2 ⟨⟨v, rfl⟩, (⟨xs, hS, hi, hk⟩ | ⟨pre, hSp, c, hi, hk⟩)⟩
    · exact ⟨none, _, run_endLoop (P := P) hk.loop (by simp [rc]), hdone _ xs _ (Nat.le_refl _) hS (hI.putObj _ hi (by omega) hk.loop rfl) ((World.putObj_heap_other (by omega)).trans hk.defd)⟩
    · exact ⟨some c, _, run_endLoop (P := P) hk.loop (by simp [rc]), hstop _ c pre _ (Nat.le_refl _) hSp ((hIx c).putObj _ hi (by omega) hk.loop rfl) ((World.putObj_heap_other (by omega)).trans hk.defd)⟩
end
end Go.Proofs
