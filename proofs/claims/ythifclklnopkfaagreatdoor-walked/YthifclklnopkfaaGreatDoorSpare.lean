import Derived.Test.YthifclklnopkfaaGreatDoorPlain
import Derived.Maps.OwnSet
/-
  All blocks but some are as they were.
-/
namespace Go.Proofs
open Go.RowKit Go.Sort

/-- all blocks but these are as they were. -/
structure Spares (bs : List Nat) (W W' : World) : Prop where
  os : W'.os = W.os
  tape : W'.tape = W.tape
  output : W'.output = W.output
  size : W.heap.size ≤ W'.heap.size
  block : ∀ k, k < W.heap.size → k ∉ bs → W'.heap[k]? = W.heap[k]?
section
variable {W W' W'' : World} {bs : List Nat}
theorem Spares.of_below (h : Below W.heap.size W W') : Spares bs W W' := ⟨h.os, h.tape, h.output, h.size, fun k hk _ => h.block k hk⟩
theorem Spares.of_grown {b : Nat} (h : W.grownBy W' (some b)) (hb : b ∈ bs) : Spares bs W W' := ⟨h.os, h.tape, h.output, h.size, fun k hk hn => h.block k hk (fun e => hn (by injection e with e; rw [e]; exact hb))⟩
theorem Spares.trans (h : Spares bs W W') (h' : Spares bs W' W'') : Spares bs W W'' := ⟨h'.os.trans h.os, h'.tape.trans h.tape, h'.output.trans h.output, Nat.le_trans h.size h'.size, fun k hk hn => (h'.block k (Nat.lt_of_lt_of_le hk h.size) hn).trans (h.block k hk hn)⟩
theorem Spares.mono {bs' : List Nat} (h : Spares bs W W') (hs : ∀ b ∈ bs, b ∈ bs') : Spares bs' W W' := ⟨h.os, h.tape, h.output, h.size, fun k hk hn => h.block k hk (fun e => hn (hs k e))⟩
theorem Spares.box {B : Nat} {t : TypeId} {cs : Array Value} (h : Spares bs W W') (hB : BoxN W B t cs) (hn : B ∉ bs) : BoxN W' B t cs := (h.block B hB.lt hn).trans hB
theorem Spares.map {H : Type} {P : Program} {k : TypeId} {R : Value → Option (DataW H × List MemPlace)} {D : DataW H} {b n : Nat} (h : Spares bs W W') (hm : W.ownsMap P k R b n D) (hn : b ∉ bs) : W'.ownsMap P k R b n D := by
  have hl := hm.lt
  obtain ⟨es, clock, hb, F, hs, hD⟩ := hm
  exact ⟨es, clock, (h.block b hl hn).trans hb, F, hs, hD⟩
theorem Spares.row {base size n g cap : Nat} {e : TypeId} {xs : List Value} (h : Spares bs W W') (hr : W.ownsRow base e size (.slice (some ⟨g, 0, none⟩) n cap) n xs) (hn : g ∉ bs) : W'.ownsRow base e size (.slice (some ⟨g, 0, none⟩) n cap) n xs := by
  obtain ⟨h1, ⟨e1, -⟩ | ⟨g', cap', cur, e1, e2, e3, e4⟩⟩ := hr
  · cases e1
  · cases e1
    exact ⟨h1, .inr ⟨g, cap, cur, rfl, e2, Spares.box (t := e) (cs := cur) h e3 hn, e4⟩⟩
theorem Spares.below {B : Nat} (h : Spares bs W W') (hB : B ≤ W.heap.size) (hn : ∀ b ∈ bs, B ≤ b) : Below B W W' := ⟨h.os, h.tape, h.output, h.size, fun k hk => h.block k (by omega) (fun e => by have := hn k e; omega)⟩
end
theorem Spares.set {bs : List Nat} {W W' : World} (h : Spares bs W W') {b : Nat} (hb : b ∈ bs) (i : Nat) (v : Value) : Spares bs W (W'.setCell ⟨b, i, none⟩ v) :=
  ⟨h.os, h.tape, h.output, by simpa using h.size, fun k hk hn => by rw [set_other _ _ _ _ _ (fun e => hn (by rw [e]; exact hb))]; exact h.block k hk hn⟩
theorem Spares.alloc {bs : List Nat} {W W' : World} (h : Spares bs W W') (o : Obj) : Spares bs W (W'.alloc o) := h.trans (Spares.of_below ((Below.refl _ _).alloc (Nat.le_refl _) o))
theorem Spares.drew {bs : List Nat} {W W' : World} (h : Spares bs W W') : Spares bs W W'.drew := h.trans (Spares.of_below ((Below.refl _ _).drew))

end Go.Proofs
