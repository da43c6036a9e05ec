import Derived.Test.YtjbekgjdempbiaaGreatDoorJStr
import Derived.Test.YtjbekgjdempbiaaGreatDoorJIsW
import Derived.Test.YtjbekgjdempbiaaGreatDoorJRounds
/-
  What the calls ask of packages' variables besides.
-/
namespace Go.Proofs
open Go.RowKit Go.Sort Go.Lib Go.Shelf

/-- what errors.As and strings.Index ask of a package's variable. -/
def Tryz.ErrT (W : World) : Prop := W.cell? ⟨0, 0, none⟩ = some (.iface 243 (.agg #[.pointer (some ⟨9, 81, none⟩)])) ∧ ∃ m, W.cell? ⟨6, 0, none⟩ = some (.int .i64 m)
theorem Tryz.ErrT.below {W W' : World} (h : Tryz.ErrT W) (hb : Below 9 W W') : Tryz.ErrT W' := by
  obtain ⟨h1, m, h2⟩ := h
  exact ⟨(hb.cell (p := ⟨0, 0, none⟩) (by show 0 < 9; decide)).trans h1, m, (hb.cell (p := ⟨6, 0, none⟩) (by show 6 < 9; decide)).trans h2⟩
end Go.Proofs

/-
  plain.Host: a vault, its journal, its disk, its revoker, and what is kept true of all; what other blocks do leaves them.
-/
namespace Go.Proofs
open Go.RowKit Go.Sort Go.Lib Go.Shelf Go.Maps

/-- Told of no error, of one. -/
theorem Tryz.toldK (k : Int) (hk : k = 0 ∨ ErrK k) (W : World) (h : Tryz.ErrT W) : Calls Tryz.prog 43 #[Tryz.errV k] W fun e w' => e = .returned (.int .i64 k) ∧ Below W.heap.size W w' := by
  rcases hk with rfl | hk
  · exact Tryz.told_nil W
  · have hz : k ≠ 0 := by rcases hk with rfl | rfl | rfl | rfl | rfl | rfl | rfl | rfl <;> decide
    rw [Tryz.errV_nz hz]
    exact Tryz.told k hk W h.1

theorem Spares.row' {bs : List Nat} {W W' : World} {base size n : Nat} {v : Value} {e : TypeId} {xs : List Value} (h : Spares bs W W') (hr : W.ownsRow base e size v n xs) (hn : ∀ g, v.ownBlock = some g → g ∉ bs) : W'.ownsRow base e size v n xs := by
  obtain ⟨h1, h2 | ⟨g, cap, cur, e1, e2, e3, e4⟩⟩ := hr
  · exact ⟨h1, .inl h2⟩
  · subst e1
    exact ⟨h1, .inr ⟨g, cap, cur, rfl, e2, Spares.box (t := e) (cs := cur) h e3 (hn g rfl), e4⟩⟩
theorem row_box {W : World} {base size n : Nat} {v : Value} {e : TypeId} {xs : List Value} (hr : W.ownsRow base e size v n xs) {g : Nat} (hg : v.ownBlock = some g) : base ≤ g ∧ ∃ cur, BoxN W g e cur := by
  obtain ⟨h1, ⟨e1, -⟩ | ⟨g', cap, cur, e1, e2, e3, e4⟩⟩ := hr
  · subst e1; cases hg
  · subst e1
    obtain rfl : g' = g := by simpa [Value.ownBlock] using hg
    exact ⟨e2, cur, e3⟩

/-- blocks of the statements' own. -/
def Tryz.foreign (t : TypeId) : Bool := t == 108 || t == 105 || t == 69 || t == 72
def Tryz.Foreign (W : World) (b : Nat) : Prop := 9 ≤ b ∧ ∃ t cs, BoxN W b t cs ∧ Tryz.foreign t = true
theorem Tryz.Foreign.ne {W : World} {b b' : Nat} {t : TypeId} {cs : Array Value} (h : Tryz.Foreign W b) (hB : BoxN W b' t cs) (ht : Tryz.foreign t = false) : b' ≠ b := by
  obtain ⟨-, t', cs', h1, h2⟩ := h
  exact hB.ne h1 (fun e => by rw [e, h2] at ht; cases ht)
theorem Tryz.Foreign.ne_map {H : Type} {P : Program} {k : TypeId} {R : Value → Option (DataW H × List MemPlace)} {D : DataW H} {W : World} {b b' n : Nat} (h : Tryz.Foreign W b) (hm : W.ownsMap P k R b' n D) : b' ≠ b := by
  obtain ⟨-, t', cs', h1, h2⟩ := h
  exact BoxN.ne_map' h1 hm

/-- the state of a host. -/
structure SS where
  k : Blk
  vx : VX
  tm : Int
  s : VSt
  c : List UInt8
structure Tryz.Sys (B : Nat) (W : World) (hb rb : Nat) (σ : SS) : Prop where
  host : BoxN W hb 78 #[.pointer (some ⟨σ.k.db, 0, none⟩), .pointer (some ⟨rb, 0, none⟩), .pointer (some ⟨σ.k.vb, 0, none⟩)]
  wh : Tryz.Whole W σ.k σ.vx σ.tm σ.s σ.c (-1) (-1)
  err : Tryz.ErrT W
  b9 : 9 ≤ B
  hlow : B ≤ hb
  low : ∀ b ∈ σ.k.turns, B ≤ b
  rvb : ∃ a b, BoxN W rb 88 #[a, b]
  rlow : B ≤ rb
  vrv : σ.vx.rv = .iface 75 (.pointer (some ⟨rb, 0, none⟩))
  vtk : σ.vx.tk = false
  due : W.ownsRow B 144 3 σ.vx.due 0 []

/-- what other blocks do leaves a vault, its journal and its disk. -/
theorem Tryz.Whole.spared {W W' : World} {k : Blk} {vx : VX} {tm : Int} {s : VSt} {c : List UInt8} {l f : Int} {bs : List Nat} (h : Tryz.Whole W k vx tm s c l f) (hS : Spares bs W W') (h1 : ∀ b ∈ k.turns, b ∉ bs) (h2 : k.jb ∉ bs) (h3 : ∀ b x, BoxN W b 9 #[x] → b ∉ bs) (h6 : ∀ b ∈ bs, 6 ≤ b) : Tryz.Whole W' k vx tm s c l f := by
  obtain ⟨fd, fn, hd, e1, e2⟩ := h.d
  exact { h with v := h.v.spared hS (h1 _ (by simp [Blk.turns])) (h1 _ (by simp [Blk.turns])) (h1 _ (by simp [Blk.turns])) h6, j := hS.box h.j h2, d := ⟨fd, fn, hd.spared hS (h1 _ (by simp [Blk.turns])) (h1 _ (by simp [Blk.turns])) (h1 _ (by simp [Blk.turns])) (fun q hq => h3 _ _ (hd.sd q hq)) (fun q hq => h3 _ _ (hd.sn q hq)), e1, e2⟩ }
/-- the disk's numbers. -/
theorem Tryz.Whole.setLF {W W' : World} {k : Blk} {vx : VX} {tm : Int} {s : VSt} {c : List UInt8} {l f l' f' : Int} (h : Tryz.Whole W k vx tm s c l f) (hS : Spares [k.db] W W') (bD : BoxN W' k.db 100 #[.map (some k.md), .map (some k.mn), .slice none 0 0, .int .i64 l', .int .i64 f', .bool false]) : Tryz.Whole W' k vx tm s c l' f' := by
  obtain ⟨fd, fn, hd, e1, e2⟩ := h.d
  obtain ⟨⟨a1, a2, a3⟩, a4, a5, a6, a7⟩ := h.nes
  simp only [List.mem_cons, List.not_mem_nil, or_false, not_or, Blk.turns] at a1 a2 a3 a4
  exact { h with v := h.v.spared hS (by simpa using a1.1) (by simpa using a2.1) (by simpa using a3.1) (fun b hb => by rw [List.mem_singleton.1 hb]; have := h.d9; omega), j := hS.box h.j (by simpa using a4.2.2.2.1), d := ⟨fd, fn, hd.cells hS bD, e1, e2⟩ }

section
variable {B hb rb : Nat} {σ : SS} {W W' : World}
theorem Tryz.Sys.nine (h : Tryz.Sys B W hb rb σ) : 9 ≤ W.heap.size := h.wh.v.nine
/-- what is no block of the host's. -/
theorem Tryz.Sys.other (h : Tryz.Sys B W hb rb σ) {bs : List Nat} (hs : Spares bs W W') (hq : ∀ b ∈ bs, Tryz.Foreign W b) : Tryz.Sys B W' hb rb σ := by
  have hbx : ∀ {b : Nat} {t : TypeId} {cs : Array Value}, BoxN W b t cs → Tryz.foreign t = false → b ∉ bs := fun hB ht hm => (hq _ hm).ne hB ht rfl
  obtain ⟨fd, fn, hd, e1, e2⟩ := h.wh.d
  obtain ⟨n1, -, m1⟩ := h.wh.v.va.held.mapT
  obtain ⟨n2, -, m2⟩ := h.wh.v.va.held.mapL
  obtain ⟨n3, -, m3⟩ := hd.dm
  obtain ⟨n4, -, m4⟩ := hd.nm
  obtain ⟨ra, rc, hr⟩ := h.rvb
  have g9 : ∀ b ∈ bs, 9 ≤ b := fun b hm => (hq b hm).1
  have hB9 : Below 9 W W' := hs.below h.nine g9
  refine { h with host := hs.box h.host (hbx h.host (by decide)), wh := h.wh.spared hs (fun b hb => ?_) (hbx h.wh.j (by decide)) (fun b x hx => hbx hx (by decide)) (fun b hb => by have := g9 b hb; omega), err := h.err.below hB9, rvb := ⟨ra, rc, hs.box hr (hbx hr (by decide))⟩, due := hs.row' h.due (fun g hg => ?_) }
  · simp only [Blk.turns, List.mem_cons, List.not_mem_nil, or_false] at hb
    rcases hb with rfl | rfl | rfl | rfl | rfl | rfl
    · exact hbx h.wh.v.va.v (by decide)
    · exact fun hm => (hq _ hm).ne_map m1 rfl
    · exact fun hm => (hq _ hm).ne_map m2 rfl
    · exact hbx hd.box (by decide)
    · exact fun hm => (hq _ hm).ne_map m3 rfl
    · exact fun hm => (hq _ hm).ne_map m4 rfl
  · obtain ⟨-, cur, hc⟩ := row_box h.due hg
    exact hbx hc (by decide)
theorem Tryz.Sys.below (h : Tryz.Sys B W hb rb σ) (hB : Below W.heap.size W W') : Tryz.Sys B W' hb rb σ := h.other (bs := []) (Spares.of_below hB) (by simp)
/-- the blocks that a call turns are none of the statements'. -/
theorem Tryz.Sys.turns_own (h : Tryz.Sys B W hb rb σ) : ∀ b ∈ σ.k.turns, ¬ Tryz.Foreign W b := fun b hb hF => by
  obtain ⟨fd, fn, hd, e1, e2⟩ := h.wh.d
  obtain ⟨n1, -, m1⟩ := h.wh.v.va.held.mapT
  obtain ⟨n2, -, m2⟩ := h.wh.v.va.held.mapL
  obtain ⟨n3, -, m3⟩ := hd.dm
  obtain ⟨n4, -, m4⟩ := hd.nm
  simp only [Blk.turns, List.mem_cons, List.not_mem_nil, or_false] at hb
  rcases hb with rfl | rfl | rfl | rfl | rfl | rfl
  · exact hF.ne h.wh.v.va.v (by decide) rfl
  · exact hF.ne_map m1 rfl
  · exact hF.ne_map m2 rfl
  · exact hF.ne hd.box (by decide) rfl
  · exact hF.ne_map m3 rfl
  · exact hF.ne_map m4 rfl
/-- nor is the host. -/
theorem Tryz.Sys.turns_host (h : Tryz.Sys B W hb rb σ) : ∀ b ∈ σ.k.turns, 9 ≤ b ∧ b ≠ hb ∧ b < W.heap.size := fun b hbt => by
  refine ⟨h.wh.turns9 b hbt, ?_, h.wh.lts b hbt⟩
  obtain ⟨fd, fn, hd, e1, e2⟩ := h.wh.d
  obtain ⟨n1, -, m1⟩ := h.wh.v.va.held.mapT
  obtain ⟨n2, -, m2⟩ := h.wh.v.va.held.mapL
  obtain ⟨n3, -, m3⟩ := hd.dm
  obtain ⟨n4, -, m4⟩ := hd.nm
  simp only [Blk.turns, List.mem_cons, List.not_mem_nil, or_false] at hbt
  rcases hbt with rfl | rfl | rfl | rfl | rfl | rfl
  · exact h.wh.v.va.v.ne h.host (by decide)
  · exact BoxN.ne_map' h.host m1
  · exact BoxN.ne_map' h.host m2
  · exact hd.box.ne h.host (by decide)
  · exact BoxN.ne_map' h.host m3
  · exact BoxN.ne_map' h.host m4
end
/-- a call of the host: what it may turn. -/
def Tryz.HostSp (B : Nat) (W W' : World) : Prop := ∃ hs, Spares hs W W' ∧ ∀ b ∈ hs, B ≤ b ∧ ¬ Tryz.Foreign W b
theorem Tryz.Sys.sp {B hb rb : Nat} {σ : SS} {W W' : World} (h : Tryz.Sys B W hb rb σ) (hs : Spares σ.k.turns W W') : Tryz.HostSp B W W' := ⟨_, hs, fun b hb => ⟨h.low b hb, h.turns_own b hb⟩⟩
/-- a fact of the host's alone. -/
structure Tryz.Lone (P : World → Prop) : Prop where
  other : ∀ {W W' : World} {bs : List Nat}, P W → Spares bs W W' → (∀ b ∈ bs, Tryz.Foreign W b) → P W'
theorem Tryz.Lone.below {P : World → Prop} (h : Tryz.Lone P) {W W' : World} (hp : P W) (hb : Below W.heap.size W W') : P W' := h.other (bs := []) hp (Spares.of_below hb) (by simp)
theorem Tryz.loneSys (B hb rb : Nat) (σ : SS) : Tryz.Lone (fun W => Tryz.Sys B W hb rb σ) := ⟨fun h hs hq => Tryz.Sys.other h hs hq⟩
theorem Tryz.loneEx (B hb rb : Nat) (Q : SS → Prop) : Tryz.Lone (fun W => ∃ σ, Q σ ∧ Tryz.Sys B W hb rb σ) := ⟨fun ⟨σ, hQ, h⟩ hs hq => ⟨σ, hQ, Tryz.Sys.other h hs hq⟩⟩
end Go.Proofs
