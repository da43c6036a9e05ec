import Derived.Test.YtjbekgjdempbiaaGreatDoorJTkN
/-
  What stays true along the tries of a Tick.
-/
namespace Go.Proofs
open Go.RowKit Go.Sort Go.Lib Go.Shelf Go.Maps

/-- no root in line. -/
def QNz (q : List TurnD) : Prop := ∀ t ∈ q, t.k = 1 → t.n ≠ 0
theorem QNz.perm {q q' : List TurnD} (h : QNz q) (hp : q'.Perm q) : QNz q' := fun t ht => h t (hp.mem_iff.1 ht)
theorem upAdd_nz {s : VSt} (hT : Tree s) {tm : Int} {un : Nat} : QNz (upAdd s tm un) := fun u hu hk e => by
  unfold upAdd at hu
  split at hu
  · rename_i p hp
    have hpm := List.mem_of_find?_eq_some hp
    obtain ⟨rfl, hpd, -, -⟩ := dueT_mem hu
    have e : (p.n : Int) = 0 := e
    rw [hT.root p hpm (by omega)] at hpd
    cases hpd
  · cases hu
theorem QNz.start {tm : Int} {s : VSt} (hT : Tree s) : QNz (s.tks.flatMap (dueT s tm) ++ s.lks.flatMap (dueL tm)) := fun u hu hk e => by
  rcases List.mem_append.1 hu with hu | hu
  · obtain ⟨a, ha, hu⟩ := List.mem_flatMap.1 hu
    obtain ⟨rfl, hp, -, -⟩ := dueT_mem hu
    have e : (a.n : Int) = 0 := e
    rw [hT.root a ha (by omega)] at hp
    cases hp
  · obtain ⟨a, ha, hu⟩ := List.mem_flatMap.1 hu
    obtain ⟨rfl, -⟩ := dueL_mem hu
    exact absurd hk (by simp)
/-- how often anything was tried. -/
def TrB (M : Int) (s : VSt) : Prop := (∀ x ∈ s.tks, 0 ≤ x.tr ∧ x.tr ≤ M) ∧ ∀ x ∈ s.lks, 0 ≤ x.tr ∧ x.tr ≤ M
theorem Subj.trB {tm : Int} {s : VSt} {t : TurnD} {it : Item} {tk : Bool} {n un : Nat} (hs : Subj tm s t it tk n un) (hT : Tree s) {M : Int} (h : TrB M s) : TrB (M + 1) (it.app s) := by
  cases hs with
  | tok t hm hk =>
    refine ⟨fun x hx => ?_, fun x hx => ?_⟩
    · rcases putTok_mem hT.incT hx with rfl | hx
      · have := h.1 t hm
        show 0 ≤ t.tr + 1 ∧ t.tr + 1 ≤ M + 1
        omega
      · have := h.1 x hx; omega
    · have := h.2 x hx; omega
  | lea t hm hk =>
    refine ⟨fun x hx => ?_, fun x hx => ?_⟩
    · have := h.1 x hx; omega
    · rcases putLea_mem hT.incL hx with rfl | hx
      · have := h.2 t hm
        show 0 ≤ t.tr + 1 ∧ t.tr + 1 ≤ M + 1
        omega
      · have := h.2 x hx; omega
theorem TrB.gone {s : VSt} {M : Int} (h : TrB M s) (tk : Bool) (n : Nat) : TrB (M + 1) ((Item.gone tk n).app s) :=
  ⟨fun x hx => by have := h.1 x (dropTok_mem hx); omega, fun x hx => by have := h.2 x (dropLea_mem hx); omega⟩
/-- all that stays true along the tries. -/
structure Going (tm : Int) (M : Int) (a : TS) : Prop where
  tree : Tree a.s
  q : QOk tm a.s a.q
  nz : QNz a.q
  tr : TrB M a.s
  f0 : 0 ≤ a.fl
  f1 : a.fl ≤ 18446744073709551615
theorem Try1.going {tm M : Int} {a b : TS} (h : Try1 tm a b) (hg : Going tm M a) : Going tm (M + 1) b ∧ b.cl.length = a.cl.length + 1 := by
  have f0 := hg.f0
  have f1 := hg.f1
  cases h with
  | @fail t q' q'' it tk n un hs hp hl ho hq =>
    have hQ := hg.q.perm hp
    have hn := hg.nz.perm hp
    have hkey := hs.key
    have h0 : tk = true → n ≠ 0 := fun e en => hn t (by simp) (by rw [hkey.1, e]; rfl) (by rw [hkey.2, en]; rfl)
    exact ⟨⟨hg.tree.failed hs h0, (hQ.failed hg.tree hs).perm hq, QNz.perm (fun u hu => hn u (List.mem_cons_of_mem _ hu)) hq, hs.trB hg.tree hg.tr, show 0 ≤ a.fl / 2 by omega, show a.fl / 2 ≤ 18446744073709551615 by omega⟩, by simp⟩
  | @ok t q' q'' it tk n un hs hp hl ho hq =>
    have hQ := hg.q.perm hp
    have hn := hg.nz.perm hp
    have hkey := hs.key
    have hT := hg.tree.gone tk n (fun e => hQ.nb t (by simp) (by rw [hkey.1, e]; rfl) n hkey.2)
    refine ⟨⟨hT, (hQ.gone hg.tree hs).perm hq, QNz.perm (fun u hu => ?_) hq, hg.tr.gone tk n, show 0 ≤ a.fl / 2 by omega, show a.fl / 2 ≤ 18446744073709551615 by omega⟩, by simp⟩
    rcases List.mem_append.1 hu with hu | hu
    · exact hn u (List.mem_cons_of_mem _ hu)
    · exact upAdd_nz hT u hu
theorem Try1.len {tm M : Int} {a b : TS} (h : Try1 tm a b) (hg : Going tm M a) (hM : M < 9223372036854775807) (t0 : 0 ≤ tm) (t1 : tm ≤ 18446744073709551615) (hok : ListsOk a.s.tks a.s.lks) (okT : ∀ t ∈ a.s.tks, TokOk t) (okL : ∀ t ∈ a.s.lks, LeaOk t) (h50 : a.s.tks.length + a.s.lks.length ≤ 50) : b.c.length ≤ a.c.length + 1300000 := by
  have hfit : ∀ {t : TurnD} {it : Item} {tk : Bool} {n un : Nat}, Subj tm a.s t it tk n un → it.Fits a.s ∧ n < u64lim := fun hs => hs.fits hok okT okL h50 t0 t1 (fun x hx => by have := hg.tr.1 x hx; omega) (fun x hx => by have := hg.tr.2 x hx; omega)
  cases h with
  | @fail t q' q'' it tk n un hs hp hl ho hq =>
    have := keepLine_len t0 t1 (is := [it]) (s := a.s) ⟨(hfit hs).1, trivial⟩ (by simp)
    simp only [List.length_append]; omega
  | @ok t q' q'' it tk n un hs hp hl ho hq =>
    have := keepLine_len t0 t1 (is := [Item.gone tk n]) (s := a.s) ⟨(hfit hs).2, trivial⟩ (by simp)
    simp only [List.length_append]; omega
theorem Try1.count {tm : Int} {a b : TS} (h : Try1 tm a b) (ht : Tree a.s) : b.s.tks.length + b.s.lks.length ≤ a.s.tks.length + a.s.lks.length := by
  cases h with
  | fail hs hp hl ho hq =>
    cases hs with
    | tok t hm hk =>
      have : (putTok (failT tm t) a.s.tks).length = a.s.tks.length := putTok_same ht.incT hm rfl
      simp only [Item.app]; omega
    | lea t hm hk =>
      have : (putLea (failL tm t) a.s.lks).length = a.s.lks.length := putLea_same ht.incL hm rfl
      simp only [Item.app]; omega
  | @ok t q' q'' it tk n un hs hp hl ho hq =>
    have h1 : (dropTok tk n a.s.tks).length ≤ a.s.tks.length := by unfold dropTok; split; exact List.length_filter_le _ _; exact Nat.le_refl _
    have h2 : (dropLea tk n a.s.lks).length ≤ a.s.lks.length := by unfold dropLea; split; exact Nat.le_refl _; exact List.length_filter_le _ _
    simp only [Item.app]; omega
theorem Try1.of_perm {tm : Int} {a b : TS} {q : List TurnD} (h : Try1 tm ⟨a.s, q, a.fl, a.c, a.cl⟩ b) (hp : q.Perm a.q) : Try1 tm a b := by
  cases h with
  | fail hs hp1 hl ho hq => exact .fail (a := a) hs (hp1.trans hp) hl ho hq
  | ok hs hp1 hl ho hq => exact .ok (a := a) hs (hp1.trans hp) hl ho hq
theorem Try1.qc {tm : Int} {a b : TS} (h : Try1 tm a b) (ht : Tree a.s) : b.q.length + (b.s.tks.length + b.s.lks.length) ≤ a.q.length + (a.s.tks.length + a.s.lks.length) := by
  have hc := h.count ht
  cases h with
  | fail hs hp hl ho hq =>
    have h1 := hp.length_eq
    have h2 := hq.length_eq
    simp only [List.length_cons] at h1 hc ⊢
    omega
  | @ok t q' q'' it tk n un hs hp hl ho hq =>
    have h1 := hp.length_eq
    have h2 := hq.length_eq
    have h3 : (upAdd ((Item.gone tk n).app a.s) tm un).length ≤ 1 := by
      unfold upAdd
      split
      · unfold dueT; split <;> simp
      · simp
    rw [List.length_append] at h2
    simp only [List.length_cons] at h1 hc ⊢
    omega
/-- the least number of which something holds. -/
theorem least_ex {P : Nat → Prop} : ∀ n, P n → ∃ m, P m ∧ ∀ i, P i → m ≤ i := by
  intro n
  induction n using Nat.strongRecOn with
  | ind n ih =>
    intro h
    by_cases hl : ∃ m, m < n ∧ P m
    · obtain ⟨m, hm, hp⟩ := hl
      exact ih m hm hp
    · exact ⟨n, h, fun i hi => Nat.le_of_not_lt (fun e => hl ⟨i, e, hi⟩)⟩
open Classical in
noncomputable def leastOf (P : Nat → Prop) : Nat := if h : ∃ m, P m ∧ ∀ i, P i → m ≤ i then Classical.choose h else 0
theorem leastOf_spec {P : Nat → Prop} (h : ∃ n, P n) : P (leastOf P) := by
  obtain ⟨n, hn⟩ := h
  have he := least_ex n hn
  unfold leastOf
  rw [dif_pos he]
  exact (Classical.choose_spec he).1
theorem leastOf_le {P : Nat → Prop} {n : Nat} (h : P n) : leastOf P ≤ n := by
  have he := least_ex n h
  unfold leastOf
  rw [dif_pos he]
  exact (Classical.choose_spec he).2 n h
/-- a Tick at work, at the head of a round: the first in line has been taken out. -/
structure Tryz.TkRound (B : Nat) (k : Blk) (tm : Int) (a0 : TS) (l f M : Int) (rb Bv : Nat) (v0 due0 : Value) (w wr : World) (nb : Nat) (t : TurnD) (okb : Bool) (vx : VX) (v : Value) (q : List TurnD) (a : TS) (j : Nat) : Prop where
  bN : BoxN wr nb 144 t.cells
  nd : vx.due.ownBlock ≠ some nb
  nw : w.heap.size ≤ nb
  bB : BoxN wr Bv 76 #[.pointer (some ⟨k.vb, 0, none⟩)]
  tat : Tryz.TAt B wr k vx tm a.s a.c (l - 2 * j) (f - 2 * j) rb a.fl v (a.cl.map fun p => .string ⟨(nmStr p.1 p.2).toArray⟩) q
  yes : okb = true → (t :: q).Perm a.q ∧ ∀ u ∈ q, ¬ ltT u t
  no : okb = false → a.q = [] ∧ q = []
  tries : Tries tm a0 a
  going : Going tm (M + j) a
  left : j + a.left ≤ a0.left
  cl : a.cl.length = j
  c : a.c.length ≤ a0.c.length + 1300000 * j
  n50 : a.s.tks.length + a.s.lks.length ≤ 50
  qc : a.q.length + (a.s.tks.length + a.s.lks.length) ≤ 100
  tk : vx.tk = true
  sp : Spares (tickBs k rb v0 due0) w wr
  vo : ∀ g, v.ownBlock = some g → v0.ownBlock = some g ∨ w.heap.size ≤ g
  do_ : ∀ d, vx.due.ownBlock = some d → due0.ownBlock = some d ∨ w.heap.size ≤ d
/-- the same, told of the slots. -/
def Tryz.TkI (B : Nat) (k : Blk) (tm : Int) (a0 : TS) (l f M : Int) (rb Bv : Nat) (v0 due0 : Value) (w : World) (p o : Value) (wr : World) (n : Nat) : Prop :=
  ∃ nb t okb vx v q a j, p = .pointer (some ⟨nb, 0, none⟩) ∧ o = .bool okb ∧ n = a.left ∧ Tryz.TkRound B k tm a0 l f M rb Bv v0 due0 w wr nb t okb vx v q a j
end Go.Proofs

/-
  The code: Tick.
-/
namespace Go.Proofs
open Go.RowKit Go.Sort Go.Lib Go.Shelf Go.Maps Go.WideMaps

/-- a block of the walk's own turns. -/
theorem Tryz.TAt.aside {B : Nat} {W W' : World} {k : Blk} {vx : VX} {tm : Int} {s : VSt} {c : List UInt8} {l f : Int} {rb : Nat} {fl : Int} {v : Value} {xs : List Value} {q : List TurnD} (h : Tryz.TAt B W k vx tm s c l f rb fl v xs q) {nb : Nat} {cs : Array Value} (hN : BoxN W nb 144 cs) (hne : vx.due.ownBlock ≠ some nb) (h9 : 9 ≤ nb) (hS : Spares [nb] W W') : Tryz.TAt B W' k vx tm s c l f rb fl v xs q := by
  obtain ⟨fd, fn, hd, ⟨e1, e2⟩, hs1, hs2⟩ := h.sep
  have hq : Tryz.RvQ W [nb] := fun b hb => by
    obtain rfl := List.mem_singleton.1 hb
    exact ⟨h9, _, _, hN, .inr (.inr rfl)⟩
  have hV' := hS.box h.wh.v.va.v (fun hm => h.wh.v.va.v.ne hN (by decide) (List.mem_singleton.1 hm))
  obtain ⟨hW', hD'⟩ := h.wh.reV hd e1 e2 (hS.mono (fun b hb => List.mem_cons_of_mem _ hb)) hq (fun p hp hm => (hd.sd p hp).ne hN (by decide) (List.mem_singleton.1 hm)) (fun p hp hm => (hd.sn p hp).ne hN (by decide) (List.mem_singleton.1 hm)) hV' rfl h.wh.v.t0 h.wh.v.t1
  exact { h with wh := hW', sep := ⟨fd, fn, hD', ⟨e1, e2⟩, hs1, hs2⟩, due := hS.row' h.due (fun b hb hm => by rw [List.mem_singleton.1 hm] at hb; exact hne hb), rbx := hS.box h.rbx (fun hm => h.rbx.ne hN (by decide) (List.mem_singleton.1 hm)), row := hS.row' h.row (fun b hb hm => by
      obtain ⟨-, cs', hB⟩ := row_box h.row hb
      exact hB.ne hN (by decide) (List.mem_singleton.1 hm)), bw := Nat.le_trans h.bw hS.size }
theorem leastOf_take {P : Nat → Prop} (h : ∃ n, P n) : ∃ m, P m ∧ leastOf P = m := ⟨_, leastOf_spec h, rfl⟩

set_option maxRecDepth 100000 in
set_option maxHeartbeats 4000000 in
theorem Tryz.vTick (B : Nat) (k : Blk) (vx : VX) (tm : Int) (s : VSt) (c : List UInt8) (l f : Int) (rb : Nat) (fl : Int) (v : Value) (w : World) (h : Tryz.TAt B w k vx tm s c l f rb fl v [] []) (htk : vx.tk = false) (hT : Tree s) (h50 : s.tks.length + s.lks.length ≤ 50) (M : Int) (hM : M ≤ 9000000000000000000) (hMB : TrB M s) (hl : l < 0) (hl1 : -900000000 ≤ l) (hf : f < 0) (hf1 : -900000000 ≤ f) (hc : c.length ≤ 890000000000) (fl0 : 0 ≤ fl) (fl1 : fl ≤ 18446744073709551615) (now : Int) (hn0 : 0 ≤ now) (hn1 : now ≤ 18446744073709551615) :
    Calls Tryz.prog 46 #[.pointer (some ⟨k.vb, 0, none⟩), .int .u64 now] w fun e w' => e = .returned .nilIface ∧ ∃ vx' v' b l' f', Tries (max tm now) ⟨s, s.tks.flatMap (dueT s (max tm now)) ++ s.lks.flatMap (dueL (max tm now)), fl, c, []⟩ b ∧ b.q = [] ∧ Tryz.TAt B w' k vx' (max tm now) b.s b.c l' f' rb b.fl v' (b.cl.map fun p => .string ⟨(nmStr p.1 p.2).toArray⟩) [] ∧ vx'.tk = false ∧ Going (max tm now) (M + b.cl.length) b ∧ (b.cl.length ≤ 150 ∧ b.c.length ≤ c.length + 1300000 * b.cl.length ∧ b.s.tks.length + b.s.lks.length ≤ 50) ∧ Spares (tickBs k rb v vx.due) w w' := by
  obtain ⟨a0, ha0⟩ : ∃ a0, a0 = (⟨s, s.tks.flatMap (dueT s (max tm now)) ++ s.lks.flatMap (dueL (max tm now)), fl, c, []⟩ : TS) := ⟨_, rfl⟩
  rw [← ha0]
  have lv := h.wh.v.va.v.lt
  have t0 := h.wh.v.t0
  have t1 := h.wh.v.t1
  have hmf : ∀ (fn : Fn) (first cap : Array Value) (w : World), (Instr.makeFunc fn first cap).run Tryz.prog w = .ok (.func fn first cap) w := fun _ _ _ _ => rfl
  have bV0 := h.wh.v.va.v
  have c1 := bV0.cell 2 (v := .int .u64 tm) rfl
  have f1 := bV0.frozen 2
  have h0' : 0 ≤ max tm now := by omega
  have h1' : max tm now ≤ 18446744073709551615 := by omega
  have bV1 : BoxN ((w.setCell ⟨k.vb, 2, none⟩ (.int .u64 (max tm now))).alloc (.cells #[.pointer (some ⟨k.vb, 0, none⟩)] 76)).drew k.vb 126 (Tryz.vaultC vx (max tm now) k.mt k.ml s.tn s.ln) := (bV0.set 2 (.int .u64 (max tm now))).alloc _
  have bB1 : BoxN ((w.setCell ⟨k.vb, 2, none⟩ (.int .u64 (max tm now))).alloc (.cells #[.pointer (some ⟨k.vb, 0, none⟩)] 76)).drew w.heap.size 76 #[.pointer (some ⟨k.vb, 0, none⟩)] := by
    have h : BoxN ((w.setCell ⟨k.vb, 2, none⟩ (.int .u64 (max tm now))).alloc (.cells #[.pointer (some ⟨k.vb, 0, none⟩)] 76)) w.heap.size 76 #[.pointer (some ⟨k.vb, 0, none⟩)] := by simpa using BoxN.new (w.setCell ⟨k.vb, 2, none⟩ (.int .u64 (max tm now))) 76 #[.pointer (some ⟨k.vb, 0, none⟩)]
    exact h
  have hS1 : Spares [k.vb] w ((w.setCell ⟨k.vb, 2, none⟩ (.int .u64 (max tm now))).alloc (.cells #[.pointer (some ⟨k.vb, 0, none⟩)] 76)).drew := (((Spares.of_below (Below.refl _ w)).set (by simp) _ _).alloc _).drew
  have hnd : ∀ b, vx.due.ownBlock = some b → b ≠ k.vb := fun b hb e => by
    obtain ⟨-, cs, h2⟩ := row_box h.due hb
    exact h2.ne bV0 (by decide) e
  go_enter_defers Tryz.func46, Tryz.ntmps46
  go_wp2_with fail
  go_region
  generalize ((w.setCell ⟨k.vb, 2, none⟩ (.int .u64 (max tm now))).alloc (.cells #[.pointer (some ⟨k.vb, 0, none⟩)] 76)).drew = W1 at *
  have hw1 := hS1.size
  have h1 : Tryz.TAt B W1 k vx (max tm now) s c l f rb fl v [] [] := h.queued bV1 rfl rfl h0' h1' (hS1.row' h.due (fun b hb hm => hnd b hb (List.mem_singleton.1 hm))) h.hp (hS1.mono (by simp))
  generalize htm' : max tm now = tm' at *
  have HTM := hid_intro htm'
  clear htm'
  have hne : w.heap.size ≠ k.vb := by omega
  have c6 := bV1.cell 7 (v := .bool false) (by rw [← htk]; rfl)
  have f6 := bV1.frozen 7
  have cB1 := bB1.cell 0 (v := .pointer (some ⟨k.vb, 0, none⟩)) rfl
  have bV2 : BoxN (W1.setCell ⟨k.vb, 7, none⟩ (.bool true)) k.vb 126 (Tryz.vaultC { vx with tk := true } tm' k.mt k.ml s.tn s.ln) := bV1.set 7 (.bool true)
  have bB2 := bB1.other hne 7 (.bool true)
  have cB2 := bB2.cell 0 (v := .pointer (some ⟨k.vb, 0, none⟩)) rfl
  have hS2 : Spares [k.vb] W1 (W1.setCell ⟨k.vb, 7, none⟩ (.bool true)) := (Spares.of_below (Below.refl _ W1)).set (by simp) _ _
  have h2 : Tryz.TAt B (W1.setCell ⟨k.vb, 7, none⟩ (.bool true)) k { vx with tk := true } tm' s c l f rb fl v [] [] := h1.queued bV2 rfl rfl h0' h1' (hS2.row' h1.due (fun b hb hm => hnd b hb (List.mem_singleton.1 hm))) h1.hp (hS2.mono (by simp))
  have hQ := callsIn_wide.1 (Tryz.queueAll B k { vx with tk := true } tm' s c l f rb fl v [] _ h2 h50)
  have hq100 : ∀ q : List TurnD, q.Perm (s.tks.flatMap (dueT s tm') ++ s.lks.flatMap (dueL tm')) → q.length ≤ 100 := fun q hq => by
    have e1 := hq.length_eq
    have e2 := flatDue_len (dueT s tm') (fun x => by unfold dueT; split <;> simp) s.tks
    have e3 := flatDue_len (dueL tm') (fun x => by unfold dueL; split <;> simp) s.lks
    rw [List.length_append] at e1
    omega
  have hnds : ∀ {b : Nat}, b ∈ k.vb :: vx.due.ownBlock.toList → b ∈ tickBs k rb v vx.due := fun {b} hb => by
    simp only [tickBs, Blk.turns, List.mem_append, List.mem_cons] at hb ⊢
    rcases hb with e | e
    · exact .inl (.inl e)
    · exact .inr (.inr (.inr e))
  have hS02 : Spares (tickBs k rb v vx.due) w (W1.setCell ⟨k.vb, 7, none⟩ (.bool true)) := (hS1.mono (fun b hb => hnds (by rw [List.mem_singleton.1 hb]; simp))).trans (hS2.mono (fun b hb => hnds (by rw [List.mem_singleton.1 hb]; simp)))
  have hz2 : w.heap.size ≤ (W1.setCell ⟨k.vb, 7, none⟩ (.bool true)).heap.size := hS02.size
  go_wp2_with (first
    | (go_at_call 75; refine hQ.mono ?_; rintro e W3 ⟨rfl, vx3, q3, hp3, h3, htk3, hj3, hd3, hs3⟩; have bB3 := hs3.box bB2 (fun hm => by
        rcases List.mem_cons.1 hm with e | hm
        · exact hne e
        · obtain ⟨-, cs, hB⟩ := row_box h2.due (by simpa using hm)
          exact bB2.ne hB (by decide) rfl); have cB3 := bB3.cell 0 (v := .pointer (some ⟨k.vb, 0, none⟩)) rfl; have hPop := Tryz.popAny B k vx3 tm' s c l f rb fl v [] q3 W3 h3 (hq100 q3 hp3); have HS3 := hid_intro (And.intro hd3 hs3); clear hd3 hs3)
    | (go_at_call 76; refine hPop.mono ?_; rintro e W4 ⟨⟨y1, y2, y3⟩, ok, rfl, vx4, q4, h4, hok0, hok1, htk4, hd4, hs4⟩; simp only [TurnD.cells] ))
  obtain ⟨hd3, hs3⟩ := hid_elim HS3
  have hd3' : ∀ d, vx3.due.ownBlock = some d → vx.due.ownBlock = some d ∨ w.heap.size ≤ d := fun d hd => (hd3 d hd).imp id (fun h => Nat.le_trans hz2 h)
  have hS03 : Spares (tickBs k rb v vx.due) w W3 := hS02.trans (hs3.mono (fun b hb => hnds hb))
  have hS04 : Spares (tickBs k rb v vx.due) w W4 := by
    have h := (hS03.mono (bs' := tickBs k rb v vx.due ++ (k.vb :: vx3.due.ownBlock.toList)) (fun b hb => List.mem_append_left _ hb)).trans (hs4.mono (fun b hb => List.mem_append_right _ hb))
    refine h.shed (fun b hb => ?_)
    rcases List.mem_append.1 hb with hb | hb
    · exact .inl hb
    · rcases List.mem_cons.1 hb with rfl | hb
      · exact .inl (hnds (by simp))
      · exact (hd3' b (by simpa using hb)).imp (fun e => hnds (List.mem_cons_of_mem _ (by simpa using e))) id
  have hz4 := hS04.size
  have bB4 := hs4.box bB3 (fun hm => by
    rcases List.mem_cons.1 hm with e | hm
    · exact hne e
    · obtain ⟨-, cs, hB⟩ := row_box h3.due (by simpa using hm)
      exact bB3.ne hB (by decide) rfl)
  have hdlt : ∀ d, vx4.due.ownBlock = some d → d < W4.heap.size := fun d hd => by
    obtain ⟨-, cs, hB⟩ := row_box h4.due hd
    exact hB.lt
  have hB5 : Below W4.heap.size W4 (W4.alloc (.cells #[.int .u64 y1, .int .i64 y2, .int .u64 y3] 144)) := (Below.refl _ W4).alloc (Nat.le_refl _) _
  have hq0 : (s.tks.flatMap (dueT s tm') ++ s.lks.flatMap (dueL tm')).length ≤ s.tks.length + s.lks.length := by
    have e2 := flatDue_len (dueT s tm') (fun x => by unfold dueT; split <;> simp) s.tks
    have e3 := flatDue_len (dueL tm') (fun x => by unfold dueL; split <;> simp) s.lks
    rw [List.length_append]
    omega
  have hleft0 : a0.left ≤ 150 := by rw [ha0]; unfold TS.left; simp only; omega
  have hst : ∃ n, Tryz.TkI B k tm' a0 l f M rb w.heap.size v vx.due w (.pointer (some ⟨W4.heap.size, 0, none⟩)) (.bool ok) (W4.alloc (.cells #[.int .u64 y1, .int .i64 y2, .int .u64 y3] 144)) n := by
    refine ⟨a0.left, W4.heap.size, ⟨y1, y2, y3⟩, ok, vx4, v, q4, a0, 0, rfl, rfl, rfl, ?_⟩
    refine { bN := BoxN.new W4 144 _, nd := fun e => by have := hdlt _ e; omega, nw := hz4, bB := bB4.alloc _, tat := ?_, yes := fun e => ?_, no := fun e => ?_, tries := .refl _, going := ?_, left := by omega, cl := by rw [ha0]; rfl, c := by omega, n50 := by rw [ha0]; exact h50, qc := by rw [ha0]; simp only; omega, tk := by rw [htk4, htk3], sp := hS04.trans (Spares.of_below hB5), vo := fun g hg => .inl hg, do_ := fun d hd => hd3' d (by rw [← hd4]; exact hd) }
    · rw [ha0]
      have h5 := h4.below hB5
      simpa using h5
    · obtain ⟨o1, o2⟩ := hok1 e
      rw [ha0]
      exact ⟨o1.trans hp3, o2⟩
    · obtain ⟨o1, o2⟩ := hok0 e
      rw [ha0]
      refine ⟨?_, o2⟩
      rw [o1] at hp3
      exact List.Perm.eq_nil hp3.symm
    · rw [ha0]
      exact ⟨hT, QOk.start hT, QNz.start hT, by simpa using hMB, fl0, fl1⟩
  have hlow : ∀ b ∈ tickBs k rb v vx.due, True := fun _ _ => trivial
  have HN := hid_intro (And.intro @hnds (And.intro lv (And.intro h.b9 h.bw)))
  clear hlow hq0 hB5 hdlt bB4 hz4 hS04 hS03 hd3' hd3 hs3 HS3 hs4 hd4 htk4 hok0 hok1 h4 hPop cB3 bB3 hj3 htk3 h3 hp3 hz2 hS02 hnds hq100 hQ h2 hS2 cB2 bB2 bV2 cB1 f6 c6 h1 bB1 bV1 hS1 hw1 hT hMB
  generalize W4.heap.size = nb0 at *
  go_loopw [5, 6] (fun p o wr => ∃ n, Tryz.TkI B k tm' a0 l f M rb w.heap.size v vx.due w p o wr n) (fun p o wr => leastOf (Tryz.TkI B k tm' a0 l f M rb w.heap.size v vx.due w p o wr))
  case atStart => exact hst
  case round =>
    clear hst
    obtain ⟨m, hm, hme⟩ := leastOf_take hrel
    clear hrel
    have HM := hid_intro hme
    clear hme
    obtain ⟨nb, t, okb, vx1, v1, q1, a, j, rfl, rfl, hmn, hR⟩ := hm
    obtain ⟨hnds, lv, hb9, hbw⟩ := hid_elim HN
    have hj : j ≤ 150 := by have := hR.left; omega
    have cB := hR.bB.cell 0 (v := .pointer (some ⟨k.vb, 0, none⟩)) rfl
    cases okb with
    | false =>
      obtain ⟨haq, hq0⟩ := hR.no rfl
      subst hq0
      have bV := hR.tat.wh.v.va.v
      go_wp2
      refine leaves_cons (f := 73) (args := #[.pointer (some ⟨w.heap.size, 0, none⟩)]) (by simp) (by simp [invoke, go_sem]) ?_
      refine (Tryz.vTick1 k.vb w.heap.size vx1.due (.bool true) .returning wr (row_none hR.tat.due) cB (by rw [← hR.tk]; exact bV.cell 7 rfl) (bV.frozen 7) (bV.cell 8 rfl) (bV.frozen 8) hne).mono ?_
      rintro e u' w'' ⟨rfl, rfl, rfl⟩
      have bV2 : BoxN ((wr.setCell ⟨k.vb, 7, none⟩ (.bool false)).setCell ⟨k.vb, 8, none⟩ vx1.due) k.vb 126 (Tryz.vaultC { vx1 with tk := false } tm' k.mt k.ml a.s.tn a.s.ln) := (bV.set 7 (.bool false)).set 8 vx1.due
      have hS2 : Spares [k.vb] wr ((wr.setCell ⟨k.vb, 7, none⟩ (.bool false)).setCell ⟨k.vb, 8, none⟩ vx1.due) := ((Spares.of_below (Below.refl _ wr)).set (by simp) _ _).set (by simp) _ _
      have hA2 := hR.tat.queued bV2 rfl rfl hR.tat.wh.v.t0 hR.tat.wh.v.t1 (hS2.row' hR.tat.due (fun b hb hm => by
        obtain ⟨-, cs, hB⟩ := row_box hR.tat.due hb
        exact hB.ne bV (by decide) (List.mem_singleton.1 hm))) hR.tat.hp (hS2.mono (by simp))
      have hcl := hR.cl
      have hgo := hR.going
      have hc2 := hR.c
      rw [← hcl] at hgo hc2
      have htm' := hid_elim HTM
      subst htm'
      exact ⟨_, results_tmp rfl _ _ _, rfl, { vx1 with tk := false }, v1, a, _, _, hR.tries, haq, hA2, rfl, hgo, ⟨by omega, by rw [ha0] at hc2; exact hc2, hR.n50⟩, hR.sp.trans (hS2.mono (fun b hb => hnds (by rw [List.mem_singleton.1 hb]; simp)))⟩
    | true =>
      obtain ⟨hpm, hmin⟩ := hR.yes rfl
      have hQ := hR.going.q.perm hpm
      have hNz := hR.going.nz.perm hpm
      obtain ⟨it, tk, n, un, hs⟩ := hQ.ex t (by simp)
      obtain ⟨hk1, hk2⟩ := hs.key
      have hcl := hR.cl
      have hcc := hR.c
      have hqc := hR.qc
      have hql := hpm.length_eq
      simp only [List.length_cons] at hql
      have hc0 : a0.c.length = c.length := by rw [ha0]
      have hTry := Tryz.tryAny B k vx1 tm' a.s a.c (l - 2 * j) (f - 2 * j) rb a.fl v1 _ q1 wr hR.tat (by omega) (by omega) (by omega) (by omega) (by omega) (by rw [List.length_map]; omega) (by omega) hR.going.f0 hR.going.f1 t it tk n un hs hR.going.tree hQ hmin (fun e en => hNz t (by simp) (by rw [hk1, e]; rfl) (by rw [hk2, en]; rfl)) hR.n50 (fun x hx => by have := hR.going.tr.1 x hx; omega) (fun x hx => by have := hR.going.tr.2 x hx; omega) a.cl
      have bN := hR.bN
      obtain ⟨y1, y2, y3⟩ := t
      simp only at hk1 hk2
      subst hk1 hk2
      simp only [TurnD.cells] at bN
      unfold nmV at hTry
      have n0 := bN.cell 0 (v := .int .u64 y1) rfl
      have n1 := bN.cell 1 (v := .int .i64 (kdB tk)) rfl
      have n2 := bN.cell 2 (v := .int .u64 (n : Int)) rfl
      have hnt : nb ∉ tickBs k rb v1 vx1.due := fun hm => by
        simp only [tickBs, List.mem_append, List.mem_cons] at hm
        rcases hm with hm | e | e | e
        · exact hR.tat.wh.no bN (by decide) (by decide) hm
        · exact bN.ne hR.tat.rbx (by decide) e
        · obtain ⟨-, cs, hB⟩ := row_box hR.tat.row (g := nb) (by simpa using e)
          exact bN.ne hB (by decide) rfl
        · exact hR.nd (by simpa using e)
      have hBt : w.heap.size ∉ tickBs k rb v1 vx1.due := fun hm => by
        simp only [tickBs, List.mem_append, List.mem_cons] at hm
        rcases hm with hm | e | e | e
        · exact hR.tat.wh.no hR.bB (by decide) (by decide) hm
        · exact hR.bB.ne hR.tat.rbx (by decide) e
        · obtain ⟨-, cs, hB⟩ := row_box hR.tat.row (g := w.heap.size) (by simpa using e)
          exact hR.bB.ne hB (by decide) rfl
        · obtain ⟨-, cs, hB⟩ := row_box hR.tat.due (g := w.heap.size) (by simpa using e)
          exact hR.bB.ne hB (by decide) rfl
      have hfresh : ∀ (W : World) {vxa : VX} {sa : VSt} {ca : List UInt8} {la fa : Int} {fla : Int} {va : Value} {xsa : List Value} {qa : List TurnD}, Tryz.TAt B W k vxa tm' sa ca la fa rb fla va xsa qa → True → W.heap.size ∉ k.vb :: vxa.due.ownBlock.toList := fun W _ _ _ _ _ _ _ _ _ hA _ hm => by
        rcases List.mem_cons.1 hm with e | hm
        · have := hA.wh.v.va.v.lt; omega
        · obtain ⟨-, cs, hB⟩ := row_box hA.due (g := W.heap.size) (by simpa using hm)
          have := hB.lt; omega
      have hvbl : True := trivial
      have HR := hid_intro hR
      have HX := hid_intro (And.intro hpm (And.intro hs (And.intro hQ hmin)))
      have bB := hR.bB
      clear hR hpm hQ hNz hs hmin
      go_wp2_with (first
        | (go_at_call 77; refine hTry.mono ?_; rintro e w6 ⟨rfl, vx6, v6, b, hT1, hbcl, hA6, htk6, hv6, hd6, hs6⟩; have bN6 := hs6.box bN hnt; have bB6 := hs6.box bB hBt; have m0 := bN6.cell 0 (v := .int .u64 y1) rfl; have m1 := bN6.cell 1 (v := .int .i64 (kdB tk)) rfl; have m2 := bN6.cell 2 (v := .int .u64 (n : Int)) rfl; have hA7 := hA6.below ((Below.refl _ w6).alloc (Nat.le_refl _) (.cells #[.int .u64 y1, .int .i64 (kdB tk), .int .u64 (n : Int)] 144)); have cB7 := (bB6.alloc (.cells #[.int .u64 y1, .int .i64 (kdB tk), .int .u64 (n : Int)] 144)).cell 0 (v := .pointer (some ⟨k.vb, 0, none⟩)) rfl; have hPop := Tryz.popAny B k vx6 tm' b.s b.c _ _ rb b.fl v6 _ b.q _ hA7 (by have := (hT1.of_perm (hid_elim HX).1).qc (hid_elim HR).going.tree; omega); have HS6 := hid_intro (And.intro hs6 (And.intro hv6 hd6)); clear hs6 hv6 hd6)
        | (go_at_call 76; refine hPop.mono ?_; rintro e w8 ⟨⟨z1, z2, z3⟩, ok8, rfl, vx8, q8, h8, hok0, hok1, htk8, hd8, hs8⟩; have bN8 := hs8.box (BoxN.new w6 144 #[.int .u64 y1, .int .i64 (kdB tk), .int .u64 (n : Int)]) (hfresh w6 hA6 hvbl); have r0 := bN8.cell 0 (v := .int .u64 y1) rfl; have r1 := bN8.cell 1 (v := .int .i64 (kdB tk)) rfl; have r2 := bN8.cell 2 (v := .int .u64 (n : Int)) rfl; have fz0 := bN8.frozen 0; have fz1 := bN8.frozen 1; have fz2 := bN8.frozen 2; simp only [TurnD.cells]))
      obtain ⟨hs6, hv6, hd6⟩ := hid_elim HS6
      have hR := hid_elim HR
      obtain ⟨hpm, hs, hQ, hmin⟩ := hid_elim HX
      have hTr := hT1.of_perm hpm
      obtain ⟨hgo, hcl2⟩ := hTr.going hR.going
      have hcnt := hTr.count hR.going.tree
      have hqc2 := hTr.qc hR.going.tree
      have hless := hTr.less hR.going.tree
      have hlen := hTr.len hR.going (by omega) hR.tat.wh.v.t0 hR.tat.wh.v.t1 hR.tat.wh.v.va.ok hR.tat.wh.v.okT hR.tat.wh.v.okL hR.n50
      have hz6 := hs6.size
      have hzr := hR.sp.size
      have hleft := hR.left
      have hd8lt : ∀ d, vx8.due.ownBlock = some d → d < w6.heap.size := fun d hd => by
        rw [hd8] at hd
        obtain ⟨-, cs, hB⟩ := row_box hA6.due hd
        exact hB.lt
      have bN9 := ((bN8.set 0 (.int .u64 z1)).set 1 (.int .i64 z2)).set 2 (.int .u64 z3)
      have hS9 : Spares [w6.heap.size] w8 (((w8.setCell ⟨w6.heap.size, 0, none⟩ (.int .u64 z1)).setCell ⟨w6.heap.size, 1, none⟩ (.int .i64 z2)).setCell ⟨w6.heap.size, 2, none⟩ (.int .u64 z3)) := (((Spares.of_below (Below.refl _ w8)).set (by simp) _ _).set (by simp) _ _).set (by simp) _ _
      have h9 := h8.aside bN8 (fun e => by have := hd8lt _ e; omega) (by omega) hS9
      have bB8 := hs8.box (bB6.alloc (.cells #[.int .u64 y1, .int .i64 (kdB tk), .int .u64 (n : Int)] 144)) (fun hm => by
        rcases List.mem_cons.1 hm with e | hm
        · exact hne e
        · obtain ⟨-, cs, hB⟩ := row_box hA6.due (g := w.heap.size) (by simpa using hm)
          exact bB6.ne hB (by decide) rfl)
      have bB9 := hS9.box bB8 (fun hm => by have := List.mem_singleton.1 hm; have := bB6.lt; omega)
      have hvn : ∀ g, v6.ownBlock = some g → v.ownBlock = some g ∨ w.heap.size ≤ g := fun g hg => by
        rcases hv6 g hg with e | e
        · exact hR.vo g e
        · exact .inr (by omega)
      have hdn : ∀ d, vx6.due.ownBlock = some d → vx.due.ownBlock = some d ∨ w.heap.size ≤ d := fun d hd => by
        rcases hd6 d hd with e | e
        · exact hR.do_ d e
        · exact .inr (by omega)
      have hspn : Spares (tickBs k rb v vx.due) w (((w8.setCell ⟨w6.heap.size, 0, none⟩ (.int .u64 z1)).setCell ⟨w6.heap.size, 1, none⟩ (.int .i64 z2)).setCell ⟨w6.heap.size, 2, none⟩ (.int .u64 z3)) := by
        have q1 := hR.sp.mono (bs' := tickBs k rb v vx.due ++ (tickBs k rb v1 vx1.due ++ (k.vb :: vx6.due.ownBlock.toList ++ [w6.heap.size]))) (fun b hb => List.mem_append_left _ hb)
        have q2 := hs6.mono (bs' := tickBs k rb v vx.due ++ (tickBs k rb v1 vx1.due ++ (k.vb :: vx6.due.ownBlock.toList ++ [w6.heap.size]))) (fun b hb => List.mem_append_right _ (List.mem_append_left _ hb))
        have q3 := hs8.mono (bs' := tickBs k rb v vx.due ++ (tickBs k rb v1 vx1.due ++ (k.vb :: vx6.due.ownBlock.toList ++ [w6.heap.size]))) (fun b hb => List.mem_append_right _ (List.mem_append_right _ (List.mem_append_left _ hb)))
        have q4 := hS9.mono (bs' := tickBs k rb v vx.due ++ (tickBs k rb v1 vx1.due ++ (k.vb :: vx6.due.ownBlock.toList ++ [w6.heap.size]))) (fun b hb => List.mem_append_right _ (List.mem_append_right _ (List.mem_append_right _ hb)))
        refine ((((q1.trans q2).alloc _).trans q3).trans q4).shed (fun b hb => ?_)
        rcases List.mem_append.1 hb with hb | hb
        · exact .inl hb
        · rcases List.mem_append.1 hb with hb | hb
          · simp only [tickBs, List.mem_append, List.mem_cons] at hb ⊢
            rcases hb with hb | hb | hb | hb
            · exact .inl (.inl hb)
            · exact .inl (.inr (.inl hb))
            · exact (hR.vo b (by simpa using hb)).imp (fun e => .inr (.inr (.inl (by simpa using e)))) id
            · exact (hR.do_ b (by simpa using hb)).imp (fun e => .inr (.inr (.inr (by simpa using e)))) id
          · rcases List.mem_append.1 hb with hb | hb
            · rcases List.mem_cons.1 hb with rfl | hb
              · exact .inl (hnds (by simp))
              · exact (hdn b (by simpa using hb)).imp (fun e => hnds (List.mem_cons_of_mem _ (by simpa using e))) id
            · exact .inr (by rw [List.mem_singleton.1 hb]; omega)
      have hnext : Tryz.TkI B k tm' a0 l f M rb w.heap.size v vx.due w (.pointer (some ⟨w6.heap.size, 0, none⟩)) (.bool ok8) (((w8.setCell ⟨w6.heap.size, 0, none⟩ (.int .u64 z1)).setCell ⟨w6.heap.size, 1, none⟩ (.int .i64 z2)).setCell ⟨w6.heap.size, 2, none⟩ (.int .u64 z3)) b.left := by
        refine ⟨w6.heap.size, ⟨z1, z2, z3⟩, ok8, vx8, v6, q8, b, j + 1, rfl, rfl, rfl, ?_⟩
        have ej : ∀ x : Int, x - 2 * ((j + 1 : Nat) : Int) = x - 2 * (j : Int) - 2 := fun x => by omega
        refine { bN := by simpa [TurnD.cells] using bN9, nd := fun e => by have := hd8lt _ e; omega, nw := by omega, bB := bB9, tat := ?_, yes := hok1, no := hok0, tries := .step hR.tries hTr, going := ?_, left := by omega, cl := by rw [hcl2, hR.cl], c := by rw [Nat.mul_succ, ← Nat.add_assoc]; exact Nat.le_trans hlen (Nat.add_le_add_right hcc _), n50 := Nat.le_trans hcnt hR.n50, qc := by omega, tk := by rw [htk8, htk6, hR.tk], sp := hspn, vo := hvn, do_ := fun d hd => hdn d (by rw [← hd8]; exact hd) }
        · rw [ej, ej, hbcl, List.map_append]
          exact h9
        · have e : M + ((j + 1 : Nat) : Int) = M + (j : Int) + 1 := by omega
          rw [e]; exact hgo
      exact ⟨⟨_, hnext⟩, by
        have := leastOf_le hnext
        have := hid_elim HM
        omega⟩
end Go.Proofs
