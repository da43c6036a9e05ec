import Derived.Test.YthifclklnopkfaaGreatDoorRel
import Derived.Test.YthifclklnopkfaaGreatDoorPlain
import Derived.Test.YthifclklnopkfaaGreatDoorPlainB
/-
  The code: later, isLiveToken, liveLease, Authorize.
-/
namespace Go.Proofs
open Go.RowKit Go.Sort Go.Lib Go.Shelf Go.Maps

set_option maxHeartbeats 1000000 in
theorem Tryz.later (a b : Int) (ha : 0 ≤ a) (ha1 : a ≤ 18446744073709551615) (hb0 : 0 ≤ b) (hb : b ≤ 18446744073709551615) (w : World) :
    Calls Tryz.prog 47 #[.int .u64 a, .int .u64 b] w fun e w' => e = .returned (.int .u64 (plusI a b)) ∧ w' = w := by
  have hr : Hid (plusI a b = if 18446744073709551615 - b < a then 18446744073709551615 else a + b) := hid_intro rfl
  generalize plusI a b = r at *
  by_cases h : 18446744073709551615 - a < b
  · obtain rfl : r = 18446744073709551615 := by rw [hid_elim hr, if_pos (by omega)]
    clear hr
    go_enter Tryz.func47, Tryz.ntmps47
    go_wp2
    go_ret
    exact ⟨rfl, rfl⟩
  · obtain rfl : r = a + b := by rw [hid_elim hr, if_neg (by omega)]
    clear hr
    go_enter Tryz.func47, Tryz.ntmps47
    go_wp2
    go_ret
    exact ⟨ret_int (by omega), rfl⟩

section
variable {W : World} {vb mt ml : Nat} {vx : VX} {tm tn ln : Int} {tks : List TokE} {lks : List LeaE}
theorem Tryz.VaultAt.lookT (h : Tryz.VaultAt W vb mt ml vx tm tn ln tks lks) {t : TokE} (ht : t ∈ tks) :
    (Instr.lookup 102 (.map (some mt)) (nmV (1, (t.n : Int))) true).run Tryz.prog W = .ok (.tuple #[.pointer (some ⟨t.blk, 0, none⟩), .bool true]) W := by
  obtain ⟨n, _, hm⟩ := h.held.mapT
  exact Tryz.nmType.look_hit h.ok.ksT.1 (wfNm (.inl rfl) (h.ok.limT t ht).1) hm Tryz.underlying102 (Tryz.zeroValue123 _) (ksGet_of_mem h.ok.ksT.1 (List.mem_reverse.2 (List.mem_map.2 ⟨t, ht, rfl⟩)))
theorem Tryz.VaultAt.lookT_no (h : Tryz.VaultAt W vb mt ml vx tm tn ln tks lks) {x : Int × Int} (hx : NmWf x) (hn : ∀ t ∈ tks, x ≠ (1, (t.n : Int))) :
    (Instr.lookup 102 (.map (some mt)) (nmV x) true).run Tryz.prog W = .ok (.tuple #[.pointer none, .bool false]) W := by
  obtain ⟨n, _, hm⟩ := h.held.mapT
  refine Tryz.nmType.look_miss h.ok.ksT.1 hx hm Tryz.underlying102 (Tryz.zeroValue123 _) (ksGet_none.2 fun p hp e => ?_)
  obtain ⟨t, ht, rfl⟩ := List.mem_map.1 (List.mem_reverse.1 hp)
  exact hn t ht e.symm
theorem Tryz.VaultAt.lookL (h : Tryz.VaultAt W vb mt ml vx tm tn ln tks lks) {t : LeaE} (ht : t ∈ lks) :
    (Instr.lookup 103 (.map (some ml)) (nmV (2, (t.n : Int))) true).run Tryz.prog W = .ok (.tuple #[.pointer (some ⟨t.blk, 0, none⟩), .bool true]) W := by
  obtain ⟨n, _, hm⟩ := h.held.mapL
  exact Tryz.nmType.look_hit h.ok.ksL.1 (wfNm (.inr rfl) (h.ok.limL t ht).1) hm Tryz.underlying103 (Tryz.zeroValue109 _) (ksGet_of_mem h.ok.ksL.1 (List.mem_reverse.2 (List.mem_map.2 ⟨t, ht, rfl⟩)))
theorem Tryz.VaultAt.lookL_no (h : Tryz.VaultAt W vb mt ml vx tm tn ln tks lks) {x : Int × Int} (hx : NmWf x) (hn : ∀ t ∈ lks, x ≠ (2, (t.n : Int))) :
    (Instr.lookup 103 (.map (some ml)) (nmV x) true).run Tryz.prog W = .ok (.tuple #[.pointer none, .bool false]) W := by
  obtain ⟨n, _, hm⟩ := h.held.mapL
  refine Tryz.nmType.look_miss h.ok.ksL.1 hx hm Tryz.underlying103 (Tryz.zeroValue109 _) (ksGet_none.2 fun p hp e => ?_)
  obtain ⟨t, ht, rfl⟩ := List.mem_map.1 (List.mem_reverse.1 hp)
  exact hn t ht e.symm
theorem Tryz.VaultAt.alloc (h : Tryz.VaultAt W vb mt ml vx tm tn ln tks lks) (o : Obj) : Tryz.VaultAt (W.alloc o) vb mt ml vx tm tn ln tks lks := h.below ((Below.refl _ W).alloc (Nat.le_refl _) o)
end

theorem Tryz.VaultAt.drewN {W : World} {vb mt ml : Nat} {vx : VX} {tm tn ln : Int} {tks : List TokE} {lks : List LeaE} (h : Tryz.VaultAt W vb mt ml vx tm tn ln tks lks) (q : Nat) : Tryz.VaultAt (W.drewN q) vb mt ml vx tm tn ln tks lks := h.below (below_drewN (Below.refl _ _) q)

set_option maxHeartbeats 1000000 in
theorem Tryz.isLive_hit (vb mt ml : Nat) (vx : VX) (tm tn ln : Int) (tks : List TokE) (lks : List LeaE) (w : World) (hV : Tryz.VaultAt w vb mt ml vx tm tn ln tks lks) (t : TokE) (ht : t ∈ tks) :
    Calls Tryz.prog 90 #[.pointer (some ⟨vb, 0, none⟩), nmV (1, (t.n : Int))] w fun e w' => e = .returned (.bool (!t.pd)) ∧ Below w.heap.size w w' := by
  have hV1 := hV.alloc (.cells #[.int .i64 1, .int .u64 (t.n : Int)] 97)
  have hlook := fun q => (hV1.drewN q).lookT ht
  have v2 := hV.v.cell 2 (v := .map (some mt)) rfl
  have lv := hV.v.lt
  have hL := fun q => Tryz.entryLive t.blk t.pd _ (((hV1.drewN q).held.tok t ht).cell 4 rfl)
  unfold nmV at hlook ⊢
  generalize t.pd = pd at *
  go_enter Tryz.func90, Tryz.ntmps90
  go_wp2
  go_quiet (fail)
  have hL' := hL nq
  go_wp2_with (go_at_call 104; refine hL'.mono ?_; rintro e w1 ⟨rfl, rfl⟩)
  go_ret
  exact ⟨rfl, below_drewN ((Below.refl _ w).alloc (Nat.le_refl _) _) _⟩

set_option maxHeartbeats 1000000 in
theorem Tryz.isLive_miss (vb mt ml : Nat) (vx : VX) (tm tn ln : Int) (tks : List TokE) (lks : List LeaE) (w : World) (hV : Tryz.VaultAt w vb mt ml vx tm tn ln tks lks) (x : Int × Int) (hx : NmWf x) (hn : ∀ t ∈ tks, x ≠ (1, (t.n : Int))) :
    Calls Tryz.prog 90 #[.pointer (some ⟨vb, 0, none⟩), nmV x] w fun e w' => e = .returned (.bool false) ∧ Below w.heap.size w w' := by
  have hV1 := hV.alloc (.cells #[.int .i64 x.1, .int .u64 x.2] 97)
  have hlook := fun q => (hV1.drewN q).lookT_no hx hn
  have v2 := hV.v.cell 2 (v := .map (some mt)) rfl
  have lv := hV.v.lt
  unfold nmV at hlook ⊢
  clear hn hx
  go_enter Tryz.func90, Tryz.ntmps90
  go_wp2
  go_quiet (fail)
  go_wp2_with (go_at_call 104; fail)
  go_ret
  exact ⟨rfl, below_drewN ((Below.refl _ w).alloc (Nat.le_refl _) _) _⟩

abbrev Tryz.LookP (vb mt ml : Nat) (vx : VX) (tm tn ln : Int) (tks : List TokE) (lks : List LeaE) (W : World) : Prop :=
  W.cell? ⟨vb, 3, none⟩ = some (.map (some ml)) ∧ W.cell? ⟨vb, 1, none⟩ = some (.int .u64 tm) ∧ Hid (Tryz.VaultAt W vb mt ml vx tm tn ln tks lks)
theorem Tryz.VaultAt.lookP {W : World} {vb mt ml : Nat} {vx : VX} {tm tn ln : Int} {tks : List TokE} {lks : List LeaE} (h : Tryz.VaultAt W vb mt ml vx tm tn ln tks lks) : Tryz.LookP vb mt ml vx tm tn ln tks lks W :=
  ⟨h.v.cell 3 rfl, h.v.cell 1 rfl, hid_intro h⟩
theorem Tryz.LookP.drew {W : World} {vb mt ml : Nat} {vx : VX} {tm tn ln : Int} {tks : List TokE} {lks : List LeaE} (h : Tryz.LookP vb mt ml vx tm tn ln tks lks W) : Tryz.LookP vb mt ml vx tm tn ln tks lks W.drew :=
  ((hid_elim h.2.2).below ((Below.refl _ W).drew)).lookP

set_option maxRecDepth 100000 in
set_option maxHeartbeats 2000000 in
theorem Tryz.liveLease_hit (vb mt ml : Nat) (vx : VX) (tm tn ln : Int) (tks : List TokE) (lks : List LeaE) (w : World) (hV : Tryz.VaultAt w vb mt ml vx tm tn ln tks lks) (id : List UInt8) (hid : id.length ≤ 1000000) (l : LeaE) (hl : l ∈ lks) (hp : parseN id = (2, (l.n : Int))) :
    Calls Tryz.prog 80 #[.pointer (some ⟨vb, 0, none⟩), .string ⟨id.toArray⟩] w fun e w' => e = .returned (.pointer (if (!l.pd && decide (tm < l.at_)) then some ⟨l.blk, 0, none⟩ else none)) ∧ Below w.heap.size w w' := by
  have hP := fun W (h : Tryz.LookP vb mt ml vx tm tn ln tks lks W) => Tryz.parse ⟨id.toArray⟩ (by simpa [ByteArray.size] using hid) W (hid_elim h.2.2).env (hid_elim h.2.2).six
  simp only [hp] at hP
  have hlook := fun W (h : Tryz.LookP vb mt ml vx tm tn ln tks lks W) => (hid_elim h.2.2).lookL hl
  have hL := fun W (h : Tryz.LookP vb mt ml vx tm tn ln tks lks W) => Tryz.leaseLive l.blk l.pd l.at_ tm W (((hid_elim h.2.2).held.lea l hl).cell 4 rfl) (((hid_elim h.2.2).held.lea l hl).cell 2 rfl)
  have h0 := hV.lookP
  unfold nmV at hlook hP
  obtain ⟨lv, hlv⟩ : ∃ lv, (!l.pd && decide (tm < l.at_)) = lv := ⟨_, rfl⟩
  simp only [hlv] at hL ⊢
  clear hlv hV
  cases lv
  all_goals
    go_enter Tryz.func80, Tryz.ntmps80
    go_wp2_with fail
    go_region_held3 (Tryz.LookP vb mt ml vx tm tn ln tks lks) (first
      | with_reducible exact Tryz.LookP.drew h0
      | with_reducible assumption) (first | (go_at_call 45; refine (hP _ (by assumption)).mono ?_; rintro e w1 ⟨rfl, hb1⟩; have h1 := (hid_elim (show Hid (Tryz.VaultAt _ vb mt ml vx tm tn ln tks lks) from (h0.drew).2.2)).below hb1 |>.lookP; have hlk := hlook _ h1))
    have hL1 := hL _ h1
    obtain ⟨c3, c1, -⟩ := h1
    go_wp2_with (go_at_call 81; refine hL1.mono ?_; rintro e w2 ⟨rfl, rfl⟩)
    go_ret
    exact ⟨rfl, ((Below.refl _ w).drew).trans hb1⟩

set_option maxRecDepth 100000 in
set_option maxHeartbeats 2000000 in
theorem Tryz.liveLease_miss (vb mt ml : Nat) (vx : VX) (tm tn ln : Int) (tks : List TokE) (lks : List LeaE) (w : World) (hV : Tryz.VaultAt w vb mt ml vx tm tn ln tks lks) (id : List UInt8) (hid : id.length ≤ 1000000) (hn : ∀ l ∈ lks, parseN id ≠ (2, (l.n : Int))) :
    Calls Tryz.prog 80 #[.pointer (some ⟨vb, 0, none⟩), .string ⟨id.toArray⟩] w fun e w' => e = .returned (.pointer none) ∧ Below w.heap.size w w' := by
  have hP := fun W (h : Tryz.LookP vb mt ml vx tm tn ln tks lks W) => Tryz.parse ⟨id.toArray⟩ (by simpa [ByteArray.size] using hid) W (hid_elim h.2.2).env (hid_elim h.2.2).six
  have hlook := fun W (h : Tryz.LookP vb mt ml vx tm tn ln tks lks W) => (hid_elim h.2.2).lookL_no (parseN_wf id) hn
  have h0 := hV.lookP
  simp only at hP
  generalize parseN id = x at *
  unfold nmV at hlook hP
  clear hn hV
  go_enter Tryz.func80, Tryz.ntmps80
  go_wp2_with fail
  go_region_held3 (Tryz.LookP vb mt ml vx tm tn ln tks lks) (first
    | with_reducible exact Tryz.LookP.drew h0
    | with_reducible assumption) (first | (go_at_call 45; refine (hP _ (by assumption)).mono ?_; rintro e w1 ⟨rfl, hb1⟩; have h1 := (hid_elim (show Hid (Tryz.VaultAt _ vb mt ml vx tm tn ln tks lks) from (h0.drew).2.2)).below hb1 |>.lookP; have hlk := hlook _ h1))
  obtain ⟨c3, c1, -⟩ := h1
  go_wp2_with (go_at_call 81; fail)
  go_ret
  exact ⟨rfl, ((Below.refl _ w).drew).trans hb1⟩

set_option maxHeartbeats 1000000 in
theorem Tryz.vAuth_hit (vb mt ml : Nat) (vx : VX) (tm tn ln : Int) (tks : List TokE) (lks : List LeaE) (w : World) (hV : Tryz.VaultAt w vb mt ml vx tm tn ln tks lks) (id pth : List UInt8) (hid : id.length ≤ 1000000) (l : LeaE) (hl : l ∈ lks) (hp : parseN id = (2, (l.n : Int))) (hlv : (!l.pd && decide (tm < l.at_)) = true) :
    Calls Tryz.prog 41 #[.pointer (some ⟨vb, 0, none⟩), .string ⟨id.toArray⟩, .string ⟨pth.toArray⟩] w fun e w' => e = .returned (.bool (l.pth == pth)) ∧ Below w.heap.size w w' := by
  have hF := Tryz.liveLease_hit vb mt ml vx tm tn ln tks lks w hV id hid l hl hp
  rw [if_pos hlv] at hF
  have hc := fun W (hb : Below w.heap.size w W) => ((hV.below hb).held.lea l hl).cell 5 (v := .string ⟨l.pth.toArray⟩) rfl
  generalize l.pth = lp at *
  clear hlv hp
  go_enter Tryz.func41, Tryz.ntmps41
  go_wp2_with (go_at_call 80; refine hF.mono ?_; rintro e w1 ⟨rfl, hb1⟩; have c5 := hc _ hb1)
  go_ret
  exact ⟨rfl, hb1⟩

set_option maxHeartbeats 1000000 in
theorem Tryz.vAuth_miss (vb : Nat) (w : World) (id pth : List UInt8) (hF : Calls Tryz.prog 80 #[.pointer (some ⟨vb, 0, none⟩), .string ⟨id.toArray⟩] w fun e w' => e = .returned (.pointer none) ∧ Below w.heap.size w w') :
    Calls Tryz.prog 41 #[.pointer (some ⟨vb, 0, none⟩), .string ⟨id.toArray⟩, .string ⟨pth.toArray⟩] w fun e w' => e = .returned (.bool false) ∧ Below w.heap.size w w' := by
  go_enter Tryz.func41, Tryz.ntmps41
  go_wp2_with (go_at_call 80; refine hF.mono ?_; rintro e w1 ⟨rfl, hb1⟩)
  go_ret
  exact ⟨rfl, hb1⟩
end Go.Proofs

/-
  The code: a vault with all that is kept true of it; Renew.
-/
namespace Go.Proofs
open Go.RowKit Go.Sort Go.Lib Go.Shelf Go.Maps

structure Tryz.VFull (W : World) (vb mt ml : Nat) (vx : VX) (tm : Int) (tn ln : Nat) (tks : List TokE) (lks : List LeaE) : Prop where
  va : Tryz.VaultAt W vb mt ml vx tm tn ln tks lks
  bt : (tks.map TokE.blk).Nodup
  bl : (lks.map LeaE.blk).Nodup
  nt : ∀ t ∈ tks, t.n ≤ tn
  nl : ∀ l ∈ lks, l.n ≤ ln
  t0 : 0 ≤ tm
  t1 : tm ≤ 18446744073709551615
  mne : mt ≠ ml
  v6 : 6 ≤ vb
  m6 : 6 ≤ mt
  l6 : 6 ≤ ml
  tb6 : ∀ t ∈ tks, 6 ≤ t.blk
  lb6 : ∀ l ∈ lks, 6 ≤ l.blk
section
variable {W W' : World} {vb mt ml : Nat} {vx : VX} {tm : Int} {tn ln : Nat} {tks : List TokE} {lks : List LeaE}
theorem Tryz.VFull.below (h : Tryz.VFull W vb mt ml vx tm tn ln tks lks) (hb : Below W.heap.size W W') : Tryz.VFull W' vb mt ml vx tm tn ln tks lks := { h with va := h.va.below hb }
/-- a turn of one block of another type leaves it. -/
theorem Tryz.VaultAt.grown {tn ln : Int} (h : Tryz.VaultAt W vb mt ml vx tm tn ln tks lks) {B : Nat} {t : TypeId} {cs : Array Value} (hB : BoxN W B t cs) (h6 : 6 ≤ B) (hg : W.grownBy W' (some B)) (h1 : t ≠ 108) (h2 : t ≠ 133) (h3 : t ≠ 114) : Tryz.VaultAt W' vb mt ml vx tm tn ln tks lks := by
  have hk : KeepsT (fun x => x == t) W W' := KeepsT.grown hg (fun j e o ho => by
    cases e
    rw [show W.heap[B]? = _ from hB] at ho
    cases ho
    simp [Stays])
  have b2 : ((fun x => x == t) 133) = false := by simpa using fun e => h2 e.symm
  have b3 : ((fun x => x == t) 114) = false := by simpa using fun e => h3 e.symm
  have b1 : ((fun x => x == t) 108) = false := by simpa using fun e => h1 e.symm
  have hb6 : Below 6 W W' := ⟨hg.os, hg.tape, hg.output, hg.size, fun k hk6 => hg.block k (by have := hB.lt; omega) (by intro e; injection e with e; omega)⟩
  exact ⟨hk.box h.v b1, h.held.keeps hk b2 b3, h.ok, h.env.below hb6 (Nat.le_refl _), Nat.le_trans h.six hg.size⟩
theorem Tryz.VFull.grown (h : Tryz.VFull W vb mt ml vx tm tn ln tks lks) {B : Nat} {t : TypeId} {cs : Array Value} (hB : BoxN W B t cs) (h6 : 6 ≤ B) (hg : W.grownBy W' (some B)) (h1 : t ≠ 108) (h2 : t ≠ 133) (h3 : t ≠ 114) : Tryz.VFull W' vb mt ml vx tm tn ln tks lks := { h with va := h.va.grown hB h6 hg h1 h2 h3 }
end

theorem LeaE.set_ok {tks : List TokE} {lks : List LeaE} (h : ListsOk tks lks) {k : Nat} {l : LeaE} (hl : lks[k]? = some l) (a : Int) : ListsOk tks (lks.set k { l with at_ := a }) := by
  have hm : (lks.set k { l with at_ := a }).map LeaE.n = lks.map LeaE.n := by
    rw [List.map_set]
    exact set_same (by rw [List.getElem?_map, hl]; rfl)
  refine ⟨h.lenT, by simpa using h.lenL, h.incT, ?_, h.limT, ?_⟩
  · have : (lks.map LeaE.n).Pairwise (fun a b => a < b) := List.pairwise_map.2 h.incL
    rw [← hm] at this
    exact List.pairwise_map.1 this
  · intro x hx
    rcases List.mem_or_eq_of_mem_set hx with hx | rfl
    · exact h.limL x hx
    · exact h.limL l (List.mem_of_getElem? hl)

/-- the vault behind a lease's new AT. -/
theorem Tryz.VFull.setAt {W : World} {vb mt ml : Nat} {vx : VX} {tm : Int} {tn ln : Nat} {tks : List TokE} {lks : List LeaE} (h : Tryz.VFull W vb mt ml vx tm tn ln tks lks) {k : Nat} {l : LeaE} (hl : lks[k]? = some l) (a : Int) :
    Tryz.VFull (W.setCell ⟨l.blk, 2, none⟩ (.int .u64 a)) vb mt ml vx tm tn ln tks (lks.set k { l with at_ := a }) := by
  have hmem : l ∈ lks := List.mem_of_getElem? hl
  have h6 : 6 ≤ l.blk := h.lb6 l hmem
  have hL := h.va.held.lea l hmem
  have hkey : (lks.set k { l with at_ := a }).map LeaE.key = lks.map LeaE.key := by
    rw [List.map_set]
    exact set_same (by rw [List.getElem?_map, hl]; rfl)
  have hblk : (lks.set k { l with at_ := a }).map LeaE.blk = lks.map LeaE.blk := by
    rw [List.map_set]
    exact set_same (by rw [List.getElem?_map, hl]; rfl)
  have hg : W.grownBy (W.setCell ⟨l.blk, 2, none⟩ (.int .u64 a)) (some l.blk) := ⟨rfl, rfl, rfl, by simp, fun j _ hne => set_other _ _ _ _ _ (fun e => hne (by rw [e]))⟩
  have hb6 : Below 6 W (W.setCell ⟨l.blk, 2, none⟩ (.int .u64 a)) := (Below.refl 6 W).setCell (p := ⟨l.blk, 2, none⟩) h6 _
  obtain ⟨⟨n, hn, hm⟩, ⟨n', hn', hm'⟩, ht, hle⟩ := h.va.held
  refine ⟨⟨h.va.v.other (h.va.v.ne hL (by decide)) _ _, ⟨⟨n, hn, hm.setCell (hL.ne_map hm) _⟩, ⟨n', hn', by rw [hkey]; exact hm'.setCell (hL.ne_map hm') _⟩, fun t htm => (ht t htm).other ((ht t htm).ne hL (by decide)) _ _, fun x hx => ?_⟩, LeaE.set_ok h.va.ok hl a, h.va.env.below hb6 (Nat.le_refl _), by simpa using h.va.six⟩, h.bt, by rw [hblk]; exact h.bl, h.nt, fun x hx => ?_, h.t0, h.t1, h.mne, h.v6, h.m6, h.l6, h.tb6, fun x hx => ?_⟩
  · by_cases hxe : x = { l with at_ := a }
    · subst hxe
      exact hL.set 2 (.int .u64 a)
    · rcases List.mem_or_eq_of_mem_set hx with hx' | rfl
      · have hne : x.blk ≠ l.blk := by
          intro e
          obtain ⟨j, hj, hjx⟩ := List.mem_iff_getElem.1 hx
          have hj' : j < lks.length := by simpa using hj
          obtain ⟨hk, hke⟩ := List.getElem?_eq_some_iff.1 hl
          have hjk : j = k := by
            have h1 : (lks.map LeaE.blk)[j]'(by simpa using hj') = x.blk := by
              have : ((lks.set k { l with at_ := a }).map LeaE.blk)[j]'(by simpa using hj) = x.blk := by rw [List.getElem_map, hjx]
              simpa only [hblk] using this
            have h2 : (lks.map LeaE.blk)[k]'(by simpa using hk) = l.blk := by rw [List.getElem_map, hke]
            have hpw := List.pairwise_iff_getElem.1 h.bl
            rcases Nat.lt_trichotomy j k with hlt | heq | hgt
            · exact absurd (by rw [h1, h2, e]) (hpw j k (by simpa using hj') (by simpa using hk) hlt)
            · exact heq
            · exact absurd (by rw [h1, h2, e]) (hpw k j (by simpa using hk) (by simpa using hj') hgt)
          subst hjk
          rw [List.getElem_set_self] at hjx
          exact hxe hjx.symm
        exact (hle x hx').other hne _ _
      · exact absurd rfl hxe
  · rcases List.mem_or_eq_of_mem_set hx with hx | rfl
    · exact h.nl x hx
    · exact h.nl l hmem
  · rcases List.mem_or_eq_of_mem_set hx with hx | rfl
    · exact h.lb6 x hx
    · exact h6

theorem ownsMap_tight {H : Type} {P : Program} {k : TypeId} {R : Value → Option (DataW H × List MemPlace)} {D : DataW H} {W : World} {b n : Nat} (h : W.ownsMap P k R b n D) : W.ownsMap P k R b (Maps.size D) D := by
  obtain ⟨es, clock, hb, F, hs, rfl⟩ := h
  exact ⟨es, clock, hb, F, by simp [Maps.size, length_sorted], rfl⟩

section
variable {W W' : World} {vb mt ml : Nat} {vx : VX} {tm : Int} {tn ln : Nat} {tks : List TokE} {lks : List LeaE}
theorem Tryz.VFull.addT (h : Tryz.VFull W vb mt ml vx tm tn ln tks lks) (hS : Spares [vb, mt] W W') (hv : BoxN W' vb 108 (Tryz.vaultC vx tm mt ml ((tn + 1 : Nat) : Int) ln)) (T : TokE) (hT : T.n = tn + 1) (hau : T.au < u64lim) (hnb : W.heap.size ≤ T.blk) (hbox : BoxN W' T.blk 133 T.cells) {n : Nat}
    (hM : W'.ownsMap Tryz.prog 97 ptrR mt n (mapD ((tks ++ [T]).map TokE.key).reverse)) (hlen : tks.length ≤ 100) (htn : tn + 1 < u64lim) : Tryz.VFull W' vb mt ml vx tm (tn + 1) ln (tks ++ [T]) lks := by
  have hb6 := hS.below (B := 6) h.va.six (fun b hb => by
    rcases List.mem_cons.1 hb with rfl | hb
    · exact h.v6
    · rw [List.mem_singleton.1 hb]; exact h.m6)
  have hok : ListsOk (tks ++ [T]) lks := ⟨by simp; omega, h.va.ok.lenL, List.pairwise_append.2 ⟨h.va.ok.incT, by simp, fun a ha b hb => by rw [List.mem_singleton.1 hb, hT]; have := h.nt a ha; omega⟩, h.va.ok.incL, fun t ht => by
    rcases List.mem_append.1 ht with ht | ht
    · exact h.va.ok.limT t ht
    · rw [List.mem_singleton.1 ht]; exact ⟨by rw [hT]; exact htn, hau⟩, h.va.ok.limL⟩
  have hsz : Maps.size (mapD ((tks ++ [T]).map TokE.key).reverse) ≤ 1000 := by
    rw [Tryz.nmType.size_mapD _ hok.ksT.1]; simp; omega
  obtain ⟨⟨n1, hn1, hm1⟩, ⟨n', hn', hm'⟩, ht, hle⟩ := h.va.held
  have ne1 : ∀ {t : TypeId} {b : Nat} {cs : Array Value}, BoxN W b t cs → t ≠ 108 → b ∉ [vb, mt] := fun hB hne hmem => by
    rcases List.mem_cons.1 hmem with e | e
    · exact hB.ne h.va.v hne e
    · exact hB.ne_map hm1 (List.mem_singleton.1 e).symm
  refine ⟨⟨hv, ⟨⟨_, hsz, ownsMap_tight hM⟩, ⟨n', hn', hS.map hm' (fun hmem => by
      rcases List.mem_cons.1 hmem with e | e
      · exact h.va.v.ne_map hm' e
      · exact h.mne (List.mem_singleton.1 e).symm)⟩, fun t htm => ?_, fun l hl => hS.box (hle l hl) (ne1 (hle l hl) (by decide))⟩, hok, h.va.env.below hb6 (Nat.le_refl _), Nat.le_trans h.va.six hS.size⟩, ?_, h.bl, fun t htm => ?_, h.nl, h.t0, h.t1, h.mne, h.v6, h.m6, h.l6, fun t htm => ?_, h.lb6⟩
  · rcases List.mem_append.1 htm with htm | htm
    · exact hS.box (ht t htm) (ne1 (ht t htm) (by decide))
    · rw [List.mem_singleton.1 htm]; exact hbox
  · rw [List.map_append]
    refine List.nodup_append.2 ⟨h.bt, by simp, fun a ha b hb => ?_⟩
    obtain ⟨t, htm, rfl⟩ := List.mem_map.1 ha
    have hb' : b = T.blk := by simpa using hb
    have := (ht t htm).lt
    omega
  · rcases List.mem_append.1 htm with htm | htm
    · have := h.nt t htm; omega
    · rw [List.mem_singleton.1 htm, hT]; omega
  · rcases List.mem_append.1 htm with htm | htm
    · exact h.tb6 t htm
    · rw [List.mem_singleton.1 htm]; have := h.va.six; omega
theorem Tryz.VFull.addL (h : Tryz.VFull W vb mt ml vx tm tn ln tks lks) (hS : Spares [vb, ml] W W') (hv : BoxN W' vb 108 (Tryz.vaultC vx tm mt ml tn ((ln + 1 : Nat) : Int))) (T : LeaE) (hT : T.n = ln + 1) (hau : T.au < u64lim) (hnb : W.heap.size ≤ T.blk) (hbox : BoxN W' T.blk 114 T.cells) {n : Nat}
    (hM : W'.ownsMap Tryz.prog 97 ptrR ml n (mapD ((lks ++ [T]).map LeaE.key).reverse)) (hlen : lks.length ≤ 100) (htn : ln + 1 < u64lim) : Tryz.VFull W' vb mt ml vx tm tn (ln + 1) tks (lks ++ [T]) := by
  have hb6 := hS.below (B := 6) h.va.six (fun b hb => by
    rcases List.mem_cons.1 hb with rfl | hb
    · exact h.v6
    · rw [List.mem_singleton.1 hb]; exact h.l6)
  have hok : ListsOk tks (lks ++ [T]) := ⟨h.va.ok.lenT, by simp; omega, h.va.ok.incT, List.pairwise_append.2 ⟨h.va.ok.incL, by simp, fun a ha b hb => by rw [List.mem_singleton.1 hb, hT]; have := h.nl a ha; omega⟩, h.va.ok.limT, fun t ht => by
    rcases List.mem_append.1 ht with ht | ht
    · exact h.va.ok.limL t ht
    · rw [List.mem_singleton.1 ht]; exact ⟨by rw [hT]; exact htn, hau⟩⟩
  have hsz : Maps.size (mapD ((lks ++ [T]).map LeaE.key).reverse) ≤ 1000 := by
    rw [Tryz.nmType.size_mapD _ hok.ksL.1]; simp; omega
  obtain ⟨⟨n1, hn1, hm1⟩, ⟨n', hn', hm'⟩, ht, hle⟩ := h.va.held
  have ne1 : ∀ {t : TypeId} {b : Nat} {cs : Array Value}, BoxN W b t cs → t ≠ 108 → b ∉ [vb, ml] := fun hB hne hmem => by
    rcases List.mem_cons.1 hmem with e | e
    · exact hB.ne h.va.v hne e
    · exact hB.ne_map hm' (List.mem_singleton.1 e).symm
  refine ⟨⟨hv, ⟨⟨n1, hn1, hS.map hm1 (fun hmem => by
      rcases List.mem_cons.1 hmem with e | e
      · exact h.va.v.ne_map hm1 e
      · exact h.mne (List.mem_singleton.1 e))⟩, ⟨_, hsz, ownsMap_tight hM⟩, fun t htm => hS.box (ht t htm) (ne1 (ht t htm) (by decide)), fun l hl => ?_⟩, hok, h.va.env.below hb6 (Nat.le_refl _), Nat.le_trans h.va.six hS.size⟩, h.bt, ?_, h.nt, fun t htm => ?_, h.t0, h.t1, h.mne, h.v6, h.m6, h.l6, h.tb6, fun t htm => ?_⟩
  · rcases List.mem_append.1 hl with hl | hl
    · exact hS.box (hle l hl) (ne1 (hle l hl) (by decide))
    · rw [List.mem_singleton.1 hl]; exact hbox
  · rw [List.map_append]
    refine List.nodup_append.2 ⟨h.bl, by simp, fun a ha b hb => ?_⟩
    obtain ⟨t, htm, rfl⟩ := List.mem_map.1 ha
    have hb' : b = T.blk := by simpa using hb
    have := (hle t htm).lt
    omega
  · rcases List.mem_append.1 htm with htm | htm
    · have := h.nl t htm; omega
    · rw [List.mem_singleton.1 htm, hT]; omega
  · rcases List.mem_append.1 htm with htm | htm
    · exact h.lb6 t htm
    · rw [List.mem_singleton.1 htm]; have := h.va.six; omega
end
end Go.Proofs

/-
  The code: Renew.
-/
namespace Go.Proofs
open Go.RowKit Go.Sort Go.Lib Go.Shelf Go.Maps

def renewL (tm ttl : Int) (l : LeaE) : Int := max l.at_ (min (plusI tm ttl) l.last)

set_option maxHeartbeats 1000000 in
theorem Tryz.vRenew_miss (vb : Nat) (w : World) (id : List UInt8) (ttl : Int) (hF : Calls Tryz.prog 80 #[.pointer (some ⟨vb, 0, none⟩), .string ⟨id.toArray⟩] w fun e w' => e = .returned (.pointer none) ∧ Below w.heap.size w w') :
    Calls Tryz.prog 42 #[.pointer (some ⟨vb, 0, none⟩), .string ⟨id.toArray⟩, .int .u64 ttl] w fun e w' => e = .returned (.tuple #[.int .u64 0, .iface 32 (.int .i64 5)]) ∧ Below w.heap.size w w' := by
  go_enter Tryz.func42, Tryz.ntmps42
  go_wp2_with (go_at_call 80; refine hF.mono ?_; rintro e w1 ⟨rfl, hb1⟩)
  exact bodyPost_ret (v := .tuple #[.int .u64 0, .iface 32 (.int .i64 5)]) (by simp [results, Tryz.results42, go_sem]) rfl ⟨rfl, hb1⟩

/-- the number that a cell holds. -/
def cellInt (W : World) (a : Addr) : Int := match W.cell? a with | some (.int .u64 z) => z | _ => 0
theorem cellInt_eq {W : World} {a : Addr} {z : Int} (h : W.cell? a = some (.int .u64 z)) : cellInt W a = z := by unfold cellInt; rw [h]
theorem cellInt_some {W : World} {a : Addr} {z : Int} (h : W.cell? a = some (.int .u64 z)) : W.cell? a = some (.int .u64 (cellInt W a)) := by rw [cellInt_eq h]; exact h
abbrev Tryz.RenP (vb b : Nat) (tm la : Int) (W : World) : Prop :=
  W.cell? ⟨vb, 1, none⟩ = some (.int .u64 tm) ∧ W.cell? ⟨b, 2, none⟩ = some (.int .u64 (cellInt W ⟨b, 2, none⟩)) ∧ W.cell? ⟨b, 6, none⟩ = some (.int .u64 la) ∧ W.frozen? ⟨b, 2, none⟩ = false
theorem Tryz.RenP.drew {vb b : Nat} {tm la : Int} {W : World} (h : Tryz.RenP vb b tm la W) : Tryz.RenP vb b tm la W.drew := h
theorem Tryz.RenP.set {vb b : Nat} {tm la : Int} {W : World} (h : Tryz.RenP vb b tm la W) (x : Int) : Tryz.RenP vb b tm la (W.setCell ⟨b, 2, none⟩ (.int .u64 x)) := by
  obtain ⟨h1, h2, h3, h4⟩ := h
  refine ⟨(World.cell?_setCell_other _ _ _ _ (by simp)).trans h1, cellInt_some (z := x) ?_, (World.cell?_setCell_other _ _ _ _ (by simp)).trans h3, by rw [World.frozen?_setCell]; exact h4⟩
  exact World.cell?_setCell_same _ _ _ (by rw [h2])

set_option maxRecDepth 100000 in
set_option maxHeartbeats 2000000 in
theorem Tryz.vRenew_hit (vb mt ml : Nat) (vx : VX) (tm : Int) (tn ln : Nat) (tks : List TokE) (lks : List LeaE) (w : World) (hV : Tryz.VFull w vb mt ml vx tm tn ln tks lks) (id : List UInt8) (hid : id.length ≤ 1000000) (k : Nat) (l : LeaE) (hl : lks[k]? = some l) (hp : parseN id = (2, (l.n : Int))) (hlv : (!l.pd && decide (tm < l.at_)) = true) (ttl : Int) (ht0 : 0 ≤ ttl) (ht1 : ttl ≤ 18446744073709551615) :
    Calls Tryz.prog 42 #[.pointer (some ⟨vb, 0, none⟩), .string ⟨id.toArray⟩, .int .u64 ttl] w fun e w' => e = .returned (.tuple #[.int .u64 (renewL tm ttl l), .nilIface]) ∧ Tryz.VFull w' vb mt ml vx tm tn ln tks (lks.set k { l with at_ := renewL tm ttl l }) ∧ w.grownBy w' (some l.blk) := by
  have hF := Tryz.liveLease_hit vb mt ml vx tm tn ln tks lks w hV.va id hid l (List.mem_of_getElem? hl) hp
  rw [if_pos hlv] at hF
  have hc1 := fun W (h : Below w.heap.size w W) => (hV.below h).va.v.cell 1 (v := .int .u64 tm) rfl
  have hc2 := fun W (h : Below w.heap.size w W) => ((hV.below h).va.held.lea l (List.mem_of_getElem? hl)).cell 2 (v := .int .u64 l.at_) rfl
  have hc6 := fun W (h : Below w.heap.size w W) => ((hV.below h).va.held.lea l (List.mem_of_getElem? hl)).cell 6 (v := .int .u64 l.last) rfl
  have hf2 := fun W (h : Below w.heap.size w W) => ((hV.below h).va.held.lea l (List.mem_of_getElem? hl)).frozen 2
  have hne : vb ≠ l.blk := hV.va.v.ne (hV.va.held.lea l (List.mem_of_getElem? hl)) (by decide)
  have hset := hid_intro (fun W (hb : Below w.heap.size w W) => (hV.below hb).setAt hl (renewL tm ttl l))
  have hA := fun W => Tryz.later tm ttl hV.t0 hV.t1 ht0 ht1 W
  have hr : Hid (renewL tm ttl l = max l.at_ (min (plusI tm ttl) l.last)) := hid_intro rfl
  generalize renewL tm ttl l = ra at *
  generalize plusI tm ttl = p at *
  generalize l.at_ = a at *
  generalize l.last = la at *
  clear hlv hp
  go_enter Tryz.func42, Tryz.ntmps42
  go_wp2_with (go_at_call 80; refine hF.mono ?_; rintro e w1 ⟨rfl, hb1⟩)
  have hP1 : Tryz.RenP vb l.blk tm la w1 := ⟨hc1 _ hb1, cellInt_some (hc2 _ hb1), hc6 _ hb1, hf2 _ hb1⟩
  refine wp_region_held_drew (S := Tryz.RenP vb l.blk tm la) (by kernel_rfl) hP1.drew (fun hS0 => ?_)
  refine wpAnyH_take (i := 0) (v := ?v0) rfl (by kernel_rfl) (by kernel_rfl) (by kernel_rfl) (fun _ _ _ h => h) (Or.inl ⟨by rfl, ?y0⟩) hS0 ?_
  case y0 => (intro w hSw; (try dsimp only at hSw); go_simp; try with_reducible rfl)
  refine wpAnyH_take (i := 1) (v := ?v1) rfl (by kernel_rfl) (by kernel_rfl) (by kernel_rfl) (fun _ _ _ h => h) (Or.inl ⟨by rfl, ?y1⟩) hS0 ?_
  case y1 => (intro w hSw; (try dsimp only at hSw); go_simp; try with_reducible rfl)
  refine wpAnyH_take (i := 2) (v := ?v2) rfl (by kernel_rfl) (by kernel_rfl) (by kernel_rfl) (fun _ _ _ h => h) (Or.inl ⟨by rfl, ?y2⟩) hS0 ?_
  case y2 => (intro w hSw; (try dsimp only at hSw); go_simp; try with_reducible rfl)
  refine wpAnyH_take (i := 3) (v := ?v3) rfl (by kernel_rfl) (by kernel_rfl) (by kernel_rfl) (fun _ _ _ h => h) (Or.inl ⟨by rfl, ?y3⟩) hS0 ?_
  case y3 => (intro w hSw; (try dsimp only at hSw); go_simp; try with_reducible rfl)
  refine wpAnyH_take (i := 4) (v := ?v4) rfl (by kernel_rfl) (by kernel_rfl) (by kernel_rfl) (fun _ _ _ h => h) (Or.inl ⟨by rfl, ?y4⟩) hS0 ?_
  case y4 => (intro w hSw; (try dsimp only at hSw); go_simp; try with_reducible rfl)
  refine wpAnyH_take (i := 6) (v := ?v6) rfl (by kernel_rfl) (by kernel_rfl) (by kernel_rfl) (fun _ _ _ h => h) (Or.inl ⟨by rfl, ?y6⟩) hS0 ?_
  case y6 => (intro w hSw; (try dsimp only at hSw); go_simp; try with_reducible rfl)
  refine wpAnyH_take (i := 7) (v := ?v7) rfl (by kernel_rfl) (by kernel_rfl) (by kernel_rfl) (fun _ _ _ h => h) (Or.inl ⟨by rfl, ?y7⟩) hS0 ?_
  case y7 => (intro w hSw; (try dsimp only at hSw); go_simp; try with_reducible rfl)
  refine wpAnyH_take (i := 8) (v := ?v8) rfl (by kernel_rfl) (by kernel_rfl) (by kernel_rfl) (fun _ _ _ h => h) (Or.inl ⟨by rfl, ?y8⟩) hS0 ?_
  case y8 => (intro w hSw; (try dsimp only at hSw); go_simp; try with_reducible rfl)
  refine wpAnyH_take (i := 9) (v := ?v9) rfl (by kernel_rfl) (by kernel_rfl) (by kernel_rfl) (fun _ _ _ h => h) (Or.inl ⟨by rfl, ?y9⟩) hS0 ?_
  case y9 => (intro w hSw; (try dsimp only at hSw); go_simp; try with_reducible rfl)
  refine wpAnyH_take (i := 10) (v := ?v10) rfl (by kernel_rfl) (by kernel_rfl) (by kernel_rfl) (fun _ _ _ h => h) (Or.inl ⟨by rfl, ?y10⟩) hS0 ?_
  case y10 => (intro w hSw; (try dsimp only at hSw); go_simp; try with_reducible rfl)
  refine wpAnyH_take (i := 12) (v := ?v12) rfl (by kernel_rfl) (by kernel_rfl) (by kernel_rfl) (fun _ _ _ h => h) (Or.inl ⟨by rfl, ?y12⟩) hS0 ?_
  case y12 => (intro w hSw; (try dsimp only at hSw); go_simp; try with_reducible rfl)
  refine wpAnyH_take (i := 13) (v := ?v13) rfl (by kernel_rfl) (by kernel_rfl) (by kernel_rfl) (fun _ _ _ h => h) (Or.inl ⟨by rfl, ?y13⟩) hS0 ?_
  case y13 => (intro w hSw; (try dsimp only at hSw); go_simp; try with_reducible rfl)
  refine wpAnyH_take (i := 14) (v := ?v14) rfl (by kernel_rfl) (by kernel_rfl) (by kernel_rfl) (fun _ _ _ h => h) (Or.inl ⟨by rfl, ?y14⟩) hS0 ?_
  case y14 => (intro w hSw; (try dsimp only at hSw); go_simp; try with_reducible rfl)
  refine wpAnyH_take (i := 15) (v := ?v15) rfl (by kernel_rfl) (by kernel_rfl) (by kernel_rfl) (fun _ _ _ h => h) (Or.inl ⟨by rfl, ?y15⟩) hS0 ?_
  case y15 => (intro w hSw; (try dsimp only at hSw); go_simp; try with_reducible rfl)
  have q2 := hc2 _ hb1
  have f2 := hf2 _ hb1
  refine wpAnyH_ready (rs := [5, 11]) (by kernel_rfl) (by simp) ?_
  refine AllReadyH.cons rfl (fun K hK => ?_) (AllReadyH.cons rfl (fun K hK => ?_) AllReadyH.nil)
  · clear f2
    go_simp
    refine hK.out _ _ hS0 (fun _ => ?_)
    clear hK K
    refine wpAnyH_ready (rs := [11]) (by kernel_rfl) (by simp) ?_
    refine AllReadyH.cons rfl (fun K hK => ?_) AllReadyH.nil
    go_simp
    refine (hA _).mono ?_
    rintro e w2 ⟨rfl, rfl⟩
    refine hK.out _ _ hS0 (fun _ => ?_)
    clear hK K
    have f2 := hf2 _ hb1
    refine wpAnyH_take (i := 16) (v := ?v16) rfl (by kernel_rfl) (by kernel_rfl) (by kernel_rfl) (fun _ _ _ h => h) (Or.inl ⟨by rfl, ?y16⟩) hS0 ?_
    case y16 => (intro w hSw; (try dsimp only at hSw); go_simp; try with_reducible rfl)
    refine wpAnyH_take (i := 17) (v := ?v17) rfl (by kernel_rfl) (by kernel_rfl) (by kernel_rfl) (fun _ _ _ h => h) (Or.inl ⟨by rfl, ?y17⟩) hS0 ?_
    case y17 => (intro w hSw; (try dsimp only at hSw); go_simp; try with_reducible rfl)
    refine wpAnyH_take (i := 18) (v := ?v18) rfl (by kernel_rfl) (by kernel_rfl) (by kernel_rfl) (fun _ _ _ h => h) (Or.inl ⟨by rfl, ?y18⟩) hS0 ?_
    case y18 => (intro w hSw; (try dsimp only at hSw); go_simp; try with_reducible rfl)
    refine wpAnyH_take (i := 19) (v := ?v19) rfl (by kernel_rfl) (by kernel_rfl) (by kernel_rfl) (fun _ _ _ h => h) (Or.inl ⟨by rfl, ?y19⟩) hS0 ?_
    case y19 => (intro w hSw; (try dsimp only at hSw); go_simp; try with_reducible rfl)
    refine wpAnyH_take (i := 20) (v := ?v20) rfl (by kernel_rfl) (by kernel_rfl) (by kernel_rfl) (fun _ _ _ h => h) (Or.inl ⟨by rfl, ?y20⟩) hS0 ?_
    case y20 => (intro w hSw; (try dsimp only at hSw); go_simp; try with_reducible rfl)
    refine wpAnyH_ready (rs := [21]) (by kernel_rfl) (by simp) ?_
    refine AllReadyH.cons rfl (fun K hK => ?_) AllReadyH.nil
    go_simp
    refine hK.out _ _ (Tryz.RenP.drew (Tryz.RenP.set hP1 _)) (fun _ => ?_)
    clear hK K
    refine wpAnyH_done (by kernel_rfl) ?_ _
    have hX : max (cellInt w1.drew ⟨l.blk, 2, none⟩) (min p la) = ra := by rw [cellInt_eq (show w1.drew.cell? ⟨l.blk, 2, none⟩ = some (.int .u64 a) from q2)]; exact (hid_elim hr).symm
    rw [hX]
    have hw : (w1.setCell ⟨l.blk, 2, none⟩ (.int .u64 ra)).cell? ⟨l.blk, 2, none⟩ = some (.int .u64 ra) := World.cell?_setCell_same _ _ _ (by rw [q2])
    have hF9 := hid_intro (show Tryz.VFull (w1.setCell ⟨l.blk, 2, none⟩ (.int .u64 ra)).drew vb mt ml vx tm tn ln tks _ from hid_elim hset w1.drew hb1.drew)
    have hG9 : Hid (w.grownBy (w1.setCell ⟨l.blk, 2, none⟩ (.int .u64 ra)).drew (some l.blk)) := hid_intro ⟨hb1.os, hb1.tape, hb1.output, by have := hb1.size; simpa [World.drew] using this, fun j hj hnj => by
      have hd : j ≠ l.blk := fun e => hnj (by rw [e])
      show (w1.setCell ⟨l.blk, 2, none⟩ (.int .u64 ra)).heap[j]? = _
      rw [set_other _ _ _ _ _ hd]
      exact hb1.block j hj⟩
    clear hX hset hr hc1 hc2 hc6 hf2 hP1 hS0 hA hF q2 f2
    generalize (w1.setCell ⟨l.blk, 2, none⟩ (.int .u64 ra)) = w9 at *
    go_wp2
    exact bodyPost_ret (v := .tuple #[.int .u64 ra, .nilIface]) (by simp [results, Tryz.results42, go_sem]) rfl ⟨rfl, hid_elim hF9, hid_elim hG9⟩
  · clear f2
    go_simp
    refine (hA _).mono ?_
    rintro e w2 ⟨rfl, rfl⟩
    refine hK.out _ _ hS0 (fun _ => ?_)
    clear hK K
    refine wpAnyH_take (i := 16) (v := ?v16) rfl (by kernel_rfl) (by kernel_rfl) (by kernel_rfl) (fun _ _ _ h => h) (Or.inl ⟨by rfl, ?y16⟩) hS0 ?_
    case y16 => (intro w hSw; (try dsimp only at hSw); go_simp; try with_reducible rfl)
    refine wpAnyH_ready (rs := [5]) (by kernel_rfl) (by simp) ?_
    refine AllReadyH.cons rfl (fun K hK => ?_) AllReadyH.nil
    go_simp
    refine hK.out _ _ hS0 (fun _ => ?_)
    clear hK K
    have f2 := hf2 _ hb1
    refine wpAnyH_take (i := 17) (v := ?v17) rfl (by kernel_rfl) (by kernel_rfl) (by kernel_rfl) (fun _ _ _ h => h) (Or.inl ⟨by rfl, ?y17⟩) hS0 ?_
    case y17 => (intro w hSw; (try dsimp only at hSw); go_simp; try with_reducible rfl)
    refine wpAnyH_take (i := 18) (v := ?v18) rfl (by kernel_rfl) (by kernel_rfl) (by kernel_rfl) (fun _ _ _ h => h) (Or.inl ⟨by rfl, ?y18⟩) hS0 ?_
    case y18 => (intro w hSw; (try dsimp only at hSw); go_simp; try with_reducible rfl)
    refine wpAnyH_take (i := 19) (v := ?v19) rfl (by kernel_rfl) (by kernel_rfl) (by kernel_rfl) (fun _ _ _ h => h) (Or.inl ⟨by rfl, ?y19⟩) hS0 ?_
    case y19 => (intro w hSw; (try dsimp only at hSw); go_simp; try with_reducible rfl)
    refine wpAnyH_take (i := 20) (v := ?v20) rfl (by kernel_rfl) (by kernel_rfl) (by kernel_rfl) (fun _ _ _ h => h) (Or.inl ⟨by rfl, ?y20⟩) hS0 ?_
    case y20 => (intro w hSw; (try dsimp only at hSw); go_simp; try with_reducible rfl)
    refine wpAnyH_ready (rs := [21]) (by kernel_rfl) (by simp) ?_
    refine AllReadyH.cons rfl (fun K hK => ?_) AllReadyH.nil
    go_simp
    refine hK.out _ _ (Tryz.RenP.drew (Tryz.RenP.set hP1 _)) (fun _ => ?_)
    clear hK K
    refine wpAnyH_done (by kernel_rfl) ?_ _
    have hX : max (cellInt w1.drew ⟨l.blk, 2, none⟩) (min p la) = ra := by rw [cellInt_eq (show w1.drew.cell? ⟨l.blk, 2, none⟩ = some (.int .u64 a) from q2)]; exact (hid_elim hr).symm
    rw [hX]
    have hw : (w1.setCell ⟨l.blk, 2, none⟩ (.int .u64 ra)).cell? ⟨l.blk, 2, none⟩ = some (.int .u64 ra) := World.cell?_setCell_same _ _ _ (by rw [q2])
    have hF9 := hid_intro (show Tryz.VFull (w1.setCell ⟨l.blk, 2, none⟩ (.int .u64 ra)).drew vb mt ml vx tm tn ln tks _ from hid_elim hset w1.drew hb1.drew)
    have hG9 : Hid (w.grownBy (w1.setCell ⟨l.blk, 2, none⟩ (.int .u64 ra)).drew (some l.blk)) := hid_intro ⟨hb1.os, hb1.tape, hb1.output, by have := hb1.size; simpa [World.drew] using this, fun j hj hnj => by
      have hd : j ≠ l.blk := fun e => hnj (by rw [e])
      show (w1.setCell ⟨l.blk, 2, none⟩ (.int .u64 ra)).heap[j]? = _
      rw [set_other _ _ _ _ _ hd]
      exact hb1.block j hj⟩
    clear hX hset hr hc1 hc2 hc6 hf2 hP1 hS0 hA hF q2 f2
    generalize (w1.setCell ⟨l.blk, 2, none⟩ (.int .u64 ra)) = w9 at *
    go_wp2
    exact bodyPost_ret (v := .tuple #[.int .u64 ra, .nilIface]) (by simp [results, Tryz.results42, go_sem]) rfl ⟨rfl, hid_elim hF9, hid_elim hG9⟩
end Go.Proofs
