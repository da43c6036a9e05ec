import Derived.Test.YthifclklnopkfaaGreatDoorHostR
/-
  The code: what a try of a lease asks: entryOf, queueToken of a token that is live, plain's revoker.
-/
namespace Go.Proofs
open Go.RowKit Go.Sort Go.Lib Go.Shelf Go.Maps Go.WideMaps

section
variable {P : Program} {t : TypeId} {ks : List ((Int × Int) × Nat)} {x : Int × Int} {w : World} {b n : Nat} {tm e : TypeId}
/-- 'm[x]', there. -/
theorem NmType.look1_hit (T : NmType P t) (hk : KsOk ks) (hx : NmWf x) (hown : w.ownsMap P t ptrR b n (mapD ks)) (ht : P.underlying tm = some (.map t e)) (hz : (zeroValue e).run P w = .ok (.pointer none) w) {pb : Nat} (hg : ksGet ks x = some pb) :
    (Instr.lookup tm (.map (some b)) (nmV x) false).run P w = .ok (.pointer (some ⟨pb, 0, none⟩)) w := by
  obtain ⟨v, ps, hrun, hv⟩ := hown.lookup (Keyed.of_law T.law) ht hz (zd := .nil) (zp := []) rfl (T.keyOf hx)
  have h1 := T.atKey_mapD hx .nil ks hk
  rw [hg] at h1
  rw [show Lit.string (nmB x) = nmL x from rfl, h1] at hv
  rw [hrun, ptrR_lit hv]
end
section
variable {W : World} {vb mt ml : Nat} {vx : VX} {tm tn ln : Int} {tks : List TokE} {lks : List LeaE}
theorem Tryz.VaultAt.look1T (h : Tryz.VaultAt W vb mt ml vx tm tn ln tks lks) {t : TokE} (ht : t ∈ tks) :
    (Instr.lookup 102 (.map (some mt)) (nmV (1, (t.n : Int))) false).run Tryz.prog W = .ok (.pointer (some ⟨t.blk, 0, none⟩)) W := by
  obtain ⟨n, _, hm⟩ := h.held.mapT
  exact Tryz.nmType.look1_hit h.ok.ksT.1 (wfNm (.inl rfl) (h.ok.limT t ht).1) hm Tryz.underlying102 (Tryz.zeroValue123 _) (ksGet_of_mem h.ok.ksT.1 (List.mem_reverse.2 (List.mem_map.2 ⟨t, ht, rfl⟩)))
theorem Tryz.VaultAt.look1L (h : Tryz.VaultAt W vb mt ml vx tm tn ln tks lks) {t : LeaE} (ht : t ∈ lks) :
    (Instr.lookup 103 (.map (some ml)) (nmV (2, (t.n : Int))) false).run Tryz.prog W = .ok (.pointer (some ⟨t.blk, 0, none⟩)) W := by
  obtain ⟨n, _, hm⟩ := h.held.mapL
  exact Tryz.nmType.look1_hit h.ok.ksL.1 (wfNm (.inr rfl) (h.ok.limL t ht).1) hm Tryz.underlying103 (Tryz.zeroValue109 _) (ksGet_of_mem h.ok.ksL.1 (List.mem_reverse.2 (List.mem_map.2 ⟨t, ht, rfl⟩)))
end

set_option maxRecDepth 100000 in
set_option maxHeartbeats 1000000 in
theorem Tryz.entryOf_lea (vb mt ml : Nat) (vx : VX) (tm tn ln : Int) (tks : List TokE) (lks : List LeaE) (w : World) (hV : Tryz.VaultAt w vb mt ml vx tm tn ln tks lks) (l : LeaE) (hl : l ∈ lks) :
    Calls Tryz.prog 127 #[.pointer (some ⟨vb, 0, none⟩), nmV (2, (l.n : Int))] w fun e w' => e = .returned (.pointer (some ⟨l.blk, 0, none⟩)) ∧ Below w.heap.size w w' := by
  have hV1 := hV.alloc (.cells #[.int .i64 2, .int .u64 (l.n : Int)] 97)
  have hno := fun q => (hV1.drewN q).lookT_no (x := (2, (l.n : Int))) (wfNm (.inr rfl) (hV.ok.limL l hl).1) (fun t _ e => by have := (Prod.mk.inj e).1; omega)
  have hlook := fun q => (hV1.drewN q).look1L hl
  have v2 := hV.v.cell 2 (v := .map (some mt)) rfl
  have v3 := hV.v.cell 3 (v := .map (some ml)) rfl
  have lv := hV.v.lt
  unfold nmV at hlook hno ⊢
  clear hV1
  go_enter Tryz.func127, Tryz.ntmps127
  go_wp2
  go_quiet (fail)
  go_wp2_with fail
  go_quiet (fail)
  go_wp2
  go_ret
  exact ⟨rfl, below_drewN (below_drewN ((Below.refl _ w).alloc (Nat.le_refl _) _) _) _⟩

set_option maxRecDepth 100000 in
set_option maxHeartbeats 2000000 in
theorem Tryz.queueTok_live (vb mt ml : Nat) (vx : VX) (tm tn ln : Int) (tks : List TokE) (lks : List LeaE) (w : World) (hV : Tryz.VaultAt w vb mt ml vx tm tn ln tks lks) (t : TokE) (ht : t ∈ tks) (hp : t.pd = false) :
    Calls Tryz.prog 123 #[.pointer (some ⟨vb, 0, none⟩), nmV (1, (t.n : Int))] w fun e w' => e = .returned (.tuple #[]) ∧ Below w.heap.size w w' := by
  have hV1 := hV.alloc (.cells #[.int .i64 1, .int .u64 (t.n : Int)] 97)
  have hlook := fun q => (hV1.drewN q).look1T ht
  have v2 := hV.v.cell 2 (v := .map (some mt)) rfl
  have lv := hV.v.lt
  have hL := fun q q' => Tryz.entryLive t.blk t.pd _ ((((hV1.drewN q).drewN q').held.tok t ht).cell 4 rfl)
  rw [hp] at hL
  unfold nmV at hlook ⊢
  clear hV1
  go_enter Tryz.func123, Tryz.ntmps123
  go_wp2
  go_quiet (fail)
  go_wp2_with fail
  obtain ⟨W0, hW0⟩ : ∃ W0, (w.alloc (.cells #[.int .i64 1, .int .u64 (t.n : Int)] 97)).drewN nq = W0 := ⟨_, rfl⟩
  have hL1 := fun q => hL nq q
  have hB0 : Below w.heap.size w W0 := by rw [← hW0]; exact below_drewN ((Below.refl _ w).alloc (Nat.le_refl _) _) _
  rw [hW0] at hL1
  rw [hW0]
  clear hW0 hL hlook
  simp only [Bool.not_false] at hL1
  go_quiet (first | (go_at_call 104; refine Calls.quiet_of_same (hL1 _)))
  go_wp2
  go_end0
  exact ⟨rfl, below_drewN hB0 _⟩
end Go.Proofs

/-
  plain's revoker: it notes what it is told, and fails as its bits say.
-/
namespace Go.Proofs
open Go.RowKit Go.Sort Go.Lib Go.Shelf Go.Maps Go.WideMaps

theorem Tryz.strInfo : (Tryz.prog.info? 9).map (fun i => (i.zero, i.size, i.bytes)) = some (some (.string ⟨#[]⟩), 1, 16) := by kernel_rfl

set_option maxRecDepth 100000 in
set_option maxHeartbeats 2000000 in
theorem Tryz.rvRevoke (B rb : Nat) (v : Value) (n : Nat) (xs : List Value) (f : Int) (hf0 : 0 ≤ f) (hf1 : f ≤ 18446744073709551615) (id : List UInt8) (w : World) (hR : BoxN w rb 78 #[v, .int .u64 f]) (hrow : w.ownsRow B 9 1 v n xs) (hB : B ≤ w.heap.size) (hn : n ≤ 1000) :
    Calls Tryz.prog 212 #[.pointer (some ⟨rb, 0, none⟩), .string ⟨id.toArray⟩] w fun e w' => e = .returned (.bool (!(f % 2 == 1))) ∧ ∃ g cap, BoxN w' rb 78 #[.slice (some ⟨g, 0, none⟩) (n + 1) cap, .int .u64 (f / 2)] ∧ w'.ownsRow B 9 1 (.slice (some ⟨g, 0, none⟩) (n + 1) cap) (n + 1) (xs ++ [.string ⟨id.toArray⟩]) ∧ rb ≠ g ∧ (v.ownBlock = some g ∨ w.heap.size ≤ g) ∧ Spares (rb :: v.ownBlock.toList) w w' := by
  obtain ⟨i0, hi, hz0, hz1, hz2⟩ := info_parts Tryz.strInfo
  have hnr := hR.not_row (e := 9) (by decide) hrow
  have lv := hR.lt
  have c0 := hR.cell 0 (v := v) rfl
  have ca := (hR.alloc (.cells #[.string ⟨id.toArray⟩] 9)).cell 0 (v := v) rfl
  have bS := BoxN.new w 9 #[.string ⟨id.toArray⟩]
  have hand := and_one_u64 f hf0 hf1
  clear hf0 hf1
  go_enter Tryz.func212, Tryz.ntmps212
  go_wp2_with (at_builtin; refine wpList_append_lies _ rfl _ _ 57 rfl B 9 i0 _ 1 16 Tryz.underlying57 hi hz0 hz1 hz2 rfl (by decide) _ _ _ rfl (hrow.alloc _) ⟨w.heap.size, 0, none⟩ 1 1 [.string ⟨id.toArray⟩] rfl rfl (World.news_of_block bS) (by simp [Value.oneCell']) (by omega) (by unfold maxLen; omega) (by omega) (by simp; omega) _ rfl ?_; intro g cap w1 hown hgrow hat hlt; have hR1 := (hR.alloc (.cells #[.string ⟨id.toArray⟩] 9)).kept hgrow hnr; have d0 := hR1.cell 0 (v := v) rfl; have d1 := hR1.cell 1 (v := .int .u64 f) rfl; have fz0 := hR1.frozen 0; have fz1 := hR1.frozen 1)
  have hg1 : (w.alloc (.cells #[.string ⟨id.toArray⟩] 9)).grownBy w1 v.ownBlock := hgrow
  have hat1 : v.ownBlock = some g ∨ g = (w.alloc (.cells #[.string ⟨id.toArray⟩] 9)).heap.size := hat
  clear hgrow hat
  rw [World.size_alloc] at hat1
  have hrg : rb ≠ g := by
    rcases hat1 with e | e
    · exact fun e' => hnr (by rw [e, e'])
    · omega
  have hwg : v.ownBlock = some g ∨ w.heap.size ≤ g := by
    rcases hat1 with e | e
    · exact .inl e
    · exact .inr (by omega)
  have hS : Spares (rb :: v.ownBlock.toList) w w1 := ((Spares.of_below (Below.refl _ w)).alloc _).trans (Spares.of_grown' hg1 (fun b hb => by rw [hb]; simp))
  go_ret
  exact ⟨rfl, g, cap, (hR1.set 0 (.slice (some ⟨g, 0, none⟩) (n + 1) cap)).set 1 (.int .u64 (f / 2)), (hown.kept (grown_set w1 rb 0 (.slice (some ⟨g, 0, none⟩) (n + 1) cap)) (.inr (by simp [Value.ownBlock]; exact fun e => hrg e.symm))).kept (grown_set _ rb 1 (.int .u64 (f / 2))) (.inr (by simp [Value.ownBlock]; exact fun e => hrg e.symm)), hrg, hwg, (hS.set (by simp) _ _).set (by simp) _ _⟩
end Go.Proofs

/-
  The code: try of the only lease, where the revoker does not fail.
-/
namespace Go.Proofs
open Go.RowKit Go.Sort Go.Lib Go.Shelf Go.Maps Go.WideMaps

section
variable {W W' : World} {vb mt ml : Nat} {vx : VX} {tm : Int} {tn ln : Nat} {tks : List TokE} {lks : List LeaE}
/-- blocks of other types may turn. -/
theorem Tryz.VFull.spares (h : Tryz.VFull W vb mt ml vx tm tn ln tks lks) {bs : List Nat} (hS : Spares bs W W') (hbs : ∀ b ∈ bs, 6 ≤ b ∧ ∃ t cs, BoxN W b t cs ∧ t ≠ 108 ∧ t ≠ 133 ∧ t ≠ 114) : Tryz.VFull W' vb mt ml vx tm tn ln tks lks := by
  have hb6 : Below 6 W W' := hS.below h.va.six (fun b hb => (hbs b hb).1)
  have nb : ∀ {b : Nat} {t : TypeId} {cs : Array Value}, BoxN W b t cs → (t = 108 ∨ t = 133 ∨ t = 114) → b ∉ bs := fun hB ht hm => by
    obtain ⟨-, t', cs', hB', h1, h2, h3⟩ := hbs _ hm
    have e := (show W.heap[_]? = _ from hB).symm.trans hB'
    simp only [Option.some.injEq, Obj.cells.injEq] at e
    rcases ht with rfl | rfl | rfl
    · exact h1 e.2.1.symm
    · exact h2 e.2.1.symm
    · exact h3 e.2.1.symm
  obtain ⟨⟨n, hn1, hm⟩, ⟨n', hn', hm'⟩, ht, hle⟩ := h.va.held
  have nm : ∀ {b n : Nat} {D : DataW Unit}, W.ownsMap Tryz.prog 97 ptrR b n D → b ∉ bs := fun hM hmem => by
    obtain ⟨-, t', cs', hB', -⟩ := hbs _ hmem
    exact hB'.ne_map hM rfl
  exact ⟨⟨hS.box h.va.v (nb h.va.v (.inl rfl)), ⟨⟨n, hn1, hS.map hm (nm hm)⟩, ⟨n', hn', hS.map hm' (nm hm')⟩, fun t htm => hS.box (ht t htm) (nb (ht t htm) (.inr (.inl rfl))), fun l hlm => hS.box (hle l hlm) (nb (hle l hlm) (.inr (.inr rfl)))⟩, h.va.ok, h.va.env.below hb6 (Nat.le_refl _), Nat.le_trans h.va.six hS.size⟩, h.bt, h.bl, h.nt, h.nl, h.t0, h.t1, h.mne, h.v6, h.m6, h.l6, h.tb6, h.lb6⟩

/-- a key that no token has is struck from the tokens. -/
theorem Tryz.VFull.dropT (h : Tryz.VFull W vb mt ml vx tm tn ln tks lks) {x : Int × Int} (hx : NmWf x) (hn : ∀ t ∈ tks, x ≠ (1, (t.n : Int))) (ty : TypeId) :
    ∃ W', (Builtin.delete_ #[102, 97] ty #[.map (some mt), nmV x]).run Tryz.prog W = .ok (.tuple #[]) W' ∧ Tryz.VFull W' vb mt ml vx tm tn ln tks lks ∧ W.grownBy W' (some mt) := by
  obtain ⟨⟨n, hn1, hm⟩, ⟨n', hn', hm'⟩, ht, hle⟩ := h.va.held
  obtain ⟨W', hrun, hM, hT⟩ := hm.drop Tryz.keyedName Tryz.underlying102 (Tryz.nmType.keyOf hx) ty
  have hno : Maps.has (mapD (tks.map TokE.key).reverse) (nmL x) = false := Tryz.nmType.has_none h.va.ok.ksT.1 hx (ksGet_none.2 fun p hp e => by
    obtain ⟨t, ht, rfl⟩ := List.mem_map.1 (List.mem_reverse.1 hp)
    exact hn t ht e.symm)
  rw [show Lit.string (nmB x) = nmL x from rfl, Maps.del_of_not_has hno] at hM
  have hg := hT.grown
  have hb6 : Below 6 W W' := ⟨hg.os, hg.tape, hg.output, hg.size, fun j hj => hg.block j (by have := h.va.six; omega) (by intro e; injection e with e; have := h.m6; omega)⟩
  refine ⟨W', hrun, ⟨⟨h.va.v.kept hg (by intro e; injection e with e; exact h.va.v.ne_map hm e.symm), ⟨⟨n, hn1, hM⟩, ⟨n', hn', hm'.kept hg (by intro e; injection e with e; exact h.mne e.symm)⟩, fun t htm => (ht t htm).kept hg (by intro e; injection e with e; exact (ht t htm).ne_map hm e.symm), fun l hlm => (hle l hlm).kept hg (by intro e; injection e with e; exact (hle l hlm).ne_map hm e.symm)⟩, h.va.ok, h.va.env.below hb6 (Nat.le_refl _), Nat.le_trans h.va.six hg.size⟩, h.bt, h.bl, h.nt, h.nl, h.t0, h.t1, h.mne, h.v6, h.m6, h.l6, h.tb6, h.lb6⟩, hg⟩

/-- the only lease is struck. -/
theorem Tryz.VFull.dropL {l : LeaE} (h : Tryz.VFull W vb mt ml vx tm tn ln tks [l]) (ty : TypeId) :
    ∃ W', (Builtin.delete_ #[103, 97] ty #[.map (some ml), nmV (2, (l.n : Int))]).run Tryz.prog W = .ok (.tuple #[]) W' ∧ Tryz.VFull W' vb mt ml vx tm tn ln tks [] ∧ W.grownBy W' (some ml) := by
  obtain ⟨⟨n, hn1, hm⟩, ⟨n', hn', hm'⟩, ht, hle⟩ := h.va.held
  have hx : NmWf (2, (l.n : Int)) := wfNm (.inr rfl) (h.va.ok.limL l (by simp)).1
  obtain ⟨W', hrun, hM, hT⟩ := hm'.drop Tryz.keyedName Tryz.underlying103 (Tryz.nmType.keyOf hx) ty
  have hdel : (mapD (([l] : List LeaE).map LeaE.key).reverse).del (nmL (2, (l.n : Int))) = .map [] := by
    show ((DataW.map []).put (nmL (2, (l.n : Int))) (.lit (.int .u64 l.blk))).del (nmL (2, (l.n : Int))) = _
    simp [DataW.put, DataW.del, DataW.insert, nmL, Lit.sameKey]
  rw [show Lit.string (nmB (2, (l.n : Int))) = nmL (2, (l.n : Int)) from rfl, hdel] at hM
  have hg := hT.grown
  have hb6 : Below 6 W W' := ⟨hg.os, hg.tape, hg.output, hg.size, fun j hj => hg.block j (by have := h.va.six; omega) (by intro e; injection e with e; have := h.l6; omega)⟩
  refine ⟨W', hrun, ⟨⟨h.va.v.kept hg (by intro e; injection e with e; exact h.va.v.ne_map hm' e.symm), ⟨⟨n, hn1, hm.kept hg (by intro e; injection e with e; exact h.mne e)⟩, ⟨n', hn', hM⟩, fun t htm => (ht t htm).kept hg (by intro e; injection e with e; exact (ht t htm).ne_map hm' e.symm), fun l hlm => by cases hlm⟩, ⟨h.va.ok.lenT, by simp, h.va.ok.incT, by simp, h.va.ok.limT, fun l hlm => by cases hlm⟩, h.va.env.below hb6 (Nat.le_refl _), Nat.le_trans h.va.six hg.size⟩, h.bt, by simp, h.nt, fun l hlm => (by cases hlm), h.t0, h.t1, h.mne, h.v6, h.m6, h.l6, h.tb6, fun l hlm => (by cases hlm)⟩, hg⟩
end
end Go.Proofs

/-
  The code: try of the only lease, where the revoker does not fail.
-/
namespace Go.Proofs
open Go.RowKit Go.Sort Go.Lib Go.Shelf Go.Maps Go.WideMaps

theorem Tryz.method_rv (rb : Nat) (w : World) : Sem.run Tryz.prog (method 421 61 (.pointer (some ⟨rb, 0, none⟩)) "Revoke") w = .ok (212, .pointer (some ⟨rb, 0, none⟩)) w := by kernel_rfl

/-- plain's revoker: what it was told, and how it fails. -/
structure Tryz.RevAt (W : World) (rb : Nat) (f : Int) (v : Value) (n : Nat) (xs : List Value) : Prop where
  box : BoxN W rb 78 #[v, .int .u64 f]
  row : W.ownsRow 6 9 1 v n xs
  r6 : 6 ≤ rb
theorem Tryz.RevAt.below {W W' : World} {rb : Nat} {f : Int} {v : Value} {n : Nat} {xs : List Value} (h : Tryz.RevAt W rb f v n xs) (hb : Below W.heap.size W W') : Tryz.RevAt W' rb f v n xs := ⟨h.box.below hb h.box.lt, ownsRow_below h.row hb, h.r6⟩
/-- its blocks. -/
def revB (rb : Nat) (v : Value) : List Nat := rb :: v.ownBlock.toList
theorem Tryz.RevAt.types {W : World} {rb : Nat} {f : Int} {v : Value} {n : Nat} {xs : List Value} (h : Tryz.RevAt W rb f v n xs) : ∀ b ∈ revB rb v, 6 ≤ b ∧ ∃ t cs, BoxN W b t cs ∧ (t = 78 ∨ t = 9) := fun b hb => by
  rcases List.mem_cons.1 hb with rfl | hb
  · exact ⟨h.r6, _, _, h.box, .inl rfl⟩
  · rcases h.row.2 with ⟨rfl, _⟩ | ⟨g, cap, cur, rfl, hbg, hg, _⟩
    · simp [Value.ownBlock] at hb
    · have e : b = g := by simpa [Value.ownBlock] using hb
      subst e
      exact ⟨hbg, _, _, hg, .inr rfl⟩

abbrev Tryz.TryP (vb nb : Nat) (rv : Value) (k u : Int) (W : World) : Prop :=
  W.cell? ⟨vb, 0, none⟩ = some rv ∧ W.cell? ⟨nb, 0, none⟩ = some (.int .i64 k) ∧ W.cell? ⟨nb, 1, none⟩ = some (.int .u64 u)
theorem Tryz.TryP.below {vb nb : Nat} {rv : Value} {k u : Int} {W W' : World} (h : Tryz.TryP vb nb rv k u W) (hb : Below W.heap.size W W') : Tryz.TryP vb nb rv k u W' :=
  ⟨cell_below hb h.1, cell_below hb h.2.1, cell_below hb h.2.2⟩

set_option maxRecDepth 100000 in
set_option maxHeartbeats 4000000 in
theorem Tryz.try_ok (vb mt ml rb : Nat) (vx : VX) (tm : Int) (tn ln : Nat) (tks : List TokE) (l : LeaE) (w : World) (hV : Tryz.VFull w vb mt ml vx tm tn ln tks [l]) (hrv : vx.rv = .iface 61 (.pointer (some ⟨rb, 0, none⟩)))
    (f : Int) (hf0 : 0 ≤ f) (hf1 : f ≤ 18446744073709551615) (hfe : (f % 2 == 1) = false) (v : Value) (n : Nat) (xs : List Value) (hn : n ≤ 1000) (hR : Tryz.RevAt w rb f v n xs) (up : TokE) (hup : up ∈ tks) (hul : up.pd = false) (hak : l.ak = 1) (hau : l.au = up.n) :
    Calls Tryz.prog 87 #[.pointer (some ⟨vb, 0, none⟩), nmV (2, (l.n : Int))] w fun e w' => e = .returned (.tuple #[]) ∧ Tryz.VFull w' vb mt ml vx tm tn ln tks [] ∧ (∃ g cap, Tryz.RevAt w' rb (f / 2) (.slice (some ⟨g, 0, none⟩) (n + 1) cap) (n + 1) (xs ++ [.string ⟨(nmStr 2 l.n).toArray⟩])) ∧ Spares (mt :: ml :: revB rb v) w w' := by
  have hlim := hV.va.ok.limL l (by simp)
  have hx : NmWf (2, (l.n : Int)) := wfNm (.inr rfl) hlim.1
  have hB0 : Below w.heap.size w (w.alloc (.cells #[.int .i64 2, .int .u64 (l.n : Int)] 97)) := (Below.refl _ w).alloc (Nat.le_refl _) _
  have hV0 := hV.below hB0
  have hR0 := hR.below hB0
  have bN := BoxN.new w 97 #[.int .i64 2, .int .u64 (l.n : Int)]
  have nc0 := bN.cell 0 (v := .int .i64 2) rfl
  have nc1 := bN.cell 1 (v := .int .u64 (l.n : Int)) rfl
  have hm := fun W => Tryz.method_rv rb W
  have hE := Tryz.entryOf_lea vb mt ml vx tm tn ln tks [l] _ hV0.va l (by simp)
  unfold nmV at hE ⊢
  go_enter Tryz.func87, Tryz.ntmps87
  go_wp2_with (go_at_call 127; refine hE.mono ?_; rintro e w1 ⟨rfl, hb1⟩)
  have hV1 := hV0.below hb1
  have hR1 := hR0.below hb1
  have bN1 := bN.below hb1 bN.lt
  have hP1 : Tryz.TryP vb w.heap.size (.iface 61 (.pointer (some ⟨rb, 0, none⟩))) 2 (l.n : Int) w1 := ⟨hV1.va.v.cell 0 (by rw [← hrv]; rfl), bN1.cell 0 rfl, bN1.cell 1 rfl⟩
  have hB1 : Below w.heap.size w w1 := hB0.trans (hb1.mono hB0.size)
  clear hE nc0 nc1 hV0 hR0 hb1 hB0
  refine wp_region_held_drew (S := Tryz.TryP vb w.heap.size (.iface 61 (.pointer (some ⟨rb, 0, none⟩))) 2 (l.n : Int)) (by kernel_rfl) hP1 (fun hS0 => ?_)
  refine wpAnyH_take (i := 0) (v := ?v0) rfl (by kernel_rfl) (by kernel_rfl) (by kernel_rfl) (fun _ _ _ h => h) (Or.inl ⟨by rfl, ?y0⟩) hS0 ?_
  case y0 => (intro w hSw; obtain ⟨q0, q1, q2⟩ := hSw; go_simp; try with_reducible rfl)
  refine wpAnyH_take (i := 1) (v := ?v1) rfl (by kernel_rfl) (by kernel_rfl) (by kernel_rfl) (fun _ _ _ h => h) (Or.inl ⟨by rfl, ?y1⟩) hS0 ?_
  case y1 => (intro w hSw; obtain ⟨q0, q1, q2⟩ := hSw; go_simp; try with_reducible rfl)
  refine wpAnyH_take (i := 2) (v := ?v2) rfl (by kernel_rfl) (by kernel_rfl) (by kernel_rfl) (fun _ _ _ h => h) (Or.inl ⟨by rfl, ?y2⟩) hS0 ?_
  case y2 => (intro w hSw; obtain ⟨q0, q1, q2⟩ := hSw; go_simp; try with_reducible rfl)
  refine wpAnyH_take (i := 3) (v := ?v3) rfl (by kernel_rfl) (by kernel_rfl) (by kernel_rfl) (fun _ _ _ h => h) (Or.inl ⟨by rfl, ?y3⟩) hS0 ?_
  case y3 => (intro w hSw; obtain ⟨q0, q1, q2⟩ := hSw; go_simp; try with_reducible rfl)
  refine wpAnyH_take (i := 4) (v := ?v4) rfl (by kernel_rfl) (by kernel_rfl) (by kernel_rfl) (fun _ _ _ h => h) (Or.inl ⟨by rfl, ?y4⟩) hS0 ?_
  case y4 => (intro w hSw; obtain ⟨q0, q1, q2⟩ := hSw; go_simp; try with_reducible rfl)
  refine wpAnyH_take (i := 6) (v := ?v6) rfl (by kernel_rfl) (by kernel_rfl) (by kernel_rfl) (fun _ _ _ h => h) (Or.inl ⟨by rfl, ?y6⟩) hS0 ?_
  case y6 => (intro w hSw; obtain ⟨q0, q1, q2⟩ := hSw; go_simp; try with_reducible rfl)
  refine wpAnyH_take (i := 7) (v := ?v7) rfl (by kernel_rfl) (by kernel_rfl) (by kernel_rfl) (fun _ _ _ h => h) (Or.inl ⟨by rfl, ?y7⟩) hS0 ?_
  case y7 => (intro w hSw; obtain ⟨q0, q1, q2⟩ := hSw; go_simp; try with_reducible rfl)
  refine wpAnyH_ready (rs := [5]) (by kernel_rfl) (by simp) ?_
  refine AllReadyH.cons rfl (fun K hK => ?_) AllReadyH.nil
  go_simp
  refine (Tryz.nameString 2 l.n hlim.1 w1.drew (hV1.below ((Below.refl _ w1).drew)).va.env hV1.va.six).mono ?_
  rintro e w2 ⟨rfl, hb2⟩
  have hb2' : Below w1.heap.size w1 w2 := ((Below.refl _ w1).drew).trans hb2
  have hP2 := hP1.below hb2'
  refine hK.out _ _ hP2 (fun hS2 => ?_)
  clear hK K
  refine wpAnyH_ready (rs := [8]) (by kernel_rfl) (by simp) ?_
  refine AllReadyH.cons rfl (fun K hK => ?_) AllReadyH.nil
  go_simp
  have hV2 := hV1.below hb2'
  have hR2 := hR1.below hb2'
  have bN2 := bN1.below hb2' bN1.lt
  refine (Tryz.rvRevoke 6 rb v n xs f hf0 hf1 (nmStr 2 l.n) w2 hR2.box hR2.row hV2.va.six hn).mono ?_
  rintro e w3 ⟨rfl, g, cap, hRb, hRr, hrg, hwg, hs3⟩
  have hty : ∀ b ∈ revB rb v, 6 ≤ b ∧ ∃ t cs, BoxN w2 b t cs ∧ t ≠ 108 ∧ t ≠ 133 ∧ t ≠ 114 := fun b hb => by
    obtain ⟨h6, t, cs, hB, ht⟩ := hR2.types b hb
    exact ⟨h6, t, cs, hB, by rcases ht with rfl | rfl <;> decide, by rcases ht with rfl | rfl <;> decide, by rcases ht with rfl | rfl <;> decide⟩
  have hV3 := hV2.spares hs3 hty
  have bN3 := hs3.box bN2 (fun hmem => by
    obtain ⟨-, t, cs, hB, ht⟩ := hR2.types _ hmem
    have e := (show w2.heap[_]? = _ from bN2).symm.trans hB
    simp only [Option.some.injEq, Obj.cells.injEq] at e
    rcases ht with rfl | rfl
    · exact absurd e.2.1 (by decide)
    · exact absurd e.2.1 (by decide))
  have hP3 : Tryz.TryP vb w.heap.size (.iface 61 (.pointer (some ⟨rb, 0, none⟩))) 2 (l.n : Int) w3 := ⟨hV3.va.v.cell 0 (by rw [← hrv]; rfl), bN3.cell 0 rfl, bN3.cell 1 rfl⟩
  rw [hfe]
  refine hK.out _ _ hP3 (fun hS3 => ?_)
  clear hK K
  refine wpAnyH_take (i := 9) (v := ?v9) rfl (by kernel_rfl) (by kernel_rfl) (by kernel_rfl) (fun _ _ _ h => h) (Or.inl ⟨by rfl, ?y9⟩) hS3 ?_
  case y9 => (intro w _; go_simp; try with_reducible rfl)
  refine wpAnyH_done (by kernel_rfl) ?_ _
  have hRA : Hid (Tryz.RevAt w3 rb (f / 2) (.slice (some ⟨g, 0, none⟩) (n + 1) cap) (n + 1) (xs ++ [.string ⟨(nmStr 2 l.n).toArray⟩])) := hid_intro ⟨hRb, hRr, hR.r6⟩
  have hS3 : Hid (Spares (mt :: ml :: revB rb v) w w3) := hid_intro (((Spares.of_below hB1).trans (Spares.of_below hb2')).trans (hs3.mono (fun b hb => List.mem_cons_of_mem _ (List.mem_cons_of_mem _ hb))))
  have hgm : Hid (g ≠ mt ∧ g ≠ ml ∧ rb ≠ mt ∧ rb ≠ ml) := by
    obtain ⟨⟨n1, -, hm1⟩, ⟨n2, -, hm2⟩, -, -⟩ := hV3.va.held
    have hgb : ∃ cs, BoxN w3 g 9 cs := by
      rcases hRr.2 with ⟨e, _⟩ | ⟨g', cap', cur, e, hbg, hg, _⟩
      · cases e
      · cases e; exact ⟨_, hg⟩
    obtain ⟨gcs, hgb⟩ := hgb
    exact hid_intro ⟨fun e => hgb.ne_map hm1 e.symm, fun e => hgb.ne_map hm2 e.symm, fun e => hRb.ne_map hm1 e.symm, fun e => hRb.ne_map hm2 e.symm⟩
  clear hs3 hty hR2 hV2 bN2 hRb hRr hwg hP2 hS2 hb2 hb2' hP1 hS0 hR1 hV1 bN1 hB1 hR bN hm
  obtain ⟨w4, hd4, hV4, hg4⟩ := (hV3.below ((Below.refl _ w3).drew)).dropT hx (fun t _ e => by have := (Prod.mk.inj e).1; omega) 0
  obtain ⟨w5, hd5, hV5, hg5⟩ := (hV4.below ((Below.refl _ w4).drew)).dropL 0
  unfold nmV at hd4 hd5
  have n0 := bN3.cell 0 (v := .int .i64 2) rfl
  have n1 := bN3.cell 1 (v := .int .u64 (l.n : Int)) rfl
  have m2 := hV3.va.v.cell 2 (v := .map (some mt)) rfl
  obtain ⟨⟨k1, -, hm1⟩, ⟨k2, -, hm2⟩, -, hle⟩ := hV3.va.held
  have bL3 := hle l (by simp)
  have bN4 : BoxN w4 w.heap.size 97 #[.int .i64 2, .int .u64 (l.n : Int)] := BoxN.kept (W := w3.drew) bN3 hg4 (by intro e; injection e with e; exact bN3.ne_map hm1 e.symm)
  have bL4 : BoxN w4 l.blk 114 l.cells := BoxN.kept (W := w3.drew) bL3 hg4 (by intro e; injection e with e; exact bL3.ne_map hm1 e.symm)
  have bL5 : BoxN w5 l.blk 114 l.cells := BoxN.kept (W := w4.drew) bL4 hg5 (by intro e; injection e with e; exact bL3.ne_map hm2 e.symm)
  have n40 := bN4.cell 0 (v := .int .i64 2) rfl
  have n41 := bN4.cell 1 (v := .int .u64 (l.n : Int)) rfl
  have m43 := hV4.va.v.cell 3 (v := .map (some ml)) rfl
  have l50 := bL5.cell 0 (v := .int .i64 l.ak) rfl
  have l51 := bL5.cell 1 (v := .int .u64 l.au) rfl
  rw [hak] at l50
  rw [hau] at l51
  have hq := Tryz.queueTok_live vb mt ml vx tm tn ln tks [] w5 hV5.va up hup hul
  unfold nmV at hq
  have hRA4 : Tryz.RevAt w4 rb (f / 2) (.slice (some ⟨g, 0, none⟩) (n + 1) cap) (n + 1) (xs ++ [.string ⟨(nmStr 2 l.n).toArray⟩]) := ⟨BoxN.kept (W := w3.drew) (hid_elim hRA).box hg4 (by intro e; injection e with e; exact (hid_elim hgm).2.2.1 e), World.ownsRow.kept (w := w3.drew) (hid_elim hRA).row hg4 (.inr (by simp [Value.ownBlock]; exact (hid_elim hgm).1)), (hid_elim hRA).r6⟩
  have hRA5 : Hid (Tryz.RevAt w5 rb (f / 2) (.slice (some ⟨g, 0, none⟩) (n + 1) cap) (n + 1) (xs ++ [.string ⟨(nmStr 2 l.n).toArray⟩])) := hid_intro ⟨BoxN.kept (W := w4.drew) hRA4.box hg5 (by intro e; injection e with e; exact (hid_elim hgm).2.2.2 e), World.ownsRow.kept (w := w4.drew) hRA4.row hg5 (.inr (by simp [Value.ownBlock]; exact (hid_elim hgm).2.1)), hRA4.r6⟩
  have hS5 : Hid (Spares (mt :: ml :: revB rb v) w w5) := hid_intro ((((hid_elim hS3).drew).trans (Spares.of_grown hg4 (by simp))).drew.trans (Spares.of_grown hg5 (by simp)))
  clear hRA4 hRA hS3 hg4 hg5 hm1 hm2 hle bL3 bL4 bN4 bN3
  go_wp2
  go_region
  go_wp2
  go_region
  go_wp2_with (go_at_call 123; refine hq.mono ?_; rintro e w6 ⟨rfl, hb6⟩)
  go_end0
  exact ⟨rfl, hV5.below hb6, ⟨g, cap, (hid_elim hRA5).below hb6⟩, (hid_elim hS5).trans (Spares.of_below hb6)⟩
end Go.Proofs
