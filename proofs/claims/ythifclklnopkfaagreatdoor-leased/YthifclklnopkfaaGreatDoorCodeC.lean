import Derived.Test.YthifclklnopkfaaGreatDoorCodeB
/-
  The code: Renew.
-/
namespace Go.Proofs
open Go.RowKit Go.Sort Go.Lib Go.Shelf Go.Maps

def renewL (tm ttl : Int) (l : LeaE) : Int := max l.at_ (min (plusI tm ttl) l.last)

set_option maxHeartbeats 1000000 in
theorem Tryz.vRenew_miss (vb : Nat) (w : World) (id : List UInt8) (ttl : Int) (hF : Calls Tryz.prog 80 #[.pointer (some ⟨vb, 0, none⟩), .string ⟨id.toArray⟩] w fun e w' => e = .returned (.pointer none) ∧ Below w.heap.size w w') :
    Calls Tryz.prog 42 #[.pointer (some ⟨vb, 0, none⟩), .string ⟨id.toArray⟩, .int .u64 ttl] w fun e w' => e = .returned (.tuple #[.int .u64 0, .iface 32 (.int .i64 5)]) ∧ Below w.heap.size w w' := by
  go_enter Tryz.func42, Tryz.ntmps42
  go_wp2_with (go_at_call 80; refine hF.mono ?_; rintro e w1 ⟨rfl, hb1⟩)
  exact bodyPost_ret (v := .tuple #[.int .u64 0, .iface 32 (.int .i64 5)]) (by simp [results, Tryz.results42, go_sem]) rfl ⟨rfl, hb1⟩

/-- the number that a cell holds. -/
def cellInt (W : World) (a : Addr) : Int := match W.cell? a with | some (.int .u64 z) => z | _ => 0
theorem cellInt_eq {W : World} {a : Addr} {z : Int} (h : W.cell? a = some (.int .u64 z)) : cellInt W a = z := by unfold cellInt; rw [h]
theorem cellInt_some {W : World} {a : Addr} {z : Int} (h : W.cell? a = some (.int .u64 z)) : W.cell? a = some (.int .u64 (cellInt W a)) := by rw [cellInt_eq h]; exact h
abbrev Tryz.RenP (vb b : Nat) (tm la : Int) (W : World) : Prop :=
  W.cell? ⟨vb, 1, none⟩ = some (.int .u64 tm) ∧ W.cell? ⟨b, 2, none⟩ = some (.int .u64 (cellInt W ⟨b, 2, none⟩)) ∧ W.cell? ⟨b, 6, none⟩ = some (.int .u64 la) ∧ W.frozen? ⟨b, 2, none⟩ = false
theorem Tryz.RenP.drew {vb b : Nat} {tm la : Int} {W : World} (h : Tryz.RenP vb b tm la W) : Tryz.RenP vb b tm la W.drew := h
theorem Tryz.RenP.set {vb b : Nat} {tm la : Int} {W : World} (h : Tryz.RenP vb b tm la W) (x : Int) : Tryz.RenP vb b tm la (W.setCell ⟨b, 2, none⟩ (.int .u64 x)) := by
  obtain ⟨h1, h2, h3, h4⟩ := h
  refine ⟨(World.cell?_setCell_other _ _ _ _ (by simp)).trans h1, cellInt_some (z := x) ?_, (World.cell?_setCell_other _ _ _ _ (by simp)).trans h3, by rw [World.frozen?_setCell]; exact h4⟩
  exact World.cell?_setCell_same _ _ _ (by rw [h2])

set_option maxRecDepth 100000 in
set_option maxHeartbeats 2000000 in
theorem Tryz.vRenew_hit (vb mt ml : Nat) (vx : VX) (tm : Int) (tn ln : Nat) (tks : List TokE) (lks : List LeaE) (w : World) (hV : Tryz.VFull w vb mt ml vx tm tn ln tks lks) (id : List UInt8) (hid : id.length ≤ 1000000) (k : Nat) (l : LeaE) (hl : lks[k]? = some l) (hp : parseN id = (2, (l.n : Int))) (hlv : (!l.pd && decide (tm < l.at_)) = true) (ttl : Int) (ht0 : 0 ≤ ttl) (ht1 : ttl ≤ 18446744073709551615) :
    Calls Tryz.prog 42 #[.pointer (some ⟨vb, 0, none⟩), .string ⟨id.toArray⟩, .int .u64 ttl] w fun e w' => e = .returned (.tuple #[.int .u64 (renewL tm ttl l), .nilIface]) ∧ Tryz.VFull w' vb mt ml vx tm tn ln tks (lks.set k { l with at_ := renewL tm ttl l }) ∧ w.grownBy w' (some l.blk) := by
  have hF := Tryz.liveLease_hit vb mt ml vx tm tn ln tks lks w hV.va id hid l (List.mem_of_getElem? hl) hp
  rw [if_pos hlv] at hF
  have hc1 := fun W (h : Below w.heap.size w W) => (hV.below h).va.v.cell 1 (v := .int .u64 tm) rfl
  have hc2 := fun W (h : Below w.heap.size w W) => ((hV.below h).va.held.lea l (List.mem_of_getElem? hl)).cell 2 (v := .int .u64 l.at_) rfl
  have hc6 := fun W (h : Below w.heap.size w W) => ((hV.below h).va.held.lea l (List.mem_of_getElem? hl)).cell 6 (v := .int .u64 l.last) rfl
  have hf2 := fun W (h : Below w.heap.size w W) => ((hV.below h).va.held.lea l (List.mem_of_getElem? hl)).frozen 2
  have hne : vb ≠ l.blk := hV.va.v.ne (hV.va.held.lea l (List.mem_of_getElem? hl)) (by decide)
  have hset := hid_intro (fun W (hb : Below w.heap.size w W) => (hV.below hb).setAt hl (renewL tm ttl l))
  have hA := fun W => Tryz.later tm ttl hV.t0 hV.t1 ht0 ht1 W
  have hr : Hid (renewL tm ttl l = max l.at_ (min (plusI tm ttl) l.last)) := hid_intro rfl
  generalize renewL tm ttl l = ra at *
  generalize plusI tm ttl = p at *
  generalize l.at_ = a at *
  generalize l.last = la at *
  clear hlv hp
  go_enter Tryz.func42, Tryz.ntmps42
  go_wp2_with (go_at_call 80; refine hF.mono ?_; rintro e w1 ⟨rfl, hb1⟩)
  have hP1 : Tryz.RenP vb l.blk tm la w1 := ⟨hc1 _ hb1, cellInt_some (hc2 _ hb1), hc6 _ hb1, hf2 _ hb1⟩
  refine wp_region_held_drew (S := Tryz.RenP vb l.blk tm la) (by kernel_rfl) hP1.drew (fun hS0 => ?_)
  refine wpAnyH_take (i := 0) (v := ?v0) rfl (by kernel_rfl) (by kernel_rfl) (by kernel_rfl) (fun _ _ _ h => h) (Or.inl ⟨by rfl, ?y0⟩) hS0 ?_
  case y0 => (intro w hSw; (try dsimp only at hSw); go_simp; try with_reducible rfl)
  refine wpAnyH_take (i := 1) (v := ?v1) rfl (by kernel_rfl) (by kernel_rfl) (by kernel_rfl) (fun _ _ _ h => h) (Or.inl ⟨by rfl, ?y1⟩) hS0 ?_
  case y1 => (intro w hSw; (try dsimp only at hSw); go_simp; try with_reducible rfl)
  refine wpAnyH_take (i := 2) (v := ?v2) rfl (by kernel_rfl) (by kernel_rfl) (by kernel_rfl) (fun _ _ _ h => h) (Or.inl ⟨by rfl, ?y2⟩) hS0 ?_
  case y2 => (intro w hSw; (try dsimp only at hSw); go_simp; try with_reducible rfl)
  refine wpAnyH_take (i := 3) (v := ?v3) rfl (by kernel_rfl) (by kernel_rfl) (by kernel_rfl) (fun _ _ _ h => h) (Or.inl ⟨by rfl, ?y3⟩) hS0 ?_
  case y3 => (intro w hSw; (try dsimp only at hSw); go_simp; try with_reducible rfl)
  refine wpAnyH_take (i := 4) (v := ?v4) rfl (by kernel_rfl) (by kernel_rfl) (by kernel_rfl) (fun _ _ _ h => h) (Or.inl ⟨by rfl, ?y4⟩) hS0 ?_
  case y4 => (intro w hSw; (try dsimp only at hSw); go_simp; try with_reducible rfl)
  refine wpAnyH_take (i := 6) (v := ?v6) rfl (by kernel_rfl) (by kernel_rfl) (by kernel_rfl) (fun _ _ _ h => h) (Or.inl ⟨by rfl, ?y6⟩) hS0 ?_
  case y6 => (intro w hSw; (try dsimp only at hSw); go_simp; try with_reducible rfl)
  refine wpAnyH_take (i := 7) (v := ?v7) rfl (by kernel_rfl) (by kernel_rfl) (by kernel_rfl) (fun _ _ _ h => h) (Or.inl ⟨by rfl, ?y7⟩) hS0 ?_
  case y7 => (intro w hSw; (try dsimp only at hSw); go_simp; try with_reducible rfl)
  refine wpAnyH_take (i := 8) (v := ?v8) rfl (by kernel_rfl) (by kernel_rfl) (by kernel_rfl) (fun _ _ _ h => h) (Or.inl ⟨by rfl, ?y8⟩) hS0 ?_
  case y8 => (intro w hSw; (try dsimp only at hSw); go_simp; try with_reducible rfl)
  refine wpAnyH_take (i := 9) (v := ?v9) rfl (by kernel_rfl) (by kernel_rfl) (by kernel_rfl) (fun _ _ _ h => h) (Or.inl ⟨by rfl, ?y9⟩) hS0 ?_
  case y9 => (intro w hSw; (try dsimp only at hSw); go_simp; try with_reducible rfl)
  refine wpAnyH_take (i := 10) (v := ?v10) rfl (by kernel_rfl) (by kernel_rfl) (by kernel_rfl) (fun _ _ _ h => h) (Or.inl ⟨by rfl, ?y10⟩) hS0 ?_
  case y10 => (intro w hSw; (try dsimp only at hSw); go_simp; try with_reducible rfl)
  refine wpAnyH_take (i := 12) (v := ?v12) rfl (by kernel_rfl) (by kernel_rfl) (by kernel_rfl) (fun _ _ _ h => h) (Or.inl ⟨by rfl, ?y12⟩) hS0 ?_
  case y12 => (intro w hSw; (try dsimp only at hSw); go_simp; try with_reducible rfl)
  refine wpAnyH_take (i := 13) (v := ?v13) rfl (by kernel_rfl) (by kernel_rfl) (by kernel_rfl) (fun _ _ _ h => h) (Or.inl ⟨by rfl, ?y13⟩) hS0 ?_
  case y13 => (intro w hSw; (try dsimp only at hSw); go_simp; try with_reducible rfl)
  refine wpAnyH_take (i := 14) (v := ?v14) rfl (by kernel_rfl) (by kernel_rfl) (by kernel_rfl) (fun _ _ _ h => h) (Or.inl ⟨by rfl, ?y14⟩) hS0 ?_
  case y14 => (intro w hSw; (try dsimp only at hSw); go_simp; try with_reducible rfl)
  refine wpAnyH_take (i := 15) (v := ?v15) rfl (by kernel_rfl) (by kernel_rfl) (by kernel_rfl) (fun _ _ _ h => h) (Or.inl ⟨by rfl, ?y15⟩) hS0 ?_
  case y15 => (intro w hSw; (try dsimp only at hSw); go_simp; try with_reducible rfl)
  have q2 := hc2 _ hb1
  have f2 := hf2 _ hb1
  refine wpAnyH_ready (rs := [5, 11]) (by kernel_rfl) (by simp) ?_
  refine AllReadyH.cons rfl (fun K hK => ?_) (AllReadyH.cons rfl (fun K hK => ?_) AllReadyH.nil)
  · clear f2
    go_simp
    refine hK.out _ _ hS0 (fun _ => ?_)
    clear hK K
    refine wpAnyH_ready (rs := [11]) (by kernel_rfl) (by simp) ?_
    refine AllReadyH.cons rfl (fun K hK => ?_) AllReadyH.nil
    go_simp
    refine (hA _).mono ?_
    rintro e w2 ⟨rfl, rfl⟩
    refine hK.out _ _ hS0 (fun _ => ?_)
    clear hK K
    have f2 := hf2 _ hb1
    refine wpAnyH_take (i := 16) (v := ?v16) rfl (by kernel_rfl) (by kernel_rfl) (by kernel_rfl) (fun _ _ _ h => h) (Or.inl ⟨by rfl, ?y16⟩) hS0 ?_
    case y16 => (intro w hSw; (try dsimp only at hSw); go_simp; try with_reducible rfl)
    refine wpAnyH_take (i := 17) (v := ?v17) rfl (by kernel_rfl) (by kernel_rfl) (by kernel_rfl) (fun _ _ _ h => h) (Or.inl ⟨by rfl, ?y17⟩) hS0 ?_
    case y17 => (intro w hSw; (try dsimp only at hSw); go_simp; try with_reducible rfl)
    refine wpAnyH_take (i := 18) (v := ?v18) rfl (by kernel_rfl) (by kernel_rfl) (by kernel_rfl) (fun _ _ _ h => h) (Or.inl ⟨by rfl, ?y18⟩) hS0 ?_
    case y18 => (intro w hSw; (try dsimp only at hSw); go_simp; try with_reducible rfl)
    refine wpAnyH_take (i := 19) (v := ?v19) rfl (by kernel_rfl) (by kernel_rfl) (by kernel_rfl) (fun _ _ _ h => h) (Or.inl ⟨by rfl, ?y19⟩) hS0 ?_
    case y19 => (intro w hSw; (try dsimp only at hSw); go_simp; try with_reducible rfl)
    refine wpAnyH_take (i := 20) (v := ?v20) rfl (by kernel_rfl) (by kernel_rfl) (by kernel_rfl) (fun _ _ _ h => h) (Or.inl ⟨by rfl, ?y20⟩) hS0 ?_
    case y20 => (intro w hSw; (try dsimp only at hSw); go_simp; try with_reducible rfl)
    refine wpAnyH_ready (rs := [21]) (by kernel_rfl) (by simp) ?_
    refine AllReadyH.cons rfl (fun K hK => ?_) AllReadyH.nil
    go_simp
    refine hK.out _ _ (Tryz.RenP.drew (Tryz.RenP.set hP1 _)) (fun _ => ?_)
    clear hK K
    refine wpAnyH_done (by kernel_rfl) ?_ _
    have hX : max (cellInt w1.drew ⟨l.blk, 2, none⟩) (min p la) = ra := by rw [cellInt_eq (show w1.drew.cell? ⟨l.blk, 2, none⟩ = some (.int .u64 a) from q2)]; exact (hid_elim hr).symm
    rw [hX]
    have hw : (w1.setCell ⟨l.blk, 2, none⟩ (.int .u64 ra)).cell? ⟨l.blk, 2, none⟩ = some (.int .u64 ra) := World.cell?_setCell_same _ _ _ (by rw [q2])
    have hF9 := hid_intro (show Tryz.VFull (w1.setCell ⟨l.blk, 2, none⟩ (.int .u64 ra)).drew vb mt ml vx tm tn ln tks _ from hid_elim hset w1.drew hb1.drew)
    have hG9 : Hid (w.grownBy (w1.setCell ⟨l.blk, 2, none⟩ (.int .u64 ra)).drew (some l.blk)) := hid_intro ⟨hb1.os, hb1.tape, hb1.output, by have := hb1.size; simpa [World.drew] using this, fun j hj hnj => by
      have hd : j ≠ l.blk := fun e => hnj (by rw [e])
      show (w1.setCell ⟨l.blk, 2, none⟩ (.int .u64 ra)).heap[j]? = _
      rw [set_other _ _ _ _ _ hd]
      exact hb1.block j hj⟩
    clear hX hset hr hc1 hc2 hc6 hf2 hP1 hS0 hA hF q2 f2
    generalize (w1.setCell ⟨l.blk, 2, none⟩ (.int .u64 ra)) = w9 at *
    go_wp2
    exact bodyPost_ret (v := .tuple #[.int .u64 ra, .nilIface]) (by simp [results, Tryz.results42, go_sem]) rfl ⟨rfl, hid_elim hF9, hid_elim hG9⟩
  · clear f2
    go_simp
    refine (hA _).mono ?_
    rintro e w2 ⟨rfl, rfl⟩
    refine hK.out _ _ hS0 (fun _ => ?_)
    clear hK K
    refine wpAnyH_take (i := 16) (v := ?v16) rfl (by kernel_rfl) (by kernel_rfl) (by kernel_rfl) (fun _ _ _ h => h) (Or.inl ⟨by rfl, ?y16⟩) hS0 ?_
    case y16 => (intro w hSw; (try dsimp only at hSw); go_simp; try with_reducible rfl)
    refine wpAnyH_ready (rs := [5]) (by kernel_rfl) (by simp) ?_
    refine AllReadyH.cons rfl (fun K hK => ?_) AllReadyH.nil
    go_simp
    refine hK.out _ _ hS0 (fun _ => ?_)
    clear hK K
    have f2 := hf2 _ hb1
    refine wpAnyH_take (i := 17) (v := ?v17) rfl (by kernel_rfl) (by kernel_rfl) (by kernel_rfl) (fun _ _ _ h => h) (Or.inl ⟨by rfl, ?y17⟩) hS0 ?_
    case y17 => (intro w hSw; (try dsimp only at hSw); go_simp; try with_reducible rfl)
    refine wpAnyH_take (i := 18) (v := ?v18) rfl (by kernel_rfl) (by kernel_rfl) (by kernel_rfl) (fun _ _ _ h => h) (Or.inl ⟨by rfl, ?y18⟩) hS0 ?_
    case y18 => (intro w hSw; (try dsimp only at hSw); go_simp; try with_reducible rfl)
    refine wpAnyH_take (i := 19) (v := ?v19) rfl (by kernel_rfl) (by kernel_rfl) (by kernel_rfl) (fun _ _ _ h => h) (Or.inl ⟨by rfl, ?y19⟩) hS0 ?_
    case y19 => (intro w hSw; (try dsimp only at hSw); go_simp; try with_reducible rfl)
    refine wpAnyH_take (i := 20) (v := ?v20) rfl (by kernel_rfl) (by kernel_rfl) (by kernel_rfl) (fun _ _ _ h => h) (Or.inl ⟨by rfl, ?y20⟩) hS0 ?_
    case y20 => (intro w hSw; (try dsimp only at hSw); go_simp; try with_reducible rfl)
    refine wpAnyH_ready (rs := [21]) (by kernel_rfl) (by simp) ?_
    refine AllReadyH.cons rfl (fun K hK => ?_) AllReadyH.nil
    go_simp
    refine hK.out _ _ (Tryz.RenP.drew (Tryz.RenP.set hP1 _)) (fun _ => ?_)
    clear hK K
    refine wpAnyH_done (by kernel_rfl) ?_ _
    have hX : max (cellInt w1.drew ⟨l.blk, 2, none⟩) (min p la) = ra := by rw [cellInt_eq (show w1.drew.cell? ⟨l.blk, 2, none⟩ = some (.int .u64 a) from q2)]; exact (hid_elim hr).symm
    rw [hX]
    have hw : (w1.setCell ⟨l.blk, 2, none⟩ (.int .u64 ra)).cell? ⟨l.blk, 2, none⟩ = some (.int .u64 ra) := World.cell?_setCell_same _ _ _ (by rw [q2])
    have hF9 := hid_intro (show Tryz.VFull (w1.setCell ⟨l.blk, 2, none⟩ (.int .u64 ra)).drew vb mt ml vx tm tn ln tks _ from hid_elim hset w1.drew hb1.drew)
    have hG9 : Hid (w.grownBy (w1.setCell ⟨l.blk, 2, none⟩ (.int .u64 ra)).drew (some l.blk)) := hid_intro ⟨hb1.os, hb1.tape, hb1.output, by have := hb1.size; simpa [World.drew] using this, fun j hj hnj => by
      have hd : j ≠ l.blk := fun e => hnj (by rw [e])
      show (w1.setCell ⟨l.blk, 2, none⟩ (.int .u64 ra)).heap[j]? = _
      rw [set_other _ _ _ _ _ hd]
      exact hb1.block j hj⟩
    clear hX hset hr hc1 hc2 hc6 hf2 hP1 hS0 hA hF q2 f2
    generalize (w1.setCell ⟨l.blk, 2, none⟩ (.int .u64 ra)) = w9 at *
    go_wp2
    exact bodyPost_ret (v := .tuple #[.int .u64 ra, .nilIface]) (by simp [results, Tryz.results42, go_sem]) rfl ⟨rfl, hid_elim hF9, hid_elim hG9⟩
end Go.Proofs
