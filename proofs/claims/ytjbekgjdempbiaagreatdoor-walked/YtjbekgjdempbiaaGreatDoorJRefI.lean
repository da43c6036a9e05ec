import Derived.Test.YtjbekgjdempbiaaGreatDoorProg
import Derived.Test.YtjbekgjdempbiaaGreatDoorJSortBase
import Derived.WalkKit
import Derived.WalkSpells
import Derived.Deep.RegionHeld3
import Derived.Maps.OwnSet
import Derived.Test.YtjbekgjdempbiaaGreatDoorJRefF
import Derived.Deep.RegionHeldLaw
import Derived.Deep.RegionLaw
import Derived.Deep.AppendLies
/-
  Package plain: what goes around each call.
-/
namespace Go.Proofs
open Go.RowKit Go.Sort

def fallV (a b c d : Int) : Value := .agg #[.int .i64 a, .int .i64 b, .int .i64 c, .int .i64 d]

theorem BoxN.ne {W : World} {B B' : Nat} {t t' : TypeId} {cs cs' : Array Value} (h : BoxN W B t cs) (h' : BoxN W B' t' cs') (hne : t ≠ t') : B ≠ B' := by
  rintro rfl
  have e : some (Obj.cells cs t (0, 0)) = some (Obj.cells cs' t' (0, 0)) := h.symm.trans h'
  simp at e
  exact hne e.2

set_option maxHeartbeats 1000000 in
theorem Tryz.well (w : World) : Calls Tryz.prog 16 #[] w fun e w' => e = .returned (fallV (-1) (-1) 0 0) ∧ Below w.heap.size w w' := by
  unfold fallV
  go_enter Tryz.func16, Tryz.ntmps16
  go_wp2
  exact bodyPost_ret (v := .agg #[.int .i64 (-1), .int .i64 (-1), .int .i64 0, .int .i64 0]) (by simp [results, Tryz.results16, go_sem]) rfl ⟨rfl, (Below.refl _ _).alloc (Nat.le_refl _) _⟩

theorem set_other (w : World) (db i k : Nat) (v : Value) (hd : k ≠ db) : (w.setCell ⟨db, i, none⟩ v).heap[k]? = w.heap[k]? := by
  show (w.heap.modify db _)[k]? = _
  rw [Array.getElem?_modify, if_neg (fun e => hd e.symm)]
theorem grown_two (w : World) (db i i' : Nat) (v v' : Value) (o : Obj) : w.grownBy (((w.setCell ⟨db, i, none⟩ v).setCell ⟨db, i', none⟩ v').alloc o).drew (some db) :=
  ⟨rfl, rfl, rfl, by simp [World.drew], fun k hk hne => by
    have hd : k ≠ db := fun e => hne (by rw [e])
    show (((w.setCell ⟨db, i, none⟩ v).setCell ⟨db, i', none⟩ v').heap.push o)[k]? = _
    rw [Array.getElem?_push_lt (by simpa using hk), ← Array.getElem?_eq_getElem]
    rw [set_other _ _ _ _ _ hd, set_other _ _ _ _ _ hd]⟩
/-- what holds throughout the two stores. -/
abbrev Tryz.FallP (hb db fb : Nat) (a b : Int) (W : World) : Prop :=
  (W.cell? ⟨hb, 0, none⟩ = some (.pointer (some ⟨db, 0, none⟩)) ∧ W.cell? ⟨fb, 0, none⟩ = some (.int .i64 a) ∧ W.cell? ⟨fb, 1, none⟩ = some (.int .i64 b)) ∧
  (W.cell? ⟨db, 3, none⟩ = some (cellOr W ⟨db, 3, none⟩) ∧ W.cell? ⟨db, 4, none⟩ = some (cellOr W ⟨db, 4, none⟩)) ∧ W.frozen? ⟨db, 3, none⟩ = false ∧ W.frozen? ⟨db, 4, none⟩ = false
theorem Tryz.FallP.start {W : World} {hb db fb : Nat} {a b c d : Int} {cs ds : Array Value} (hs : W.heap.size = fb) (hH : BoxN W hb 78 cs) (h0 : cs[0]? = some (.pointer (some ⟨db, 0, none⟩))) (hD : BoxN W db 100 ds) (h6 : ds.size = 6) :
    Tryz.FallP hb db fb a b (W.alloc (.cells #[.int .i64 a, .int .i64 b, .int .i64 c, .int .i64 d] 29)).drew := by
  subst hs
  have bF := BoxN.new W 29 #[.int .i64 a, .int .i64 b, .int .i64 c, .int .i64 d]
  have bH := hH.alloc (.cells #[.int .i64 a, .int .i64 b, .int .i64 c, .int .i64 d] 29)
  have bD := hD.alloc (.cells #[.int .i64 a, .int .i64 b, .int .i64 c, .int .i64 d] 29)
  exact ⟨⟨bH.cell 0 h0, bF.cell 0 rfl, bF.cell 1 rfl⟩, ⟨cellOr_some (by have h := bD.cell 3 (v := ds[3]) (by simp [h6]); show ((W.alloc _).cell? _).isSome; rw [h]; rfl), cellOr_some (by have h := bD.cell 4 (v := ds[4]) (by simp [h6]); show ((W.alloc _).cell? _).isSome; rw [h]; rfl)⟩, bD.frozen 3, bD.frozen 4⟩
theorem Tryz.FallP.start1 {w : World} {hb db : Nat} {a b c d : Int} {c1 c2 m1 m2 p l f dn : Value} (hH : BoxN w hb 78 #[.pointer (some ⟨db, 0, none⟩), c1, c2]) (hD : BoxN w db 100 #[m1, m2, p, l, f, dn]) (hne : hb ≠ db) (i : Nat) (v : Value) :
    Tryz.FallP hb db w.heap.size a b ((w.setCell ⟨db, i, none⟩ v).alloc (.cells #[.int .i64 a, .int .i64 b, .int .i64 c, .int .i64 d] 29)).drew :=
  Tryz.FallP.start (by simp) (hH.other hne i v) rfl (hD.set i v) (by simp)
theorem Tryz.FallP.start2 {w : World} {hb db : Nat} {a b c d : Int} {c1 c2 m1 m2 p l f dn : Value} (hH : BoxN w hb 78 #[.pointer (some ⟨db, 0, none⟩), c1, c2]) (hD : BoxN w db 100 #[m1, m2, p, l, f, dn]) (hne : hb ≠ db) (i : Nat) (v : Value) (i' : Nat) (v' : Value) :
    Tryz.FallP hb db w.heap.size a b (((w.setCell ⟨db, i, none⟩ v).setCell ⟨db, i', none⟩ v').alloc (.cells #[.int .i64 a, .int .i64 b, .int .i64 c, .int .i64 d] 29)).drew :=
  Tryz.FallP.start (by simp) ((hH.other hne i v).other hne i' v') rfl ((hD.set i v).set i' v') (by simp)
set_option maxHeartbeats 1000000 in
theorem Tryz.before (hb db : Nat) (c1 c2 m1 m2 p l f dn : Value) (a b c d : Int) (w : World) (hH : BoxN w hb 78 #[.pointer (some ⟨db, 0, none⟩), c1, c2]) (hD : BoxN w db 100 #[m1, m2, p, l, f, dn]) :
    Calls Tryz.prog 40 #[.pointer (some ⟨hb, 0, none⟩), fallV a b c d] w fun e w' => e = .returned (.tuple #[]) ∧ BoxN w' db 100 #[m1, m2, p, .int .i64 a, .int .i64 b, dn] ∧ w.grownBy w' (some db) := by
  have lH := hH.lt
  have lD := hD.lt
  have hne := hH.ne hD (by decide)
  unfold fallV
  go_enter Tryz.func40, Tryz.ntmps40
  go_wp2
  go_region_held3 (Tryz.FallP hb db w.heap.size a b) (first
    | with_reducible exact Tryz.FallP.start rfl hH rfl hD rfl
    | with_reducible exact Tryz.FallP.start1 hH hD hne _ _
    | with_reducible exact Tryz.FallP.start2 hH hD hne _ _ _ _
    | with_reducible assumption) (fail)
  all_goals
    go_wp2
    go_end0
    exact ⟨rfl, ((hD.set 3 _).set 4 _).alloc _, grown_two _ _ _ _ _ _ _⟩
set_option maxHeartbeats 1000000 in
theorem Tryz.after (hb db : Nat) (c1 c2 m1 m2 p l f : Value) (a b c d : Int) (w : World) (hH : BoxN w hb 78 #[.pointer (some ⟨db, 0, none⟩), c1, c2]) (hD : BoxN w db 100 #[m1, m2, p, l, f, .bool false]) :
    Calls Tryz.prog 42 #[.pointer (some ⟨hb, 0, none⟩), fallV a b c d] w fun e w' => e = .returned (.tuple #[]) ∧ BoxN w' db 100 #[m1, m2, p, .int .i64 (-1), .int .i64 (-1), .bool false] ∧ w.grownBy w' (some db) := by
  have h0 := hH.cell 0 (v := .pointer (some ⟨db, 0, none⟩)) rfl
  have d5 := hD.cell 5 (v := .bool false) rfl
  have lH := hH.lt
  have lD := hD.lt
  have hne := hH.ne hD (by decide)
  unfold fallV
  go_enter Tryz.func42, Tryz.ntmps42
  go_wp2
  go_region_held3 (Tryz.FallP hb db w.heap.size a b) (first
    | with_reducible exact Tryz.FallP.start rfl hH rfl hD rfl
    | with_reducible exact Tryz.FallP.start1 hH hD hne _ _
    | with_reducible exact Tryz.FallP.start2 hH hD hne _ _ _ _
    | with_reducible assumption) (fail)
  all_goals
    go_wp2
    go_end0
    exact ⟨rfl, ((hD.set 3 _).set 4 _).alloc _, grown_two _ _ _ _ _ _ _⟩
end Go.Proofs

/-
  All blocks but some are as they were.
-/
namespace Go.Proofs
open Go.RowKit Go.Sort

/-- all blocks but these are as they were. -/
structure Spares (bs : List Nat) (W W' : World) : Prop where
  os : W'.os = W.os
  tape : W'.tape = W.tape
  output : W'.output = W.output
  size : W.heap.size ≤ W'.heap.size
  block : ∀ k, k < W.heap.size → k ∉ bs → W'.heap[k]? = W.heap[k]?
section
variable {W W' W'' : World} {bs : List Nat}
theorem Spares.of_below (h : Below W.heap.size W W') : Spares bs W W' := ⟨h.os, h.tape, h.output, h.size, fun k hk _ => h.block k hk⟩
theorem Spares.of_grown {b : Nat} (h : W.grownBy W' (some b)) (hb : b ∈ bs) : Spares bs W W' := ⟨h.os, h.tape, h.output, h.size, fun k hk hn => h.block k hk (fun e => hn (by injection e with e; rw [e]; exact hb))⟩
theorem Spares.trans (h : Spares bs W W') (h' : Spares bs W' W'') : Spares bs W W'' := ⟨h'.os.trans h.os, h'.tape.trans h.tape, h'.output.trans h.output, Nat.le_trans h.size h'.size, fun k hk hn => (h'.block k (Nat.lt_of_lt_of_le hk h.size) hn).trans (h.block k hk hn)⟩
theorem Spares.mono {bs' : List Nat} (h : Spares bs W W') (hs : ∀ b ∈ bs, b ∈ bs') : Spares bs' W W' := ⟨h.os, h.tape, h.output, h.size, fun k hk hn => h.block k hk (fun e => hn (hs k e))⟩
theorem Spares.box {B : Nat} {t : TypeId} {cs : Array Value} (h : Spares bs W W') (hB : BoxN W B t cs) (hn : B ∉ bs) : BoxN W' B t cs := (h.block B hB.lt hn).trans hB
theorem Spares.map {H : Type} {P : Program} {k : TypeId} {R : Value → Option (DataW H × List MemPlace)} {D : DataW H} {b n : Nat} (h : Spares bs W W') (hm : W.ownsMap P k R b n D) (hn : b ∉ bs) : W'.ownsMap P k R b n D := by
  have hl := hm.lt
  obtain ⟨es, clock, hb, F, hs, hD⟩ := hm
  exact ⟨es, clock, (h.block b hl hn).trans hb, F, hs, hD⟩
theorem Spares.row {base size n g cap : Nat} {e : TypeId} {xs : List Value} (h : Spares bs W W') (hr : W.ownsRow base e size (.slice (some ⟨g, 0, none⟩) n cap) n xs) (hn : g ∉ bs) : W'.ownsRow base e size (.slice (some ⟨g, 0, none⟩) n cap) n xs := by
  obtain ⟨h1, ⟨e1, -⟩ | ⟨g', cap', cur, e1, e2, e3, e4⟩⟩ := hr
  · cases e1
  · cases e1
    exact ⟨h1, .inr ⟨g, cap, cur, rfl, e2, Spares.box (t := e) (cs := cur) h e3 hn, e4⟩⟩
theorem Spares.below {B : Nat} (h : Spares bs W W') (hB : B ≤ W.heap.size) (hn : ∀ b ∈ bs, B ≤ b) : Below B W W' := ⟨h.os, h.tape, h.output, h.size, fun k hk => h.block k (by omega) (fun e => by have := hn k e; omega)⟩
end
theorem Spares.set {bs : List Nat} {W W' : World} (h : Spares bs W W') {b : Nat} (hb : b ∈ bs) (i : Nat) (v : Value) : Spares bs W (W'.setCell ⟨b, i, none⟩ v) :=
  ⟨h.os, h.tape, h.output, by simpa using h.size, fun k hk hn => by rw [set_other _ _ _ _ _ (fun e => hn (by rw [e]; exact hb))]; exact h.block k hk hn⟩
theorem Spares.alloc {bs : List Nat} {W W' : World} (h : Spares bs W W') (o : Obj) : Spares bs W (W'.alloc o) := h.trans (Spares.of_below ((Below.refl _ _).alloc (Nat.le_refl _) o))
theorem Spares.drew {bs : List Nat} {W W' : World} (h : Spares bs W W') : Spares bs W W'.drew := h.trans (Spares.of_below ((Below.refl _ _).drew))

end Go.Proofs

/-
  The document's answer: Renew.
-/
namespace Go.Proofs
open Go.RowKit Go.Sort Go.Lib Go.Shelf

theorem flatT_set : ∀ (L : List ThingD) (i : Nat) (t : ThingD) (a : Int), L[i]? = some t → flatT (L.set i { t with at_ := a }) = (flatT L).set (i * 8 + 4) (.int .u64 a)
  | [], _, _, _, h => by simp at h
  | x :: xs, 0, t, a, h => by
    obtain rfl : x = t := by simpa using h
    show ({ x with at_ := a } : ThingD).cells.toList ++ flatT xs = (x.cells.toList ++ flatT xs).set (0 * 8 + 4) _
    rw [List.set_append_left _ _ (by rw [ThingD.cells_size]; omega)]
    rfl
  | x :: xs, i + 1, t, a, h => by
    show x.cells.toList ++ flatT (xs.set i { t with at_ := a }) = (x.cells.toList ++ flatT xs).set ((i + 1) * 8 + 4) _
    rw [List.set_append_right _ _ (by rw [ThingD.cells_size]; omega), ThingD.cells_size, show (i + 1) * 8 + 4 - 8 = i * 8 + 4 by omega, flatT_set xs i t a (by simpa using h)]

theorem Tryz.RVAt.setAt {B : Nat} {W : World} {vb g cap : Nat} {L : List ThingD} {tm tn ln : Int} (h : Tryz.RVAt B W vb g cap L tm tn ln) (hne : vb ≠ g) {i : Nat} {t : ThingD} (hi : L[i]? = some t) (a : Int) :
    Tryz.RVAt B (W.setCell ⟨g, i * 8 + 4, none⟩ (.int .u64 a)) vb g cap (L.set i { t with at_ := a }) tm tn ln := by
  have hlen : (L.set i { t with at_ := a }).length = L.length := List.length_set ..
  have hmem : ∀ x ∈ L.set i { t with at_ := a }, x ∈ L ∨ x = { t with at_ := a } := fun x hx => List.mem_or_eq_of_mem_set hx
  have htm : t ∈ L := List.mem_of_getElem? hi
  refine ⟨?_, ?_, ?_, ?_, ?_⟩
  · rw [hlen]; exact h.v.other hne _ _
  · rw [hlen]
    obtain ⟨h1, ⟨e1, -⟩ | ⟨g', cap', cur, e1, e2, e3, e4, e5, e6, e7⟩⟩ := h.row
    · cases e1
    · cases e1
      refine ⟨by rw [flatT_length, hlen], .inr ⟨g, cap, cur.setIfInBounds (i * 8 + 4) (.int .u64 a), rfl, e2, ?_, e4, e5, by simpa using e6, ?_⟩⟩
      · exact BoxN.set (W := W) (t := 105) (cs := cur) e3 (i * 8 + 4) (.int .u64 a)
      · rw [Array.toList_setIfInBounds, List.take_set, e7, flatT_set L i t a hi]
  · rw [hlen]; exact h.lim
  · intro x hx; rcases hmem x hx with hx | rfl
    · exact h.num x hx
    · exact h.num t htm
  · intro x hx; rcases hmem x hx with hx | rfl
    · exact h.ofs x hx
    · exact h.ofs t htm

def renewAt (tm ttl : Int) (t : ThingD) : Int := max t.at_ (min (plusI tm ttl) t.last)
theorem set_same {α : Type} {L : List α} {i : Nat} {t : α} (h : L[i]? = some t) : L.set i t = L := by
  obtain ⟨hlt, he⟩ := List.getElem?_eq_some_iff.1 h
  rw [← he]; exact List.set_getElem_self hlt
theorem Tryz.RVAt.frozenG {B : Nat} {W : World} {vb g cap : Nat} {L : List ThingD} {tm tn ln : Int} (h : Tryz.RVAt B W vb g cap L tm tn ln) (j : Nat) : W.frozen? ⟨g, j, none⟩ = false := by
  obtain ⟨h1, ⟨e1, -⟩ | ⟨g', cap', cur, e1, e2, e3, -⟩⟩ := h.row
  · cases e1
  · cases e1
    exact BoxN.frozen (W := W) (t := 105) (cs := cur) e3 j

set_option maxRecDepth 100000 in
set_option maxHeartbeats 4000000 in
theorem Tryz.rRenew_hit (B : Nat) (vb g cap : Nat) (L : List ThingD) (tm tn ln : Int) (id : List UInt8) (ttl : Int) (w : World) (h : Tryz.RVAt B w vb g cap L tm tn ln) (hB : B ≤ w.heap.size) (hne : vb ≠ g) (htm : 0 ≤ tm) (h0 : 0 ≤ ttl) (h1 : ttl ≤ 18446744073709551615)
    (i : Nat) (t : ThingD) (ht : L[i]? = some t) (hli : liveI tm id false L = i) :
    Calls Tryz.prog 112 #[.pointer (some ⟨vb, 0, none⟩), .string ⟨id.toArray⟩, .int .u64 ttl] w fun e w' => e = .returned (.tuple #[.int .u64 (renewAt tm ttl t), .int .i64 0]) ∧ Tryz.RVAt B w' vb g cap (L.set i { t with at_ := renewAt tm ttl t }) tm tn ln ∧ Below B w w' ∧ Spares [vb, g] w w' := by
  have hL := Tryz.rLive B vb g cap L tm tn ln id false w h
  rw [hli] at hL
  have hP := fun W => Tryz.rPlus tm ttl htm h0 h1 W
  have hlim := h.lim
  have hil : i < L.length := (List.getElem?_eq_some_iff.1 ht).1
  have hgB : B ≤ g := (h.row.lt g rfl).1
  have hc := fun W (hb : Below w.heap.size w W) => (h.below hb).cells ht
  have hv := fun W (hb : Below w.heap.size w W) => (h.below hb).v.cell 0 (v := .slice (some ⟨g, 0, none⟩) L.length cap) rfl
  have hv1 := fun W (hb : Below w.heap.size w W) => (h.below hb).v.cell 1 (v := .int .u64 tm) rfl
  have hfz := fun W (hb : Below w.heap.size w W) => (h.below hb).frozenG (i * 8 + 4)
  have hset := hid_intro (fun W (hb : Below w.heap.size w W) => (h.below hb).setAt hne ht (renewAt tm ttl t))
  have hsame := hid_intro (fun W (hb : Below w.heap.size w W) (e : renewAt tm ttl t = t.at_) => (show Tryz.RVAt B W vb g cap (L.set i { t with at_ := renewAt tm ttl t }) tm tn ln from by rw [e, set_same (show L[i]? = some { t with at_ := t.at_ } from ht)]; exact h.below hb))
  have hr : Hid (renewAt tm ttl t = max t.at_ (min (plusI tm ttl) t.last)) := hid_intro rfl
  generalize hra : renewAt tm ttl t = ra at *
  clear hra
  generalize plusI tm ttl = p at *
  obtain ⟨len, hlen⟩ : ∃ len, L.length = len := ⟨_, rfl⟩
  rw [hlen] at hil hlim
  simp only [hlen] at hv
  clear hlen
  have hnn : ¬ (i : Int) < 0 := by omega
  by_cases hpl : t.last < p <;> by_cases hat : t.at_ < (min p t.last)
  · have hat' : t.at_ < t.last := by omega
    obtain rfl : ra = t.last := by have := hid_elim hr; omega
    clear hr hat
    go_enter Tryz.func112, Tryz.ntmps112
    go_wp2_with (first
      | (go_at_call 154; refine hL.mono ?_; rintro e w1 ⟨rfl, hb1⟩; obtain ⟨x0, x1, x2, x3, x4, x5, x6, x7⟩ := hc w1 hb1; have v0 := hv w1 hb1; have v1 := hv1 w1 hb1; have fz := hfz w1 hb1)
      | (go_at_call 153; refine (hP _).mono ?_; rintro e w2 ⟨rfl, rfl⟩))
    exact bodyPost_ret (v := .tuple #[.int .u64 t.last, .int .i64 0]) (by simp [results, Tryz.results112, go_sem]) rfl ⟨rfl, hid_elim hset _ hb1, (hb1.mono hB).setCell (p := ⟨g, i * 8 + 4, none⟩) hgB _, (Spares.of_below hb1).set (by simp) _ _⟩
  · have hat' : ¬ t.at_ < t.last := by omega
    obtain rfl : ra = t.at_ := by have := hid_elim hr; omega
    clear hr hat
    go_enter Tryz.func112, Tryz.ntmps112
    go_wp2_with (first
      | (go_at_call 154; refine hL.mono ?_; rintro e w1 ⟨rfl, hb1⟩; obtain ⟨x0, x1, x2, x3, x4, x5, x6, x7⟩ := hc w1 hb1; have v0 := hv w1 hb1; have v1 := hv1 w1 hb1; have fz := hfz w1 hb1)
      | (go_at_call 153; refine (hP _).mono ?_; rintro e w2 ⟨rfl, rfl⟩))
    exact bodyPost_ret (v := .tuple #[.int .u64 t.at_, .int .i64 0]) (by simp [results, Tryz.results112, go_sem]) rfl ⟨rfl, hid_elim hsame _ hb1 (by first | rfl | trivial), hb1.mono hB, Spares.of_below hb1⟩
  · have hat' : t.at_ < p := by omega
    obtain rfl : ra = p := by have := hid_elim hr; omega
    clear hr hat
    go_enter Tryz.func112, Tryz.ntmps112
    go_wp2_with (first
      | (go_at_call 154; refine hL.mono ?_; rintro e w1 ⟨rfl, hb1⟩; obtain ⟨x0, x1, x2, x3, x4, x5, x6, x7⟩ := hc w1 hb1; have v0 := hv w1 hb1; have v1 := hv1 w1 hb1; have fz := hfz w1 hb1)
      | (go_at_call 153; refine (hP _).mono ?_; rintro e w2 ⟨rfl, rfl⟩))
    exact bodyPost_ret (v := .tuple #[.int .u64 ra, .int .i64 0]) (by simp [results, Tryz.results112, go_sem]) rfl ⟨rfl, hid_elim hset _ hb1, (hb1.mono hB).setCell (p := ⟨g, i * 8 + 4, none⟩) hgB _, (Spares.of_below hb1).set (by simp) _ _⟩
  · have hat' : ¬ t.at_ < p := by omega
    obtain rfl : ra = t.at_ := by have := hid_elim hr; omega
    clear hr hat
    go_enter Tryz.func112, Tryz.ntmps112
    go_wp2_with (first
      | (go_at_call 154; refine hL.mono ?_; rintro e w1 ⟨rfl, hb1⟩; obtain ⟨x0, x1, x2, x3, x4, x5, x6, x7⟩ := hc w1 hb1; have v0 := hv w1 hb1; have v1 := hv1 w1 hb1; have fz := hfz w1 hb1)
      | (go_at_call 153; refine (hP _).mono ?_; rintro e w2 ⟨rfl, rfl⟩))
    exact bodyPost_ret (v := .tuple #[.int .u64 t.at_, .int .i64 0]) (by simp [results, Tryz.results112, go_sem]) rfl ⟨rfl, hid_elim hsame _ hb1 (by first | rfl | trivial), hb1.mono hB, Spares.of_below hb1⟩

set_option maxHeartbeats 1000000 in
theorem Tryz.rRenew_miss (B : Nat) (vb g cap : Nat) (L : List ThingD) (tm tn ln : Int) (id : List UInt8) (ttl : Int) (w : World) (h : Tryz.RVAt B w vb g cap L tm tn ln) (hli : liveI tm id false L = -1) :
    Calls Tryz.prog 112 #[.pointer (some ⟨vb, 0, none⟩), .string ⟨id.toArray⟩, .int .u64 ttl] w fun e w' => e = .returned (.tuple #[.int .u64 0, .int .i64 5]) ∧ Below w.heap.size w w' := by
  have hL := Tryz.rLive B vb g cap L tm tn ln id false w h
  rw [hli] at hL
  go_enter Tryz.func112, Tryz.ntmps112
  go_wp2_with (go_at_call 154; refine hL.mono ?_; rintro e w1 ⟨rfl, hb1⟩)
  exact bodyPost_ret (v := .tuple #[.int .u64 0, .int .i64 5]) (by simp [results, Tryz.results112, go_sem]) rfl ⟨rfl, hb1⟩
end Go.Proofs

/-
  The document's answer: CreateToken and Issue where they say an error ahead of what they make.
-/
namespace Go.Proofs
open Go.RowKit Go.Sort Go.Lib Go.Shelf

set_option maxHeartbeats 1000000 in
theorem Tryz.rCreate_miss (B : Nat) (vb g cap : Nat) (L : List ThingD) (tm tn ln : Int) (id : List UInt8) (w : World) (h : Tryz.RVAt B w vb g cap L tm tn ln) (hli : liveI tm id true L = -1) :
    Calls Tryz.prog 109 #[.pointer (some ⟨vb, 0, none⟩), .string ⟨id.toArray⟩] w fun e w' => e = .returned (.tuple #[.string ⟨#[]⟩, .int .i64 1]) ∧ Below w.heap.size w w' := by
  have hL := Tryz.rLive B vb g cap L tm tn ln id true w h
  rw [hli] at hL
  go_enter Tryz.func109, Tryz.ntmps109
  go_wp2_with (go_at_call 154; refine hL.mono ?_; rintro e w1 ⟨rfl, hb1⟩)
  exact bodyPost_ret (v := .tuple #[.string ⟨#[]⟩, .int .i64 1]) (by simp [results, Tryz.results109, go_sem]) rfl ⟨rfl, hb1⟩

set_option maxHeartbeats 1000000 in
theorem Tryz.rCreate_many (B : Nat) (vb g cap : Nat) (L : List ThingD) (tm tn ln : Int) (id : List UInt8) (w : World) (h : Tryz.RVAt B w vb g cap L tm tn ln) (i : Nat) (hli : liveI tm id true L = i) (hc : countI true L = 10) :
    Calls Tryz.prog 109 #[.pointer (some ⟨vb, 0, none⟩), .string ⟨id.toArray⟩] w fun e w' => e = .returned (.tuple #[.string ⟨#[]⟩, .int .i64 4]) ∧ Below w.heap.size w w' := by
  have hL := Tryz.rLive B vb g cap L tm tn ln id true w h
  rw [hli] at hL
  have hC := fun W (hb : Below w.heap.size w W) => Tryz.rCount B vb g cap L tm tn ln true W (h.below hb)
  rw [hc] at hC
  have hnn : ¬ (i : Int) < 0 := by omega
  go_enter Tryz.func109, Tryz.ntmps109
  go_wp2_with (first
    | (go_at_call 154; refine hL.mono ?_; rintro e w1 ⟨rfl, hb1⟩)
    | (go_at_call 155; refine (hC _ hb1).mono ?_; rintro e w2 ⟨rfl, rfl⟩))
  exact bodyPost_ret (v := .tuple #[.string ⟨#[]⟩, .int .i64 4]) (by simp [results, Tryz.results109, go_sem]) rfl ⟨rfl, hb1⟩

/-- the number of the error that Issue says ahead of what it makes; 0: none. -/
def issueE (tm : Int) (id pth : List UInt8) (ttl most : Int) (L : List ThingD) : Int :=
  if liveI tm id true L < 0 then 1 else if pathI pth = false then 2 else if ttl = 0 ∨ most < ttl then 3 else if countI false L = 14 then 4 else 0

set_option maxRecDepth 100000 in
set_option maxHeartbeats 2000000 in
theorem Tryz.rIssue_err (B : Nat) (vb g cap : Nat) (L : List ThingD) (tm tn ln : Int) (id pth : List UInt8) (ttl most : Int) (w : World) (h : Tryz.RVAt B w vb g cap L tm tn ln) (hp : pth.length ≤ 9223372036854775807) (he : issueE tm id pth ttl most L ≠ 0) :
    Calls Tryz.prog 111 #[.pointer (some ⟨vb, 0, none⟩), .string ⟨id.toArray⟩, .string ⟨pth.toArray⟩, .int .u64 ttl, .int .u64 most] w fun e w' => e = .returned (.tuple #[.string ⟨#[]⟩, .int .i64 (issueE tm id pth ttl most L)]) ∧ Below w.heap.size w w' := by
  have hL := Tryz.rLive B vb g cap L tm tn ln id true w h
  have hC := fun W (hb : Below w.heap.size w W) => Tryz.rCount B vb g cap L tm tn ln false W (h.below hb)
  have hP := fun W => Tryz.rPathed pth hp W
  have hr : Hid (issueE tm id pth ttl most L = if liveI tm id true L < 0 then 1 else if pathI pth = false then 2 else if ttl = 0 ∨ most < ttl then 3 else if countI false L = 14 then 4 else 0) := hid_intro rfl
  generalize issueE tm id pth ttl most L = r at *
  generalize liveI tm id true L = i at *
  generalize pathI pth = pb at *
  generalize countI false L = n at *
  by_cases h1 : i < 0
  · obtain rfl : r = 1 := by rw [hid_elim hr, if_pos h1]
    clear hr he
    go_enter Tryz.func111, Tryz.ntmps111
    go_wp2_with (first
      | (go_at_call 154; refine hL.mono ?_; rintro e w1 ⟨rfl, hb1⟩)
      | (go_at_call 156; refine (hP _).mono ?_; rintro e w2 ⟨rfl, rfl⟩)
      | (go_at_call 155; refine (hC _ hb1).mono ?_; rintro e w3 ⟨rfl, rfl⟩))
    exact bodyPost_ret (v := .tuple #[.string ⟨#[]⟩, .int .i64 1]) (by simp [results, Tryz.results111, go_sem]) rfl ⟨rfl, hb1⟩
  · by_cases h2 : pb = false
    · obtain rfl : r = 2 := by rw [hid_elim hr, if_neg h1, if_pos h2]
      subst h2
      clear hr he
      go_enter Tryz.func111, Tryz.ntmps111
      go_wp2_with (first
        | (go_at_call 154; refine hL.mono ?_; rintro e w1 ⟨rfl, hb1⟩)
        | (go_at_call 156; refine (hP _).mono ?_; rintro e w2 ⟨rfl, rfl⟩)
        | (go_at_call 155; refine (hC _ hb1).mono ?_; rintro e w3 ⟨rfl, rfl⟩))
      exact bodyPost_ret (v := .tuple #[.string ⟨#[]⟩, .int .i64 2]) (by simp [results, Tryz.results111, go_sem]) rfl ⟨rfl, hb1⟩
    · obtain rfl : pb = true := by simpa using h2
      by_cases h3 : ttl = 0 ∨ most < ttl
      · obtain rfl : r = 3 := by rw [hid_elim hr, if_neg h1, if_neg h2, if_pos h3]
        clear hr he h2
        by_cases h0 : ttl = 0
        · subst h0
          clear h3
          go_enter Tryz.func111, Tryz.ntmps111
          go_wp2_with (first
            | (go_at_call 154; refine hL.mono ?_; rintro e w1 ⟨rfl, hb1⟩)
            | (go_at_call 156; refine (hP _).mono ?_; rintro e w2 ⟨rfl, rfl⟩)
            | (go_at_call 155; refine (hC _ hb1).mono ?_; rintro e w3 ⟨rfl, rfl⟩))
          exact bodyPost_ret (v := .tuple #[.string ⟨#[]⟩, .int .i64 3]) (by simp [results, Tryz.results111, go_sem]) rfl ⟨rfl, hb1⟩
        · have h0' : (ttl == 0) = false := by simpa using h0
          have h3' : most < ttl := h3.resolve_left h0
          clear h3 h0
          go_enter Tryz.func111, Tryz.ntmps111
          go_wp2_with (first
            | (go_at_call 154; refine hL.mono ?_; rintro e w1 ⟨rfl, hb1⟩)
            | (go_at_call 156; refine (hP _).mono ?_; rintro e w2 ⟨rfl, rfl⟩)
            | (go_at_call 155; refine (hC _ hb1).mono ?_; rintro e w3 ⟨rfl, rfl⟩))
          exact bodyPost_ret (v := .tuple #[.string ⟨#[]⟩, .int .i64 3]) (by simp [results, Tryz.results111, go_sem]) rfl ⟨rfl, hb1⟩
      · by_cases h4 : n = 14
        · obtain rfl : r = 4 := by rw [hid_elim hr, if_neg h1, if_neg h2, if_neg h3, if_pos h4]
          subst h4
          have h0' : (ttl == 0) = false := by simp; omega
          have h3' : ¬ most < ttl := by omega
          clear hr he h2 h3
          go_enter Tryz.func111, Tryz.ntmps111
          go_wp2_with (first
            | (go_at_call 154; refine hL.mono ?_; rintro e w1 ⟨rfl, hb1⟩)
            | (go_at_call 156; refine (hP _).mono ?_; rintro e w2 ⟨rfl, rfl⟩)
            | (go_at_call 155; refine (hC _ hb1).mono ?_; rintro e w3 ⟨rfl, rfl⟩))
          exact bodyPost_ret (v := .tuple #[.string ⟨#[]⟩, .int .i64 4]) (by simp [results, Tryz.results111, go_sem]) rfl ⟨rfl, hb1⟩
        · exact absurd (by rw [hid_elim hr, if_neg h1, if_neg h2, if_neg h3, if_neg h4]) he
end Go.Proofs

/-
  The document's answer: CreateToken where it makes a token.
-/
namespace Go.Proofs
open Go.RowKit Go.Sort Go.Lib Go.Shelf

def newTok (k m : Nat) : ThingD := ⟨true, k, (m : Int), [], 18446744073709551615, 0, false, 0⟩
abbrev cells3 (g vb i : Nat) (sl : Value) (k m : Nat) (W : World) : Prop :=
  W.cell? ⟨vb, 0, none⟩ = some sl ∧ W.cell? ⟨vb, 2, none⟩ = some (.int .i64 k) ∧ W.cell? ⟨g, i * 8 + 1, none⟩ = some (.int .i64 m)
theorem cells3.below {g vb i : Nat} {sl : Value} {k m : Nat} {W W' : World} (h : cells3 g vb i sl k m W) (hb : Below W.heap.size W W') : cells3 g vb i sl k m W' :=
  ⟨cell_later hb h.1, cell_later hb h.2.1, cell_later hb h.2.2⟩

/-- behind the region that makes the token, and the new number's store: what stands in memory. -/
theorem Tryz.RVAt.made {B : Nat} {W : World} {vb g cap : Nat} {L : List ThingD} {tm ln : Int} {k : Nat} (h : Tryz.RVAt B W vb g cap L tm k ln) (hne : vb ≠ g) (cs : Array Value) :
    BoxN (((W.setCell ⟨vb, 2, none⟩ (.int .i64 (k + 1))).alloc (.cells cs 105)).drew) vb 108 #[.slice (some ⟨g, 0, none⟩) L.length cap, .int .u64 tm, .int .i64 (k + 1), .int .i64 ln] ∧
    (((W.setCell ⟨vb, 2, none⟩ (.int .i64 (k + 1))).alloc (.cells cs 105)).drew).ownsRow B 105 8 (.slice (some ⟨g, 0, none⟩) L.length cap) L.length (flatT L) ∧
    BoxN (((W.setCell ⟨vb, 2, none⟩ (.int .i64 (k + 1))).alloc (.cells cs 105)).drew) W.heap.size 105 cs := by
  have lv := h.v.lt
  refine ⟨?_, ?_, ?_⟩
  · exact (h.v.set 2 _).alloc _
  · have hr : (W.setCell ⟨vb, 2, none⟩ (.int .i64 (k + 1))).ownsRow B 105 8 (.slice (some ⟨g, 0, none⟩) L.length cap) L.length (flatT L) := by
      obtain ⟨h2, ⟨e1, -⟩ | ⟨g', cap', cur, e1, e2, e3, e4⟩⟩ := h.row
      · cases e1
      · cases e1
        exact ⟨h2, .inr ⟨g, cap, cur, rfl, e2, BoxN.other (W := W) (t := 105) (cs := cur) e3 (Ne.symm hne) 2 _, e4⟩⟩
    exact hr.alloc _
  · have := BoxN.new (W.setCell ⟨vb, 2, none⟩ (.int .i64 (k + 1))) 105 cs
    rw [World.size_setCell] at this
    exact this

set_option maxRecDepth 100000 in
set_option maxHeartbeats 4000000 in
theorem Tryz.rCreate_ok (B : Nat) (vb g cap : Nat) (L : List ThingD) (tm ln : Int) (k : Nat) (id : List UInt8) (w : World) (h : Tryz.RVAt B w vb g cap L tm k ln) (hvB : B ≤ vb) (hne : vb ≠ g) (hB : B ≤ w.heap.size) (hk : k < 9223372036854775807) (hl : L.length < 100)
    (i : Nat) (t : ThingD) (ht : L[i]? = some t) (hli : liveI tm id true L = i) (hc : countI true L ≠ 10) :
    Calls Tryz.prog 109 #[.pointer (some ⟨vb, 0, none⟩), .string ⟨id.toArray⟩] w fun e w' => ∃ g' cap', e = .returned (.tuple #[.string ⟨(newTok k t.n).id.toArray⟩, .int .i64 0]) ∧ Tryz.RVAt B w' vb g' cap' (L ++ [newTok k t.n]) tm (k + 1) ln ∧ vb ≠ g' ∧ Below B w w' ∧ Spares [vb, g] w w' := by
  obtain ⟨i0, hi, hz0, hz1, hz2⟩ := info_parts Tryz.thingInfo
  have hL := Tryz.rLive B vb g cap L tm k ln id true w h
  rw [hli] at hL
  have hC := fun W (hb : Below w.heap.size w W) => Tryz.rCount B vb g cap L tm k ln true W (h.below hb)
  have hc' : ((countI true L : Int) == 10) = false := by rw [beq_eq_false_iff_ne]; omega
  have hil : i < L.length := (List.getElem?_eq_some_iff.1 ht).1
  have hS := fun W (hb : Below w.heap.size w W) => (show cells3 g vb i (.slice (some ⟨g, 0, none⟩) L.length cap) k t.n W from ⟨(h.below hb).v.cell 0 rfl, (h.below hb).v.cell 2 rfl, ((h.below hb).cells ht).2.1⟩)
  generalize countI true L = n at *
  have hnn : ¬ (i : Int) < 0 := by omega
  have lv := h.v.lt
  have lg := h.glt
  go_enter Tryz.func109, Tryz.ntmps109
  go_wp2_with (first
    | (go_at_call 154; refine hL.mono ?_; rintro e w1 ⟨rfl, hb1⟩)
    | (go_at_call 155; refine (hC _ hb1).mono ?_; rintro e w2 ⟨rfl, rfl⟩))
  rename_i w1 _
  have hsz := hb1.size
  have fv := (h.below hb1).v.frozen 2
  have lv2 := (h.below hb1).v.lt
  have hM := hid_intro ((h.below hb1).made hne #[.bool true, .int .i64 k, .int .i64 t.n, .string ⟨#[]⟩, .int .u64 18446744073709551615, .int .u64 0, .bool false, .int .i64 0])
  go_region_held3 (cells3 g vb i (.slice (some ⟨g, 0, none⟩) L.length cap) k t.n) (first
      | with_reducible exact (hS _ hb1).below (Grew.below (Grew.refl _).drew)
      | with_reducible exact (hS _ hb1).below (Grew.below ((Grew.refl _).alloc _).drew)
      | with_reducible exact cells3.below (by assumption) (by assumption)
      | with_reducible exact cells3.below (by assumption) (Grew.below ((Grew.refl _).alloc _))) (fail)
  go_wp2
  obtain ⟨bV, hrow, bT⟩ := hid_elim hM
  clear hM fv hS
  have hB9 : Below B w (((w2.setCell ⟨vb, 2, none⟩ (.int .i64 (k + 1))).alloc (.cells #[.bool true, .int .i64 k, .int .i64 t.n, .string ⟨#[]⟩, .int .u64 18446744073709551615, .int .u64 0, .bool false, .int .i64 0] 105)).drew) := ((((hb1.mono hB).setCell (p := ⟨vb, 2, none⟩) hvB _).alloc (by simp; omega) _).drew)
  have hP9 : Spares [vb, g] w (((w2.setCell ⟨vb, 2, none⟩ (.int .i64 (k + 1))).alloc (.cells #[.bool true, .int .i64 k, .int .i64 t.n, .string ⟨#[]⟩, .int .u64 18446744073709551615, .int .u64 0, .bool false, .int .i64 0] 105)).drew) := (((Spares.of_below hb1).set (by simp) _ _).alloc _).drew
  have hs9 : (((w2.setCell ⟨vb, 2, none⟩ (.int .i64 (k + 1))).alloc (.cells #[.bool true, .int .i64 k, .int .i64 t.n, .string ⟨#[]⟩, .int .u64 18446744073709551615, .int .u64 0, .bool false, .int .i64 0] 105)).drew).heap.size = w2.heap.size + 1 := by simp
  obtain ⟨W9, hW9⟩ : ∃ W9, ((w2.setCell ⟨vb, 2, none⟩ (.int .i64 (k + 1))).alloc (.cells #[.bool true, .int .i64 k, .int .i64 t.n, .string ⟨#[]⟩, .int .u64 18446744073709551615, .int .u64 0, .bool false, .int .i64 0] 105)).drew = W9 := ⟨_, rfl⟩
  rw [hW9] at bV hrow bT hB9 hs9 hP9
  rw [hW9]
  clear hW9
  have Hs9 := hid_intro hs9
  have hB9s : B ≤ W9.heap.size := by omega
  clear hs9
  have lv9 := bV.lt
  have lt9 := bT.lt
  have v0 := bV.cell 0 (v := .slice (some ⟨g, 0, none⟩) L.length cap) rfl
  have fv0 := bV.frozen 0
  obtain ⟨y0, y1, y2, y3, y4, y5, y6, y7⟩ := bT.c8
  have hll : L.length < 100 := hl
  go_region_law ((refine step_append_lies _ (by rfl) _ _ _ (by rfl) B 105 i0 _ 8 72 Tryz.underlying106 hi hz0 hz1 hz2 rfl (by decide) _ _ _ (by rfl) (ownsRow_below hrow (by first | exact Grew.below ((Grew.refl _).alloc _) | exact Grew.below (((Grew.refl _).drewN _).alloc _))) ⟨W9.heap.size, 0, none⟩ 1 1 [.bool true, .int .i64 k, .int .i64 t.n, .string ⟨#[]⟩, .int .u64 18446744073709551615, .int .u64 0, .bool false, .int .i64 0] (by rfl) rfl (World.news_of_block (heap_alloc_new _ _)) (by simp [Value.oneCell']) (by omega) (by unfold maxLen; omega) (by omega) (by simp; omega) _ rfl ?_; intro g' cap' w3 hown' hgrow hat hlt; have bV3 := (bV.below (B := vb) (n₀ := W9.heap.size) (by first | exact Grew.below ((Grew.refl W9).alloc _) | exact Grew.below (((Grew.refl W9).drew).alloc _)) bV.lt).kept hgrow (by simp [Value.ownBlock, hne]); have d0 := bV3.cell 0 (v := .slice (some ⟨g, 0, none⟩) L.length cap) rfl; have d1 := bV3.frozen 0))
  all_goals
    have hvg : vb ≠ g' := by
      rcases hat with e | e
      · have : g = g' := by simpa [Value.ownBlock] using e
        omega
      · have : g' = W9.heap.size + 1 := by simpa using e
        omega
    have lg2 : g < w2.heap.size := by omega
    have bT4 := ((bT.below (B := w2.heap.size) (n₀ := W9.heap.size) (Grew.below (((Grew.refl W9).alloc _).drew)) bT.lt).kept hgrow (by simp [Value.ownBlock]; omega)).other (B' := vb) (by omega) 0 (.slice (some ⟨g', 0, none⟩) (L.length + 1) cap')
    have hbk : ∀ q, (Value.slice (some ⟨g, 0, none⟩) L.length cap).ownBlock = some q → B ≤ q := by
      intro q hq
      have h1 : g = q := by simpa [Value.ownBlock] using hq
      have h2 := (h.row.lt g rfl).1
      omega
    have hB3 : Below B w w3 := ((hB9.alloc hB9s _).drew).grown hgrow (by simp; omega) hbk
    have hP3 : Spares [vb, g] w w3 := ((hP9.alloc _).drew).trans (Spares.of_grown (b := g) hgrow (by simp))
    have hF : Hid (Tryz.RVAt B (w3.setCell ⟨vb, 0, none⟩ (.slice (some ⟨g', 0, none⟩) (L.length + 1) cap')) vb g' cap' (L ++ [newTok k t.n]) tm (k + 1) ln ∧ Below B w (w3.setCell ⟨vb, 0, none⟩ (.slice (some ⟨g', 0, none⟩) (L.length + 1) cap')) ∧ Spares [vb, g] w (w3.setCell ⟨vb, 0, none⟩ (.slice (some ⟨g', 0, none⟩) (L.length + 1) cap'))) := hid_intro ⟨⟨by
        rw [List.length_append]; exact bV3.set 0 _, by
        rw [List.length_append, flatT_snoc]; exact hown'.kept (grownBy_setCell' w3 vb _) (.inr (by simp [Value.ownBlock]; omega)), by
        rw [List.length_append]; show L.length + 1 ≤ 100; omega, fun x hx => by
        rcases List.mem_append.1 hx with hx | hx
        · exact h.num x hx
        · rw [List.mem_singleton.1 hx]; show k < _; omega, fun x hx => by
        rcases List.mem_append.1 hx with hx | hx
        · exact h.ofs x hx
        · rw [List.mem_singleton.1 hx]; exact .inr ⟨t.n, rfl, h.num t (List.mem_of_getElem? ht)⟩⟩, hB3.setCell (p := ⟨vb, 0, none⟩) hvB _, hP3.set (by simp) _ _⟩
    have hs4 : B ≤ (w3.setCell ⟨vb, 0, none⟩ (.slice (some ⟨g', 0, none⟩) (L.length + 1) cap')).heap.size := by have := hB3.size; simp; omega
    have hID := fun W => Tryz.rId (newTok k t.n) (show k < _ by omega) W
    obtain ⟨nid, hnid⟩ : ∃ nid, (newTok k t.n).id = nid := ⟨_, rfl⟩
    rw [hnid] at hID
    have Hn := hid_intro hnid
    clear hnid
    simp only [newTok, ThingD.cells] at hID
    clear hown' hgrow hat hlt bV3 d0 d1 hB3 hP3 hP9 bV hrow bT v0 fv0 y0 y1 y2 y3 y4 y5 y6 y7 hB9 hL hC
    generalize w3.setCell ⟨vb, 0, none⟩ (.slice (some ⟨g', 0, none⟩) (L.length + 1) cap') = W4 at *
    obtain ⟨y0, y1, y2, y3, y4, y5, y6, y7⟩ := bT4.c8
    go_wp2_with (go_at_call 105; refine (hID _).mono ?_; rintro e w5 ⟨rfl, hb5⟩)
    exact bodyPost_ret (v := .tuple #[.string ⟨nid.toArray⟩, .int .i64 0]) (by simp [results, Tryz.results109, go_sem]) rfl ⟨g', cap', by rw [hid_elim Hn], (hid_elim hF).1.below hb5, hvg, (hid_elim hF).2.1.trans (hb5.mono hs4), (hid_elim hF).2.2.trans (Spares.of_below hb5)⟩
end Go.Proofs
