import Derived.RangeFuncNested
import Derived.RangeFuncBox
import Derived.Test.YtjbekgjdempbiaaGreatDoorJMapN
set_option maxRecDepth 100000
set_option maxHeartbeats 8000000
namespace Go.Proofs
open Go.RowKit Go.Sort
def BoxN (W:World) (B:Nat) (t:TypeId) (cs:Array Value):Prop:=W.heap[B]? = some (.cells cs t (0,0))
section
variable {W W':World} {B:Nat} {t:TypeId} {cs:Array Value}
theorem BoxN.lt (h:BoxN W B t cs):B<W.heap.size:=(Array.getElem?_eq_some_iff.1 h).1
theorem BoxN.cell (h:BoxN W B t cs) (i:Nat) {v:Value} (hv:cs[i]? = some v):W.cell? ⟨B,i,none⟩=some v:=by simp [World.cell?,show W.heap[B]? = _ from h,hv]
theorem BoxN.frozen (h:BoxN W B t cs) (i:Nat):W.frozen? ⟨B,i,none⟩=false:=by simp [World.frozen?,show W.heap[B]? = _ from h]
theorem BoxN.new (W:World) (t:TypeId) (cs:Array Value):BoxN (W.alloc (.cells cs t)) W.heap.size t cs:=World.alloc_heap_new W _
theorem BoxN.kept {row:Option Nat} (h:BoxN W B t cs) (hg:W.grownBy W' row) (hne:some B≠row):BoxN W' B t cs:=(hg.block B h.lt hne).trans h
theorem BoxN.alloc (h:BoxN W B t cs) (o:Obj):BoxN (W.alloc o) B t cs:=h.kept (World.grownBy_alloc W o none) (by simp)
theorem BoxN.below {n₀:Nat} (h:BoxN W B t cs) (hb:Below n₀ W W') (hB:B<n₀):BoxN W' B t cs:=(hb.block B hB).trans h
theorem BoxN.set (h:BoxN W B t cs) (i:Nat) (v:Value):BoxN (W.setCell ⟨B,i,none⟩ v) B t (cs.setIfInBounds i v):=by
 obtain⟨hlt,hk⟩:=Array.getElem?_eq_some_iff.1 h
 show (W.heap.modify B _)[B]? = _
 rw [Array.getElem?_eq_getElem (by rw [Array.size_modify];exact hlt),Array.getElem_modify_self,hk];rfl
theorem BoxN.other {B':Nat} (h:BoxN W B t cs) (hne:B≠B') (i:Nat) (v:Value):BoxN (W.setCell ⟨B',i,none⟩ v) B t cs:=by
 show (W.heap.modify B' _)[B]? = _
 rw [Array.getElem?_modify,if_neg (fun e=>hne e.symm)];exact h
end
def Xq (W:World) (a:Addr):Value:=(W.cell? a).getD undef
theorem Xg {W:World} {a:Addr} (h:(W.cell? a).isSome):W.cell? a=some (Xq W a):=by
 unfold Xq;obtain⟨v,hv⟩:=Option.isSome_iff_exists.1 h;rw [hv];rfl
theorem X6 {β:Type} (B:Nat) (t:TypeId) (f:β->Array Value):Own (fun s W=>BoxN W B t (f s)):=fun _ X _ _ hs hg hrow =>
 hs.kept hg (fun e'=>by obtain⟨o,ho,hc⟩:=hrow B e'.symm;rw [show X.heap[B]? = _ from hs] at ho;cases ho;cases hc)
end Go.Proofs
