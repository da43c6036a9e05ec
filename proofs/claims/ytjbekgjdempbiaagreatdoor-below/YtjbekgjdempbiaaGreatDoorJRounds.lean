import Derived.Test.YtjbekgjdempbiaaGreatDoorJRefA
import Derived.Test.YtjbekgjdempbiaaGreatDoorJMapOps
import Derived.Stop.RegionWithIn
set_option maxRecDepth 100000
set_option maxHeartbeats 8000000
namespace Go.Proofs
open Go.RowKit Go.Sort Go.Lib Go.Shelf
def flatT (xs:List ThingD):List Value:=xs.flatMap fun x=>x.cells.toList
theorem ThingD.cells_size (x:ThingD):x.cells.toList.length=8:=rfl
theorem flatT_get:∀(xs:List ThingD) (k j:Nat) (t:ThingD),xs[k]? = some t→j<8→(flatT xs)[k*8+j]? = t.cells[j]?
 | [],_,_,_,h,_=>by simp at h
 | x :: xs,0,j,t,h,hj=>by
  obtain rfl:x=t:=by simpa using h
  show (x.cells.toList++flatT xs)[0*8+j]? = _
  rw [List.getElem?_append_left (by rw [ThingD.cells_size];omega)];simp
 | x :: xs,k+1,j,t,h,hj=>by
  show (x.cells.toList++flatT xs)[(k+1)*8+j]? = _
  rw [List.getElem?_append_right (by rw [ThingD.cells_size];omega),ThingD.cells_size,show (k+1)*8+j-8=k*8+j by omega];exact flatT_get xs k j t (by simpa using h) hj
def ThingD.OfOk (t:ThingD):Prop:=t.of_ = -1∨∃ m:Nat,t.of_=(m:Int)∧m<9223372036854775808
structure Tryz.RVAt (B:Nat) (W:World) (vb g cap:Nat) (L:List ThingD) (tm tn ln:Int):Prop where
 v:BoxN W vb 108 #[.slice (some ⟨g,0,none⟩) L.length cap,.int .u64 tm,.int .i64 tn,.int .i64 ln]
 row:W.ownsRow B 105 8 (.slice (some ⟨g,0,none⟩) L.length cap) L.length (flatT L)
 lim:L.length≤100
 num:∀ t∈L,t.n<9223372036854775808
 ofs:∀ t∈L,t.OfOk
theorem Tryz.RVAt.cell {B:Nat} {W:World} {vb g cap:Nat} {L:List ThingD} {tm tn ln:Int} (h:RVAt B W vb g cap L tm tn ln) {k:Nat} {t:ThingD} (hk:L[k]? = some t) (j:Nat) (hj:j<8):W.cell? ⟨g,k*8+j,none⟩=t.cells[j]?:=by
 have hc:=h.row.cells (g:=g) rfl (k*8+j);have hs:j<t.cells.size:=hj;have:=hc (t.cells[j]) (by rw [flatT_get L k j t hk hj];simp [hs]);rw [Lib.add_plain] at this;simp only [Nat.zero_add] at this;rw [this];simp [hs]
theorem Tryz.RVAt.cells {B:Nat} {W:World} {vb g cap:Nat} {L:List ThingD} {tm tn ln:Int} (h:RVAt B W vb g cap L tm tn ln) {k:Nat} {t:ThingD} (hk:L[k]? = some t) :
  W.cell? ⟨g,k*8,none⟩=some (.bool t.token)∧W.cell? ⟨g,k*8+1,none⟩=some (.int .i64 t.n)∧W.cell? ⟨g,k*8+2,none⟩=some (.int .i64 t.of_)∧W.cell? ⟨g,k*8+3,none⟩=some (.string ⟨t.pth.toArray⟩)∧W.cell? ⟨g,k*8+4,none⟩=some (.int .u64 t.at_)∧W.cell? ⟨g,k*8+5,none⟩=some (.int .u64 t.last)∧W.cell? ⟨g,k*8+6,none⟩=some (.bool t.doomed)∧W.cell? ⟨g,k*8+7,none⟩=some (.int .i64 t.tries):=
 ⟨h.cell hk 0 (by omega),h.cell hk 1 (by omega),h.cell hk 2 (by omega),h.cell hk 3 (by omega),h.cell hk 4 (by omega),h.cell hk 5 (by omega),h.cell hk 6 (by omega),h.cell hk 7 (by omega)⟩
theorem Tryz.RVAt.below {B:Nat} {W W':World} {vb g cap:Nat} {L:List ThingD} {tm tn ln:Int} (h:RVAt B W vb g cap L tm tn ln) (hb:Below W.heap.size W W'):RVAt B W' vb g cap L tm tn ln:=
 ⟨h.v.below hb h.v.lt,h.row.kept (row:=none) ⟨hb.os,hb.tape,hb.output,hb.size,fun k hk _=>hb.block k hk⟩ (Or.inr (by simp [Value.ownBlock])),h.lim,h.num,h.ofs⟩
theorem take_get {α:Type} {L:List α} {k:Nat} {t:α} (h:L[k]? = some t):L.take (k+1)=L.take k ++ [t]:=by
 rw [List.take_add_one,h];rfl
def countI (tk:Bool) (L:List ThingD):Nat:=(L.filter (fun t=>t.token==tk)).length
def minT (L:List ThingD):Int:=L.foldl (fun m t=>min m t.at_) 18446744073709551615
def findI (id:List UInt8) (L:List ThingD):Int:=match L.findIdx? (fun t=>t.id==id) with | some i=>(i:Int) | none=>-1
def liveI (tm:Int) (id:List UInt8) (tk:Bool) (L:List ThingD):Int:=
 match L.findIdx? (fun t=>t.id==id) with
 | some i=>match L[i]? with
  | some t=>if t.token==tk&&t.state tm==1 then (i:Int) else -1
  | none=>-1
 | none=>-1
def ofStr (o:Int):List UInt8:=if 0≤o then 116 :: Lib.decDigits o.toNat else []
def ThingD.info (tm:Int) (t:ThingD):InfoD:=⟨t.id,t.state tm,t.at_,t.tries,ofStr t.of_,t.pth⟩
abbrev zero6:Array Value:=#[.string ⟨#[]⟩,.int .i64 0,.int .u64 0,.int .i64 0,.string ⟨#[]⟩,.string ⟨#[]⟩]
def allInfos (tm:Int) (L:List ThingD):List InfoD:=((L.filter (fun t=>t.token))++(L.filter (fun t=>!t.token))).map (ThingD.info tm)
end Go.Proofs
namespace Go.Proofs
open Go.RowKit Go.Sort
def noDefer (ops:Array Oper):Bool:=ops.all fun o=>match o.op with | .defer _=>false | _=>true
theorem noDefer_spec {ops:Array Oper} (h:noDefer ops=true) {i:Nat} {o:Oper} (ho:ops[i]? = some o):∀ c,o.op ≠ .defer c:=fun c hc=>by
 obtain⟨hi,he⟩:=Array.getElem?_eq_some_iff.1 ho;have:=(Array.all_eq_true.1 h) i hi;rw [he,hc] at this;cases this
section
variable {n:Nat} {P:Program} {md:Region.Mode} {ops:Array Oper} {Q:Exit→Act→World→Prop}
theorem oper_inRound (l:Nat) {o:Oper} (hd:∀ c,o.op ≠ .defer c) {a:Act} {w:World} {K:Act→World→Prop} (h:o.wpIn Fence.wide n P a w K Q):o.wpIn (Fence.wide.inRound l) n P a w K Q:=by
 unfold Oper.wpIn at h ⊢;rw [Oper.semAt_eq _ _ _ hd] at h ⊢;exact h
theorem wpAnyIn_inRound (l:Nat) (hd:noDefer ops=true):∀(fuel:Nat) (listed:Array Bool) (a:Act) (w:World),wpAnyIn Fence.wide n P md ops Q fuel listed a w→wpAnyIn (Fence.wide.inRound l) n P md ops Q fuel listed a w
 | 0,_,_,_,h=>h
 | fuel+1,listed,a,w,h=>by
  refine⟨h.1,fun i hi=>?_⟩;have hs:=h.2 i hi;unfold wpOpIn at hs ⊢
  cases ho:ops[i]? with
  | none=>rw [ho] at hs;exact wpAnyIn_inRound l hd fuel _ _ _ hs
  | some o =>
   rw [ho] at hs;simp only at hs ⊢
   split
   ·rename_i hw
    rw [if_pos hw] at hs;exact oper_inRound l (noDefer_spec hd ho) (Oper.wpIn_mono (fun a w=>wpAnyIn_inRound l hd fuel _ a w) hs)
   ·rename_i hw
    rw [if_neg hw] at hs;exact⟨hs.1,wpAnyIn_inRound l hd fuel _ _ _ hs.2⟩
end
end Go.Proofs
