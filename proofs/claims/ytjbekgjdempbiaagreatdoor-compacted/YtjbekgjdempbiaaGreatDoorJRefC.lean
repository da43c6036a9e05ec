import Derived.Test.YtjbekgjdempbiaaGreatDoorJState
import Derived.BigQuiet
set_option maxRecDepth 100000
set_option maxHeartbeats 8000000
namespace Go.Proofs
open Go.RowKit Go.Sort Go.Lib Go.Shelf
def plusI (a b:Int):Int:=if 18446744073709551615-b<a then 18446744073709551615 else a+b
structure Xm where
 token:Bool
 n:Nat
 of_:Int
 pth:List UInt8
 at_:Int
 last:Int
 doomed:Bool
 tries:Int
def Xm.cells (t:Xm):Array Value:=#[.bool t.token,.int .i64 t.n,.int .i64 t.of_,.string ⟨t.pth.toArray⟩,.int .u64 t.at_,.int .u64 t.last,.bool t.doomed,.int .i64 t.tries]
def Xm.id (t:Xm):List UInt8:=(if t.token then 116 else 108) :: Lib.decDigits t.n
def Xm.state (tm:Int) (t:Xm):Int:=if t.doomed||(!t.token&&decide (t.at_<=tm)) then 2 else 1
def Xin (xs:List Xm):List Value:=xs.flatMap fun x=>x.cells.toList
theorem Xm.cells_size (x:Xm):x.cells.toList.length=8:=rfl
theorem Xcx:∀(xs:List Xm) (k j:Nat) (t:Xm),xs[k]? = some t->j<8->(Xin xs)[k*8+j]? = t.cells[j]?
 | [],_,_,_,h,_=>by simp at h
 | x :: xs,0,j,t,h,hj=>by
  obtain rfl:x=t:=by simpa using h
  show (x.cells.toList++Xin xs)[0*8+j]? = _
  rw [List.getElem?_append_left (by rw [Xm.cells_size];omega)];simp
 | x :: xs,k+1,j,t,h,hj=>by
  show (x.cells.toList++Xin xs)[(k+1)*8+j]? = _
  rw [List.getElem?_append_right (by rw [Xm.cells_size];omega),Xm.cells_size,show (k+1)*8+j-8=k*8+j by omega];exact Xcx xs k j t (by simpa using h) hj
def Xm.OfOk (t:Xm):Prop:=t.of_ = -1\/∃ m:Nat,t.of_=(m:Int)/\m<9223372036854775808
structure Tryz.Xhr (B:Nat) (W:World) (vb g cap:Nat) (L:List Xm) (tm tn ln:Int):Prop where
 v:BoxN W vb 108 #[.slice (some ⟨g,0,none⟩) L.length cap,.int .u64 tm,.int .i64 tn,.int .i64 ln]
 row:W.ownsRow B 105 8 (.slice (some ⟨g,0,none⟩) L.length cap) L.length (Xin L)
 lim:L.length<=100
 num:∀ t∈L,t.n<9223372036854775808
 ofs:∀ t∈L,t.OfOk
theorem Tryz.Xhr.cell {B:Nat} {W:World} {vb g cap:Nat} {L:List Xm} {tm tn ln:Int} (h:Xhr B W vb g cap L tm tn ln) {k:Nat} {t:Xm} (hk:L[k]? = some t) (j:Nat) (hj:j<8):W.cell? ⟨g,k*8+j,none⟩=t.cells[j]?:=by
 have hc:=h.row.cells (g:=g) rfl (k*8+j);have hs:j<t.cells.size:=hj;have:=hc (t.cells[j]) (by rw [Xcx L k j t hk hj];simp [hs]);rw [Lib.add_plain] at this;simp only [Nat.zero_add] at this;rw [this];simp [hs]
theorem Tryz.Xhr.cells {B:Nat} {W:World} {vb g cap:Nat} {L:List Xm} {tm tn ln:Int} (h:Xhr B W vb g cap L tm tn ln) {k:Nat} {t:Xm} (hk:L[k]? = some t) :
  W.cell? ⟨g,k*8,none⟩=some (.bool t.token)/\W.cell? ⟨g,k*8+1,none⟩=some (.int .i64 t.n)/\W.cell? ⟨g,k*8+2,none⟩=some (.int .i64 t.of_)/\W.cell? ⟨g,k*8+3,none⟩=some (.string ⟨t.pth.toArray⟩)/\W.cell? ⟨g,k*8+4,none⟩=some (.int .u64 t.at_)/\W.cell? ⟨g,k*8+5,none⟩=some (.int .u64 t.last)/\W.cell? ⟨g,k*8+6,none⟩=some (.bool t.doomed)/\W.cell? ⟨g,k*8+7,none⟩=some (.int .i64 t.tries):=
 ⟨h.cell hk 0 (by omega),h.cell hk 1 (by omega),h.cell hk 2 (by omega),h.cell hk 3 (by omega),h.cell hk 4 (by omega),h.cell hk 5 (by omega),h.cell hk 6 (by omega),h.cell hk 7 (by omega)⟩
theorem Tryz.Xhr.below {B:Nat} {W W':World} {vb g cap:Nat} {L:List Xm} {tm tn ln:Int} (h:Xhr B W vb g cap L tm tn ln) (hb:Below W.heap.size W W'):Xhr B W' vb g cap L tm tn ln:=
 ⟨h.v.below hb h.v.lt,h.row.kept (row:=none) ⟨hb.os,hb.tape,hb.output,hb.size,fun k hk _=>hb.block k hk⟩ (Or.inr (by simp [Value.ownBlock])),h.lim,h.num,h.ofs⟩
theorem Xlc {α:Type} {L:List α} {k:Nat} {t:α} (h:L[k]? = some t):L.take (k+1)=L.take k ++ [t]:=by
 rw [List.take_add_one,h];rfl
def Xon (tk:Bool) (L:List Xm):Nat:=(L.filter (fun t=>t.token==tk)).length
def minT (L:List Xm):Int:=L.foldl (fun m t=>min m t.at_) 18446744073709551615
def findI (id:List UInt8) (L:List Xm):Int:=match L.findIdx? (fun t=>t.id==id) with | some i=>(i:Int) | none=>-1
def Xpl (tm:Int) (id:List UInt8) (tk:Bool) (L:List Xm):Int:=
 match L.findIdx? (fun t=>t.id==id) with
 | some i=>match L[i]? with
  | some t=>if t.token==tk&&t.state tm==1 then (i:Int) else -1
  | none=>-1
 | none=>-1
def Xpn (o:Int):List UInt8:=if 0<=o then 116 :: Lib.decDigits o.toNat else []
def Xm.info (tm:Int) (t:Xm):InfoD:=⟨t.id,t.state tm,t.at_,t.tries,Xpn t.of_,t.pth⟩
abbrev zero6:Array Value:=#[.string ⟨#[]⟩,.int .i64 0,.int .u64 0,.int .i64 0,.string ⟨#[]⟩,.string ⟨#[]⟩]
def allInfos (tm:Int) (L:List Xm):List InfoD:=((L.filter (fun t=>t.token))++(L.filter (fun t=>!t.token))).map (Xm.info tm)
end Go.Proofs
