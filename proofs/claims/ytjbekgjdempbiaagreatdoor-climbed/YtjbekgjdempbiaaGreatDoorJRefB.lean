import Derived.Test.YtjbekgjdempbiaaGreatDoorJStr
import Derived.Test.YtjbekgjdempbiaaGreatDoorJMapOps
import Derived.Deep.RegionHeld3
import Derived.Deep.DeepCutAuto
import Derived.BigQuiet
set_option maxRecDepth 100000
set_option maxHeartbeats 8000000
namespace Go.Proofs
open Go.RowKit Go.Sort Go.Lib Go.Shelf
theorem Tryz.entryLive (b:Nat) (pd:Bool) (w:World) (h4:w.cell? ⟨b,4,none⟩=some (.bool pd)):Calls prog 89 #[.pointer (some ⟨b,0,none⟩)] w fun e w'=>e=.returned (.bool !pd)∧w'=w:=by
 go_enter func89,ntmps89;go_wp2;go_ret;exact⟨rfl,rfl⟩
theorem Tryz.leaseLive (b:Nat) (pd:Bool) (at_ tm:Int) (w:World) (h4:w.cell? ⟨b,4,none⟩=some (.bool pd)) (h2:w.cell? ⟨b,2,none⟩=some (.int .u64 at_)) :
  Calls prog 91 #[.pointer (some ⟨b,0,none⟩),.int .u64 tm] w fun e w'=>e=.returned (.bool (!pd&&decide (tm<at_)))∧w'=w:=by
 have hl:=fun W h=>entryLive b pd W h
 cases pd with
 | true =>
  go_enter func91,ntmps91
  go_wp2_with (go_at_call 89;refine(hl _ h4).mono ?_;rintro e w' ⟨rfl,rfl⟩)
  go_ret;exact⟨rfl,rfl⟩
 | false =>
  go_enter func91,ntmps91
  go_wp2_with (go_at_call 89;refine(hl _ h4).mono ?_;rintro e w' ⟨rfl,rfl⟩)
  go_ret;exact⟨by simp,rfl⟩
def infoCells (id:List UInt8) (st:Int) (at_:Int) (tr:Int) (tok pth:List UInt8):Array Value:=#[.string ⟨id.toArray⟩,.int .i64 st,.int .u64 at_,.int .i64 tr,.string ⟨tok.toArray⟩,.string ⟨pth.toArray⟩]
abbrev Row6 (W:World) (rb:Nat):Prop:=
 (W.cell? ⟨rb,0,none⟩=some (cellOr W ⟨rb,0,none⟩)∧W.cell? ⟨rb,1,none⟩=some (cellOr W ⟨rb,1,none⟩)∧W.cell? ⟨rb,2,none⟩=some (cellOr W ⟨rb,2,none⟩)∧W.cell? ⟨rb,3,none⟩=some (cellOr W ⟨rb,3,none⟩)∧W.cell? ⟨rb,4,none⟩=some (cellOr W ⟨rb,4,none⟩)∧W.cell? ⟨rb,5,none⟩=some (cellOr W ⟨rb,5,none⟩)) ∧
 (W.frozen? ⟨rb,0,none⟩=false∧W.frozen? ⟨rb,1,none⟩=false∧W.frozen? ⟨rb,2,none⟩=false∧W.frozen? ⟨rb,3,none⟩=false∧W.frozen? ⟨rb,4,none⟩=false∧W.frozen? ⟨rb,5,none⟩=false)
theorem Row6.below {W W':World} {rb:Nat} (h:Row6 W rb) (hb:Below W.heap.size W W'):Row6 W' rb:=by
 have hlt:rb<W.heap.size:=World.block_lt_of_cell? _ _ h.1.1
 have c:∀ i,W'.cell? ⟨rb,i,none⟩=W.cell? ⟨rb,i,none⟩:=fun i=>hb.cell (p:=⟨rb,i,none⟩) hlt
 have f:∀ i,W'.frozen? ⟨rb,i,none⟩=W.frozen? ⟨rb,i,none⟩:=fun i=>hb.frozen (p:=⟨rb,i,none⟩) hlt
 have e:∀ i,cellOr W' ⟨rb,i,none⟩=cellOr W ⟨rb,i,none⟩:=fun i=>by unfold cellOr;rw [c i]
 simp only [Row6,c,f,e];exact h
theorem Row6.mk {W:World} {rb:Nat} (h:∀ i,i<6→(W.cell? ⟨rb,i,none⟩).isSome) (f:∀ i,i<6→W.frozen? ⟨rb,i,none⟩=false):Row6 W rb:=
 ⟨⟨cellOr_some (h 0 (by omega)),cellOr_some (h 1 (by omega)),cellOr_some (h 2 (by omega)),cellOr_some (h 3 (by omega)),cellOr_some (h 4 (by omega)),cellOr_some (h 5 (by omega))⟩,f 0 (by omega),f 1 (by omega),f 2 (by omega),f 3 (by omega),f 4 (by omega),f 5 (by omega)⟩
theorem Row6.some {W:World} {rb:Nat} (h:Row6 W rb):(∀ i,i<6→(W.cell? ⟨rb,i,none⟩).isSome)∧(∀ i,i<6→W.frozen? ⟨rb,i,none⟩=false):=by
 obtain⟨⟨c0,c1,c2,c3,c4,c5⟩,f0,f1,f2,f3,f4,f5⟩:=h;refine⟨fun i hi=>?_,fun i hi=>?_⟩
 ·match i,hi with
  | 0,_=>rw [c0];rfl
  | 1,_=>rw [c1];rfl
  | 2,_=>rw [c2];rfl
  | 3,_=>rw [c3];rfl
  | 4,_=>rw [c4];rfl
  | 5,_=>rw [c5];rfl
 ·match i,hi with
  | 0,_=>exact f0
  | 1,_=>exact f1
  | 2,_=>exact f2
  | 3,_=>exact f3
  | 4,_=>exact f4
  | 5,_=>exact f5
theorem Row6.set {W:World} {rb:Nat} (h:Row6 W rb) (a:Addr) (v:Value):Row6 (W.setCell a v) rb:=by
 obtain⟨hs,hf⟩:=h.some;refine Row6.mk (fun i hi=>?_) (fun i hi=>by rw [World.frozen?_setCell];exact hf i hi);obtain⟨x,hx⟩:=Option.isSome_iff_exists.1 (hs i hi);obtain⟨y,hy⟩:=cell?_setCell_some (w:=W) (p:=a) (x:=v) hx;rw [hy];rfl
theorem Row6.new (W:World) (t:TypeId) (c0 c1 c2 c3 c4 c5:Value):Row6 (W.alloc (.cells #[c0,c1,c2,c3,c4,c5] t)) W.heap.size:=by
 have hb:=BoxN.new W t #[c0,c1,c2,c3,c4,c5];refine Row6.mk (fun i hi=>?_) (fun i _=>hb.frozen i);rw [hb.cell i (v:=#[c0,c1,c2,c3,c4,c5][i]) (by simp [hi])];rfl
abbrev Tryz.InfoS (w0:World) (nb b rb:Nat) (k:Int) (u:Nat) (ak:Int) (au:Nat) (at_ tr:Int) (W:World):Prop:=
 (W.cell? ⟨nb,0,none⟩=some (.int .i64 k)∧W.cell? ⟨nb,1,none⟩=some (.int .u64 u)∧W.cell? ⟨b,0,none⟩=some (.int .i64 ak)∧W.cell? ⟨b,1,none⟩=some (.int .u64 au)∧W.cell? ⟨b,2,none⟩=some (.int .u64 at_)∧W.cell? ⟨b,3,none⟩=some (.int .i64 tr)) ∧
 Row6 W rb∧Env W∧6≤W.heap.size∧Below w0.heap.size w0 W
theorem Tryz.InfoS.below {w0 W W':World} {nb b rb:Nat} {k:Int} {u:Nat} {ak:Int} {au:Nat} {at_ tr:Int} (h:InfoS w0 nb b rb k u ak au at_ tr W) (hb:Below W.heap.size W W'):InfoS w0 nb b rb k u ak au at_ tr W':=by
 obtain⟨⟨c0,c1,c2,c3,c4,c5⟩,hr,hE,h6,hB⟩:=h;exact⟨⟨cell_later hb c0,cell_later hb c1,cell_later hb c2,cell_later hb c3,cell_later hb c4,cell_later hb c5⟩,hr.below hb,hE.below hb h6,Nat.le_trans h6 hb.size,hB.trans (hb.mono hB.size)⟩
abbrev Tryz.InfoP (w0:World) (nb b rb:Nat) (k:Int) (u:Nat) (ak:Int) (au:Nat) (at_ tr:Int) (pd:Bool) (W:World):Prop:=
 InfoS w0 nb b rb k u ak au at_ tr W∧W.cell? ⟨b,4,none⟩=some (.bool pd)
theorem Tryz.InfoP.below {w0 W W':World} {nb b rb:Nat} {k:Int} {u:Nat} {ak:Int} {au:Nat} {at_ tr:Int} {pd:Bool} (h:InfoP w0 nb b rb k u ak au at_ tr pd W) (hb:Below W.heap.size W W'):InfoP w0 nb b rb k u ak au at_ tr pd W':=⟨h.1.below hb,cell_later hb h.2⟩
theorem Tryz.InfoS.drew {w0 W:World} {nb b rb:Nat} {k:Int} {u:Nat} {ak:Int} {au:Nat} {at_ tr:Int} (h:InfoS w0 nb b rb k u ak au at_ tr W):InfoS w0 nb b rb k u ak au at_ tr W.drew:=h.below (Grew.below (Grew.refl W).drew)
theorem Tryz.InfoS.set {w0 W:World} {nb b rb:Nat} {k:Int} {u:Nat} {ak:Int} {au:Nat} {at_ tr:Int} (h:InfoS w0 nb b rb k u ak au at_ tr W) (hn:nb≠rb) (hb:b≠rb) (hr:w0.heap.size≤rb) (hr6:6≤w0.heap.size) (i:Nat) (v:Value):InfoS w0 nb b rb k u ak au at_ tr (W.setCell ⟨rb,i,none⟩ v):=by
 obtain⟨⟨c0,c1,c2,c3,c4,c5⟩,hrow,hE,h6,hB⟩:=h
 have o:∀(q j:Nat),q≠rb→(W.setCell ⟨rb,i,none⟩ v).cell? ⟨q,j,none⟩=W.cell? ⟨q,j,none⟩:=fun q j hq=>World.cell?_setCell_other _ _ _ _ (by simp)
 have hB':=hB.setCell (p:=⟨rb,i,none⟩) hr v;refine⟨⟨(o _ _ hn).trans c0,(o _ _ hn).trans c1,(o _ _ hb).trans c2,(o _ _ hb).trans c3,(o _ _ hb).trans c4,(o _ _ hb).trans c5⟩,hrow.set _ _,?_,?_,hB'⟩
 ·exact hE.below ((Below.refl w0.heap.size W).setCell (p:=⟨rb,i,none⟩) hr v) hr6
 ·have:=hB'.size;omega
theorem Tryz.InfoP.set {w0 W:World} {nb b rb:Nat} {k:Int} {u:Nat} {ak:Int} {au:Nat} {at_ tr:Int} {pd:Bool} (h:InfoP w0 nb b rb k u ak au at_ tr pd W) (hn:nb≠rb) (hb:b≠rb) (hr:w0.heap.size≤rb) (hr6:6≤w0.heap.size) (i:Nat) (v:Value):InfoP w0 nb b rb k u ak au at_ tr pd (W.setCell ⟨rb,i,none⟩ v):=
 ⟨h.1.set hn hb hr hr6 i v,(World.cell?_setCell_other _ _ _ _ (by simp)).trans h.2⟩
end Go.Proofs
namespace Go.Proofs
open Go.RowKit Go.Sort Go.Lib Go.Shelf Go.Maps
structure TokE where
 n:Nat
 ak:Int
 au:Nat
 at_:Int
 tr:Int
 pd:Bool
structure LeaE where
 n:Nat
 ak:Int
 au:Nat
 at_:Int
 tr:Int
 pd:Bool
 pth:List UInt8
 last:Int
structure InfoD where
 id:List UInt8
 st:Int
 at_:Int
 tr:Int
 tok:List UInt8
 pth:List UInt8
def InfoD.cells (x:InfoD):Array Value:=infoCells x.id x.st x.at_ x.tr x.tok x.pth
def TokE.info (t:TokE):InfoD:=⟨nmStr 1 t.n,if !t.pd then 1 else 2,t.at_,t.tr,nmStr t.ak t.au,[]⟩
def LeaE.info (tm:Int) (l:LeaE):InfoD:=⟨nmStr 2 l.n,if (!l.pd&&decide (tm<l.at_)) then 1 else 2,l.at_,l.tr,nmStr l.ak l.au,l.pth⟩
def TokE.cells (t:TokE):Array Value:=#[.int .i64 t.ak,.int .u64 t.au,.int .u64 t.at_,.int .i64 t.tr,.bool t.pd]
def LeaE.cells (l:LeaE):Array Value:=#[.int .i64 l.ak,.int .u64 l.au,.int .u64 l.at_,.int .i64 l.tr,.bool l.pd,.string ⟨l.pth.toArray⟩,.int .u64 l.last]
def TokE.key (t:TokE):(Int × Int) × Value:=((1,(t.n:Int)),.agg t.cells)
def LeaE.key (l:LeaE):(Int × Int) × Value:=((2,(l.n:Int)),.agg l.cells)
theorem TokE.sh (tks:List TokE):∀ p∈tks.map TokE.key,ShTok p.2:=fun p hp=>by
 obtain⟨t,_,rfl⟩:=List.mem_map.1 hp;exact⟨_,_,_,_,_,rfl⟩
theorem LeaE.sh (lks:List LeaE):∀ p∈lks.map LeaE.key,ShLea p.2:=fun p hp=>by
 obtain⟨t,_,rfl⟩:=List.mem_map.1 hp;exact⟨_,_,_,_,_,_,_,rfl⟩
structure VX where
 jn:Value
 rv:Value
 tk:Bool
 due:Value
def Tryz.vaultC (vx:VX) (tm:Int) (mt ml:Nat) (tn ln:Int):Array Value:=#[vx.jn,vx.rv,.int .u64 tm,.map (some mt),.map (some ml),.int .u64 tn,.int .u64 ln,.bool vx.tk,vx.due]
def u64lim:Nat:=18446744073709551616
structure Tryz.Held (W:World) (mt ml:Nat) (tks:List TokE) (lks:List LeaE):Prop where
 mapT:∃ n,n≤1000∧W.ownsMap Tryz.prog 114 valR mt n (mapD (tks.map TokE.key).reverse)
 mapL:∃ n,n≤1000∧W.ownsMap Tryz.prog 114 valR ml n (mapD (lks.map LeaE.key).reverse)
structure ListsOk (tks:List TokE) (lks:List LeaE):Prop where
 lenT:tks.length≤500
 lenL:lks.length≤500
 incT:tks.Pairwise (fun a b=>a.n<b.n)
 incL:lks.Pairwise (fun a b=>a.n<b.n)
 limT:∀ t∈tks,t.n<u64lim∧t.au<u64lim
 limL:∀ l∈lks,l.n<u64lim∧l.au<u64lim
theorem wfNm {k:Int} (hk:k=1∨k=2) {n:Nat} (h:n<u64lim):NmWf (k,(n:Int)):=by
 unfold u64lim at h;refine⟨?_,?_⟩
 ·rcases hk with rfl | rfl
  ·show (Lit.int .i64 1).wf=true;decide
  ·show (Lit.int .i64 2).wf=true;decide
 ·show (Lit.int .u64 (n:Int)).wf=true
  simp [Lit.wf,IntKind.min,IntKind.max,IntKind.bits,IntKind.signed];omega
theorem keys_ok {l:List ((Int × Int) × Value)} (k:Int) (hk:k=1∨k=2) (hs:l.Pairwise (fun a b=>a.1.2<b.1.2)) (h1:∀ p∈l,p.1.1=k∧∃ n:Nat,p.1.2=(n:Int)∧n<u64lim) :
  KsOk l.reverse∧SortedN (l.map (·.1)):=by
 have hp:(l.map (·.1)).Pairwise (fun x y=>x.2<y.2):=List.pairwise_map.2 hs;refine⟨⟨fun p hp'=>?_,?_⟩,?_⟩
 ·obtain⟨e1,n,e2,hn⟩:=h1 p (by simpa using hp')
  have:=wfNm hk hn;rw [← e1,← e2] at this;exact this
 ·rw [List.map_reverse]
  exact List.pairwise_reverse.2 (hp.imp fun {a b} h e=>by rw [e] at h;omega)
 ·have h2:∀ x∈l.map (·.1),x.1=k:=fun x hx=>by
   obtain⟨p,hp',rfl⟩:=List.mem_map.1 hx;exact(h1 p hp').1
  refine hp.imp_of_mem fun {a b} ha hb h=>?_
  rw [ltOf_cmpN,decide_eq_true_iff];exact Or.inr ⟨by rw [h2 a ha,h2 b hb],h⟩
theorem ListsOk.ksT {tks:List TokE} {lks:List LeaE} (h:ListsOk tks lks):KsOk (tks.map TokE.key).reverse∧SortedN ((tks.map TokE.key).map (·.1)):=
 keys_ok 1 (Or.inl rfl) (List.pairwise_map.2 (h.incT.imp fun {a b} hab=>by simp [TokE.key];omega)) (fun p hp=>by
  obtain⟨t,ht,rfl⟩:=List.mem_map.1 hp
  exact⟨rfl,t.n,rfl,(h.limT t ht).1⟩)
theorem ListsOk.ksL {tks:List TokE} {lks:List LeaE} (h:ListsOk tks lks):KsOk (lks.map LeaE.key).reverse∧SortedN ((lks.map LeaE.key).map (·.1)):=
 keys_ok 2 (Or.inr rfl) (List.pairwise_map.2 (h.incL.imp fun {a b} hab=>by simp [LeaE.key];omega)) (fun p hp=>by
  obtain⟨t,ht,rfl⟩:=List.mem_map.1 hp
  exact⟨rfl,t.n,rfl,(h.limL t ht).1⟩)
theorem Tryz.Held.keeps {bad:TypeId→Bool} {W W':World} {mt ml:Nat} {tks:List TokE} {lks:List LeaE} (h:Held W mt ml tks lks) (hk:KeepsT bad W W'):Held W' mt ml tks lks:=by
 obtain⟨⟨n,hn,hm⟩,⟨n',hn',hm'⟩⟩:=h;exact⟨⟨n,hn,hk.map hm⟩,⟨n',hn',hk.map hm'⟩⟩
theorem Tryz.Held.from {β:Type} (B mt ml:Nat) (tks:List TokE) (lks:List LeaE) (hmt:mt<B) (hml:ml<B):OwnFrom B (fun(_:β) W=>Held W mt ml tks lks):=fun _ W W' row h hg hr=>by
 obtain⟨⟨n,hn,hm⟩,⟨n',hn',hm'⟩⟩:=h;exact⟨⟨n,hn,hm.kept hg (fun e=>by have:=(hr _ e.symm).1;omega)⟩,⟨n',hn',hm'.kept hg (fun e=>by have:=(hr _ e.symm).1;omega)⟩⟩
theorem Tryz.Held.lt {W:World} {mt ml:Nat} {tks:List TokE} {lks:List LeaE} (h:Held W mt ml tks lks):mt<W.heap.size∧ml<W.heap.size:=by
 obtain⟨⟨n,hn,hm⟩,⟨n',hn',hm'⟩⟩:=h;exact⟨hm.lt,hm'.lt⟩
end Go.Proofs
namespace Go.Proofs
open Go.RowKit Go.Sort Go.Lib Go.Shelf
def plusI (a b:Int):Int:=if 18446744073709551615-b<a then 18446744073709551615 else a+b
structure ThingD where
 token:Bool
 n:Nat
 of_:Int
 pth:List UInt8
 at_:Int
 last:Int
 doomed:Bool
 tries:Int
def ThingD.cells (t:ThingD):Array Value:=#[.bool t.token,.int .i64 t.n,.int .i64 t.of_,.string ⟨t.pth.toArray⟩,.int .u64 t.at_,.int .u64 t.last,.bool t.doomed,.int .i64 t.tries]
def ThingD.id (t:ThingD):List UInt8:=(if t.token then 116 else 108) :: Lib.decDigits t.n
def ThingD.state (tm:Int) (t:ThingD):Int:=if t.doomed||(!t.token&&decide (t.at_≤tm)) then 2 else 1
def flatT (xs:List ThingD):List Value:=xs.flatMap fun x=>x.cells.toList
theorem ThingD.cells_size (x:ThingD):x.cells.toList.length=8:=rfl
theorem flatT_get:∀(xs:List ThingD) (k j:Nat) (t:ThingD),xs[k]? = some t→j<8→(flatT xs)[k*8+j]? = t.cells[j]?
 | [],_,_,_,h,_=>by simp at h
 | x :: xs,0,j,t,h,hj=>by
  obtain rfl:x=t:=by simpa using h
  show (x.cells.toList++flatT xs)[0*8+j]? = _
  rw [List.getElem?_append_left (by rw [ThingD.cells_size];omega)];simp
 | x :: xs,k+1,j,t,h,hj=>by
  show (x.cells.toList++flatT xs)[(k+1)*8+j]? = _
  rw [List.getElem?_append_right (by rw [ThingD.cells_size];omega),ThingD.cells_size,show (k+1)*8+j-8=k*8+j by omega];exact flatT_get xs k j t (by simpa using h) hj
def ThingD.OfOk (t:ThingD):Prop:=t.of_ = -1∨∃ m:Nat,t.of_=(m:Int)∧m<9223372036854775808
structure Tryz.RVAt (B:Nat) (W:World) (vb g cap:Nat) (L:List ThingD) (tm tn ln:Int):Prop where
 v:BoxN W vb 108 #[.slice (some ⟨g,0,none⟩) L.length cap,.int .u64 tm,.int .i64 tn,.int .i64 ln]
 row:W.ownsRow B 105 8 (.slice (some ⟨g,0,none⟩) L.length cap) L.length (flatT L)
 lim:L.length≤100
 num:∀ t∈L,t.n<9223372036854775808
 ofs:∀ t∈L,t.OfOk
theorem Tryz.RVAt.cell {B:Nat} {W:World} {vb g cap:Nat} {L:List ThingD} {tm tn ln:Int} (h:RVAt B W vb g cap L tm tn ln) {k:Nat} {t:ThingD} (hk:L[k]? = some t) (j:Nat) (hj:j<8):W.cell? ⟨g,k*8+j,none⟩=t.cells[j]?:=by
 have hc:=h.row.cells (g:=g) rfl (k*8+j);have hs:j<t.cells.size:=hj;have:=hc (t.cells[j]) (by rw [flatT_get L k j t hk hj];simp [hs]);rw [Lib.add_plain] at this;simp only [Nat.zero_add] at this;rw [this];simp [hs]
theorem Tryz.RVAt.cells {B:Nat} {W:World} {vb g cap:Nat} {L:List ThingD} {tm tn ln:Int} (h:RVAt B W vb g cap L tm tn ln) {k:Nat} {t:ThingD} (hk:L[k]? = some t) :
  W.cell? ⟨g,k*8,none⟩=some (.bool t.token)∧W.cell? ⟨g,k*8+1,none⟩=some (.int .i64 t.n)∧W.cell? ⟨g,k*8+2,none⟩=some (.int .i64 t.of_)∧W.cell? ⟨g,k*8+3,none⟩=some (.string ⟨t.pth.toArray⟩)∧W.cell? ⟨g,k*8+4,none⟩=some (.int .u64 t.at_)∧W.cell? ⟨g,k*8+5,none⟩=some (.int .u64 t.last)∧W.cell? ⟨g,k*8+6,none⟩=some (.bool t.doomed)∧W.cell? ⟨g,k*8+7,none⟩=some (.int .i64 t.tries):=
 ⟨h.cell hk 0 (by omega),h.cell hk 1 (by omega),h.cell hk 2 (by omega),h.cell hk 3 (by omega),h.cell hk 4 (by omega),h.cell hk 5 (by omega),h.cell hk 6 (by omega),h.cell hk 7 (by omega)⟩
theorem Tryz.RVAt.below {B:Nat} {W W':World} {vb g cap:Nat} {L:List ThingD} {tm tn ln:Int} (h:RVAt B W vb g cap L tm tn ln) (hb:Below W.heap.size W W'):RVAt B W' vb g cap L tm tn ln:=
 ⟨h.v.below hb h.v.lt,h.row.kept (row:=none) ⟨hb.os,hb.tape,hb.output,hb.size,fun k hk _=>hb.block k hk⟩ (Or.inr (by simp [Value.ownBlock])),h.lim,h.num,h.ofs⟩
theorem take_get {α:Type} {L:List α} {k:Nat} {t:α} (h:L[k]? = some t):L.take (k+1)=L.take k ++ [t]:=by
 rw [List.take_add_one,h];rfl
def countI (tk:Bool) (L:List ThingD):Nat:=(L.filter (fun t=>t.token==tk)).length
def minT (L:List ThingD):Int:=L.foldl (fun m t=>min m t.at_) 18446744073709551615
def findI (id:List UInt8) (L:List ThingD):Int:=match L.findIdx? (fun t=>t.id==id) with | some i=>(i:Int) | none=>-1
def liveI (tm:Int) (id:List UInt8) (tk:Bool) (L:List ThingD):Int:=
 match L.findIdx? (fun t=>t.id==id) with
 | some i=>match L[i]? with
  | some t=>if t.token==tk&&t.state tm==1 then (i:Int) else -1
  | none=>-1
 | none=>-1
end Go.Proofs
