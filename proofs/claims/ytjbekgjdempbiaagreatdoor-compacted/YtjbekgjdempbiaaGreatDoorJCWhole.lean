import Derived.Test.YtjbekgjdempbiaaGreatDoorJCCntB
import Derived.Test.YtjbekgjdempbiaaGreatDoorJValid
import Derived.Test.YtjbekgjdempbiaaGreatDoorJGlob
set_option maxRecDepth 100000
set_option maxHeartbeats 8000000
namespace Go.Proofs
open Go.RowKit Go.Sort Go.Lib Go.Shelf Go.Maps
theorem Tryz.Xdq (vb mt ml:Nat) (vx:VX) (tm:Int) (tn ln:Nat) (tks:List Xe) (lks:List Xd) (w:World) (hV:Yb w vb mt ml vx tm tn ln tks lks) (last:Int) (pth:List UInt8) (t:Xe) (hok:Xbr t) (hf:U7 t tks) (hl:tks.length<500) (h1:t.n<Xj) (h2:t.au<Xj) :
  Calls prog 100 #[.pointer (some ⟨vb,0,none⟩),.agg (Xi 1 1 t.n t.ak t.au t.pd t.at_ t.tr last pth)] w fun e w'=>e=.returned (.tuple #[])/\Yb w' vb mt ml vx tm (max tn t.n) ln (Yl t tks) lks/\Spares [vb,mt] w w':=by
 have hB0:Below w.heap.size w (w.alloc (.cells (Xi 1 1 t.n t.ak t.au t.pd t.at_ t.tr last pth) 135)):=(Below.refl _ w).alloc (Nat.le_refl _) _;have hP:=Xm8 vb mt ml vx tm tn ln tks lks _ (hV.below hB0) 1 last pth t hok hf hl h1 h2;unfold Xi at hP hB0 ⊢;go_enter func100,ntmps100
 go_wp2_with (go_at_call 148;refine hP.mono ?_;rintro e w1 ⟨rfl,hV1,hS1⟩)
 go_end0
 exact⟨rfl,hV1,(Spares.of_below hB0).trans hS1⟩
theorem Tryz.Xdo (vb mt ml:Nat) (vx:VX) (tm:Int) (tn ln:Nat) (tks:List Xe) (lks:List Xd) (w:World) (hV:Yb w vb mt ml vx tm tn ln tks lks) (t:Xd) (hok:Ul t) (hf:U3 t lks) (hl:lks.length<500) (h1:t.n<Xj) (h2:t.au<Xj) :
  Calls prog 100 #[.pointer (some ⟨vb,0,none⟩),.agg (Xi 1 2 t.n t.ak t.au t.pd t.at_ t.tr t.last t.pth)] w fun e w'=>e=.returned (.tuple #[])/\Yb w' vb mt ml vx tm tn (max ln t.n) tks (Yf t lks)/\Spares [vb,ml] w w':=by
 have hB0:Below w.heap.size w (w.alloc (.cells (Xi 1 2 t.n t.ak t.au t.pd t.at_ t.tr t.last t.pth) 135)):=(Below.refl _ w).alloc (Nat.le_refl _) _;have hP:=Xnd vb mt ml vx tm tn ln tks lks _ (hV.below hB0) 1 t hok hf hl h1 h2;unfold Xi at hP hB0 ⊢;go_enter func100,ntmps100
 go_wp2_with (go_at_call 148;refine hP.mono ?_;rintro e w1 ⟨rfl,hV1,hS1⟩)
 go_end0
 exact⟨rfl,hV1,(Spares.of_below hB0).trans hS1⟩
end Go.Proofs
namespace Go.Proofs
open Go.RowKit Go.Sort Go.Lib Go.Shelf Go.Maps Go.WideMaps
def kdB (tk:Bool):Int:=if tk then 1 else 2
theorem Xnf {tk:Bool} {n:Nat} (h:n<Xj):Zt (kdB tk,(n:Int)):=by
 cases tk
 ·exact Xbn (.inr rfl) h
 exact Xbn (.inl rfl) h
def Y3 (tk:Bool) (n:Nat) (l:List Xe):List Xe:=if tk then Xbu n l else l
def Zj (tk:Bool) (n:Nat) (l:List Xd):List Xd:=if tk then l else M6 n l
theorem Xfp (tk:Bool) (n:Nat) (l:List Xe):(l.map Xe.key).reverse.filter (fun p=>decide (p.1≠(kdB tk,(n:Int))))=((Y3 tk n l).map Xe.key).reverse:=by
 cases tk
 ·refine List.filter_eq_self.2 fun p hp=>?_
  obtain⟨y,hy,rfl⟩:=List.mem_map.1 (List.mem_reverse.1 hp);simp [Xe.key,kdB]
 exact Xcu n l ⟨n,0,0,0,0,false⟩ rfl
theorem Xf3 (tk:Bool) (n:Nat) (l:List Xd):(l.map Xd.key).reverse.filter (fun p=>decide (p.1≠(kdB tk,(n:Int))))=((Zj tk n l).map Xd.key).reverse:=by
 cases tk
 ·exact Xcp n l ⟨n,0,0,0,0,false,[],0⟩ rfl
 refine List.filter_eq_self.2 fun p hp=>?_
 obtain⟨y,hy,rfl⟩:=List.mem_map.1 (List.mem_reverse.1 hp);simp [Xd.key,kdB]
theorem Zd {tk:Bool} {n:Nat} {l:List Xe} {x:Xe} (h:x∈Y3 tk n l):x∈l:=by
 cases tk
 ·exact h
 exact(List.mem_filter.1 h).1
theorem Zp {tk:Bool} {n:Nat} {l:List Xd} {x:Xd} (h:x∈Zj tk n l):x∈l:=by
 cases tk
 ·exact(List.mem_filter.1 h).1
 exact h
theorem X5.dropT {tks:List Xe} {lks:List Xd} (h:X5 tks lks) (tk:Bool) (n:Nat):X5 (Y3 tk n tks) lks:=by
 cases tk
 ·exact h
 exact h.delT n
theorem X5.dropL {tks:List Xe} {lks:List Xd} (h:X5 tks lks) (tk:Bool) (n:Nat):X5 tks (Zj tk n lks):=by
 cases tk
 ·exact h.delL n
 exact h
section
variable {W W':World} {vb mt ml:Nat} {vx:VX} {tm:Int} {tn ln:Nat} {tks:List Xe} {lks:List Xd}
theorem Tryz.Yb.dropT (h:Yb W vb mt ml vx tm tn ln tks lks) (tk:Bool) {n:Nat} (hn:n<Xj) (ty:TypeId) :
  ∃ W',(Builtin.delete_ #[120,114] ty #[.map (some mt),nmV (kdB tk,(n:Int))]).run prog W=.ok (.tuple #[]) W'/\Yb W' vb mt ml vx tm tn ln (Y3 tk n tks) lks/\W.grownBy W' (some mt):=by
 obtain⟨⟨q,hq,hm⟩,⟨q',hq',hm'⟩⟩:=h.va.held;obtain⟨W',hrun,hM,hT⟩:=hm.drop Yq underlying120 (Xo.keyOf (Xnf (tk:=tk) hn)) ty;rw [show Lit.string (nmB (kdB tk,(n:Int)))=nmL (kdB tk,(n:Int)) from rfl,Xo.Xf8 h.va.ok.ksT.1 (Xnf hn),Xfp] at hM;have hg:=hT.grown
 have hb6:Below 6 W W':=⟨hg.os,hg.tape,hg.output,hg.size,fun j hj=>hg.block j (by have:=h.va.six;omega) (by intro e;injection e with e;have:=h.m9;omega)⟩
 have ok2:=h.va.ok.dropT tk n;refine⟨W',hrun,⟨⟨h.va.v.kept hg (by intro e;injection e with e;exact h.nes.1 e.symm),⟨⟨_,?_,Z3 hM⟩,⟨q',hq',hm'.kept hg (by intro e;injection e with e;exact h.mne e.symm)⟩⟩,ok2,h.va.env.below hb6 (Nat.le_refl _),Nat.le_trans h.va.six hg.size⟩,fun t ht=>h.nt t (Zd ht),h.nl,h.t0,h.t1,fun t ht=>h.okT t (Zd ht),h.okL,h.mne,h.v9,h.m9,h.l9⟩,hg⟩;rw [Xo.Zs _ ok2.ksT.1];have:=ok2.lenT;simp;omega
theorem Tryz.Yb.dropL (h:Yb W vb mt ml vx tm tn ln tks lks) (tk:Bool) {n:Nat} (hn:n<Xj) (ty:TypeId) :
  ∃ W',(Builtin.delete_ #[121,114] ty #[.map (some ml),nmV (kdB tk,(n:Int))]).run prog W=.ok (.tuple #[]) W'/\Yb W' vb mt ml vx tm tn ln tks (Zj tk n lks)/\W.grownBy W' (some ml):=by
 obtain⟨⟨q,hq,hm⟩,⟨q',hq',hm'⟩⟩:=h.va.held;obtain⟨W',hrun,hM,hT⟩:=hm'.drop Yq underlying121 (Xo.keyOf (Xnf (tk:=tk) hn)) ty;rw [show Lit.string (nmB (kdB tk,(n:Int)))=nmL (kdB tk,(n:Int)) from rfl,Xo.Xf8 h.va.ok.ksL.1 (Xnf hn),Xf3] at hM;have hg:=hT.grown
 have hb6:Below 6 W W':=⟨hg.os,hg.tape,hg.output,hg.size,fun j hj=>hg.block j (by have:=h.va.six;omega) (by intro e;injection e with e;have:=h.l9;omega)⟩
 have ok2:=h.va.ok.dropL tk n;refine⟨W',hrun,⟨⟨h.va.v.kept hg (by intro e;injection e with e;exact h.nes.2 e.symm),⟨⟨q,hq,hm.kept hg (by intro e;injection e with e;exact h.mne e)⟩,⟨_,?_,Z3 hM⟩⟩,ok2,h.va.env.below hb6 (Nat.le_refl _),Nat.le_trans h.va.six hg.size⟩,h.nt,fun t ht=>h.nl t (Zp ht),h.t0,h.t1,h.okT,fun t ht=>h.okL t (Zp ht),h.mne,h.v9,h.m9,h.l9⟩,hg⟩;rw [Xo.Zs _ ok2.ksL.1];have:=ok2.lenL;simp;omega
end
theorem Tryz.Xb2 (vb mt ml:Nat) (vx:VX) (tm:Int) (tn ln:Nat) (tks:List Xe) (lks:List Xd) (w:World) (hV:Yb w vb mt ml vx tm tn ln tks lks) (tk:Bool) (n:Nat) (hn:n<Xj) :
  Calls prog 100 #[.pointer (some ⟨vb,0,none⟩),.agg (Xi 2 (kdB tk) n 0 0 false 0 0 0 [])] w fun e w'=>e=.returned (.tuple #[])/\Yb w' vb mt ml vx tm tn ln (Y3 tk n tks) (Zj tk n lks)/\Spares [mt,ml] w w':=by
 have hB0:Below w.heap.size w (w.alloc (.cells (Xi 2 (kdB tk) n 0 0 false 0 0 0 []) 135)):=(Below.refl _ w).alloc (Nat.le_refl _) _;have bR0:=BoxN.new w 135 (Xi 2 (kdB tk) n 0 0 false 0 0 0 []);have hV0:=hV.below hB0;obtain⟨w4,hd4,hV4,hg4⟩:=(hV0.below ((Below.refl _ _).drew)).dropT tk hn 0;obtain⟨w5,hd5,hV5,hg5⟩:=(hV4.below ((Below.refl _ w4).drew)).dropL tk hn 0;have lH:=hV.va.held.lt;have bR4:=BoxN.kept (W:=(w.alloc _).drew) bR0 hg4 (by intro e;injection e with e;omega);have m3:=hV0.va.v.cell 3 (v:=.map (some mt)) rfl;have m4:=hV4.va.v.cell 4 (v:=.map (some ml)) rfl;have hS:Hid (Spares [mt,ml] w w5):=Xb (((((Spares.of_below hB0).drew).trans (Spares.X4 hg4 (by simp))).drew).trans (Spares.X4 hg5 (by simp)));unfold nmV Xi at *;have n40:=bR4.cell 1 (v:=.int .i64 (kdB tk)) rfl;have n41:=bR4.cell 2 (v:=.int .u64 n) rfl;generalize kdB tk=kd at *;clear hg4 hg5 bR4;go_enter func100,ntmps100;go_wp2
 go_region
 go_wp2
 go_region
 go_wp2
 go_end0
 exact⟨rfl,hV5,Xa hS⟩
def Xfl (tk:Bool) (n tn:Nat):Nat:=if tk then max tn n else tn
def Xe7 (tk:Bool) (n ln:Nat):Nat:=if tk then ln else max ln n
theorem Tryz.Xde (vb mt ml:Nat) (vx:VX) (tm:Int) (tn ln:Nat) (tks:List Xe) (lks:List Xd) (w:World) (hV:Yb w vb mt ml vx tm tn ln tks lks) (tk:Bool) (n:Nat) :
  Calls prog 100 #[.pointer (some ⟨vb,0,none⟩),.agg (Xi 3 (kdB tk) n 0 0 false 0 0 0 [])] w fun e w'=>e=.returned (.tuple #[])/\Yb w' vb mt ml vx tm (Xfl tk n tn) (Xe7 tk n ln) tks lks/\Spares [vb] w w':=by
 have hB0:Below w.heap.size w (w.alloc (.cells (Xi 3 (kdB tk) n 0 0 false 0 0 0 []) 135)):=(Below.refl _ w).alloc (Nat.le_refl _) _;have hV0:=hV.below hB0
 have hfin:∀ {W':World} {tn' ln':Nat},tn<=tn'->ln<=ln'->BoxN W' vb 126 (Yp vx tm mt ml tn' ln')->Spares [vb] w W'->Yb W' vb mt ml vx tm tn' ln' tks lks:=fun h1 h2 bV hS=>by
  obtain⟨n1,k1,m1⟩:=hV.va.held.mapT;obtain⟨n2,k2,m2⟩:=hV.va.held.mapL;have hb6:=hS.below (B:=6) hV.va.six (fun b hb=>by rw [List.mem_singleton.1 hb];have:=hV.v9;omega);exact⟨⟨bV,⟨⟨n1,k1,hS.map m1 (by simpa using hV.nes.1)⟩,⟨n2,k2,hS.map m2 (by simpa using hV.nes.2)⟩⟩,hV.va.ok,hV.va.env.below hb6 (Nat.le_refl _),Nat.le_trans hV.va.six hS.size⟩,fun t ht=>Nat.le_trans (hV.nt t ht) h1,fun t ht=>Nat.le_trans (hV.nl t ht) h2,hV.t0,hV.t1,hV.okT,hV.okL,hV.mne,hV.v9,hV.m9,hV.l9⟩
 cases tk with
 | true =>
  have hU:=Xko vb mt ml vx tm tn ln n _ hV0.va.v;unfold Xig Xl9 at hU;unfold Xi kdB at *;simp only [if_true] at *;go_enter func100,ntmps100
  go_wp2_with (go_at_call 149;refine hU.mono ?_;rintro e w1 ⟨rfl,bV1,hS1⟩)
  have hS:=(Spares.of_below hB0).trans hS1
  have hm:((max tn n:Nat):Int)=max (tn:Int) n:=by omega
  rw [<- hm] at bV1
  go_end0
  exact⟨rfl,hfin (Nat.le_max_left _ _) (Nat.le_refl _) bV1 hS,hS⟩
 | false =>
  have hU:=Xl8 vb mt ml vx tm tn ln n _ hV0.va.v;unfold Xif Xlf at hU;unfold Xi kdB at *;simp only [Bool.false_eq_true,if_false] at *;go_enter func100,ntmps100
  go_wp2_with (go_at_call 149;refine hU.mono ?_;rintro e w1 ⟨rfl,bV1,hS1⟩)
  have hS:=(Spares.of_below hB0).trans hS1
  have hm:((max ln n:Nat):Int)=max (ln:Int) n:=by omega
  rw [<- hm] at bV1
  go_end0
  exact⟨rfl,hfin (Nat.le_refl _) (Nat.le_max_left _ _) bV1 hS,hS⟩
end Go.Proofs
namespace Go.Proofs
open Go.RowKit Go.Sort Go.Lib Go.Shelf Go.Maps
structure VSt where
 tn:Nat
 ln:Nat
 tks:List Xe
 lks:List Xd
inductive Item where
 | tok (t:Xe)
 | lea (t:Xd)
 | gone (tk:Bool) (n:Nat)
 | use (tk:Bool) (n:Nat)
def Xe.rec_ (t:Xe):X7:=⟨1,1,t.n,t.ak,t.au,t.pd,t.at_,t.tr,0,[]⟩
def Xd.rec_ (t:Xd):X7:=⟨1,2,t.n,t.ak,t.au,t.pd,t.at_,t.tr,t.last,t.pth⟩
def Item.rec_:Item->X7
 | .tok t=>t.rec_
 | .lea t=>t.rec_
 | .gone tk n=>⟨2,kdB tk,n,0,0,false,0,0,0,[]⟩
 | .use tk n=>⟨3,kdB tk,n,0,0,false,0,0,0,[]⟩
def Item.app:Item->VSt->VSt
 | .tok t,s=>⟨max s.tn t.n,s.ln,Yl t s.tks,s.lks⟩
 | .lea t,s=>⟨s.tn,max s.ln t.n,s.tks,Yf t s.lks⟩
 | .gone tk n,s=>⟨s.tn,s.ln,Y3 tk n s.tks,Zj tk n s.lks⟩
 | .use tk n,s=>⟨Xfl tk n s.tn,Xe7 tk n s.ln,s.tks,s.lks⟩
def Item.Fits:Item->VSt->Prop
 | .tok t,s=>Xbr t/\U7 t s.tks/\s.tks.length<500/\t.n<Xj/\t.au<Xj
 | .lea t,s=>Ul t/\U3 t s.lks/\s.lks.length<500/\t.n<Xj/\t.au<Xj
 | .gone _ n,_=>n<Xj
 | .use _ n,_=>n<Xj
def Yn:List Item->VSt->Prop
 | [],_=>True
 | i :: is,s=>i.Fits s/\Yn is (i.app s)
def Za (is:List Item) (s:VSt):VSt:=is.foldl (fun s i=>i.app s) s
theorem Yn.get:∀ {is:List Item} {s:VSt} {k:Nat} {i:Item},Yn is s->is[k]? = some i->i.Fits (Za (is.take k) s)
 | [],_,_,_,_,h=>by simp at h
 | a :: is,s,0,i,h,hi=>by
  obtain rfl:a=i:=by simpa using hi
  exact h.1
 | a :: is,s,k+1,i,h,hi=>Yn.get (is:=is) (s:=a.app s) h.2 (by simpa using hi)
theorem Xax {is:List Item} {s:VSt} {k:Nat} {i:Item} (h:is[k]? = some i):Za (is.take (k+1)) s=i.app (Za (is.take k) s):=by
 unfold Za;rw [List.take_add_one,h];simp
theorem Item.Xoe {i:Item} {s:VSt} (h:i.Fits s):i.rec_.Ok/\Yg i.rec_.pth:=by
 cases i with
 | tok t =>
  obtain⟨⟨a0,a1,r0,r1⟩,-,-,h1,h2⟩:=h;unfold Xj at h1 h2;exact⟨⟨show (-9223372036854775808:Int)<=1 by decide,show (1:Int)<=9223372036854775807 by decide,h1,h2,a0,a1,by show (-9223372036854775808:Int)<=t.tr;omega,by show t.tr<=9223372036854775807;omega,show (0:Int)<=0 by decide,show (0:Int)<=18446744073709551615 by decide,show 0<=1000 by decide⟩,Yy⟩
 | lea t =>
  obtain⟨⟨a0,a1,r0,r1,l0,l1,p1,pa⟩,-,-,h1,h2⟩:=h;unfold Xj at h1 h2;exact⟨⟨show (-9223372036854775808:Int)<=1 by decide,show (1:Int)<=9223372036854775807 by decide,h1,h2,a0,a1,by show (-9223372036854775808:Int)<=t.tr;omega,by show t.tr<=9223372036854775807;omega,l0,l1,by show t.pth.length<=1000;omega⟩,pa.1⟩
 | gone tk n =>
  have h1:n<Xj:=h;unfold Xj at h1;exact⟨⟨show (-9223372036854775808:Int)<=2 by decide,show (2:Int)<=9223372036854775807 by decide,h1,show 0<18446744073709551616 by decide,show (0:Int)<=0 by decide,show (0:Int)<=18446744073709551615 by decide,show (-9223372036854775808:Int)<=0 by decide,show (0:Int)<=9223372036854775807 by decide,show (0:Int)<=0 by decide,show (0:Int)<=18446744073709551615 by decide,show 0<=1000 by decide⟩,Yy⟩
 | use tk n =>
  have h1:n<Xj:=h;unfold Xj at h1;exact⟨⟨show (-9223372036854775808:Int)<=3 by decide,show (3:Int)<=9223372036854775807 by decide,h1,show 0<18446744073709551616 by decide,show (0:Int)<=0 by decide,show (0:Int)<=18446744073709551615 by decide,show (-9223372036854775808:Int)<=0 by decide,show (0:Int)<=9223372036854775807 by decide,show (0:Int)<=0 by decide,show (0:Int)<=18446744073709551615 by decide,show 0<=1000 by decide⟩,Yy⟩
theorem Yn.ok:∀ {is:List Item} {s:VSt},Yn is s->∀ r∈is.map Item.rec_,r.Ok/\Yg r.pth
 | [],_,_,r,h=>by simp at h
 | a :: is,s,hf,r,h=>by
  rw [List.map_cons] at h
  rcases List.mem_cons.1 h with rfl | h
  ·exact Item.Xoe hf.1
  exact Yn.ok (is:=is) (s:=a.app s) hf.2 r h
def Yk (rs:List X7):List Value:=rs.flatMap fun r=>r.cells.toList
theorem X7.Ve (r:X7):r.cells.toList.length=10:=rfl
theorem Mj (rs:List X7):(Yk rs).length=rs.length*10:=by
 induction rs with
 | nil=>rfl
 | cons x xs ih=>simp only [Yk,List.flatMap_cons,List.length_append,X7.Ve,List.length_cons] at ih ⊢;omega
theorem Mz:∀(xs:List X7) (k j:Nat) (t:X7),xs[k]? = some t->j<10->(Yk xs)[k*10+j]? = t.cells[j]?
 | [],_,_,_,h,_=>by simp at h
 | x :: xs,0,j,t,h,hj=>by
  obtain rfl:x=t:=by simpa using h
  show (x.cells.toList++Yk xs)[0*10+j]? = _
  rw [List.getElem?_append_left (by rw [X7.Ve];omega)];simp
 | x :: xs,k+1,j,t,h,hj=>by
  show (x.cells.toList++Yk xs)[(k+1)*10+j]? = _
  rw [List.getElem?_append_right (by rw [X7.Ve];omega),X7.Ve,show (k+1)*10+j-10=k*10+j by omega];exact Mz xs k j t (by simpa using h) hj
theorem Xm0 {W:World} {g:Nat} {rs:List X7} (h:∀ j u,(Yk rs)[j]? = some u->W.cell? ⟨g,j,none⟩=some u):Yo W g rs:=fun i r hr j v hv=>by
 have hj:j<10:=(Array.getElem?_eq_some_iff.1 hv).1;exact h _ _ (by rw [Mz rs i j r hr hj];exact hv)
theorem Yo.flat {W:World} {g:Nat} {rs:List X7} (h:Yo W g rs):∀ j u,(Yk rs)[j]? = some u->W.cell? ⟨g,j,none⟩=some u:=fun j u hu=>by
 have hl:j<(Yk rs).length:=(List.getElem?_eq_some_iff.1 hu).1;rw [Mj] at hl
 obtain⟨r,hr⟩:∃ r,rs[j / 10]? = some r:=⟨rs[j / 10]'(by omega),by simp⟩
 have e:j=(j / 10)*10+j % 10:=by omega
 rw [e] at hu ⊢;rw [Mz rs (j / 10) (j % 10) r hr (by omega)] at hu;exact h _ r hr _ u hu
theorem Yo.spared {W W':World} {g:Nat} {rs:List X7} {bs:List Nat} (h:Yo W g rs) (hS:Spares bs W W') (hg:g<W.heap.size) (hn:g∉bs):Yo W' g rs:=fun i r hr j v hv=>(cell_of_block (hS.block g hg hn) _).1.trans (h i r hr j v hv)
structure Blk where
 vb:Nat
 mt:Nat
 ml:Nat
 jb:Nat
 db:Nat
 md:Nat
 mn:Nat
 no:Nat
def Blk.turns (k:Blk):List Nat:=[k.vb,k.mt,k.ml,k.db,k.md,k.mn]
def nowR (tm:Int):X7:=⟨0,0,0,0,0,false,tm,0,0,[]⟩
def keepLine (tm:Int) (is:List Item):List UInt8:=recLine (nowR tm :: is.map Item.rec_)
theorem Xbb (c:List UInt8) (tm:Int) (is:List Item):c++keepLine tm is ≠ []:=by simp [keepLine,recLine,lineL]
def rootE:Xe:=⟨0,0,0,18446744073709551615,0,false⟩
def rootS:VSt:=⟨0,0,[rootE],[]⟩
structure X9 where
 tm:Int
 is:List Item
def X9.recs (l:X9):List X7:=nowR l.tm :: l.is.map Item.rec_
def X9.Ok (l:X9) (s:VSt):Prop:=(0<=l.tm/\l.tm<=18446744073709551615)/\Yn l.is s/\0<l.is.length/\l.is.length<=50
def playL (ls:List X9) (s:VSt):VSt:=ls.foldl (fun s l=>Za l.is s) s
def textL (ls:List X9):List UInt8:=ls.flatMap fun l=>recLine l.recs
def OkL:List X9->VSt->Prop
 | [],_=>True
 | l :: ls,s=>l.Ok s/\OkL ls (Za l.is s)
theorem OkL.snoc:∀ {ls:List X9} {s:VSt} {l:X9},OkL ls s->l.Ok (playL ls s)->OkL (ls ++ [l]) s
 | [],_,_,_,h=>⟨h,trivial⟩
 | _ :: _,_,_,⟨h1,h2⟩,h=>⟨h1,OkL.snoc h2 h⟩
theorem Xg6 (ls:List X9) (l:X9) (s:VSt):playL (ls ++ [l]) s=Za l.is (playL ls s):=by simp [playL]
theorem Xhu (ls:List X9) (l:X9):textL (ls ++ [l])=textL ls++keepLine l.tm l.is:=by simp [textL,keepLine,X9.recs]
structure Log (tm:Int) (s:VSt) (c:List UInt8):Prop where
 ex:∃ ls,OkL ls rootS/\s=playL ls rootS/\c=textL ls/\∀ l∈ls,l.tm<=tm
theorem Log.nil (tm:Int):Log tm rootS []:=⟨[],trivial,rfl,rfl,fun _ h=>by cases h⟩
theorem Log.mono {tm tm':Int} {s:VSt} {c:List UInt8} (h:Log tm s c) (hle:tm<=tm'):Log tm' s c:=by
 obtain⟨ls,h1,h2,h3,h4⟩:=h.ex;exact⟨ls,h1,h2,h3,fun l hl=>Int.le_trans (h4 l hl) hle⟩
theorem Log.line {tm:Int} {s:VSt} {c:List UInt8} {is:List Item} (h:Log tm s c) (t0:0<=tm) (t1:tm<=18446744073709551615) (hF:Yn is s) (h0:0<is.length) (hn:is.length<=50):Log tm (Za is s) (c++keepLine tm is):=by
 obtain⟨ls,h1,rfl,rfl,h4⟩:=h.ex;refine⟨ls ++ [⟨tm,is⟩],h1.snoc ⟨⟨t0,t1⟩,hF,h0,hn⟩,(Xg6 ls ⟨tm,is⟩ rootS).symm,(Xhu ls ⟨tm,is⟩).symm,fun l hl=>?_⟩
 rcases List.mem_append.1 hl with hl | hl
 ·exact h4 l hl
 rw [List.mem_singleton.1 hl];exact Int.le_refl _
structure Tryz.Raw (W:World) (k:Blk) (vx:VX) (tm:Int) (s:VSt) (c:List UInt8) (l f:Int):Prop where
 v:Tryz.Yb W k.vb k.mt k.ml vx tm s.tn s.ln s.tks s.lks
 jn:vx.jn=.pointer (some ⟨k.jb,0,none⟩)
 j:BoxN W k.jb 212 #[Tryz.Xw k.db,.int .u64 (k.no:Int),.nilIface]
 d:∃ fd fn,Tryz.Xk (fileN k.no) W k.db k.md k.mn fd fn (.slice none 0 0) l f/\Fl fd c/\Fl fn c
 j9:9<=k.jb
 d9:9<=k.db
 md9:9<=k.md
 mn9:9<=k.mn
 no9:k.no<1000000
 ne1:k.md≠k.mt/\k.md≠k.ml/\k.mn≠k.mt/\k.mn≠k.ml
structure Tryz.Whole (W:World) (k:Blk) (vx:VX) (tm:Int) (s:VSt) (c:List UInt8) (l f:Int):Prop extends Tryz.Raw W k vx tm s c l f where
 log:Log tm s c
section
variable {W W':World} {k:Blk} {vx:VX} {tm:Int} {s:VSt} {c:List UInt8} {l f:Int}
theorem Tryz.Raw.below (h:Raw W k vx tm s c l f) (hb:Below W.heap.size W W'):Raw W' k vx tm s c l f:=by
 obtain⟨fd,fn,hd,e1,e2⟩:=h.d;exact { h with v:=h.v.below hb,j:=h.j.below hb h.j.lt,d:=⟨fd,fn,hd.below hb,e1,e2⟩ }
theorem Tryz.Whole.below (h:Whole W k vx tm s c l f) (hb:Below W.heap.size W W'):Whole W' k vx tm s c l f:=by
 obtain⟨fd,fn,hd,e1,e2⟩:=h.d;exact { h with v:=h.v.below hb,j:=h.j.below hb h.j.lt,d:=⟨fd,fn,hd.below hb,e1,e2⟩ }
theorem Tryz.Whole.Xh5 (h:Whole W k vx tm s c l f):∀ b∈k.turns,9<=b:=fun b hb=>by
 have:=h.v.v9;have:=h.v.m9;have:=h.v.l9;have:=h.d9;have:=h.md9;have:=h.mn9;simp only [Blk.turns,List.mem_cons,List.not_mem_nil,or_false] at hb;omega
theorem Tryz.Raw.nes (h:Raw W k vx tm s c l f):(k.vb ∉ [k.db,k.md,k.mn]/\k.mt ∉ [k.db,k.md,k.mn]/\k.ml ∉ [k.db,k.md,k.mn])/\k.jb∉k.turns/\(k.db≠k.vb/\k.db≠k.mt/\k.db≠k.ml):=by
 obtain⟨fd,fn,hd,-,-⟩:=h.d;obtain⟨n1,-,m1⟩:=h.v.va.held.mapT;obtain⟨n2,-,m2⟩:=h.v.va.held.mapL;obtain⟨n3,-,m3⟩:=hd.dm;obtain⟨n4,-,m4⟩:=hd.nm;have a1:=h.v.va.v.ne hd.box (by decide);have a2:=BoxN.Xl h.v.va.v m3;have a3:=BoxN.Xl h.v.va.v m4;have a4:=BoxN.Xl hd.box m1;have a5:=BoxN.Xl hd.box m2;have b1:=h.j.ne h.v.va.v (by decide);have b2:=BoxN.Xl h.j m1;have b3:=BoxN.Xl h.j m2;have b4:=h.j.ne hd.box (by decide);have b5:=BoxN.Xl h.j m3;have b6:=BoxN.Xl h.j m4;obtain⟨c1,c2,c3,c4⟩:=h.ne1;refine⟨⟨by simp [a1,Ne.symm a2,Ne.symm a3],by simp [a4,Ne.symm c1,Ne.symm c3],by simp [a5,Ne.symm c2,Ne.symm c4]⟩,by simp [Blk.turns,b1,Ne.symm b2,Ne.symm b3,b4,Ne.symm b5,Ne.symm b6],Ne.symm a1,Ne.symm a4,Ne.symm a5⟩
end
end Go.Proofs
