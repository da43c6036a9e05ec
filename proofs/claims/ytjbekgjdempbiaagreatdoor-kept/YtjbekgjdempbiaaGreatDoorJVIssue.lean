import Derived.Test.YtjbekgjdempbiaaGreatDoorJCntB
import Derived.Test.YtjbekgjdempbiaaGreatDoorJJrnC
import Derived.Test.YtjbekgjdempbiaaGreatDoorJRecC
import Derived.Test.YtjbekgjdempbiaaGreatDoorJRefQ0
set_option maxRecDepth 100000
set_option maxHeartbeats 8000000
namespace Go.Proofs
open Go.RowKit Go.Sort Go.Lib Go.Shelf Go.Maps
theorem Tryz.Xg8 (vb mt ml:Nat) (vx:VX) (tm:Int) (tn ln:Nat) (tks:List Xd) (lks:List Xc) (w:World) (hV:Yo w vb mt ml vx tm tn ln tks lks) (last:Int) (pth:List UInt8) (t:Xd) (hok:Xc7 t) (hf:Xao t tks) (hl:tks.length<500) (h1:t.n<Xn) (h2:t.au<Xn) :
  Calls prog 100 #[.pointer (some ⟨vb,0,none⟩),.agg (Xi 1 1 t.n t.ak t.au t.pd t.at_ t.tr last pth)] w fun e w'=>e=.returned (.tuple #[])/\Yo w' vb mt ml vx tm (max tn t.n) ln (Yh t tks) lks/\Spares [vb,mt] w w':=by
 have hB0:Below w.heap.size w (w.alloc (.cells (Xi 1 1 t.n t.ak t.au t.pd t.at_ t.tr last pth) 135)):=(Below.refl _ w).alloc (Nat.le_refl _) _;have hP:=Xua vb mt ml vx tm tn ln tks lks _ (hV.below hB0) 1 last pth t hok hf hl h1 h2;unfold Xi at hP hB0 ⊢;go_enter func100,ntmps100
 go_wp2_with (go_at_call 148;refine hP.mono ?_;rintro e w1 ⟨rfl,hV1,hS1⟩)
 go_end0
 exact⟨rfl,hV1,(Spares.of_below hB0).trans hS1⟩
theorem Tryz.Xgp (vb mt ml:Nat) (vx:VX) (tm:Int) (tn ln:Nat) (tks:List Xd) (lks:List Xc) (w:World) (hV:Yo w vb mt ml vx tm tn ln tks lks) (t:Xc) (hok:Xdg t) (hf:Xah t lks) (hl:lks.length<500) (h1:t.n<Xn) (h2:t.au<Xn) :
  Calls prog 100 #[.pointer (some ⟨vb,0,none⟩),.agg (Xi 1 2 t.n t.ak t.au t.pd t.at_ t.tr t.last t.pth)] w fun e w'=>e=.returned (.tuple #[])/\Yo w' vb mt ml vx tm tn (max ln t.n) tks (Yc t lks)/\Spares [vb,ml] w w':=by
 have hB0:Below w.heap.size w (w.alloc (.cells (Xi 1 2 t.n t.ak t.au t.pd t.at_ t.tr t.last t.pth) 135)):=(Below.refl _ w).alloc (Nat.le_refl _) _;have hP:=Xtm vb mt ml vx tm tn ln tks lks _ (hV.below hB0) 1 t hok hf hl h1 h2;unfold Xi at hP hB0 ⊢;go_enter func100,ntmps100
 go_wp2_with (go_at_call 148;refine hP.mono ?_;rintro e w1 ⟨rfl,hV1,hS1⟩)
 go_end0
 exact⟨rfl,hV1,(Spares.of_below hB0).trans hS1⟩
end Go.Proofs
namespace Go.Proofs
open Go.RowKit Go.Sort Go.Lib Go.Shelf Go.Maps Go.WideMaps
def kdB (tk:Bool):Int:=if tk then 1 else 2
theorem Xs8 {tk:Bool} {n:Nat} (h:n<Xn):Zq (kdB tk,(n:Int)):=by
 cases tk
 ·exact Xdw (.inr rfl) h
 exact Xdw (.inl rfl) h
def Yu (tk:Bool) (n:Nat) (l:List Xd):List Xd:=if tk then Xbj n l else l
def Y4 (tk:Bool) (n:Nat) (l:List Xc):List Xc:=if tk then l else Xbi n l
theorem Xjk (tk:Bool) (n:Nat) (l:List Xd):(l.map Xd.key).reverse.filter (fun p=>decide (p.1≠(kdB tk,(n:Int))))=((Yu tk n l).map Xd.key).reverse:=by
 cases tk
 ·refine List.filter_eq_self.2 fun p hp=>?_
  obtain⟨y,hy,rfl⟩:=List.mem_map.1 (List.mem_reverse.1 hp);simp [Xd.key,kdB]
 exact Xfy n l ⟨n,0,0,0,0,false⟩ rfl
theorem Xju (tk:Bool) (n:Nat) (l:List Xc):(l.map Xc.key).reverse.filter (fun p=>decide (p.1≠(kdB tk,(n:Int))))=((Y4 tk n l).map Xc.key).reverse:=by
 cases tk
 ·exact Xfw n l ⟨n,0,0,0,0,false,[],0⟩ rfl
 refine List.filter_eq_self.2 fun p hp=>?_
 obtain⟨y,hy,rfl⟩:=List.mem_map.1 (List.mem_reverse.1 hp);simp [Xc.key,kdB]
theorem Yz {tk:Bool} {n:Nat} {l:List Xd} {x:Xd} (h:x∈Yu tk n l):x∈l:=by
 cases tk
 ·exact h
 exact(List.mem_filter.1 h).1
theorem Ze {tk:Bool} {n:Nat} {l:List Xc} {x:Xc} (h:x∈Y4 tk n l):x∈l:=by
 cases tk
 ·exact(List.mem_filter.1 h).1
 exact h
theorem Xx.dropT {tks:List Xd} {lks:List Xc} (h:Xx tks lks) (tk:Bool) (n:Nat):Xx (Yu tk n tks) lks:=by
 cases tk
 ·exact h
 exact h.delT n
theorem Xx.dropL {tks:List Xd} {lks:List Xc} (h:Xx tks lks) (tk:Bool) (n:Nat):Xx tks (Y4 tk n lks):=by
 cases tk
 ·exact h.delL n
 exact h
section
variable {W W':World} {vb mt ml:Nat} {vx:VX} {tm:Int} {tn ln:Nat} {tks:List Xd} {lks:List Xc}
theorem Tryz.Yo.dropT (h:Yo W vb mt ml vx tm tn ln tks lks) (tk:Bool) {n:Nat} (hn:n<Xn) (ty:TypeId) :
  ∃ W',(Builtin.delete_ #[120,114] ty #[.map (some mt),nmV (kdB tk,(n:Int))]).run prog W=.ok (.tuple #[]) W'/\Yo W' vb mt ml vx tm tn ln (Yu tk n tks) lks/\W.grownBy W' (some mt):=by
 obtain⟨⟨q,hq,hm⟩,⟨q',hq',hm'⟩⟩:=h.va.held;obtain⟨W',hrun,hM,hT⟩:=hm.drop Y1 underlying120 (Xz.keyOf (Xs8 (tk:=tk) hn)) ty;rw [show Lit.string (nmB (kdB tk,(n:Int)))=nmL (kdB tk,(n:Int)) from rfl,Xz.Xkq h.va.ok.ksT.1 (Xs8 hn),Xjk] at hM;have hg:=hT.grown
 have hb6:Below 6 W W':=⟨hg.os,hg.tape,hg.output,hg.size,fun j hj=>hg.block j (by have:=h.va.six;omega) (by intro e;injection e with e;have:=h.m9;omega)⟩
 have ok2:=h.va.ok.dropT tk n;refine⟨W',hrun,⟨⟨h.va.v.kept hg (by intro e;injection e with e;exact h.nes.1 e.symm),⟨⟨_,?_,J3 hM⟩,⟨q',hq',hm'.kept hg (by intro e;injection e with e;exact h.mne e.symm)⟩⟩,ok2,h.va.env.below hb6 (Nat.le_refl _),Nat.le_trans h.va.six hg.size⟩,fun t ht=>h.nt t (Yz ht),h.nl,h.t0,h.t1,fun t ht=>h.okT t (Yz ht),h.okL,h.mne,h.v9,h.m9,h.l9⟩,hg⟩;rw [Xz.Z6 _ ok2.ksT.1];have:=ok2.lenT;simp;omega
theorem Tryz.Yo.dropL (h:Yo W vb mt ml vx tm tn ln tks lks) (tk:Bool) {n:Nat} (hn:n<Xn) (ty:TypeId) :
  ∃ W',(Builtin.delete_ #[121,114] ty #[.map (some ml),nmV (kdB tk,(n:Int))]).run prog W=.ok (.tuple #[]) W'/\Yo W' vb mt ml vx tm tn ln tks (Y4 tk n lks)/\W.grownBy W' (some ml):=by
 obtain⟨⟨q,hq,hm⟩,⟨q',hq',hm'⟩⟩:=h.va.held;obtain⟨W',hrun,hM,hT⟩:=hm'.drop Y1 underlying121 (Xz.keyOf (Xs8 (tk:=tk) hn)) ty;rw [show Lit.string (nmB (kdB tk,(n:Int)))=nmL (kdB tk,(n:Int)) from rfl,Xz.Xkq h.va.ok.ksL.1 (Xs8 hn),Xju] at hM;have hg:=hT.grown
 have hb6:Below 6 W W':=⟨hg.os,hg.tape,hg.output,hg.size,fun j hj=>hg.block j (by have:=h.va.six;omega) (by intro e;injection e with e;have:=h.l9;omega)⟩
 have ok2:=h.va.ok.dropL tk n;refine⟨W',hrun,⟨⟨h.va.v.kept hg (by intro e;injection e with e;exact h.nes.2 e.symm),⟨⟨q,hq,hm.kept hg (by intro e;injection e with e;exact h.mne e)⟩,⟨_,?_,J3 hM⟩⟩,ok2,h.va.env.below hb6 (Nat.le_refl _),Nat.le_trans h.va.six hg.size⟩,h.nt,fun t ht=>h.nl t (Ze ht),h.t0,h.t1,h.okT,fun t ht=>h.okL t (Ze ht),h.mne,h.v9,h.m9,h.l9⟩,hg⟩;rw [Xz.Z6 _ ok2.ksL.1];have:=ok2.lenL;simp;omega
end
theorem Tryz.Xfc (vb mt ml:Nat) (vx:VX) (tm:Int) (tn ln:Nat) (tks:List Xd) (lks:List Xc) (w:World) (hV:Yo w vb mt ml vx tm tn ln tks lks) (tk:Bool) (n:Nat) (hn:n<Xn) :
  Calls prog 100 #[.pointer (some ⟨vb,0,none⟩),.agg (Xi 2 (kdB tk) n 0 0 false 0 0 0 [])] w fun e w'=>e=.returned (.tuple #[])/\Yo w' vb mt ml vx tm tn ln (Yu tk n tks) (Y4 tk n lks)/\Spares [mt,ml] w w':=by
 have hB0:Below w.heap.size w (w.alloc (.cells (Xi 2 (kdB tk) n 0 0 false 0 0 0 []) 135)):=(Below.refl _ w).alloc (Nat.le_refl _) _;have bR0:=BoxN.new w 135 (Xi 2 (kdB tk) n 0 0 false 0 0 0 []);have hV0:=hV.below hB0;obtain⟨w4,hd4,hV4,hg4⟩:=(hV0.below ((Below.refl _ _).drew)).dropT tk hn 0;obtain⟨w5,hd5,hV5,hg5⟩:=(hV4.below ((Below.refl _ w4).drew)).dropL tk hn 0;have lH:=hV.va.held.lt;have bR4:=BoxN.kept (W:=(w.alloc _).drew) bR0 hg4 (by intro e;injection e with e;omega);have m3:=hV0.va.v.cell 3 (v:=.map (some mt)) rfl;have m4:=hV4.va.v.cell 4 (v:=.map (some ml)) rfl;have hS:Hid (Spares [mt,ml] w w5):=Xb (((((Spares.of_below hB0).drew).trans (Spares.X6 hg4 (by simp))).drew).trans (Spares.X6 hg5 (by simp)));unfold nmV Xi at *;have n40:=bR4.cell 1 (v:=.int .i64 (kdB tk)) rfl;have n41:=bR4.cell 2 (v:=.int .u64 n) rfl;generalize kdB tk=kd at *;clear hg4 hg5 bR4;go_enter func100,ntmps100;go_wp2
 go_region
 go_wp2
 go_region
 go_wp2
 go_end0
 exact⟨rfl,hV5,Xa hS⟩
end Go.Proofs
namespace Go.Proofs
open Go.RowKit Go.Sort Go.Lib Go.Shelf Go.Maps
structure VSt where
 tn:Nat
 ln:Nat
 tks:List Xd
 lks:List Xc
inductive Item where
 | tok (t:Xd)
 | lea (t:Xc)
 | gone (tk:Bool) (n:Nat)
def Xd.rec_ (t:Xd):Yf:=⟨1,1,t.n,t.ak,t.au,t.pd,t.at_,t.tr,0,[]⟩
def Xc.rec_ (t:Xc):Yf:=⟨1,2,t.n,t.ak,t.au,t.pd,t.at_,t.tr,t.last,t.pth⟩
def Item.rec_:Item->Yf
 | .tok t=>t.rec_
 | .lea t=>t.rec_
 | .gone tk n=>⟨2,kdB tk,n,0,0,false,0,0,0,[]⟩
def Item.app:Item->VSt->VSt
 | .tok t,s=>⟨max s.tn t.n,s.ln,Yh t s.tks,s.lks⟩
 | .lea t,s=>⟨s.tn,max s.ln t.n,s.tks,Yc t s.lks⟩
 | .gone tk n,s=>⟨s.tn,s.ln,Yu tk n s.tks,Y4 tk n s.lks⟩
def Item.Fits:Item->VSt->Prop
 | .tok t,s=>Xc7 t/\Xao t s.tks/\s.tks.length<500/\t.n<Xn/\t.au<Xn
 | .lea t,s=>Xdg t/\Xah t s.lks/\s.lks.length<500/\t.n<Xn/\t.au<Xn
 | .gone _ n,_=>n<Xn
def Yr:List Item->VSt->Prop
 | [],_=>True
 | i :: is,s=>i.Fits s/\Yr is (i.app s)
def Yq (is:List Item) (s:VSt):VSt:=is.foldl (fun s i=>i.app s) s
theorem Yr.get:∀ {is:List Item} {s:VSt} {k:Nat} {i:Item},Yr is s->is[k]? = some i->i.Fits (Yq (is.take k) s)
 | [],_,_,_,_,h=>by simp at h
 | a :: is,s,0,i,h,hi=>by
  obtain rfl:a=i:=by simpa using hi
  exact h.1
 | a :: is,s,k+1,i,h,hi=>Yr.get (is:=is) (s:=a.app s) h.2 (by simpa using hi)
theorem Xdo {is:List Item} {s:VSt} {k:Nat} {i:Item} (h:is[k]? = some i):Yq (is.take (k+1)) s=i.app (Yq (is.take k) s):=by
 unfold Yq;rw [List.take_add_one,h];simp
theorem Item.Xur {i:Item} {s:VSt} (h:i.Fits s):i.rec_.Ok/\Ym i.rec_.pth:=by
 cases i with
 | tok t =>
  obtain⟨⟨a0,a1,r0,r1⟩,-,-,h1,h2⟩:=h;unfold Xn at h1 h2;exact⟨⟨show (-9223372036854775808:Int)<=1 by decide,show (1:Int)<=9223372036854775807 by decide,h1,h2,a0,a1,by show (-9223372036854775808:Int)<=t.tr;omega,by show t.tr<=9223372036854775807;omega,show (0:Int)<=0 by decide,show (0:Int)<=18446744073709551615 by decide,show 0<=1000 by decide⟩,Zn⟩
 | lea t =>
  obtain⟨⟨a0,a1,r0,r1,l0,l1,p1,pa⟩,-,-,h1,h2⟩:=h;unfold Xn at h1 h2;exact⟨⟨show (-9223372036854775808:Int)<=1 by decide,show (1:Int)<=9223372036854775807 by decide,h1,h2,a0,a1,by show (-9223372036854775808:Int)<=t.tr;omega,by show t.tr<=9223372036854775807;omega,l0,l1,by show t.pth.length<=1000;omega⟩,pa.1⟩
 | gone tk n =>
  have h1:n<Xn:=h;unfold Xn at h1;exact⟨⟨show (-9223372036854775808:Int)<=2 by decide,show (2:Int)<=9223372036854775807 by decide,h1,show 0<18446744073709551616 by decide,show (0:Int)<=0 by decide,show (0:Int)<=18446744073709551615 by decide,show (-9223372036854775808:Int)<=0 by decide,show (0:Int)<=9223372036854775807 by decide,show (0:Int)<=0 by decide,show (0:Int)<=18446744073709551615 by decide,show 0<=1000 by decide⟩,Zn⟩
theorem Yr.ok:∀ {is:List Item} {s:VSt},Yr is s->∀ r∈is.map Item.rec_,r.Ok/\Ym r.pth
 | [],_,_,r,h=>by simp at h
 | a :: is,s,hf,r,h=>by
  rw [List.map_cons] at h
  rcases List.mem_cons.1 h with rfl | h
  ·exact Item.Xur hf.1
  exact Yr.ok (is:=is) (s:=a.app s) hf.2 r h
def Yi (rs:List Yf):List Value:=rs.flatMap fun r=>r.cells.toList
theorem Yf.Xau (r:Yf):r.cells.toList.length=10:=rfl
theorem Xbt (rs:List Yf):(Yi rs).length=rs.length*10:=by
 induction rs with
 | nil=>rfl
 | cons x xs ih=>simp only [Yi,List.flatMap_cons,List.length_append,Yf.Xau,List.length_cons] at ih ⊢;omega
theorem Xcv:∀(xs:List Yf) (k j:Nat) (t:Yf),xs[k]? = some t->j<10->(Yi xs)[k*10+j]? = t.cells[j]?
 | [],_,_,_,h,_=>by simp at h
 | x :: xs,0,j,t,h,hj=>by
  obtain rfl:x=t:=by simpa using h
  show (x.cells.toList++Yi xs)[0*10+j]? = _
  rw [List.getElem?_append_left (by rw [Yf.Xau];omega)];simp
 | x :: xs,k+1,j,t,h,hj=>by
  show (x.cells.toList++Yi xs)[(k+1)*10+j]? = _
  rw [List.getElem?_append_right (by rw [Yf.Xau];omega),Yf.Xau,show (k+1)*10+j-10=k*10+j by omega];exact Xcv xs k j t (by simpa using h) hj
theorem Xsv {W:World} {g:Nat} {rs:List Yf} (h:∀ j u,(Yi rs)[j]? = some u->W.cell? ⟨g,j,none⟩=some u):Zi W g rs:=fun i r hr j v hv=>by
 have hj:j<10:=(Array.getElem?_eq_some_iff.1 hv).1;exact h _ _ (by rw [Xcv rs i j r hr hj];exact hv)
theorem Zi.flat {W:World} {g:Nat} {rs:List Yf} (h:Zi W g rs):∀ j u,(Yi rs)[j]? = some u->W.cell? ⟨g,j,none⟩=some u:=fun j u hu=>by
 have hl:j<(Yi rs).length:=(List.getElem?_eq_some_iff.1 hu).1;rw [Xbt] at hl
 obtain⟨r,hr⟩:∃ r,rs[j / 10]? = some r:=⟨rs[j / 10]'(by omega),by simp⟩
 have e:j=(j / 10)*10+j % 10:=by omega
 rw [e] at hu ⊢;rw [Xcv rs (j / 10) (j % 10) r hr (by omega)] at hu;exact h _ r hr _ u hu
theorem Zi.spared {W W':World} {g:Nat} {rs:List Yf} {bs:List Nat} (h:Zi W g rs) (hS:Spares bs W W') (hg:g<W.heap.size) (hn:g∉bs):Zi W' g rs:=fun i r hr j v hv=>(cell_of_block (hS.block g hg hn) _).1.trans (h i r hr j v hv)
structure Blk where
 vb:Nat
 mt:Nat
 ml:Nat
 jb:Nat
 db:Nat
 md:Nat
 mn:Nat
def Blk.turns (k:Blk):List Nat:=[k.vb,k.mt,k.ml,k.db,k.md,k.mn]
def nowR (tm:Int):Yf:=⟨0,0,0,0,0,false,tm,0,0,[]⟩
def keepLine (tm:Int) (is:List Item):List UInt8:=recLine (nowR tm :: is.map Item.rec_)
theorem Xh2 (c:List UInt8) (tm:Int) (is:List Item):c++keepLine tm is ≠ []:=by simp [keepLine,recLine,lineL]
def rootE:Xd:=⟨0,0,0,18446744073709551615,0,false⟩
def rootS:VSt:=⟨0,0,[rootE],[]⟩
structure Ye where
 tm:Int
 is:List Item
def Ye.recs (l:Ye):List Yf:=nowR l.tm :: l.is.map Item.rec_
def Ye.Ok (l:Ye) (s:VSt):Prop:=(0<=l.tm/\l.tm<=18446744073709551615)/\Yr l.is s/\0<l.is.length/\l.is.length<=50
def playL (ls:List Ye) (s:VSt):VSt:=ls.foldl (fun s l=>Yq l.is s) s
def textL (ls:List Ye):List UInt8:=ls.flatMap fun l=>recLine l.recs
def OkL:List Ye->VSt->Prop
 | [],_=>True
 | l :: ls,s=>l.Ok s/\OkL ls (Yq l.is s)
theorem OkL.snoc:∀ {ls:List Ye} {s:VSt} {l:Ye},OkL ls s->l.Ok (playL ls s)->OkL (ls ++ [l]) s
 | [],_,_,_,h=>⟨h,trivial⟩
 | _ :: _,_,_,⟨h1,h2⟩,h=>⟨h1,OkL.snoc h2 h⟩
theorem Xlt (ls:List Ye) (l:Ye) (s:VSt):playL (ls ++ [l]) s=Yq l.is (playL ls s):=by simp [playL]
theorem Xl1 (ls:List Ye) (l:Ye):textL (ls ++ [l])=textL ls++keepLine l.tm l.is:=by simp [textL,keepLine,Ye.recs]
structure Log (tm:Int) (s:VSt) (c:List UInt8):Prop where
 ex:∃ ls,OkL ls rootS/\s=playL ls rootS/\c=textL ls/\∀ l∈ls,l.tm<=tm
theorem Log.nil (tm:Int):Log tm rootS []:=⟨[],trivial,rfl,rfl,fun _ h=>by cases h⟩
theorem Log.mono {tm tm':Int} {s:VSt} {c:List UInt8} (h:Log tm s c) (hle:tm<=tm'):Log tm' s c:=by
 obtain⟨ls,h1,h2,h3,h4⟩:=h.ex;exact⟨ls,h1,h2,h3,fun l hl=>Int.le_trans (h4 l hl) hle⟩
theorem Log.line {tm:Int} {s:VSt} {c:List UInt8} {is:List Item} (h:Log tm s c) (t0:0<=tm) (t1:tm<=18446744073709551615) (hF:Yr is s) (h0:0<is.length) (hn:is.length<=50):Log tm (Yq is s) (c++keepLine tm is):=by
 obtain⟨ls,h1,rfl,rfl,h4⟩:=h.ex;refine⟨ls ++ [⟨tm,is⟩],h1.snoc ⟨⟨t0,t1⟩,hF,h0,hn⟩,(Xlt ls ⟨tm,is⟩ rootS).symm,(Xl1 ls ⟨tm,is⟩).symm,fun l hl=>?_⟩
 rcases List.mem_append.1 hl with hl | hl
 ·exact h4 l hl
 rw [List.mem_singleton.1 hl];exact Int.le_refl _
structure Tryz.Raw (W:World) (k:Blk) (vx:VX) (tm:Int) (s:VSt) (c:List UInt8) (l f:Int):Prop where
 v:Tryz.Yo W k.vb k.mt k.ml vx tm s.tn s.ln s.tks s.lks
 jn:vx.jn=.pointer (some ⟨k.jb,0,none⟩)
 j:BoxN W k.jb 212 #[Tryz.Yg k.db,.int .u64 0,.nilIface]
 d:∃ fd fn,Tryz.Xj W k.db k.md k.mn fd fn (.slice none 0 0) l f/\Fl fd c/\Fl fn c
 j9:9<=k.jb
 d9:9<=k.db
 md9:9<=k.md
 mn9:9<=k.mn
 ne1:k.md≠k.mt/\k.md≠k.ml/\k.mn≠k.mt/\k.mn≠k.ml
structure Tryz.Whole (W:World) (k:Blk) (vx:VX) (tm:Int) (s:VSt) (c:List UInt8) (l f:Int):Prop extends Tryz.Raw W k vx tm s c l f where
 log:Log tm s c
section
variable {W W':World} {k:Blk} {vx:VX} {tm:Int} {s:VSt} {c:List UInt8} {l f:Int}
theorem Tryz.Raw.below (h:Raw W k vx tm s c l f) (hb:Below W.heap.size W W'):Raw W' k vx tm s c l f:=by
 obtain⟨fd,fn,hd,e1,e2⟩:=h.d;exact { h with v:=h.v.below hb,j:=h.j.below hb h.j.lt,d:=⟨fd,fn,hd.below hb,e1,e2⟩ }
theorem Tryz.Whole.below (h:Whole W k vx tm s c l f) (hb:Below W.heap.size W W'):Whole W' k vx tm s c l f:=by
 obtain⟨fd,fn,hd,e1,e2⟩:=h.d;exact { h with v:=h.v.below hb,j:=h.j.below hb h.j.lt,d:=⟨fd,fn,hd.below hb,e1,e2⟩ }
theorem Tryz.Whole.Xwd (h:Whole W k vx tm s c l f):∀ b∈k.turns,9<=b:=fun b hb=>by
 have:=h.v.v9;have:=h.v.m9;have:=h.v.l9;have:=h.d9;have:=h.md9;have:=h.mn9;simp only [Blk.turns,List.mem_cons,List.not_mem_nil,or_false] at hb;omega
theorem Tryz.Raw.nes (h:Raw W k vx tm s c l f):(k.vb ∉ [k.db,k.md,k.mn]/\k.mt ∉ [k.db,k.md,k.mn]/\k.ml ∉ [k.db,k.md,k.mn])/\k.jb∉k.turns/\(k.db≠k.vb/\k.db≠k.mt/\k.db≠k.ml):=by
 obtain⟨fd,fn,hd,-,-⟩:=h.d;obtain⟨n1,-,m1⟩:=h.v.va.held.mapT;obtain⟨n2,-,m2⟩:=h.v.va.held.mapL;obtain⟨n3,-,m3⟩:=hd.dm;obtain⟨n4,-,m4⟩:=hd.nm;have a1:=h.v.va.v.ne hd.box (by decide);have a2:=BoxN.Xw h.v.va.v m3;have a3:=BoxN.Xw h.v.va.v m4;have a4:=BoxN.Xw hd.box m1;have a5:=BoxN.Xw hd.box m2;have b1:=h.j.ne h.v.va.v (by decide);have b2:=BoxN.Xw h.j m1;have b3:=BoxN.Xw h.j m2;have b4:=h.j.ne hd.box (by decide);have b5:=BoxN.Xw h.j m3;have b6:=BoxN.Xw h.j m4;obtain⟨c1,c2,c3,c4⟩:=h.ne1;refine⟨⟨by simp [a1,Ne.symm a2,Ne.symm a3],by simp [a4,Ne.symm c1,Ne.symm c3],by simp [a5,Ne.symm c2,Ne.symm c4]⟩,by simp [Blk.turns,b1,Ne.symm b2,Ne.symm b3,b4,Ne.symm b5,Ne.symm b6],Ne.symm a1,Ne.symm a4,Ne.symm a5⟩
end
theorem Tryz.Xbo:(prog.info? 135).map (fun i=>(i.zero,i.size,i.bytes))=some (some (.agg #[.int .i64 0,.int .i64 0,.int .u64 0,.int .i64 0,.int .u64 0,.bool false,.int .u64 0,.int .i64 0,.int .u64 0,.string ⟨#[]⟩]),10,88):=by kernel_rfl
theorem Xok (rs:List Yf):∀ u∈Yi rs,u.oneCell'=true:=fun u hu=>by
 obtain⟨r,-,hr⟩:=List.mem_flatMap.1 hu;simp only [Yf.cells,Xi,List.mem_cons,List.not_mem_nil,or_false] at hr
 rcases hr with rfl | rfl | rfl | rfl | rfl | rfl | rfl | rfl | rfl | rfl <;> rfl
theorem M8 (g j:Nat):(⟨g,0,none⟩:Addr).add j=⟨g,j,none⟩:=by
 by_cases h0:j=0
 ·subst h0;simp [Addr.add]
 simp [Addr.add,h0]
theorem Xcm {B g cap n:Nat} {e:TypeId} {W:World} {rs:List Yf} (h:W.ownsRow B e 10 (.slice (some ⟨g,0,none⟩) n cap) n (Yi rs)):Zi W g rs:=Xsv fun j u hu=>by
 have:=h.cells (g:=g) rfl j u hu
 rwa [M8] at this
theorem Tryz.Raw.turned {W W':World} {k:Blk} {vx:VX} {tm:Int} {s s':VSt} {c:List UInt8} {l f:Int} (h:Raw W k vx tm s c l f) (hS:Spares [k.vb,k.mt,k.ml] W W') (hV:Yo W' k.vb k.mt k.ml vx tm s'.tn s'.ln s'.tks s'.lks):Raw W' k vx tm s' c l f:=by
 obtain⟨fd,fn,hd,e1,e2⟩:=h.d;obtain⟨n1,-,m1⟩:=h.v.va.held.mapT;obtain⟨n2,-,m2⟩:=h.v.va.held.mapL;obtain⟨⟨a1,a2,a3⟩,a4,a5,a6,a7⟩:=h.nes
 have hstr:∀ {b:Nat} {x:Value},BoxN W b 9 #[x]->b ∉ [k.vb,k.mt,k.ml]:=fun hb=>by
  have h1:=hb.ne h.v.va.v (by decide);have h2:=BoxN.Xw hb m1;have h3:=BoxN.Xw hb m2;simp [h1,Ne.symm h2,Ne.symm h3]
 obtain⟨c1,c2,c3,c4⟩:=h.ne1;simp only [List.mem_cons,List.not_mem_nil,or_false,not_or] at a1 a2 a3;refine { h with v:=hV,j:=hS.box h.j ?_,d:=⟨fd,fn,hd.spared hS ?_ ?_ ?_ (fun q hq=>hstr (hd.sd q hq)) (fun q hq=>hstr (hd.sn q hq)),e1,e2⟩ }
 ·simp only [Blk.turns,List.mem_cons,List.not_mem_nil,or_false,not_or] at a4 ⊢
  exact⟨a4.1,a4.2.1,a4.2.2.1⟩
 ·simp [a5,a6,a7]
 ·simp [Ne.symm a1.2.1,c1,c2]
 simp [Ne.symm a1.2.2,c3,c4]
theorem Tryz.Raw.Xmu {W W':World} {k:Blk} {vx:VX} {tm:Int} {s:VSt} {c:List UInt8} {l f:Int} (h:Raw W k vx tm s c l f) (hS:Spares [k.vb,k.mt,k.ml] W W') {fd fn:Option (Nat × List UInt8)} (hd:Xj W k.db k.md k.mn fd fn (.slice none 0 0) l f):Xj W' k.db k.md k.mn fd fn (.slice none 0 0) l f:=by
 obtain⟨n1,-,m1⟩:=h.v.va.held.mapT;obtain⟨n2,-,m2⟩:=h.v.va.held.mapL;obtain⟨⟨a1,a2,a3⟩,a4,a5,a6,a7⟩:=h.nes
 have hstr:∀ {b:Nat} {x:Value},BoxN W b 9 #[x]->b ∉ [k.vb,k.mt,k.ml]:=fun hb=>by
  have h1:=hb.ne h.v.va.v (by decide);have h2:=BoxN.Xw hb m1;have h3:=BoxN.Xw hb m2;simp [h1,Ne.symm h2,Ne.symm h3]
 obtain⟨c1,c2,c3,c4⟩:=h.ne1;simp only [List.mem_cons,List.not_mem_nil,or_false,not_or] at a1 a2 a3;refine hd.spared hS ?_ ?_ ?_ (fun q hq=>hstr (hd.sd q hq)) (fun q hq=>hstr (hd.sn q hq))
 ·simp [a5,a6,a7]
 ·simp [Ne.symm a1.2.1,c1,c2]
 simp [Ne.symm a1.2.2,c3,c4]
theorem Tryz.Xpb (k:Blk) (vx:VX) (tm:Int) (s:VSt) (c:List UInt8) (l f:Int) (w:World) (hW:Raw w k vx tm s c l f) (i:Item) (hF:i.Fits s) :
  Calls prog 100 #[.pointer (some ⟨k.vb,0,none⟩),.agg i.rec_.cells] w fun e w'=>e=.returned (.tuple #[])/\Raw w' k vx tm (i.app s) c l f/\Spares [k.vb,k.mt,k.ml] w w':=by
 cases i with
 | tok t =>
  obtain⟨h1,h2,h3,h4,h5⟩:=hF;refine(Xg8 k.vb k.mt k.ml vx tm s.tn s.ln s.tks s.lks w hW.v 0 [] t h1 h2 h3 h4 h5).mono ?_;rintro e w' ⟨rfl,hV,hS⟩;have hS':Spares [k.vb,k.mt,k.ml] w w':=hS.mono (by simp);exact⟨rfl,hW.turned hS' hV,hS'⟩
 | lea t =>
  obtain⟨h1,h2,h3,h4,h5⟩:=hF;refine(Xgp k.vb k.mt k.ml vx tm s.tn s.ln s.tks s.lks w hW.v t h1 h2 h3 h4 h5).mono ?_;rintro e w' ⟨rfl,hV,hS⟩;have hS':Spares [k.vb,k.mt,k.ml] w w':=hS.mono (by simp);exact⟨rfl,hW.turned hS' hV,hS'⟩
 | gone tk n =>
  refine(Xfc k.vb k.mt k.ml vx tm s.tn s.ln s.tks s.lks w hW.v tk n hF).mono ?_;rintro e w' ⟨rfl,hV,hS⟩;have hS':Spares [k.vb,k.mt,k.ml] w w':=hS.mono (by simp);exact⟨rfl,hW.turned hS' hV,hS'⟩
theorem Tryz.Xry (k:Blk) (vx:VX) (tm:Int) (s:VSt) (c:List UInt8) (l f:Int) (is:List Item) (g cap:Nat) (w:World) (hW:Whole w k vx tm s c l f) (hl:l<0) (hl1 : -999999990<=l) (hf:f<0) (hf1 : -999999990<=f) (hc:c.length<=900000000000)
  (hR:Zi w g (is.map Item.rec_)) (hg:g<w.heap.size) (hgn:g∉k.turns) (hn0:0<is.length) (hn1:is.length<=50) (hF:Yr is s) :
  Calls prog 66 #[.pointer (some ⟨k.vb,0,none⟩),.slice (some ⟨g,0,none⟩) is.length cap] w fun e w'=>e=.returned .nilIface/\Whole w' k vx tm (Yq is s) (c++keepLine tm is) (l-2) (f-2)/\Spares k.turns w w'/\∃ b b',w.heap.size<=b/\w.heap.size<=b'/\Xj w' k.db k.md k.mn (some (b,c++keepLine tm is)) (some (b',c++keepLine tm is)) (.slice none 0 0) (l-2) (f-2):=by
 obtain⟨i0,hi,hz0,hz1,hz2⟩:=info_parts Xbo
 have hNow:=fun W (hb:Below w.heap.size w W)=>now k.vb tm W ((hW.v.below hb).va.v.cell 2 rfl)
 have j0:=hW.v.va.v.cell 0 (v:=.pointer (some ⟨k.jb,0,none⟩)) (by rw [<- hW.jn];rfl);have lV:=hW.v.va.v.lt;have hok:=Yr.ok hF
 have hokN:∀ r∈nowR tm :: is.map Item.rec_,r.Ok/\Ym r.pth:=fun r hr=>by
  rcases List.mem_cons.1 hr with rfl | hr
  ·exact⟨⟨show (-9223372036854775808:Int)<=0 by decide,show (0:Int)<=9223372036854775807 by decide,show 0<18446744073709551616 by decide,show 0<18446744073709551616 by decide,hW.v.t0,hW.v.t1,show (-9223372036854775808:Int)<=0 by decide,show (0:Int)<=9223372036854775807 by decide,show (0:Int)<=0 by decide,show (0:Int)<=18446744073709551615 by decide,show 0<=1000 by decide⟩,Zn⟩
  exact hok r hr
 obtain⟨fd,fn,hD,e1,e2⟩:=hW.d
 have hAdd:=fun W gg cc (hb:Below w.heap.size w W) (hrow:Zi W gg (nowR tm :: is.map Item.rec_)) (hgg:gg<W.heap.size)=>jAdd k.jb k.db k.md k.mn gg cc (nowR tm :: is.map Item.rec_) fd fn l f W (hW.j.below hb hW.j.lt) (hD.below hb) hl hl1 hf hf1 (by rw [e1.1];omega) (by rw [e2.1];omega) hrow hgg (fun r hr=>(hokN r hr).1) (fun r hr=>(hokN r hr).2) (by simp;omega) (hW.v.va.env.below hb hW.v.va.six) (Nat.le_trans hW.v.va.six hb.size)
 rw [e1.1,e2.1] at hAdd
 change ∀(W:World) (gg cc:Nat),_->_->_->Calls prog 120 _ W (fun e w'=>e=.returned .nilIface/\∃ b b',W.heap.size<=b/\W.heap.size<=b'/\Xj w' k.db k.md k.mn (some (b,c++keepLine tm is)) (some (b',c++keepLine tm is)) (.slice none 0 0) (l-2) (f-2)/\Spares [k.db,k.md,k.mn] W w') at hAdd
 have hflat:=hR.flat;have hfl:=Xbt (is.map Item.rec_);rw [List.length_map] at hfl;simp only [List.length_cons,List.length_map] at hAdd;have hlog:=hW.log.line hW.v.t0 hW.v.t1 hF hn0 hn1
 obtain⟨n,hn⟩:∃ n,is.length=n:=⟨_,rfl⟩
 rw [hn] at hn0 hn1 hfl hAdd ⊢;have Hn:=Xb hn;clear hn;have HF:=Xb hF;clear hF hok hokN
 obtain⟨kl,hkl⟩:∃ kl,keepLine tm is=kl:=⟨_,rfl⟩
 have Hne:Hid (c++kl ≠ []):=Xb (by rw [<- hkl];exact Xh2 c tm is);rw [hkl] at hAdd hlog ⊢;have Hkl:=Xb hkl;have HLog:=Xb hlog;clear hkl hlog
 have hnz:((n:Int)==0)=false:=by rw [beq_eq_false_iff_ne];omega
 unfold Xi at hNow;go_enter func66,ntmps66;go_wp2
 have hrowN:∀ {W:World} {g' cap':Nat},W.ownsRow w.heap.size 135 10 (.slice (some ⟨g',0,none⟩) (1+n) cap') (1+n) ([.int .i64 0,.int .i64 0,.int .u64 0,.int .i64 0,.int .u64 0,.bool false,.int .u64 tm,.int .i64 0,.int .u64 0,.string ⟨#[]⟩] ++ Yi (is.map Item.rec_))->Zi W g' (nowR tm :: is.map Item.rec_):=fun h=>Xcm (rs:=nowR tm :: is.map Item.rec_) h
 simp only [Nat.add_comm n 1] at hAdd;have s0:w.drew.cell? ⟨k.vb,0,none⟩=some (.pointer (some ⟨k.jb,0,none⟩)):=j0
 go_region_held_law (fun W=>W.cell? ⟨k.vb,0,none⟩=some (.pointer (some ⟨k.jb,0,none⟩))) (first
  | with_reducible exact s0
  | with_reducible exact s1
  | with_reducible exact s2 _
  | with_reducible exact s3
  | with_reducible exact s4
  | with_reducible assumption) (first
  | (refine step_append_lies _ (by rfl) _ _ _ (by rfl) w.heap.size 135 i0 _ 10 88 underlying162 hi hz0 hz1 hz2 rfl (by decide) (.slice (some ⟨w1.heap.size,0,none⟩) 1 1) 1 [.int .i64 0,.int .i64 0,.int .u64 0,.int .i64 0,.int .u64 0,.bool false,.int .u64 tm,.int .i64 0,.int .u64 0,.string ⟨#[]⟩] (by rfl) (World.ownsRow_lit w1 #[.int .i64 0,.int .i64 0,.int .u64 0,.int .i64 0,.int .u64 0,.bool false,.int .u64 tm,.int .i64 0,.int .u64 0,.string ⟨#[]⟩] 1 hB1.size (by decide) (by rfl)) ⟨g,0,none⟩ n cap (Yi (is.map Item.rec_)) (by rfl) hfl (fun j u hu=>by rw [M8];exact cell_later (((Below.refl _ w1)).alloc (Nat.le_refl _) _) (hn1c j u hu)) (Xok _) hn0 (by unfold maxLen;omega) (by omega) (by have:=hB1.size;simp;omega) _ rfl ?_;intro g' cap' w3 hown' hgrow hat hlt;have hB3:Below w.heap.size w w3:=((hB1.alloc hB1.size _).grown hgrow (by have:=hB1.size;simp;omega) hq1);have s3:w3.cell? ⟨k.vb,0,none⟩=some (.pointer (some ⟨k.jb,0,none⟩)):=cell_later hB3 j0;have hA3:=hAdd w3 g' cap' hB3 (hrowN hown') hlt)
  | (go_at_call 121;refine(hNow _ (Below.refl _ w).drew).mono ?_;rintro e w1 ⟨rfl,hb1⟩;have hB1:Below w.heap.size w w1:=(Below.refl _ w).drew.trans hb1;have s1:w1.cell? ⟨k.vb,0,none⟩=some (.pointer (some ⟨k.jb,0,none⟩)):=cell_later hB1 j0;have s2:=fun o=>cell_later ((Below.refl _ w1).alloc (Nat.le_refl _) o) s1;have hn1c:=fun j u hu=>cell_later hB1 (hflat j u hu);have hq1:∀ q,(Value.slice (some ⟨w1.heap.size,0,none⟩) 1 1).ownBlock=some q->w.heap.size<=q:=fun q hq=>(show w1.heap.size=q from by simpa [Value.ownBlock] using hq) ▸ hB1.size)
  | (go_at_call 120;refine hA3.mono ?_;rintro e w4 ⟨rfl,b,b',hb,hb',hD4,hS4⟩;have s4:w4.cell? ⟨k.vb,0,none⟩=some (.pointer (some ⟨k.jb,0,none⟩)):=(cell_of_block (hS4.block k.vb (Nat.lt_of_lt_of_le lV hB3.size) hW.nes.1.1) 0).1.trans s3))
 all_goals
  have hS5:Spares [k.db,k.md,k.mn] w w4:=(Spares.of_below hB3).trans hS4
  have hV4:Yo w4 k.vb k.mt k.ml vx tm s.tn s.ln s.tks s.lks:=hW.v.spared hS5 hW.nes.1.1 hW.nes.1.2.1 hW.nes.1.2.2 (fun b hb=>by
   have h1:=hW.d9;have h2:=hW.md9;have h3:=hW.mn9;simp only [List.mem_cons,List.not_mem_nil,or_false] at hb
   omega)
  have bJ4:=hS5.box hW.j (by have:=hW.nes.2.1;simp only [Blk.turns,List.mem_cons,List.not_mem_nil,or_false] at this ⊢;omega)
  have hW4:Raw w4 k vx tm s (c++kl) (l-2) (f-2):={ hW.toRaw with v:=hV4,j:=bJ4,d:=⟨_,_,hD4,Fl.some (Xa Hne),Fl.some (Xa Hne)⟩ }
  have hR4:=hR.spared hS5 hg (by simp only [Blk.turns,List.mem_cons,List.not_mem_nil,or_false] at hgn ⊢;omega);have hS6:Spares k.turns w w4:=hS5.mono (by simp [Blk.turns]);have hg4:g<w4.heap.size:=Nat.lt_of_lt_of_le hg hS5.size;have hbw:w.heap.size<=b:=Nat.le_trans hB3.size hb;have hbw':w.heap.size<=b':=Nat.le_trans hB3.size hb';clear hS4 hS5 hV4 bJ4 s0 s1 s2 s3 s4 hA3 hn1c hq1 hown' hgrow hat hlt hB3 hB1 hb1 hflat hAdd hNow hrowN hR j0 hb hb';go_wp2
  go_loopw [26] (fun i wr=>∃ q:Nat,q<=n/\i=.int .i64 q/\Raw wr k vx tm (Yq (is.take q) s) (c++kl) (l-2) (f-2)/\Zi wr g (is.map Item.rec_)/\g<wr.heap.size/\Spares k.turns w wr/\Xj wr k.db k.md k.mn (some (b,c++kl)) (some (b',c++kl)) (.slice none 0 0) (l-2) (f-2)) (fun i _=>n-(intOf i).toNat)
  case atStart=>exact⟨0,Nat.zero_le _,rfl,hW4,hR4,hg4,hS6,hD4⟩
  case round =>
   obtain⟨q,hq,rfl,hWq,hRq,hgq,hSq,hDq⟩:=hrel;clear hD4
   by_cases hqn:q<n
   ·obtain⟨it,hit⟩:∃ it,is[q]? = some it:=⟨is[q]'(by have:=Xa Hn;omega),by simp [Xa Hn,hqn]⟩
    have hfit:=(Xa HF).get hit;have happ:=Xb (Xdo (s:=s) hit);have hrk:=hRq q it.rec_ (by rw [List.getElem?_map,hit];rfl);have hB1:Below wr.heap.size wr (wr.alloc (.cells it.rec_.cells 135)):=(Below.refl _ _).alloc (Nat.le_refl _) _;have hC:=Xpb k vx tm _ _ _ _ _ (hWq.below hB1) it hfit;have hB1':=Xb hB1;unfold Yf.cells Xi at hrk hC hB1;have x0:=hrk 0 _ rfl;have x1:=hrk 1 _ rfl;have x2:=hrk 2 _ rfl;have x3:=hrk 3 _ rfl;have x4:=hrk 4 _ rfl;have x5:=hrk 5 _ rfl;have x6:=hrk 6 _ rfl;have x7:=hrk 7 _ rfl;have x8:=hrk 8 _ rfl;have x9:=hrk 9 _ rfl;simp only [Nat.add_zero] at x0;generalize it.rec_=r at *;obtain⟨kind,nk,nn,ak,an,pd,at_,tr,last,pth⟩:=r;simp only at x0 x1 x2 x3 x4 x5 x6 x7 x8 x9 hC hB1;clear hrk hfit;have HWq:=Xb hWq;have HRq:=Xb hRq;have HSq:=Xb hSq;have HDq:=Xb hDq;have hWa:=Xb ((Xa HWq).below (Xa hB1'));have hDa:=Xb (hDq.below (Xa hB1'));clear hWq hRq hSq hDq
    go_wp2_with (go_at_call 100;refine hC.mono ?_;rintro e w2 ⟨rfl,hW2,hS2⟩)
    have hsp:Spares [k.vb,k.mt,k.ml] wr w2:=(Spares.of_below hB1).trans hS2;have hS2H:=hS2;have hR2:=(Xa HRq).spared hsp hgq (by simp only [Blk.turns,List.mem_cons,List.not_mem_nil,or_false,not_or] at hgn ⊢;exact⟨hgn.1,hgn.2.1,hgn.2.2.1⟩);have hS3:Spares k.turns w w2:=(Xa HSq).trans (hsp.mono (by simp [Blk.turns]));have hg2:=Nat.lt_of_lt_of_le hgq hsp.size;have hD2:=(Xa hWa).Xmu hS2H (Xa hDa);clear hC hsp hS2
    go_roundw
    case rel=>exact⟨q+1,by omega,rfl,by rw [Xa happ];exact hW2,hR2,hg2,hS3,hD2⟩
    case measure=>simp [intOf];omega
   obtain rfl:q=n:=by omega
   have hall:is.take q=is:=List.take_of_length_le (by have:=Xa Hn;omega);rw [hall] at hWq;go_wp2;go_ret;exact⟨rfl,⟨hWq,Xa HLog⟩,hSq,b,b',hbw,hbw',hDq⟩
theorem Tryz.Xuo (k:Blk) (vx:VX) (tm:Int) (s:VSt) (c:List UInt8) (l f:Int) (is:List Item) (g cap:Nat) (w:World) (hW:Whole w k vx tm s c l f) (hl:l<0) (hl1 : -999999990<=l) (hf:f<0) (hf1 : -999999990<=f) (hc:c.length<=900000000000)
  (hR:Zi w g (is.map Item.rec_)) (hg:g<w.heap.size) (hgn:g∉k.turns) (hn0:0<is.length) (hn1:is.length<=50) (hF:Yr is s) :
  Calls prog 66 #[.pointer (some ⟨k.vb,0,none⟩),.slice (some ⟨g,0,none⟩) is.length cap] w fun e w'=>e=.returned .nilIface/\Whole w' k vx tm (Yq is s) (c++keepLine tm is) (l-2) (f-2)/\Spares k.turns w w':=
 (Xry k vx tm s c l f is g cap w hW hl hl1 hf hf1 hc hR hg hgn hn0 hn1 hF).mono fun _ _ h=>⟨h.1,h.2.1,h.2.2.1⟩
theorem Tryz.Whole.lts {W:World} {k:Blk} {vx:VX} {tm:Int} {s:VSt} {c:List UInt8} {l f:Int} (hW:Whole W k vx tm s c l f):∀ b∈k.turns,b<W.heap.size:=fun b hb=>by
 obtain⟨fd,fn,hd,-,-⟩:=hW.d;have h1:=hW.v.va.v.lt;obtain⟨h2,h2'⟩:=hW.v.va.held.lt;obtain⟨h3,h4,h5⟩:=hd.lt;simp only [Blk.turns,List.mem_cons,List.not_mem_nil,or_false] at hb
 rcases hb with rfl | rfl | rfl | rfl | rfl | rfl <;> assumption
theorem Tryz.Xnh (k:Blk) (vx:VX) (tm:Int) (s:VSt) (c:List UInt8) (l f:Int) (i:Item) (w:World) (hW:Whole w k vx tm s c l f) (hl:l<0) (hl1 : -999999990<=l) (hf:f<0) (hf1 : -999999990<=f) (hc:c.length<=900000000000) (hF:i.Fits s) :
  Calls prog 66 #[.pointer (some ⟨k.vb,0,none⟩),.slice (some ⟨w.heap.size,0,none⟩) 1 1] (w.alloc (.cells i.rec_.cells 135)) fun e w'=>e=.returned .nilIface/\Whole w' k vx tm (i.app s) (c++keepLine tm [i]) (l-2) (f-2)/\Spares k.turns w w':=by
 have hB:Below w.heap.size w (w.alloc (.cells i.rec_.cells 135)):=(Below.refl _ _).alloc (Nat.le_refl _) _;have bN:=BoxN.new w 135 i.rec_.cells;have hlt:=hW.lts
 have h:=Xuo k vx tm s c l f [i] w.heap.size 1 _ (hW.below hB) hl hl1 hf hf1 hc (fun a r hr j v hv=>by
  cases a with
  | succ a=>simp at hr
  | zero =>
   obtain rfl:i.rec_=r:=by simpa using hr
   have:=bN.cell j hv
   simpa using this) (by simp) (fun hm=>by have:=hlt _ hm;omega) (by simp) (by simp) ⟨hF,trivial⟩
 refine h.mono ?_;rintro e w' ⟨rfl,h1,h2⟩;exact⟨rfl,h1,(Spares.of_below hB).trans h2⟩
theorem Xlq {t:Xd} {l:List Xd} (h:∀ x∈l,x.n<t.n):Yh t l=l ++ [t]:=by
 unfold Yh;rw [if_neg];intro hx;obtain⟨x,hx,e⟩:=List.any_eq_true.1 hx;have:=h x hx
 have:x.n=t.n:=by simpa using e
 omega
theorem Xmr {t:Xc} {l:List Xc} (h:∀ x∈l,x.n<t.n):Yc t l=l ++ [t]:=by
 unfold Yc;rw [if_neg];intro hx;obtain⟨x,hx,e⟩:=List.any_eq_true.1 hx;have:=h x hx
 have:x.n=t.n:=by simpa using e
 omega
theorem Tryz.Xii (vb mt ml:Nat) (vx:VX) (tm tn ln:Int) (tks:List Xd) (lks:List Xc) (w:World) (hV:Xq w vb mt ml vx tm tn ln tks lks) (id:List UInt8) (hid:id.length<=1000000)
  (hF:∀ W,Below w.heap.size w W->Calls prog 83 #[.pointer (some ⟨vb,0,none⟩),nmV (parseN id)] W fun e w'=>e=.returned (.bool false)/\Below W.heap.size W w') :
  Calls prog 49 #[.pointer (some ⟨vb,0,none⟩),.string ⟨id.toArray⟩] w fun e w'=>e=.returned (.tuple #[.string ⟨#[]⟩,.iface 33 (.int .i64 1)])/\Below w.heap.size w w':=by
 have hP:=parse ⟨id.toArray⟩ (by simpa [ByteArray.size] using hid) w hV.env hV.six;simp only at hP;generalize parseN id=x at *;unfold nmV at hP hF;go_enter func49,ntmps49
 go_wp2_with (first
  | (go_at_call 63;refine hP.mono ?_;rintro e w1 ⟨rfl,hb1⟩;have hF1:=hF _ (hb1.alloc hb1.size (.cells #[.int .i64 x.1,.int .u64 x.2] 114)))
  | (go_at_call 83;refine hF1.mono ?_;rintro e w2 ⟨rfl,hb2⟩))
 exact bodyPost_ret (v:=.tuple #[.string ⟨#[]⟩,.iface 33 (.int .i64 1)]) (by simp [results,results49,go_sem]) rfl ⟨rfl,(hb1.alloc hb1.size _).trans (hb2.mono (by have:=hb1.size;simp;omega))⟩
theorem Tryz.Xq.lenT {W:World} {vb mt ml:Nat} {vx:VX} {tm tn ln:Int} {tks:List Xd} {lks:List Xc} (h:Xq W vb mt ml vx tm tn ln tks lks) (ty:TypeId):(Builtin.len_ #[120] ty #[.map (some mt)]).run prog W=.ok (.int .i64 tks.length) W:=by
 obtain⟨n,_,hm⟩:=h.held.mapT;have:=hm.len underlying120 ty;rw [Xz.Z6 _ h.ok.ksT.1] at this
 simpa using this
theorem Tryz.Xq.lenL {W:World} {vb mt ml:Nat} {vx:VX} {tm tn ln:Int} {tks:List Xd} {lks:List Xc} (h:Xq W vb mt ml vx tm tn ln tks lks) (ty:TypeId):(Builtin.len_ #[121] ty #[.map (some ml)]).run prog W=.ok (.int .i64 lks.length) W:=by
 obtain⟨n,_,hm⟩:=h.held.mapL;have:=hm.len underlying121 ty;rw [Xz.Z6 _ h.ok.ksL.1] at this
 simpa using this
theorem Tryz.Xic (vb mt ml:Nat) (vx:VX) (tm tn ln:Int) (tks:List Xd) (lks:List Xc) (w:World) (hV:Xq w vb mt ml vx tm tn ln tks lks) (id:List UInt8) (hid:id.length<=1000000)
  (hF:∀ W,Below w.heap.size w W->Calls prog 83 #[.pointer (some ⟨vb,0,none⟩),nmV (parseN id)] W fun e w'=>e=.returned (.bool true)/\Below W.heap.size W w') (h10:10<=tks.length) :
  Calls prog 49 #[.pointer (some ⟨vb,0,none⟩),.string ⟨id.toArray⟩] w fun e w'=>e=.returned (.tuple #[.string ⟨#[]⟩,.iface 33 (.int .i64 4)])/\Below w.heap.size w w':=by
 have hP:=parse ⟨id.toArray⟩ (by simpa [ByteArray.size] using hid) w hV.env hV.six;simp only at hP
 have hlen:=fun W (hb:Below w.heap.size w W)=>(hV.below hb).lenT
 have hcell:=fun W (hb:Below w.heap.size w W)=>(hV.below hb).v.cell 3 (v:=.map (some mt)) rfl
 generalize parseN id=x at *;unfold nmV at hP hF;go_enter func49,ntmps49
 go_wp2_with (first
  | (go_at_call 63;refine hP.mono ?_;rintro e w1 ⟨rfl,hb1⟩;have hF1:=hF _ (hb1.alloc hb1.size (.cells #[.int .i64 x.1,.int .u64 x.2] 114)))
  | (go_at_call 83;refine hF1.mono ?_;rintro e w2 ⟨rfl,hb2⟩;have hb3:=(hb1.alloc hb1.size (.cells #[.int .i64 x.1,.int .u64 x.2] 114)).trans (hb2.mono (by have:=hb1.size;simp;omega));have hl2:=hlen _ hb3;have c2:=hcell _ hb3))
 exact bodyPost_ret (v:=.tuple #[.string ⟨#[]⟩,.iface 33 (.int .i64 4)]) (by simp [results,results49,go_sem]) rfl ⟨rfl,hb3⟩
def Xbf (n m:Nat):Xd:=⟨n,1,m,18446744073709551615,0,false⟩
theorem Tryz.Xmf (k:Blk) (vx:VX) (tm:Int) (s:VSt) (c:List UInt8) (l f:Int) (w:World) (hW:Whole w k vx tm s c l f) (hl:l<0) (hl1 : -999999990<=l) (hf:f<0) (hf1 : -999999990<=f) (hc:c.length<=900000000000) (id:List UInt8) (hid:id.length<=1000000) (m:Nat) (hm64:m<Xn) (hm:parseN id=(1,(m:Int)))
  (hF:∀ W,Below w.heap.size w W->Calls prog 83 #[.pointer (some ⟨k.vb,0,none⟩),nmV (parseN id)] W fun e w'=>e=.returned (.bool true)/\Below W.heap.size W w') (h10:s.tks.length<10) (htn:s.tn<9223372036854775807) :
  Calls prog 49 #[.pointer (some ⟨k.vb,0,none⟩),.string ⟨id.toArray⟩] w fun e w'=>e=.returned (.tuple #[.string ⟨(nmStr 1 (s.tn+1)).toArray⟩,.nilIface])/\Whole w' k vx tm ⟨s.tn+1,s.ln,s.tks ++ [Xbf (s.tn+1) m],s.lks⟩ (c++keepLine tm [.tok (Xbf (s.tn+1) m)]) (l-2) (f-2)/\Spares k.turns w w':=by
 have hP:=parse ⟨id.toArray⟩ (by simpa [ByteArray.size] using hid) w hW.v.va.env hW.v.va.six;simp only at hP
 have hlen:=fun W (hb:Below w.heap.size w W)=>(hW.v.va.below hb).lenT
 have hcell:=fun W (hb:Below w.heap.size w W)=>(hW.v.va.below hb).v.cell 3 (v:=.map (some k.mt)) rfl
 have hcn:=fun W (hb:Below w.heap.size w W)=>(hW.v.va.below hb).v.cell 5 (v:=.int .u64 (s.tn:Int)) rfl
 have hfit:(Item.tok (Xbf (s.tn+1) m)).Fits s:=⟨⟨show (0:Int)<=18446744073709551615 by decide,show (18446744073709551615:Int)<=18446744073709551615 by decide,show (0:Int)<=0 by decide,⟨show (0:Int)<=1000000000 by decide,.inl rfl⟩⟩,.inr (fun x hx=>by have:=hW.v.nt x hx;show x.n<s.tn+1;omega),by omega,show s.tn+1<Xn by unfold Xn;omega,hm64⟩
 have happ:(Item.tok (Xbf (s.tn+1) m)).app s=⟨s.tn+1,s.ln,s.tks ++ [Xbf (s.tn+1) m],s.lks⟩:=by
  show VSt.mk (max s.tn (s.tn+1)) s.ln (Yh (Xbf (s.tn+1) m) s.tks) s.lks=_
  rw [Xlq (fun x hx=>by have:=hW.v.nt x hx;show x.n<s.tn+1;omega),show max s.tn (s.tn+1)=s.tn+1 by omega]
 have hK:=fun W (hb:Below w.heap.size w W)=>Xnh k vx tm s c l f (.tok (Xbf (s.tn+1) m)) W (hW.below hb) hl hl1 hf hf1 hc hfit
 rw [happ] at hK
 have hER:=fun W b (h0:BoxN W b 153 #[.int .i64 1,.int .u64 (m:Int),.int .u64 18446744073709551615,.int .i64 0,.bool false])=>Xac b 1 ((s.tn+1:Nat):Int) 1 m 18446744073709551615 0 false W (h0.cell 0 rfl) (h0.cell 1 rfl) (h0.cell 2 rfl) (h0.cell 3 rfl) (h0.cell 4 rfl)
 have hNS:=fun W hE h6=>Zg 1 (s.tn+1) (by omega) W hE h6
 obtain⟨z,hz⟩:∃ z:Int,(s.tn:Int)=z:=⟨_,rfl⟩
 have hz2:((s.tn+1:Nat):Int)=z+1:=by omega
 have hz0:0<=z:=by omega
 have hz1:z<9223372036854775807:=by omega
 simp only [hz] at hcn;rw [hm] at hP hF;unfold nmV at hP hF;simp only at hP hF
 change ∀ W,Below w.heap.size w W->Calls prog 66 _ (W.alloc (.cells #[.int .i64 1,.int .i64 1,.int .u64 ((s.tn+1:Nat):Int),.int .i64 1,.int .u64 (m:Int),.bool false,.int .u64 18446744073709551615,.int .i64 0,.int .u64 0,.string ⟨#[]⟩] 135)) _ at hK
 unfold Xi at hER;rw [hz2] at hK hER;simp only [hz2] at hNS
 obtain⟨str,hstr⟩:∃ str,nmStr 1 (s.tn+1)=str:=⟨_,rfl⟩
 rw [hstr] at hNS;have Hstr:=Xb hstr
 obtain⟨kl,hkl⟩:∃ kl,keepLine tm [.tok (Xbf (s.tn+1) m)]=kl:=⟨_,rfl⟩
 rw [hkl] at hK;have Hkl:=Xb hkl
 obtain⟨s',hs'⟩:∃ s':VSt,(⟨s.tn+1,s.ln,s.tks ++ [Xbf (s.tn+1) m],s.lks⟩:VSt)=s':=⟨_,rfl⟩
 rw [hs'] at hK;have Hs':=Xb hs'
 have hfresh:∀ W,Below w.heap.size w W->W.heap.size∉k.turns:=fun W hb hm=>by
  have:=hW.lts _ hm;have:=hb.size;omega
 clear hstr hkl hs' happ hfit hz hz2 hm;go_enter func49,ntmps49
 go_wp2_with (first
  | (go_at_call 63;refine hP.mono ?_;rintro e w1 ⟨rfl,hb1⟩;have hF1:=hF _ (hb1.alloc hb1.size (.cells #[.int .i64 1,.int .u64 (m:Int)] 114)))
  | (go_at_call 83;refine hF1.mono ?_;rintro e w2 ⟨rfl,hb2⟩;have hb3:=(hb1.alloc hb1.size (.cells #[.int .i64 1,.int .u64 (m:Int)] 114)).trans (hb2.mono (by have:=hb1.size;simp;omega));have hl2:=hlen _ hb3;have c2:=hcell _ hb3;have c4:=hcn _ hb3;have bA:=(BoxN.new w1 114 #[.int .i64 1,.int .u64 (m:Int)]).below hb2 (by simp);have a0:=bA.cell 0 (v:=.int .i64 1) rfl;have a1:=bA.cell 1 (v:=.int .u64 (m:Int)) rfl;have lA:=bA.lt)
  | (go_at_call 84;have bT:=BoxN.new (w2.alloc (.cells #[.int .i64 1,.int .u64 (z+1)] 114)) 153 #[.int .i64 1,.int .u64 (m:Int),.int .u64 18446744073709551615,.int .i64 0,.bool false];rw [World.size_alloc] at bT;refine(hER _ _ bT).mono ?_;rintro e w5 ⟨rfl,hb5⟩;have hb6:Below w.heap.size w w5:=((hb3.alloc hb3.size _).alloc (by have:=hb3.size;simp;omega) _).trans (hb5.mono (by have:=hb3.size;simp;omega));have bN5:=((BoxN.new w2 114 #[.int .i64 1,.int .u64 (z+1)]).alloc (.cells #[.int .i64 1,.int .u64 (m:Int),.int .u64 18446744073709551615,.int .i64 0,.bool false] 153)).below hb5 (by simp;omega);have hK6:=hK w5 hb6)
  | (go_at_call 66;refine hK6.mono ?_;rintro e w7 ⟨rfl,hW7,hS7⟩;have bN7:=hS7.box bN5 (hfresh w2 hb3);have n0:=bN7.cell 0 (v:=.int .i64 1) rfl;have n1:=bN7.cell 1 (v:=.int .u64 (z+1)) rfl)
  | (go_at_call 68;refine(hNS _ hW7.v.va.env hW7.v.va.six).mono ?_;rintro e w8 ⟨rfl,hb8⟩))
 exact bodyPost_ret (v:=.tuple #[.string ⟨str.toArray⟩,.nilIface]) (by simp [results,results49,go_sem]) rfl ⟨by rw [Xa Hstr],by rw [Xa Hkl,Xa Hs'];exact hW7.below hb8,((Spares.of_below hb6).trans hS7).trans (Spares.of_below hb8)⟩
def mayE (lv pv:Bool) (ttl most:Int) (nl:Nat) (tm:Int):Int:=
 if lv=false then 1 else if pv=false then 2 else if ttl=0\/most<ttl then 3 else if 14<=nl then 4 else if tm=18446744073709551615 then 3 else 0
def Tryz.Jf (k:Int):Value:=if k=0 then .nilIface else .iface 33 (.int .i64 k)
theorem Tryz.Vg {k:Int} (h:k≠0):Jf k=.iface 33 (.int .i64 k):=if_neg h
theorem Tryz.Xqg (vb mt ml:Nat) (vx:VX) (tm tn ln:Int) (tks:List Xd) (lks:List Xc) (w:World) (hV:Xq w vb mt ml vx tm tn ln tks lks) (x:Int × Int) (lv:Bool) (pth:List UInt8) (hpl:pth.length<=1000000) (ttl most:Int)
  (hF:∀ W,Below w.heap.size w W->Calls prog 83 #[.pointer (some ⟨vb,0,none⟩),nmV x] W fun e w'=>e=.returned (.bool lv)/\Below W.heap.size W w') :
  Calls prog 64 #[.pointer (some ⟨vb,0,none⟩),nmV x,.string ⟨pth.toArray⟩,.int .u64 ttl,.int .u64 most] w fun e w'=>e=.returned (Jf (mayE lv (pathI pth) ttl most lks.length tm))/\Below w.heap.size w w':=by
 have hb0:Below w.heap.size w (w.alloc (.cells #[.int .i64 x.1,.int .u64 x.2] 114)):=(Below.refl _ w).alloc (Nat.le_refl _) _;have hF1:=hF _ hb0
 have hVal:=fun W=>valid pth W hpl
 have hlen:=fun W (hb:Below w.heap.size w W)=>(hV.below hb).lenL
 have hcell:=fun W (hb:Below w.heap.size w W)=>(hV.below hb).v.cell 4 (v:=.map (some ml)) rfl
 have htime:=fun W (hb:Below w.heap.size w W)=>(hV.below hb).v.cell 2 (v:=.int .u64 tm) rfl
 have hr:Hid (mayE lv (pathI pth) ttl most lks.length tm=if lv=false then 1 else if pathI pth=false then 2 else if ttl=0\/most<ttl then 3 else if 14<=lks.length then 4 else if tm=18446744073709551615 then 3 else 0):=Xb rfl;generalize mayE lv (pathI pth) ttl most lks.length tm=r at *;generalize pathI pth=pv at *;unfold nmV at hF1 ⊢;clear hF;cases lv
 ·obtain rfl:r=1:=by rw [Xa hr];rfl
  rw [Vg (by decide)];clear hr;go_enter func64,ntmps64
  go_wp2_with (go_at_call 83;refine hF1.mono ?_;rintro e w1 ⟨rfl,hb1⟩)
  go_ret;exact⟨rfl,hb0.trans (hb1.mono (by simp))⟩
 cases pv
 ·obtain rfl:r=2:=by rw [Xa hr];rfl
  rw [Vg (by decide)];clear hr;go_enter func64,ntmps64
  go_wp2_with (first
   | (go_at_call 83;refine hF1.mono ?_;rintro e w1 ⟨rfl,hb1⟩)
   | (go_at_call 92;refine(hVal _).mono ?_;rintro e w2 ⟨rfl,hb2⟩))
  go_ret;exact⟨rfl,(hb0.trans (hb1.mono (by simp))).trans (hb2.mono (by have:=hb1.size;simp at this;omega))⟩
 by_cases h3:ttl=0\/most<ttl
 ·obtain rfl:r=3:=by rw [Xa hr,if_neg (by simp),if_neg (by simp),if_pos h3]
  rw [Vg (by decide)];clear hr
  by_cases h0:ttl=0
  focus
   subst h0;clear h3
  rotate_left
  focus
   have h0':(ttl==0)=false:=by simpa using h0
   have h3':most<ttl:=h3.resolve_left h0;clear h3 h0
  rotate_left
  all_goals
   go_enter func64,ntmps64
   go_wp2_with (first
    | (go_at_call 83;refine hF1.mono ?_;rintro e w1 ⟨rfl,hb1⟩)
    | (go_at_call 92;refine(hVal _).mono ?_;rintro e w2 ⟨rfl,hb2⟩))
   go_ret;exact⟨rfl,(hb0.trans (hb1.mono (by simp))).trans (hb2.mono (by have:=hb1.size;simp at this;omega))⟩
 have h0':(ttl==0)=false:=by simp;omega
 have h3':¬ most<ttl:=by omega
 by_cases h4:14<=lks.length
 ·obtain rfl:r=4:=by rw [Xa hr,if_neg (by simp),if_neg (by simp),if_neg h3,if_pos h4]
  rw [Vg (by decide)];clear hr h3;go_enter func64,ntmps64
  go_wp2_with (first
   | (go_at_call 83;refine hF1.mono ?_;rintro e w1 ⟨rfl,hb1⟩)
   | (go_at_call 92;refine(hVal _).mono ?_;rintro e w2 ⟨rfl,hb2⟩;have hb9:=(hb0.trans (hb1.mono (by simp))).trans (hb2.mono (by have:=hb1.size;simp at this;omega));have hl9:=hlen _ hb9;have c9:=hcell _ hb9))
  go_ret;exact⟨rfl,hb9⟩
 by_cases h5:tm=18446744073709551615
 focus
  obtain rfl:r=3:=by rw [Xa hr,if_neg (by simp),if_neg (by simp),if_neg h3,if_neg h4,if_pos h5]
  rw [Vg (by decide)];subst h5;clear hr h3
 rotate_left
 focus
  obtain rfl:r=0:=by rw [Xa hr,if_neg (by simp),if_neg (by simp),if_neg h3,if_neg h4,if_neg h5]
  have h5':(tm==18446744073709551615)=false:=by simpa using h5
  rw [show Jf 0=.nilIface from rfl];clear hr h3 h5
 rotate_left
 all_goals
  go_enter func64,ntmps64
  go_wp2_with (first
   | (go_at_call 83;refine hF1.mono ?_;rintro e w1 ⟨rfl,hb1⟩)
   | (go_at_call 92;refine(hVal _).mono ?_;rintro e w2 ⟨rfl,hb2⟩;have hb9:=(hb0.trans (hb1.mono (by simp))).trans (hb2.mono (by have:=hb1.size;simp at this;omega));have hl9:=hlen _ hb9;have c9:=hcell _ hb9;have t9:=htime _ hb9))
  go_ret;exact⟨rfl,hb9⟩
theorem Tryz.Xlb (vb mt ml:Nat) (vx:VX) (tm tn ln:Int) (tks:List Xd) (lks:List Xc) (w:World) (hV:Xq w vb mt ml vx tm tn ln tks lks) (id pth:List UInt8) (hid:id.length<=1000000) (ttl most k:Int) (hk:k≠0)
  (hF:∀ W,Below w.heap.size w W->Calls prog 64 #[.pointer (some ⟨vb,0,none⟩),nmV (parseN id),.string ⟨pth.toArray⟩,.int .u64 ttl,.int .u64 most] W fun e w'=>e=.returned (Jf k)/\Below W.heap.size W w') :
  Calls prog 41 #[.pointer (some ⟨vb,0,none⟩),.string ⟨id.toArray⟩,.string ⟨pth.toArray⟩,.int .u64 ttl,.int .u64 most] w fun e w'=>e=.returned (.tuple #[.string ⟨#[]⟩,.iface 33 (.int .i64 k)])/\Below w.heap.size w w':=by
 have hP:=parse ⟨id.toArray⟩ (by simpa [ByteArray.size] using hid) w hV.env hV.six;simp only at hP;rw [Vg hk] at hF;generalize parseN id=x at *;unfold nmV at hP hF;clear hk;go_enter func41,ntmps41
 go_wp2_with (first
  | (go_at_call 63;refine hP.mono ?_;rintro e w1 ⟨rfl,hb1⟩;have hF1:=hF _ (hb1.alloc hb1.size (.cells #[.int .i64 x.1,.int .u64 x.2] 114)))
  | (go_at_call 64;refine hF1.mono ?_;rintro e w2 ⟨rfl,hb2⟩))
 exact bodyPost_ret (v:=.tuple #[.string ⟨#[]⟩,.iface 33 (.int .i64 k)]) (by simp [results,results41,go_sem]) rfl ⟨rfl,(hb1.alloc hb1.size _).trans (hb2.mono (by have:=hb1.size;simp;omega))⟩
def Xb4 (n m:Nat) (at_ last:Int) (pth:List UInt8):Xc:=⟨n,1,m,at_,0,false,pth,last⟩
abbrev Tryz.IsP (vb ab:Nat) (m tm:Int) (W:World):Prop:=
 W.cell? ⟨vb,2,none⟩=some (.int .u64 tm)/\W.cell? ⟨ab,0,none⟩=some (.int .i64 1)/\W.cell? ⟨ab,1,none⟩=some (.int .u64 m)
theorem Tryz.IsP.below {vb ab:Nat} {m tm:Int} {W W':World} (h:IsP vb ab m tm W) (hb:Below W.heap.size W W'):IsP vb ab m tm W':=⟨cell_later hb h.1,cell_later hb h.2.1,cell_later hb h.2.2⟩
theorem Zy (a b:Int) (ha:0<=a) (ha1:a<=18446744073709551615) (hb:0<=b) (hb1:b<=18446744073709551615):0<=plusI a b/\plusI a b<=18446744073709551615:=by
 unfold plusI
 split <;> omega
theorem Tryz.Xpa (k:Blk) (vx:VX) (tm:Int) (s:VSt) (c:List UInt8) (l f:Int) (w:World) (hW:Whole w k vx tm s c l f) (hl:l<0) (hl1 : -999999990<=l) (hf:f<0) (hf1 : -999999990<=f) (hc:c.length<=900000000000) (id pth:List UInt8) (hid:id.length<=1000000) (ttl most:Int) (ht0:0<=ttl) (ht1:ttl<=18446744073709551615) (hq0:0<=most) (hq1:most<=18446744073709551615) (hp24:pth.length<=24) (hpa:Xpo pth) (m:Nat) (hm64:m<Xn) (hm:parseN id=(1,(m:Int)))
  (hF:∀ W,Below w.heap.size w W->Calls prog 64 #[.pointer (some ⟨k.vb,0,none⟩),nmV (parseN id),.string ⟨pth.toArray⟩,.int .u64 ttl,.int .u64 most] W fun e w'=>e=.returned .nilIface/\Below W.heap.size W w') (h14:s.lks.length<14) (hln:s.ln<9223372036854775807) :
  Calls prog 41 #[.pointer (some ⟨k.vb,0,none⟩),.string ⟨id.toArray⟩,.string ⟨pth.toArray⟩,.int .u64 ttl,.int .u64 most] w fun e w'=>e=.returned (.tuple #[.string ⟨(nmStr 2 (s.ln+1)).toArray⟩,.nilIface])/\Whole w' k vx tm ⟨s.tn,s.ln+1,s.tks,s.lks ++ [Xb4 (s.ln+1) m (plusI tm ttl) (plusI tm most) pth]⟩ (c++keepLine tm [.lea (Xb4 (s.ln+1) m (plusI tm ttl) (plusI tm most) pth)]) (l-2) (f-2)/\Spares k.turns w w':=by
 have hA1:=fun W=>later tm ttl hW.v.t0 hW.v.t1 ht0 ht1 W
 have hA2:=fun W=>later tm most hW.v.t0 hW.v.t1 hq0 hq1 W
 have hr1:=Zy tm ttl hW.v.t0 hW.v.t1 ht0 ht1;have hr2:=Zy tm most hW.v.t0 hW.v.t1 hq0 hq1;generalize plusI tm ttl=at0 at *;generalize plusI tm most=la0 at *;have hP:=parse ⟨id.toArray⟩ (by simpa [ByteArray.size] using hid) w hW.v.va.env hW.v.va.six;simp only at hP
 have htime:=fun W (hb:Below w.heap.size w W)=>(hW.v.va.below hb).v.cell 2 (v:=.int .u64 tm) rfl
 have hcn:=fun W (hb:Below w.heap.size w W)=>(hW.v.va.below hb).v.cell 6 (v:=.int .u64 (s.ln:Int)) rfl
 have hfit:(Item.lea (Xb4 (s.ln+1) m at0 la0 pth)).Fits s:=⟨⟨hr1.1,hr1.2,show (0:Int)<=0 by decide,⟨show (0:Int)<=1000000000 by decide,.inl rfl⟩,hr2.1,hr2.2,hp24,hpa⟩,.inr (fun x hx=>by have:=hW.v.nl x hx;show x.n<s.ln+1;omega),by omega,show s.ln+1<Xn by unfold Xn;omega,hm64⟩
 have happ:(Item.lea (Xb4 (s.ln+1) m at0 la0 pth)).app s=⟨s.tn,s.ln+1,s.tks,s.lks ++ [Xb4 (s.ln+1) m at0 la0 pth]⟩:=by
  show VSt.mk s.tn (max s.ln (s.ln+1)) s.tks (Yc (Xb4 (s.ln+1) m at0 la0 pth) s.lks)=_
  rw [Xmr (fun x hx=>by have:=hW.v.nl x hx;show x.n<s.ln+1;omega),show max s.ln (s.ln+1)=s.ln+1 by omega]
 have hK:=fun W (hb:Below w.heap.size w W)=>Xnh k vx tm s c l f (.lea (Xb4 (s.ln+1) m at0 la0 pth)) W (hW.below hb) hl hl1 hf hf1 hc hfit
 rw [happ] at hK
 have hER:=fun W b (h0:BoxN W b 131 #[.int .i64 1,.int .u64 (m:Int),.int .u64 at0,.int .i64 0,.bool false,.string ⟨pth.toArray⟩,.int .u64 la0])=>Uq b 2 ((s.ln+1:Nat):Int) 1 m at0 0 false pth la0 W (h0.cell 0 rfl) (h0.cell 1 rfl) (h0.cell 2 rfl) (h0.cell 3 rfl) (h0.cell 4 rfl) (h0.cell 5 rfl) (h0.cell 6 rfl)
 have hNS:=fun W hE h6=>Zg 2 (s.ln+1) (by omega) W hE h6
 obtain⟨z,hz⟩:∃ z:Int,(s.ln:Int)=z:=⟨_,rfl⟩
 have hz2:((s.ln+1:Nat):Int)=z+1:=by omega
 have hz0:0<=z:=by omega
 have hz1:z<9223372036854775807:=by omega
 simp only [hz] at hcn;rw [hm] at hP hF;unfold nmV at hP hF;simp only at hP hF
 change ∀ W,Below w.heap.size w W->Calls prog 66 _ (W.alloc (.cells #[.int .i64 1,.int .i64 2,.int .u64 ((s.ln+1:Nat):Int),.int .i64 1,.int .u64 (m:Int),.bool false,.int .u64 at0,.int .i64 0,.int .u64 la0,.string ⟨pth.toArray⟩] 135)) _ at hK
 unfold Xi at hER;rw [hz2] at hK hER;simp only [hz2] at hNS
 obtain⟨str,hstr⟩:∃ str,nmStr 2 (s.ln+1)=str:=⟨_,rfl⟩
 rw [hstr] at hNS;have Hstr:=Xb hstr
 obtain⟨kl,hkl⟩:∃ kl,keepLine tm [.lea (Xb4 (s.ln+1) m at0 la0 pth)]=kl:=⟨_,rfl⟩
 rw [hkl] at hK;have Hkl:=Xb hkl
 obtain⟨s',hs'⟩:∃ s':VSt,(⟨s.tn,s.ln+1,s.tks,s.lks ++ [Xb4 (s.ln+1) m at0 la0 pth]⟩:VSt)=s':=⟨_,rfl⟩
 rw [hs'] at hK;have Hs':=Xb hs'
 have hfresh:∀ W,Below w.heap.size w W->W.heap.size∉k.turns:=fun W hb hm=>by
  have:=hW.lts _ hm;have:=hb.size;omega
 have lV:=hW.v.va.v.lt;clear hstr hkl hs' happ hfit hz hz2 hm hr1 hr2;go_enter func41,ntmps41
 go_wp2_with (first
  | (go_at_call 63;refine hP.mono ?_;rintro e w1 ⟨rfl,hb1⟩;have hF1:=hF _ (hb1.alloc hb1.size (.cells #[.int .i64 1,.int .u64 (m:Int)] 114)))
  | (go_at_call 64;refine hF1.mono ?_;rintro e w2 ⟨rfl,hb2⟩;have hb3:=(hb1.alloc hb1.size (.cells #[.int .i64 1,.int .u64 (m:Int)] 114)).trans (hb2.mono (by have:=hb1.size;simp;omega));have c4:=hcn _ hb3;have c5:=htime _ hb3;have bA:=(BoxN.new w1 114 #[.int .i64 1,.int .u64 (m:Int)]).below hb2 (by simp);have a0:=bA.cell 0 (v:=.int .i64 1) rfl;have a1:=bA.cell 1 (v:=.int .u64 (m:Int)) rfl;have lA:=bA.lt))
 have hz3:=hb3.size;have hP3:IsP k.vb w1.heap.size m tm (w2.alloc (.cells #[.int .i64 2,.int .u64 (z+1)] 114)).drew:=IsP.below (W:=w2) ⟨c5,a0,a1⟩ (((Below.refl _ w2).alloc (Nat.le_refl _) _).drew)
 have hP4:∀ o,IsP k.vb w1.heap.size m tm ((w2.alloc (.cells #[.int .i64 2,.int .u64 (z+1)] 114)).alloc o).drew:=fun o=>IsP.below (W:=w2) ⟨c5,a0,a1⟩ (((Below.refl _ w2).alloc (Nat.le_refl _) _).alloc (by simp) _).drew
 clear c4 c5 a0 a1
 go_region_held3 (IsP k.vb w1.heap.size m tm) (first
  | with_reducible exact hP3
  | with_reducible exact hP4 _
  | with_reducible assumption) (first
  | (go_at_call_of 65 (Value.int .u64 ttl);refine(hA1 _).mono ?_;rintro e w3 ⟨rfl,rfl⟩)
  | (go_at_call_of 65 (Value.int .u64 most);refine(hA2 _).mono ?_;rintro e w4 ⟨rfl,rfl⟩))
 all_goals
  have bL:=BoxN.new (w2.alloc (.cells #[.int .i64 2,.int .u64 (z+1)] 114)) 131 #[.int .i64 1,.int .u64 (m:Int),.int .u64 at0,.int .i64 0,.bool false,.string ⟨pth.toArray⟩,.int .u64 la0];have bN:=(BoxN.new w2 114 #[.int .i64 2,.int .u64 (z+1)]).alloc (.cells #[.int .i64 1,.int .u64 (m:Int),.int .u64 at0,.int .i64 0,.bool false,.string ⟨pth.toArray⟩,.int .u64 la0] 131);rw [World.size_alloc] at bL;have hb4:Below w.heap.size w ((w2.alloc (.cells #[.int .i64 2,.int .u64 (z+1)] 114)).alloc (.cells #[.int .i64 1,.int .u64 (m:Int),.int .u64 at0,.int .i64 0,.bool false,.string ⟨pth.toArray⟩,.int .u64 la0] 131)).drew:=((hb3.alloc hb3.size _).alloc (by simp;omega) _).drew;have bL':BoxN ((w2.alloc (.cells #[.int .i64 2,.int .u64 (z+1)] 114)).alloc (.cells #[.int .i64 1,.int .u64 (m:Int),.int .u64 at0,.int .i64 0,.bool false,.string ⟨pth.toArray⟩,.int .u64 la0] 131)).drew _ _ _:=bL;have bN':BoxN ((w2.alloc (.cells #[.int .i64 2,.int .u64 (z+1)] 114)).alloc (.cells #[.int .i64 1,.int .u64 (m:Int),.int .u64 at0,.int .i64 0,.bool false,.string ⟨pth.toArray⟩,.int .u64 la0] 131)).drew _ _ _:=bN;clear bL bN hP3 hP4
  obtain⟨W4,hW4⟩:∃ W4,((w2.alloc (.cells #[.int .i64 2,.int .u64 (z+1)] 114)).alloc (.cells #[.int .i64 1,.int .u64 (m:Int),.int .u64 at0,.int .i64 0,.bool false,.string ⟨pth.toArray⟩,.int .u64 la0] 131)).drew=W4:=⟨_,rfl⟩
  rw [hW4] at hb4 bL' bN' ⊢;clear hW4;have n0:=bN'.cell 0 (v:=.int .i64 2) rfl;have n1:=bN'.cell 1 (v:=.int .u64 (z+1)) rfl
  go_wp2_with (first
   | (go_at_call 67;refine(hER _ _ bL').mono ?_;rintro e w5 ⟨rfl,hb5⟩;have hb6:Below w.heap.size w w5:=hb4.trans (hb5.mono hb4.size);have bN5:=bN'.below hb5 bN'.lt;have hK6:=hK w5 hb6)
   | (go_at_call 66;refine hK6.mono ?_;rintro e w7 ⟨rfl,hW7,hS7⟩;have bN7:=hS7.box bN5 (hfresh w2 hb3);have n7:=bN7.cell 0 (v:=.int .i64 2) rfl;have n8:=bN7.cell 1 (v:=.int .u64 (z+1)) rfl)
   | (go_at_call 68;refine(hNS _ hW7.v.va.env hW7.v.va.six).mono ?_;rintro e w8 ⟨rfl,hb8⟩))
  exact bodyPost_ret (v:=.tuple #[.string ⟨str.toArray⟩,.nilIface]) (by simp [results,results41,go_sem]) rfl ⟨by rw [Xa Hstr],by rw [Xa Hkl,Xa Hs'];exact hW7.below hb8,((Spares.of_below hb6).trans hS7).trans (Spares.of_below hb8)⟩
end Go.Proofs
