import Derived.Test.YtjbekgjdempbiaaGreatDoorJTkO
import Derived.Test.YtjbekgjdempbiaaGreatDoorJRefC
import Derived.Test.YtjbekgjdempbiaaGreatDoorJAskVT
import Derived.Test.YtjbekgjdempbiaaGreatDoorJKpA
import Derived.Test.YtjbekgjdempbiaaGreatDoorJKtD
import Derived.Deep.Slices
import Derived.ChangeArms
import Derived.SizedLaws
import Derived.Test.YtjbekgjdempbiaaGreatDoorJRefQ0
import Derived.Deep.AppendLies
set_option maxRecDepth 100000
set_option maxHeartbeats 8000000
namespace Go.Proofs
open Go.RowKit Go.Sort Go.Lib Go.Shelf Go.Maps
structure Z7 (N:Nat) (s:VSt):Prop where
 tree:Jt s
 tr:TrB ((48*N:Nat):Int) s
 old:∀ t∈s.tks,(t.n=0/\t.ak=0/\t.au=0)\/(t.ak=1/\t.au<t.n)
theorem Z7.more {N M:Nat} {s:VSt} (h:Z7 N s) (hM:N<=M):Z7 M s:=
 ⟨h.tree,⟨fun x hx=>by have:=h.tr.1 x hx;omega,fun x hx=>by have:=h.tr.2 x hx;omega⟩,h.old⟩
theorem Z7.start {tn ln:Nat}:Z7 0 ⟨tn,ln,[⟨0,0,0,18446744073709551615,0,false⟩],[]⟩:=
 ⟨⟨by simp,by simp,fun t ht=>.inl (by rw [List.mem_singleton.1 ht]),fun t ht=>(by cases ht),fun t ht _=>by rw [List.mem_singleton.1 ht]⟩,⟨fun x hx=>by rw [List.mem_singleton.1 hx];exact⟨Int.le_refl _,Int.le_refl _⟩,fun x hx=>(by cases hx)⟩,fun t ht=>.inl (by rw [List.mem_singleton.1 ht];exact⟨rfl,rfl,rfl⟩)⟩
theorem Xnj {α:Type} {f:α->Nat} {l:List α} {x:α} (h:l.Pairwise (fun a b=>f a<f b)) (hx:∀ a∈l,f a<f x):(l ++ [x]).Pairwise (fun a b=>f a<f b):=
 List.pairwise_append.2 ⟨h,by simp,fun a ha b hb=>by rw [List.mem_singleton.1 hb];exact hx a ha⟩
theorem Z7.snocT {N tn' ln' n m:Nat} {s:VSt} (h:Z7 N s) (hn:∀ x∈s.tks,x.n<n) (hm:∃ p∈s.tks,p.n=m):Z7 N ⟨tn',ln',s.tks ++ [Xbf n m],s.lks⟩:=by
 obtain⟨p,hp,rfl⟩:=hm;have hpn:=hn p hp
 have up:∀ {k:Nat},(∃ q∈s.tks,q.n=k)->∃ q∈s.tks ++ [Xbf n p.n],q.n=k:=fun⟨q,hq,e⟩=>⟨q,List.mem_append_left _ hq,e⟩
 refine⟨⟨Xnj (f:=Xd.n) h.tree.incT hn,h.tree.incL,fun t ht=>?_,fun t ht=>⟨(h.tree.upL t ht).1,up (h.tree.upL t ht).2⟩,fun t ht e=>?_⟩,⟨fun x hx=>?_,h.tr.2⟩,fun t ht=>?_⟩
 ·rcases List.mem_append.1 ht with ht | ht
  ·exact(h.tree.upT t ht).imp id (fun e=>⟨e.1,up e.2⟩)
  rw [List.mem_singleton.1 ht];exact .inr ⟨rfl,p,List.mem_append_left _ hp,rfl⟩
 ·rcases List.mem_append.1 ht with ht | ht
  ·exact h.tree.root t ht e
  rw [List.mem_singleton.1 ht];rfl
 ·rcases List.mem_append.1 hx with hx | hx
  ·exact h.tr.1 x hx
  rw [List.mem_singleton.1 hx];exact⟨Int.le_refl _,by show (0:Int)<=((48*N:Nat):Int);omega⟩
 rcases List.mem_append.1 ht with ht | ht
 ·exact h.old t ht
 rw [List.mem_singleton.1 ht];exact .inr ⟨rfl,hpn⟩
theorem Z7.snocL {N tn' ln' n m:Nat} {a b:Int} {pth:List UInt8} {s:VSt} (h:Z7 N s) (hn:∀ x∈s.lks,x.n<n) (hm:∃ p∈s.tks,p.n=m):Z7 N ⟨tn',ln',s.tks,s.lks ++ [Xb4 n m a b pth]⟩:=by
 refine⟨⟨h.tree.incT,Xnj (f:=Xc.n) h.tree.incL hn,h.tree.upT,fun t ht=>?_,h.tree.root⟩,⟨h.tr.1,fun x hx=>?_⟩,h.old⟩
 ·rcases List.mem_append.1 ht with ht | ht
  ·exact h.tree.upL t ht
  rw [List.mem_singleton.1 ht];exact⟨rfl,hm⟩
 rcases List.mem_append.1 hx with hx | hx
 ·exact h.tr.2 x hx
 rw [List.mem_singleton.1 hx];exact⟨Int.le_refl _,by show (0:Int)<=((48*N:Nat):Int);omega⟩
theorem Z7.mapped {N tn' ln':Nat} {s:VSt} (h:Z7 N s) (gT:Xd->Xd) (gL:Xc->Xc) (hT:∀ t∈s.tks,(gT t).n=t.n/\(gT t).ak=t.ak/\(gT t).au=t.au/\(gT t).tr=t.tr/\(t.n=0->(gT t).pd=t.pd)) (hL:∀ t∈s.lks,(gL t).n=t.n/\(gL t).ak=t.ak/\(gL t).au=t.au/\(gL t).tr=t.tr):Z7 N ⟨tn',ln',s.tks.map gT,s.lks.map gL⟩:=by
 have up:∀ {k:Nat},(∃ q∈s.tks,q.n=k)->∃ q∈s.tks.map gT,q.n=k:=fun⟨q,hq,e⟩=>⟨gT q,List.mem_map.2 ⟨q,hq,rfl⟩,by rw [(hT q hq).1,e]⟩
 have pwT:(s.tks.map gT).Pairwise (fun a b=>a.n<b.n):=by
  rw [List.pairwise_map];exact h.tree.incT.imp_of_mem (fun ha hb hab=>by rw [(hT _ ha).1,(hT _ hb).1];exact hab)
 have pwL:(s.lks.map gL).Pairwise (fun a b=>a.n<b.n):=by
  rw [List.pairwise_map];exact h.tree.incL.imp_of_mem (fun ha hb hab=>by rw [(hL _ ha).1,(hL _ hb).1];exact hab)
 refine⟨⟨pwT,pwL,fun t ht=>?_,fun t ht=>?_,fun t ht e=>?_⟩,⟨fun x hx=>?_,fun x hx=>?_⟩,fun t ht=>?_⟩
 ·obtain⟨q,hq,rfl⟩:=List.mem_map.1 ht
  obtain⟨a1,a2,a3,a4,a5⟩:=hT q hq;rw [a1,a2,a3];exact(h.tree.upT q hq).imp id (fun e=>⟨e.1,up e.2⟩)
 ·obtain⟨q,hq,rfl⟩:=List.mem_map.1 ht
  obtain⟨a1,a2,a3,a4⟩:=hL q hq;rw [a2,a3];exact⟨(h.tree.upL q hq).1,up (h.tree.upL q hq).2⟩
 ·obtain⟨q,hq,rfl⟩:=List.mem_map.1 ht
  obtain⟨a1,a2,a3,a4,a5⟩:=hT q hq;rw [a1] at e;rw [a5 e];exact h.tree.root q hq e
 ·obtain⟨q,hq,rfl⟩:=List.mem_map.1 hx
  rw [(hT q hq).2.2.2.1];exact h.tr.1 q hq
 ·obtain⟨q,hq,rfl⟩:=List.mem_map.1 hx
  rw [(hL q hq).2.2.2];exact h.tr.2 q hq
 obtain⟨q,hq,rfl⟩:=List.mem_map.1 ht;obtain⟨a1,a2,a3,a4,a5⟩:=hT q hq;rw [a1,a2,a3];exact h.old q hq
theorem Xm9 {l:List Xc} (hs:l.Pairwise (fun a b=>a.n<b.n)) {k:Nat} {x y:Xc} (h:l[k]? = some x):l.set k y=l.map (fun z=>if z.n=x.n then y else z):=by
 apply List.ext_getElem?;intro j;rw [List.getElem?_map]
 by_cases hj:k=j
 ·subst hj
  rw [h,List.getElem?_set_self (List.getElem?_eq_some_iff.1 h).1];simp
 rw [List.getElem?_set_ne hj]
 cases e:l[j]? with
 | none=>rfl
 | some u =>
  have hne:u.n≠x.n:=fun en=>by
   obtain⟨a1,a2⟩:=List.getElem?_eq_some_iff.1 h;obtain⟨b1,b2⟩:=List.getElem?_eq_some_iff.1 e;have hlt:=List.pairwise_iff_getElem.1 hs
   rcases Nat.lt_or_gt_of_ne hj with hl | hl
   ·have:=hlt k j a1 b1 hl;rw [a2,b2] at this;omega
   have:=hlt j k b1 a1 hl;rw [a2,b2] at this;omega
  simp [hne]
theorem Z7.setL {N tn' ln' k:Nat} {l l':Xc} {s:VSt} (h:Z7 N s) (hk:s.lks[k]? = some l) (h1:l'.n=l.n) (h2:l'.ak=l.ak) (h3:l'.au=l.au) (h4:l'.tr=l.tr):Z7 N ⟨tn',ln',s.tks,s.lks.set k l'⟩:=by
 have hm:=List.mem_of_getElem? hk;rw [Xm9 h.tree.incL hk]
 have:=h.mapped (tn':=tn') (ln':=ln') id (fun z=>if z.n=l.n then l' else z) (fun t ht=>⟨rfl,rfl,rfl,rfl,fun _=>rfl⟩) (fun t ht=>by
  split
  ·rename_i e
   have:t=l:=Z5 (f:=Xc.n) h.tree.incL ht hm e;subst this;exact⟨h1,h2,h3,h4⟩
  exact⟨rfl,rfl,rfl,rfl⟩)
 simpa using this
theorem Jn.old {tm:Int} {a b:TS} (h:Jn tm a b) (hT:Jt a.s) (ho:∀ t∈a.s.tks,(t.n=0/\t.ak=0/\t.au=0)\/(t.ak=1/\t.au<t.n)):∀ t∈b.s.tks,(t.n=0/\t.ak=0/\t.au=0)\/(t.ak=1/\t.au<t.n):=by
 cases h with
 | fail hs hp hl ho' hq =>
  cases hs with
  | tok t hm hk =>
   intro x hx
   rcases Zh hT.incT hx with rfl | hx
   ·exact ho t hm
   exact ho x hx
  | lea t hm hk=>exact ho
 | ok hs hp hl ho' hq=>exact fun t ht=>ho t (Yz ht)
def Uv (L:List ThingD):Prop:=∃ x,L[0]? = some x/\x.token=true/\x.n=0
theorem Uv.snoc {L:List ThingD} (h:Uv L) (y:ThingD):Uv (L ++ [y]):=by
 obtain⟨x,h1,h2⟩:=h;exact⟨x,by rw [List.getElem?_append_left (List.getElem?_eq_some_iff.1 h1).1];exact h1,h2⟩
theorem Uv.map {L:List ThingD} (h:Uv L) (f:ThingD->ThingD) (hf:∀ x,(f x).token=x.token/\(f x).n=x.n):Uv (L.map f):=by
 obtain⟨x,h1,h2,h3⟩:=h;exact⟨f x,by rw [List.getElem?_map,h1];rfl,by rw [(hf x).1,h2],by rw [(hf x).2,h3]⟩
theorem Uv.set {L:List ThingD} (h:Uv L) {i:Nat} {x y:ThingD} (hi:L[i]? = some x) (h1:y.token=x.token) (h2:y.n=x.n):Uv (L.set i y):=by
 obtain⟨z,h3,h4,h5⟩:=h
 by_cases e:i=0
 ·subst e
  rw [hi] at h3;cases h3;exact⟨y,by rw [List.getElem?_set_self (List.getElem?_eq_some_iff.1 hi).1],by rw [h1,h4],by rw [h2,h5]⟩
 exact⟨z,by rw [List.getElem?_set_ne e];exact h3,h4,h5⟩
theorem Uv.erase {L:List ThingD} (h:Uv L) {i:Nat} (hi:0<i):Uv (L.eraseIdx i):=by
 obtain⟨x,h1,h2⟩:=h;exact⟨x,by rw [List.getElem?_eraseIdx,if_pos hi];exact h1,h2⟩
structure Xeo (N:Nat) (σ:SS) (L:List ThingD):Prop where
 nt:σ.s.tks.length<=10
 nl:σ.s.lks.length<=14
 pos:0<σ.s.tks.length
 tn:σ.s.tn<=N
 ln:σ.s.ln<=N
 c:σ.c.length<=N*150000
 al:Z7 N σ.s
 hd:Uv L
theorem Xeo.more {N M:Nat} {σ:SS} {L:List ThingD} (h:Xeo N σ L) (hM:N<=M):Xeo M σ L:=⟨h.nt,h.nl,h.pos,Nat.le_trans h.tn hM,Nat.le_trans h.ln hM,Nat.le_trans h.c (Nat.mul_le_mul_right _ hM),h.al.more hM,h.hd⟩
theorem Xeo.small {N:Nat} {σ:SS} {L:List ThingD} (h:Xeo N σ L) (hN:N<20000):σ.c.length<=900000000000:=Nat.le_trans h.c (by omega)
structure Tryz.Inv (w0:World) (B N wb hb:Nat) (W:World):Prop where
 bel:Below B w0 W
 hB:B<=W.heap.size
 bw:B<=wb
 ex:∃ rb σ ra g cap L,Tryz.Sys B W hb rb σ/\Tryz.Xk B W ra g cap L σ.tm ((σ.s.tn+1:Nat):Int) ((σ.s.ln+1:Nat):Int)/\Rel σ.s.tks σ.s.lks L/\BoxN W wb 69 #[.pointer (some ⟨hb,0,none⟩),.pointer (some ⟨ra,0,none⟩),.pointer none,.bool false,.bool false]/\Xeo N σ L/\B<=ra
section
variable {w0 W W':World} {B N wb hb:Nat}
theorem Tryz.Inv.below (h:Inv w0 B N wb hb W) (hb':Below W.heap.size W W'):Inv w0 B N wb hb W':=by
 obtain⟨rb,σ,ra,g,cap,L,h1,h2,h3,h4,h5,h6⟩:=h.ex;exact⟨h.bel.trans (hb'.mono h.hB),Nat.le_trans h.hB hb'.size,h.bw,⟨rb,σ,ra,g,cap,L,h1.below hb',h2.below hb',h3,h4.below hb' h4.lt,h5,h6⟩⟩
theorem Tryz.Inv.more (h:Inv w0 B N wb hb W) {M:Nat} (hM:N<=M):Inv w0 B M wb hb W:=by
 obtain⟨rb,σ,ra,g,cap,L,h1,h2,h3,h4,h5,h6⟩:=h.ex;exact⟨h.bel,h.hB,h.bw,⟨rb,σ,ra,g,cap,L,h1,h2,h3,h4,h5.more hM,h6⟩⟩
theorem Tryz.Inv.nine (h:Inv w0 B N wb hb W):9<=B:=by
 obtain⟨rb,σ,ra,g,cap,L,h1,-⟩:=h.ex;exact h1.b9
theorem Tryz.After.inv {w:World} {M:Nat} {rb:Nat} {Q:SS->Prop} {Q2:List ThingD->Int->Int->Prop} {tm:Int} (hA:After w B wb hb tm (fun W=>∃ σ,Q σ/\Sys B W hb rb σ) Q2 W) (hI:Inv w0 B N wb hb w)
  (hQ:∀ σ L tr lr,Q σ->Q2 L tr lr->σ.tm=tm/\Rel σ.s.tks σ.s.lks L/\tr=((σ.s.tn+1:Nat):Int)/\lr=((σ.s.ln+1:Nat):Int)/\Xeo M σ L):Inv w0 B M wb hb W:=by
 obtain⟨σ,q1,hS⟩:=hA.hp;obtain⟨L,tr,lr,nb,g,cap,q2,hR,hnb,hW⟩:=hA.ex;obtain⟨rfl,r1,rfl,rfl,r4⟩:=hQ _ _ _ _ q1 q2;exact⟨hI.bel.trans hA.bel,Nat.le_trans hI.hB hA.bel.size,hI.bw,⟨rb,σ,nb,g,cap,L,hS,hR,r1,hW,r4,hnb⟩⟩
theorem Tryz.Za {rb:Nat} {σ:SS} {w w':World} {r:Value} {e:Ending} (hS:Sys B w hb rb σ) {Q:SS->Prop} (h:e=.returned r/\(∃ σ',(Q σ'/\σ'.k=σ.k/\σ'.vx=σ.vx)/\Sys B w' hb rb σ')/\Spares σ.k.turns w w'):e=.returned r/\(∃ σ',Q σ'/\Sys B w' hb rb σ')/\Z8 B w w':=by
 obtain⟨rfl,⟨σ',⟨hQ,-,-⟩,hS'⟩,hs⟩:=h;exact⟨rfl,⟨σ',hQ,hS'⟩,hS.sp hs⟩
theorem Tryz.Xfd {σ:SS} {w w':World} {r:Value} {e:Ending} (hW:Whole w σ.k σ.vx σ.tm σ.s σ.c (-1) (-1)) (h:e=.returned r/\Below w.heap.size w w'):e=.returned r/\(∃ σ' l f,(σ'=σ/\σ'.k=σ.k/\σ'.vx=σ.vx)/\Whole w' σ.k σ'.vx σ'.tm σ'.s σ'.c l f)/\Spares σ.k.turns w w':=by
 obtain⟨rfl,hb⟩:=h;exact⟨rfl,⟨σ,-1,-1,⟨rfl,rfl,rfl⟩,hW.below hb⟩,Spares.of_below hb⟩
end
theorem Tryz.Xsz {w0:World} {B N wb hb:Nat} (w:World) (hI:Inv w0 B N wb hb w) (hN:N<20000) (ss tt:List UInt8) (hss:ss.length<=1000000) (aa bb ff ke pa:Int) :
  Calls prog 62 #[.pointer (some ⟨wb,0,none⟩),.agg (Xo.cells ⟨1,ss,tt,aa,bb,ff,-1,-1,ke,pa⟩)] w fun e w'=>e=.returned (.bool true)/\Inv w0 B (N+1) wb hb w':=by
 obtain⟨rb,σ,ra,g,cap,L,hS,hR,hl,hW,hn,hra⟩:=hI.ex;have hok:=hS.wh.v.va.ok
 have hpos:0<L.length:=by rw [hl.len];have:=hn.pos;omega
 have hlen:L.length<100:=by rw [hl.len];have:=hn.nt;have:=hn.nl;omega
 have b9:=hS.b9;have hcs:=hn.small hN;have hnm:=hn.more (Nat.le_succ N)
 have hFt:∀ W,Whole W σ.k σ.vx σ.tm σ.s σ.c (-1) (-1)->∀ W',Below W.heap.size W W'->Calls prog 83 #[.pointer (some ⟨σ.k.vb,0,none⟩),nmV (parseN ss)] W' fun e w'=>e=.returned (.bool (decide (0<=liveI σ.tm ss true L)))/\Below W'.heap.size W' w':=fun W hV W' hb'=>Xmx W' (hV.v.va.below hb') hl ss
 rcases Zt σ.tm ss true L with⟨i,t,ht,hid,htk,hst,hli⟩ | hli
 ·have hm:=List.mem_of_getElem? ht
  have hp:=Xap (L:=L) hid htk (hl.num hok hm) hli
  have hdec:decide (0<=liveI σ.tm ss true L)=true:=by rw [hli];simp
  rw [hdec] at hFt
  by_cases h10:σ.s.tks.length=10
  ·have hA:=Xj4 B wb hb ra g cap σ.tm L _ _ w _ _ (Y9 B hb rb σ) (J1 B hb rb (fun σ'=>σ'=σ)) hS hR hpos hW hI.hB b9 hI.bw hra ss tt aa bb ff (-1) (-1) ke pa 4 [] (fun _=>rfl) (fun a b c=>a=L/\b=((σ.s.tn+1:Nat):Int)/\c=((σ.s.ln+1:Nat):Int))
    1 (.inl ⟨rfl,(fun W _ hS'=>((six B hb rb σ W hS' ke pa (Jf 4) 4 (Vf 4 (.inr (by simp [Ml]))) _).1 ss (.string ⟨#[]⟩) (fun W' _ hV=>(Xic σ.k.vb σ.k.mt σ.k.ml σ.vx σ.tm σ.s.tn σ.s.ln σ.s.tks σ.s.lks W' hV.v.va ss hss (hFt W' hV) (by omega)).mono (fun _ _ h=>Xfd hV h))).mono (fun _ _ h=>Za hS' h)),(fun B' W nb g' cap' _ _ hR'=>(Xht B' nb g' cap' L σ.tm _ _ ss W hR' i hli (by rw [hl.Xsa];exact h10)).mono (by rintro e w' ⟨rfl,hb'⟩;exact⟨g',cap',L,_,_,⟨rfl,rfl,rfl⟩,rfl,hR'.below hb',Spares.of_below hb'⟩))⟩)
   refine hA.mono ?_;rintro e w' ⟨rfl,hA'⟩;exact⟨rfl,hA'.inv hI (by rintro _ _ _ _ rfl ⟨rfl,rfl,rfl⟩;exact⟨rfl,hl,rfl,rfl,hnm⟩)⟩
  have hlt10:σ.s.tks.length<10:=by have:=hn.nt;omega
  have htn:=hn.tn;have hkl:(keepLine σ.tm [.tok (Xbf (σ.s.tn+1) t.n)]).length<=70000:=Jp hS.wh.v.t0 hS.wh.v.t1 (s:=σ.s) ⟨⟨⟨show (0:Int)<=18446744073709551615 by decide,show (18446744073709551615:Int)<=18446744073709551615 by decide,show (0:Int)<=0 by decide,⟨show (0:Int)<=1000000000 by decide,.inl rfl⟩⟩,.inr (fun x hx=>by have:=hS.wh.v.nt x hx;show x.n<σ.s.tn+1;omega),by omega,show σ.s.tn+1<Xn by unfold Xn;omega,hl.num hok hm⟩,trivial⟩ (by simp)
  have hA:=Xj4 B wb hb ra g cap σ.tm L _ _ w _ _ (Y9 B hb rb σ) (J1 B hb rb (fun σ'=>σ'=⟨σ.k,σ.vx,σ.tm,⟨σ.s.tn+1,σ.s.ln,σ.s.tks ++ [Xbf (σ.s.tn+1) t.n],σ.s.lks⟩,σ.c++keepLine σ.tm [.tok (Xbf (σ.s.tn+1) t.n)]⟩)) hS hR hpos hW hI.hB b9 hI.bw hra ss tt aa bb ff (-1) (-1) ke pa 0 (nmStr 1 (σ.s.tn+1)) (fun h=>absurd rfl h) (fun a b c=>a=L ++ [Mu (σ.s.tn+1) t.n]/\b=((σ.s.tn+1+1:Nat):Int)/\c=((σ.s.ln+1:Nat):Int))
   1 (.inl ⟨rfl,(fun W _ hS'=>((six B hb rb σ W hS' ke pa (Jf 0) 0 (Vf 0 (.inl rfl)) _).1 ss (.string ⟨(nmStr 1 (σ.s.tn+1)).toArray⟩) (fun W' _ hV=>(Xmf σ.k σ.vx σ.tm σ.s σ.c (-1) (-1) W' hV (by decide) (by decide) (by decide) (by decide) hcs ss hss t.n (hl.num hok hm) hp (hFt W' hV) hlt10 (by omega)).mono (by rintro e w' ⟨rfl,hV',hs'⟩;exact⟨rfl,⟨_,_,_,⟨rfl,rfl,rfl⟩,hV'⟩,hs'⟩))).mono (fun _ _ h=>Za hS' h)),(fun B' W nb g' cap' hBW hBn hR'=>(Xk9 B' nb g' cap' L σ.tm _ (σ.s.tn+1) ss W hR' hBn hR'.ne hBW (by omega) hlen i t ht hli (by rw [hl.Xsa];exact h10)).mono (by
    rintro e w' ⟨g2,cap2,rfl,hR2,-,-,hs2⟩;refine⟨g2,cap2,_,_,_,⟨rfl,rfl,rfl⟩,?_,hR2,hs2⟩;have:(Mu (σ.s.tn+1) t.n).id=nmStr 1 (σ.s.tn+1):=ThingD.U5 _
    rw [this]))⟩)
  refine hA.mono ?_;rintro e w' ⟨rfl,hA'⟩;refine⟨rfl,hA'.inv hI ?_⟩;rintro _ _ _ _ rfl ⟨rfl,rfl,rfl⟩;refine⟨rfl,hl.snocT (Xbf (σ.s.tn+1) t.n) rfl,rfl,rfl,⟨?_,hn.nl,?_,?_,?_,?_,?_,hn.hd.snoc _⟩⟩
  ·simp;omega
  ·simp
  ·show σ.s.tn+1<=N+1;omega
  ·have:=hn.ln;show σ.s.ln<=N+1;omega
  ·have:=hn.c;simp only [List.length_append];omega
  obtain⟨p,hp',e⟩:=hl.Zj hm htk;exact(hn.al.more (Nat.le_succ N)).snocT (fun x hx=>by have:=hS.wh.v.nt x hx;omega) ⟨p,hp',congrArg ThingD.n e⟩
 have hdec:decide (0<=liveI σ.tm ss true L)=false:=by rw [hli];simp
 rw [hdec] at hFt
 have hA:=Xj4 B wb hb ra g cap σ.tm L _ _ w _ _ (Y9 B hb rb σ) (J1 B hb rb (fun σ'=>σ'=σ)) hS hR hpos hW hI.hB b9 hI.bw hra ss tt aa bb ff (-1) (-1) ke pa 1 [] (fun _=>rfl) (fun a b c=>a=L/\b=((σ.s.tn+1:Nat):Int)/\c=((σ.s.ln+1:Nat):Int))
  1 (.inl ⟨rfl,(fun W _ hS'=>((six B hb rb σ W hS' ke pa (Jf 1) 1 (Vf 1 (.inr (by simp [Ml]))) _).1 ss (.string ⟨#[]⟩) (fun W' _ hV=>(Xii σ.k.vb σ.k.mt σ.k.ml σ.vx σ.tm σ.s.tn σ.s.ln σ.s.tks σ.s.lks W' hV.v.va ss hss (hFt W' hV)).mono (fun _ _ h=>Xfd hV h))).mono (fun _ _ h=>Za hS' h)),(fun B' W nb g' cap' _ _ hR'=>(Xhx B' nb g' cap' L σ.tm _ _ ss W hR' hli).mono (by rintro e w' ⟨rfl,hb'⟩;exact⟨g',cap',L,_,_,⟨rfl,rfl,rfl⟩,rfl,hR'.below hb',Spares.of_below hb'⟩))⟩)
 refine hA.mono ?_;rintro e w' ⟨rfl,hA'⟩;exact⟨rfl,hA'.inv hI (by rintro _ _ _ _ rfl ⟨rfl,rfl,rfl⟩;exact⟨rfl,hl,rfl,rfl,hnm⟩)⟩
def Zo (tm:Int) (ss tt:List UInt8) (aa bb:Int) (L:List ThingD):Int:=if issueE tm ss tt aa bb L≠0 then issueE tm ss tt aa bb L else if tm=18446744073709551615 then 3 else 0
theorem Xtq {ss tt:List UInt8} {tm aa bb:Int} {tks:List Xd} {lks:List Xc} {L:List ThingD} (hl:Rel tks lks L) (h14:lks.length<=14) :
  mayE (decide (0<=liveI tm ss true L)) (pathI tt) aa bb lks.length tm=Zo tm ss tt aa bb L:=by
 unfold mayE Zo issueE;rw [hl.countL]
 by_cases h1:liveI tm ss true L<0
 ·rw [if_pos (by simp;omega),if_pos h1];simp
 rw [if_neg (by simp;omega),if_neg h1]
 by_cases h2:pathI tt=false
 ·rw [if_pos h2,if_pos h2];simp
 rw [if_neg h2,if_neg h2]
 by_cases h3:aa=0\/bb<aa
 ·rw [if_pos h3,if_pos h3];simp
 rw [if_neg h3,if_neg h3]
 by_cases h4:lks.length=14
 ·rw [if_pos (by omega),if_pos h4];simp
 rw [if_neg (by omega),if_neg h4];simp
theorem Xh5 (tm:Int) (ss tt:List UInt8) (aa bb:Int) (L:List ThingD):issueE tm ss tt aa bb L=0\/Ml (issueE tm ss tt aa bb L):=by
 unfold issueE Ml
 split
 ·simp
 split
 ·simp
 split
 ·simp
 split <;> simp
theorem Xh1 (tm:Int) (ss tt:List UInt8) (aa bb:Int) (L:List ThingD):Zo tm ss tt aa bb L=0\/Ml (Zo tm ss tt aa bb L):=by
 unfold Zo
 split
 ·exact Xh5 tm ss tt aa bb L
 split
 ·exact .inr (by simp [Ml])
 exact .inl rfl
theorem Tryz.Xsw {w0:World} {B N wb hb:Nat} (w:World) (hI:Inv w0 B N wb hb w) (hN:N<20000) (ss tt:List UInt8) (hss:ss.length<=1000000) (htt:tt.length<=1000000) (aa bb ff ke pa:Int) (ha0:0<=aa) (ha1:aa<=18446744073709551615) (hb0:0<=bb) (hb1:bb<=18446744073709551615) :
  Calls prog 62 #[.pointer (some ⟨wb,0,none⟩),.agg (Xo.cells ⟨2,ss,tt,aa,bb,ff,-1,-1,ke,pa⟩)] w fun e w'=>e=.returned (.bool true)/\Inv w0 B (N+1) wb hb w':=by
 obtain⟨rb,σ,ra,g,cap,L,hS,hR,hl,hW,hn,hra⟩:=hI.ex;have hok:=hS.wh.v.va.ok
 have hpos:0<L.length:=by rw [hl.len];have:=hn.pos;omega
 have hlen:L.length<100:=by rw [hl.len];have:=hn.nt;have:=hn.nl;omega
 have b9:=hS.b9;have hcs:=hn.small hN;have hnm:=hn.more (Nat.le_succ N);have t0:=hS.wh.v.t0;have t1:=hS.wh.v.t1
 have hMay:∀ W,Whole W σ.k σ.vx σ.tm σ.s σ.c (-1) (-1)->∀ W',Below W.heap.size W W'->Calls prog 64 #[.pointer (some ⟨σ.k.vb,0,none⟩),nmV (parseN ss),.string ⟨tt.toArray⟩,.int .u64 aa,.int .u64 bb] W' fun e w'=>e=.returned (Jf (Zo σ.tm ss tt aa bb L))/\Below W'.heap.size W' w':=fun W hV W' hb'=>by
  have h:=Xqg σ.k.vb σ.k.mt σ.k.ml σ.vx σ.tm σ.s.tn σ.s.ln σ.s.tks σ.s.lks W' (hV.v.va.below hb') (parseN ss) (decide (0<=liveI σ.tm ss true L)) tt htt aa bb (fun W2 hb2=>Xmx W2 ((hV.v.va.below hb').below hb2) hl ss);rw [Xtq hl hn.nl] at h;exact h
 by_cases hk:Zo σ.tm ss tt aa bb L=0
 ·rw [hk] at hMay
  have hE0:issueE σ.tm ss tt aa bb L=0:=by
   by_cases h:issueE σ.tm ss tt aa bb L=0
   ·exact h
   unfold Zo at hk;rw [if_pos h] at hk;exact absurd hk h
  have hnev:σ.tm≠18446744073709551615:=fun h=>by
   unfold Zo at hk;rw [if_neg (by simp [hE0]),if_pos h] at hk;cases hk
  have hE:=hE0;unfold issueE at hE
  have hnl:¬ liveI σ.tm ss true L<0:=fun h=>by rw [if_pos h] at hE;omega
  rw [if_neg hnl] at hE
  have hnp:¬ pathI tt=false:=fun h=>by rw [if_pos h] at hE;omega
  rw [if_neg hnp] at hE
  have hnt:¬ (aa=0\/bb<aa):=fun h=>by rw [if_pos h] at hE;omega
  rw [if_neg hnt] at hE
  have hnc:¬ countI false L=14:=fun h=>by rw [if_pos h] at hE;omega
  rw [hl.countL] at hnc;obtain⟨hp24,hpa⟩:=Xtu (by simpa using hnp)
  have hl14:σ.s.lks.length<14:=by have:=hn.nl;omega
  have hln:=hn.ln
  rcases Zt σ.tm ss true L with⟨i,t,ht,hid,htk,hst,hli⟩ | hli
  ·have hm:=List.mem_of_getElem? ht
   have hp:=Xap (L:=L) hid htk (hl.num hok hm) hli
   have hat:σ.tm<plusI σ.tm aa:=by unfold plusI;split <;> omega
   have r1:=Zy σ.tm aa t0 t1 ha0 ha1;have r2:=Zy σ.tm bb t0 t1 hb0 hb1;have hkl:(keepLine σ.tm [.lea (Xb4 (σ.s.ln+1) t.n (plusI σ.tm aa) (plusI σ.tm bb) tt)]).length<=70000:=Jp t0 t1 (s:=σ.s) ⟨⟨⟨r1.1,r1.2,show (0:Int)<=0 by decide,⟨show (0:Int)<=1000000000 by decide,.inl rfl⟩,r2.1,r2.2,hp24,hpa⟩,.inr (fun x hx=>by have:=hS.wh.v.nl x hx;show x.n<σ.s.ln+1;omega),by omega,show σ.s.ln+1<Xn by unfold Xn;omega,hl.num hok hm⟩,trivial⟩ (by simp)
   have hA:=Xj4 B wb hb ra g cap σ.tm L _ _ w _ _ (Y9 B hb rb σ) (J1 B hb rb (fun σ'=>σ'=⟨σ.k,σ.vx,σ.tm,⟨σ.s.tn,σ.s.ln+1,σ.s.tks,σ.s.lks ++ [Xb4 (σ.s.ln+1) t.n (plusI σ.tm aa) (plusI σ.tm bb) tt]⟩,σ.c++keepLine σ.tm [.lea (Xb4 (σ.s.ln+1) t.n (plusI σ.tm aa) (plusI σ.tm bb) tt)]⟩)) hS hR hpos hW hI.hB b9 hI.bw hra ss tt aa bb ff (-1) (-1) ke pa 0 (nmStr 2 (σ.s.ln+1)) (fun h=>absurd rfl h) (fun a b c=>a=L ++ [Mr (σ.s.ln+1) t.n tt (plusI σ.tm aa) (plusI σ.tm bb)]/\b=((σ.s.tn+1:Nat):Int)/\c=((σ.s.ln+1+1:Nat):Int))
    2 (.inr ⟨rfl,(fun W _ hS'=>((six B hb rb σ W hS' ke pa (Jf 0) 0 (Vf 0 (.inl rfl)) _).2.1 ss tt aa bb (.string ⟨(nmStr 2 (σ.s.ln+1)).toArray⟩) (fun W' _ hV=>(Xpa σ.k σ.vx σ.tm σ.s σ.c (-1) (-1) W' hV (by decide) (by decide) (by decide) (by decide) hcs ss tt hss aa bb ha0 ha1 hb0 hb1 hp24 hpa t.n (hl.num hok hm) hp (hMay W' hV) hl14 (by omega)).mono (by rintro e w' ⟨rfl,hV',hs'⟩;exact⟨rfl,⟨_,_,_,⟨rfl,rfl,rfl⟩,hV'⟩,hs'⟩))).mono (fun _ _ h=>Za hS' h)),(fun B' W nb g' cap' hBW hBn hR'=>(Xou B' nb g' cap' L σ.tm _ (σ.s.ln+1) ss tt aa bb W hR' hBn hR'.ne hBW (by omega) hlen (by omega) t0 ha0 ha1 hb1 i t ht hli hE0 hat).mono (by
     rintro e w' ⟨g2,cap2,rfl,hR2,-,-,hs2⟩;refine⟨g2,cap2,_,_,_,⟨rfl,rfl,rfl⟩,?_,hR2,hs2⟩;have:(Mr (σ.s.ln+1) t.n tt (plusI σ.tm aa) (plusI σ.tm bb)).id=nmStr 2 (σ.s.ln+1):=ThingD.U5 _
     rw [this]))⟩)
   refine hA.mono ?_;rintro e w' ⟨rfl,hA'⟩;refine⟨rfl,hA'.inv hI ?_⟩;rintro _ _ _ _ rfl ⟨rfl,rfl,rfl⟩;refine⟨rfl,hl.snocL (Xb4 (σ.s.ln+1) t.n (plusI σ.tm aa) (plusI σ.tm bb) tt) rfl,rfl,rfl,⟨hn.nt,?_,hn.pos,?_,?_,?_,?_,hn.hd.snoc _⟩⟩
   ·simp;omega
   ·have:=hn.tn;show σ.s.tn<=N+1;omega
   ·show σ.s.ln+1<=N+1;omega
   ·have:=hn.c;simp only [List.length_append];omega
   obtain⟨p,hp',e⟩:=hl.Zj hm htk;exact(hn.al.more (Nat.le_succ N)).snocL (fun x hx=>by have:=hS.wh.v.nl x hx;omega) ⟨p,hp',congrArg ThingD.n e⟩
  omega
 have hrg:=(Xh1 σ.tm ss tt aa bb L).resolve_left hk
 have hRef:∀ B' W nb g' cap',Xk B' W nb g' cap' L σ.tm ((σ.s.tn+1:Nat):Int) ((σ.s.ln+1:Nat):Int)->Calls prog 111 #[.pointer (some ⟨nb,0,none⟩),.string ⟨ss.toArray⟩,.string ⟨tt.toArray⟩,.int .u64 aa,.int .u64 bb] W fun e w'=>e=.returned (.tuple #[.string ⟨#[]⟩,.int .i64 (Zo σ.tm ss tt aa bb L)])/\Below W.heap.size W w':=fun B' W nb g' cap' hR'=>by
  by_cases hE0:issueE σ.tm ss tt aa bb L=0
  ·have hnev:σ.tm=18446744073709551615:=by
    by_cases h:σ.tm=18446744073709551615
    ·exact h
    unfold Zo at hk;rw [if_neg (by simp [hE0]),if_neg h] at hk;exact absurd rfl hk
   have hF:Zo σ.tm ss tt aa bb L=3:=by
    unfold Zo;rw [if_neg (by simp [hE0]),if_pos hnev]
   have hE:=hE0;unfold issueE at hE
   rcases Zt σ.tm ss true L with⟨i,t,ht,hid,htk,hst,hli⟩ | hli
   ·rw [hF]
    exact Xkh B' nb g' cap' L σ.tm _ (σ.s.ln+1) ss tt aa bb W hR' (by omega) t0 ha0 ha1 hb1 i t ht hli hE0 (by rw [hnev];unfold plusI;split <;> omega)
   rw [if_pos (by omega)] at hE;cases hE
  have hF:Zo σ.tm ss tt aa bb L=issueE σ.tm ss tt aa bb L:=by
   unfold Zo;rw [if_pos hE0]
  rw [hF];exact Xls B' nb g' cap' L σ.tm _ _ ss tt aa bb W hR' (by omega) hE0
 have hA:=Xj4 B wb hb ra g cap σ.tm L _ _ w _ _ (Y9 B hb rb σ) (J1 B hb rb (fun σ'=>σ'=σ)) hS hR hpos hW hI.hB b9 hI.bw hra ss tt aa bb ff (-1) (-1) ke pa (Zo σ.tm ss tt aa bb L) [] (fun _=>rfl) (fun a b c=>a=L/\b=((σ.s.tn+1:Nat):Int)/\c=((σ.s.ln+1:Nat):Int))
  2 (.inr ⟨rfl,(fun W _ hS'=>((six B hb rb σ W hS' ke pa (Jf (Zo σ.tm ss tt aa bb L)) (Zo σ.tm ss tt aa bb L) (Vf _ (.inr hrg)) _).2.1 ss tt aa bb (.string ⟨#[]⟩) (fun W' _ hV=>(Xlb σ.k.vb σ.k.mt σ.k.ml σ.vx σ.tm σ.s.tn σ.s.ln σ.s.tks σ.s.lks W' hV.v.va ss tt hss aa bb _ hk (hMay W' hV)).mono (fun _ _ h=>Xfd hV (by rw [Vg hk];exact h)))).mono (fun _ _ h=>Za hS' h)),(fun B' W nb g' cap' _ _ hR'=>(hRef B' W nb g' cap' hR').mono (by rintro e w' ⟨rfl,hb'⟩;exact⟨g',cap',L,_,_,⟨rfl,rfl,rfl⟩,rfl,hR'.below hb',Spares.of_below hb'⟩))⟩)
 refine hA.mono ?_;rintro e w' ⟨rfl,hA'⟩;exact⟨rfl,hA'.inv hI (by rintro _ _ _ _ rfl ⟨rfl,rfl,rfl⟩;exact⟨rfl,hl,rfl,rfl,hnm⟩)⟩
theorem Tryz.Xta {w0:World} {B N wb hb:Nat} (w:World) (hI:Inv w0 B N wb hb w) (hN:N<20000) (ss tt:List UInt8) (hss:ss.length<=1000000) (aa bb ff ke pa:Int) (ha0:0<=aa) (ha1:aa<=18446744073709551615) :
  Calls prog 62 #[.pointer (some ⟨wb,0,none⟩),.agg (Xo.cells ⟨3,ss,tt,aa,bb,ff,-1,-1,ke,pa⟩)] w fun e w'=>e=.returned (.bool true)/\Inv w0 B (N+1) wb hb w':=by
 obtain⟨rb,σ,ra,g,cap,L,hS,hR,hl,hW,hn,hra⟩:=hI.ex;have hok:=hS.wh.v.va.ok
 have hpos:0<L.length:=by rw [hl.len];have:=hn.pos;omega
 have b9:=hS.b9;have hcs:=hn.small hN;have hnm:=hn.more (Nat.le_succ N)
 rcases Zt σ.tm ss false L with⟨i,t,ht,hid,htk,hst,hli⟩ | hli
 ·obtain⟨k,l,hk,rfl,hp,hlv,hrel⟩:=Xdn hok hl ht hid htk hst hli
  have hA:=Xnl B wb hb ra g cap σ.tm L _ _ w _ _ (Y9 B hb rb σ) (J1 B hb rb (fun σ'=>σ'.tm=σ.tm/\σ'.s=⟨σ.s.tn,σ.s.ln,σ.s.tks,σ.s.lks.set k { l with at_:=M7 σ.tm aa l }⟩/\σ'.c.length<=σ.c.length+70000)) hS hR hpos hW hI.hB b9 hI.bw hra ss tt aa bb ff (-1) (-1) ke pa 0 (M7 σ.tm aa l) (fun h=>absurd rfl h) (fun a b c=>a=L.set i { (thL l) with at_:=M7 σ.tm aa l }/\b=((σ.s.tn+1:Nat):Int)/\c=((σ.s.ln+1:Nat):Int))
    3 (.inl ⟨rfl,(fun W _ hS'=>((six B hb rb σ W hS' ke pa (Jf 0) 0 (Vf 0 (.inl rfl)) (fun σ'=>σ'.tm=σ.tm/\σ'.s=⟨σ.s.tn,σ.s.ln,σ.s.tks,σ.s.lks.set k { l with at_:=M7 σ.tm aa l }⟩/\σ'.c.length<=σ.c.length+70000)).2.2.1 ss aa (.int .u64 (M7 σ.tm aa l)) (fun W' _ hV=>(Xk1 σ.k σ.vx σ.tm σ.s σ.c (-1) (-1) W' hV (by decide) (by decide) (by decide) (by decide) hcs ss hss k l hk hp hlv aa ha0 ha1 (by have:=hn.nl;omega)).mono (by rintro e w' ⟨rfl,⟨c',l',f',hc',-,-,-,-,hV'⟩,hs'⟩;exact⟨rfl,⟨⟨σ.k,σ.vx,σ.tm,_,c'⟩,l',f',⟨⟨rfl,rfl,hc'⟩,rfl,rfl⟩,hV'⟩,hs'⟩))).mono (fun _ _ h=>Za hS' h)),(fun B' W nb g' cap' hBW _ hR'=>(Xla B' nb g' cap' L σ.tm _ _ ss aa W hR' hBW hR'.ne hS.wh.v.t0 ha0 ha1 i _ ht hli).mono (by
     rintro e w' ⟨rfl,hR2,-,hs2⟩
     exact⟨g',cap',_,_,_,⟨rfl,rfl,rfl⟩,rfl,hR2,hs2⟩))⟩)
  refine hA.mono ?_;rintro e w' ⟨rfl,hA'⟩;refine⟨rfl,hA'.inv hI ?_⟩;rintro σ' _ _ _ ⟨h1,h2,h3⟩ ⟨rfl,rfl,rfl⟩;obtain⟨k',vx',tm',s',c'⟩:=σ';simp only at h1 h2 h3;subst h1 h2;refine⟨rfl,hrel _,rfl,rfl,⟨hn.nt,?_,hn.pos,?_,?_,?_,?_,hn.hd.set ht rfl rfl⟩⟩
  ·simpa using hn.nl
  ·have:=hn.tn;show σ.s.tn<=N+1;omega
  ·have:=hn.ln;show σ.s.ln<=N+1;omega
  ·have:=hn.c;show c'.length<=(N+1)*150000;omega
  exact(hn.al.more (Nat.le_succ N)).setL hk rfl rfl rfl rfl
 obtain⟨ak,au,at_,tr,pd,lp,la,hF⟩:=Xb5 (vb:=σ.k.vb) (mt:=σ.k.mt) (ml:=σ.k.ml) (vx:=σ.vx) (tn:=σ.s.tn) (ln:=σ.s.ln) hok hl ss hli
 have hA:=Xnl B wb hb ra g cap σ.tm L _ _ w _ _ (Y9 B hb rb σ) (J1 B hb rb (fun σ'=>σ'=σ)) hS hR hpos hW hI.hB b9 hI.bw hra ss tt aa bb ff (-1) (-1) ke pa 5 0 (fun _=>rfl) (fun a b c=>a=L/\b=((σ.s.tn+1:Nat):Int)/\c=((σ.s.ln+1:Nat):Int))
  3 (.inl ⟨rfl,(fun W _ hS'=>((six B hb rb σ W hS' ke pa (Jf 5) 5 (Vf 5 (.inr (by simp [Ml]))) _).2.2.1 ss aa (.int .u64 0) (fun W' _ hV=>(Xjs σ.k.vb W' ss aa _ ak au at_ tr pd lp la (parse ⟨ss.toArray⟩ (by simpa [ByteArray.size] using hss) W' hV.v.va.env hV.v.va.six) (fun W2 hb2=>hF W2 (hV.v.va.below hb2))).mono (fun _ _ h=>Xfd hV h))).mono (fun _ _ h=>Za hS' h)),(fun B' W nb g' cap' _ _ hR'=>(Xi1 B' nb g' cap' L σ.tm _ _ ss aa W hR' hli).mono (by rintro e w' ⟨rfl,hb'⟩;exact⟨g',cap',L,_,_,⟨rfl,rfl,rfl⟩,rfl,hR'.below hb',Spares.of_below hb'⟩))⟩)
 refine hA.mono ?_;rintro e w' ⟨rfl,hA'⟩;exact⟨rfl,hA'.inv hI (by rintro _ _ _ _ rfl ⟨rfl,rfl,rfl⟩;exact⟨rfl,hl,rfl,rfl,hnm⟩)⟩
theorem Tryz.Xr7 {B:Nat} {hb rb:Nat} {σ:SS} {L:List ThingD} (W:World) (hS:Sys B W hb rb σ) (hl:Rel σ.s.tks σ.s.lks L) (ss tt:List UInt8) (hss:ss.length<=1000000) :
  Calls prog 47 #[.pointer (some ⟨σ.k.vb,0,none⟩),.string ⟨ss.toArray⟩,.string ⟨tt.toArray⟩] W fun e w'=>e=.returned (.bool (authI σ.tm ss tt L))/\Below W.heap.size W w':=by
 have hok:=hS.wh.v.va.ok;have hP:=parse ⟨ss.toArray⟩ (by simpa [ByteArray.size] using hss) W hS.wh.v.va.env hS.wh.v.va.six
 rcases Zt σ.tm ss false L with⟨i,t,ht,hid,htk,hst,hli⟩ | hli
 ·obtain⟨k,l,hk,rfl,hp,hlv,-⟩:=Xdn hok hl ht hid htk hst hli
  rw [Xgi ht hli];simp only [hp] at hP
  have h:=Xhb σ.k.vb W ss tt _ l.ak l.au l.at_ l.tr l.pd l.pth l.last true hP (fun W2 hb2=>by
   have h:=Vj σ.k.vb σ.k.mt σ.k.ml σ.vx σ.tm σ.s.tn σ.s.ln σ.s.tks σ.s.lks W2 (hS.wh.v.va.below hb2) l (List.mem_of_getElem? hk);rw [hlv] at h
   exact h)
  rw [Bool.true_and] at h;exact h
 obtain⟨ak,au,at_,tr,pd,lp,la,hF⟩:=Xb5 (vb:=σ.k.vb) (mt:=σ.k.mt) (ml:=σ.k.ml) (vx:=σ.vx) (tn:=σ.s.tn) (ln:=σ.s.ln) hok hl ss hli;rw [Xfg hli];exact Xhb σ.k.vb W ss tt _ ak au at_ tr pd lp la false hP (fun W2 hb2=>hF W2 (hS.wh.v.va.below hb2))
theorem Tryz.Xvc {w0:World} {B N wb hb:Nat} (w:World) (hI:Inv w0 B N wb hb w) (ss tt:List UInt8) (hss:ss.length<=1000000) (aa bb ff fl fu ke pa:Int) :
  Calls prog 62 #[.pointer (some ⟨wb,0,none⟩),.agg (Xo.cells ⟨4,ss,tt,aa,bb,ff,fl,fu,ke,pa⟩)] w fun e w'=>e=.returned (.bool true)/\Inv w0 B (N+1) wb hb w':=by
 have hI':=hI;obtain⟨rb,σ,ra,g,cap,L,hS,hR,hl,hW,hn,hra⟩:=hI.ex
 have hpos:0<L.length:=by rw [hl.len];have:=hn.pos;omega
 have hC:=fun W (b:Below w.heap.size w W)=>rAuth B ra g cap L σ.tm _ _ ss tt W (hR.below b)
 have hH:=fun W (b:Below w.heap.size w W)=>hAuth hb σ.k.db rb σ.k.vb W (hS.below b).host ss tt _ (Xr7 W (hS.below b) hl ss tt hss)
 refine(Xts B wb hb ra g cap σ.tm L _ _ w hR hpos hW ss tt aa bb ff fl fu ke pa _ hH hC).mono ?_;rintro e w' ⟨rfl,hb'⟩;exact⟨rfl,(hI'.below hb').more (by omega)⟩
theorem Tryz.Inv.sick {w0:World} {B N wb hb:Nat} {W:World} (h:Inv w0 B N wb hb W):Inv w0 B N wb hb (W.setCell ⟨wb,3,none⟩ (.bool false)):=by
 obtain⟨rb,σ,ra,g,cap,L,h1,h2,h3,h4,h5,h6⟩:=h.ex;have hsp:Spares [wb] W (W.setCell ⟨wb,3,none⟩ (.bool false)):=(Spares.of_below (Below.refl _ _)).set (by simp) _ _;have b9:=h.nine;have bw:=h.bw;refine⟨h.bel.setCell (p:=⟨wb,3,none⟩) h.bw _,by simpa using h.hB,h.bw,⟨rb,σ,ra,g,cap,L,h1.other hsp (fun b hb=>by rw [List.mem_singleton.1 hb];exact X1.of h4 (by omega) (by decide)),h2.Zz hsp (fun hx=>h2.v.ne h4 (by decide) (List.mem_singleton.1 hx)) (fun hx=>?_),h3,h4.set 3 _,h5,h6⟩⟩;obtain⟨c,hc⟩:=h2.Xbn;exact hc.ne h4 (by decide) (List.mem_singleton.1 hx)
theorem Tryz.step {w0:World} {B N M wb hb:Nat} (w:World) (hI:Inv w0 B N wb hb w) (kind:Int) (hk8:(kind==8)=false) (hk10:(kind==10)=false) (ss tt:List UInt8) (aa bb ff fl fu ke pa:Int)
  (hA:∀ W,Inv w0 B N wb hb W->Calls prog 62 #[.pointer (some ⟨wb,0,none⟩),.agg (Xo.cells ⟨kind,ss,tt,aa,bb,ff,-1,-1,0,0⟩)] W fun e w'=>e=.returned (.bool true)/\Inv w0 B M wb hb w') :
  Calls prog 39 #[.pointer (some ⟨wb,0,none⟩),.agg (Xo.cells ⟨kind,ss,tt,aa,bb,ff,fl,fu,ke,pa⟩),.bool false] w fun e w'=>e=.returned (.bool true)/\Inv w0 B M wb hb w':=by
 obtain⟨rb,σ,ra,g,cap,L,-,-,-,hW,-⟩:=hI.ex;have lW:=hW.lt;have c3:=hW.cell 3 (v:=.bool false) rfl;have f3:=hW.frozen 3
 have hI3:=fun W (b:Below w.heap.size w W)=>(hI.below b).sick
 have hWl:=fun W=>Xtg W
 unfold Yn at hWl;have hb0:Below w.heap.size w (w.alloc (.cells (Xo.cells ⟨kind,ss,tt,aa,bb,ff,fl,fu,ke,pa⟩) 72)):=(Below.refl _ w).alloc (Nat.le_refl _) _;have bS:=BoxN.new w 72 (Xo.cells ⟨kind,ss,tt,aa,bb,ff,fl,fu,ke,pa⟩);simp only [Xo.cells] at *;go_enter func39,ntmps39
 go_wp2_with (first
  | (go_at_call 16;refine(hWl _).mono ?_;rintro e w1 ⟨rfl,hb1⟩;have bS1:=bS.below hb1 (by simp);have y0:=bS1.cell 0 (v:=.int .i64 kind) rfl;have y1:=bS1.cell 1 (v:=.string ⟨ss.toArray⟩) rfl;have y2:=bS1.cell 2 (v:=.string ⟨tt.toArray⟩) rfl;have y3:=bS1.cell 3 (v:=.int .u64 aa) rfl;have y4:=bS1.cell 4 (v:=.int .u64 bb) rfl;have y5:=bS1.cell 5 (v:=.int .u64 ff) rfl;have y6:=bS1.cell 6 (v:=.int .i64 fl) rfl;have y7:=bS1.cell 7 (v:=.int .i64 fu) rfl;have y8:=bS1.cell 8 (v:=.int .i64 ke) rfl;have y9:=bS1.cell 9 (v:=.int .i64 pa) rfl;have z6:=bS1.frozen 6;have z7:=bS1.frozen 7;have z8:=bS1.frozen 8;have z9:=bS1.frozen 9;have bW1:=(hW.alloc (.cells #[.int .i64 kind,.string ⟨ss.toArray⟩,.string ⟨tt.toArray⟩,.int .u64 aa,.int .u64 bb,.int .u64 ff,.int .i64 fl,.int .i64 fu,.int .i64 ke,.int .i64 pa] 72)).below hb1 (by simp;omega);have x3:=bW1.cell 3 (v:=.bool false) rfl;have x3f:=bW1.frozen 3)
  | (go_at_call 62;refine(hA _ (hI3 _ (((((hb0.trans (hb1.mono (by simp))).setCell (p:=⟨w.heap.size,6,none⟩) (Nat.le_refl _) _).setCell (p:=⟨w.heap.size,7,none⟩) (Nat.le_refl _) _).setCell (p:=⟨w.heap.size,8,none⟩) (Nat.le_refl _) _).setCell (p:=⟨w.heap.size,9,none⟩) (Nat.le_refl _) _))).mono ?_;rintro e w2 ⟨rfl,hI2⟩;obtain⟨rb2,σ2,ra2,g2,cap2,L2,hS2,hR2,hl2,hW2,-⟩:=hI2.ex;have q0:=hW2.cell 0 (v:=.pointer (some ⟨hb,0,none⟩)) rfl;have q1:=hW2.cell 1 (v:=.pointer (some ⟨ra2,0,none⟩)) rfl)
  | (go_at_call 36;refine(hIs hb _ _ _ w2 hS2.host).mono ?_;rintro e w3 ⟨rfl,rfl⟩)
  | (go_at_call 38;refine(looks B wb hb ra2 g2 cap2 σ2.k.vb σ2.k.mt σ2.k.ml σ2.vx σ2.tm σ2.s.tn σ2.s.ln _ _ σ2.s.tks σ2.s.lks L2 _ _ _ _ _ _ _ hW2 hS2.host hS2.wh.v.va hR2 hl2).mono ?_;rintro e w4 ⟨rfl,hb4⟩))
 go_ret;exact⟨rfl,hI2.below hb4⟩
def Xbb (st:Xo):Prop:=(0<=st.a/\st.a<=18446744073709551615)/\(0<=st.b/\st.b<=18446744073709551615)/\(0<=st.f/\st.f<=18446744073709551615)/\(-9223372036854775808<=st.pa/\st.pa<=9223372036854775807)
def Xct (st:Xo):Prop:=st.s.length+st.t.length<=16384
theorem Tryz.Inv.start {w0 W:World} {B hb rb ra g:Nat} {k:Blk} {vx:VX} {tm:Int} (hbel:Below B w0 W) (hB:B<=W.heap.size) (hS:Sys B W hb rb ⟨k,vx,tm,⟨0,0,[rootE],[]⟩,[]⟩) (hR:Xk B W ra g 1 [Xge] tm 1 1) (hra:B<=ra) :
  Inv w0 B 0 W.heap.size hb (W.alloc (.cells #[.pointer (some ⟨hb,0,none⟩),.pointer (some ⟨ra,0,none⟩),.pointer none,.bool false,.bool false] 69)):=by
 have hba:Below W.heap.size W (W.alloc (.cells #[.pointer (some ⟨hb,0,none⟩),.pointer (some ⟨ra,0,none⟩),.pointer none,.bool false,.bool false] 69)):=(Below.refl _ W).alloc (Nat.le_refl _) _
 have hrel:Rel [rootE] [] [Xge]:=⟨rfl,rfl,fun t ht=>by rw [List.mem_singleton.1 ht];exact .inr rfl,fun l hl=>(by cases hl)⟩
 exact⟨hbel.trans (hba.mono hB),by simp;omega,hB,⟨rb,_,ra,g,1,_,hS.below hba,hR.below hba,hrel,BoxN.new W _ _,⟨by simp,by simp,by simp,by simp,by simp,by simp,Z7.start,⟨_,rfl,rfl,rfl⟩⟩,hra⟩⟩
theorem Tryz.Inv.looksAt {w0:World} {B N wb hb ra:Nat} {W:World} (h:Inv w0 B N wb hb W) (hc:W.cell? ⟨wb,1,none⟩=some (.pointer (some ⟨ra,0,none⟩))) :
  Calls prog 38 #[.pointer (some ⟨wb,0,none⟩),.pointer (some ⟨ra,0,none⟩)] W fun e w'=>e=.returned (.bool true)/\Below W.heap.size W w':=by
 obtain⟨rb,σ,ra',g,cap,L,hS,hR,hl,hW,-⟩:=h.ex;have h1:=hW.cell 1 (v:=.pointer (some ⟨ra',0,none⟩)) rfl;rw [hc] at h1
 obtain rfl:ra=ra':=by simpa using h1
 exact looks B wb hb ra g cap σ.k.vb σ.k.mt σ.k.ml σ.vx σ.tm σ.s.tn σ.s.ln _ _ σ.s.tks σ.s.lks L _ _ _ _ _ _ W hW hS.host hS.wh.v.va hR hl
def inB (ks:List Int) (kind:Int) (j:Nat):Bool:=(ks.take j).any (fun k=>kind==k)
theorem Xrw {ks:List Int} {kind v:Int} {j:Nat} (h:ks[j]? = some v):inB ks kind (j+1)=(inB ks kind j||kind==v):=by
 unfold inB;rw [List.take_add_one,h];simp
theorem Xsm {ks:List Int} {kind:Int} (h:inB ks kind ks.length=true):kind∈ks:=by
 unfold inB at h;rw [List.take_length] at h;obtain⟨k,hk,e⟩:=List.any_eq_true.1 h
 have:kind=k:=by simpa using e
 rw [this];exact hk
def Xd1 (W:World) (kb:Nat) (ks:List Int):Prop:=∀ j v,ks[j]? = some v->W.cell? ⟨kb,j,none⟩=some (.int .i64 v)
theorem Xd1.below {W W':World} {kb B:Nat} {ks:List Int} (h:Xd1 W kb ks) (hb:Below B W W') (hB:kb<B):Xd1 W' kb ks:=fun j v hv=>(hb.cell (p:=⟨kb,j,none⟩) hB).trans (h j v hv)
structure Tryz.Xq6 (w:World) (S:List Xo) (ks:List Int) (failing:Bool) (I:Nat->Nat->Nat->World->Prop):Prop where
 bel:∀ {wb hb k W},I wb hb k W->Below w.heap.size w W
 later:∀ {wb hb k W W'},I wb hb k W->Below W.heap.size W W'->I wb hb k W'
 more:∀ {wb hb k W},I wb hb k W->I wb hb (k+1) W
 start:∀ {wb hb W},Tryz.Inv w w.heap.size 0 wb hb W->I wb hb 0 W
 step:∀ {wb hb k W st},k<16384->st∈S->Xct st->Xbb st->st.kind∈ks->I wb hb k W->Calls Tryz.prog 39 #[.pointer (some ⟨wb,0,none⟩),.agg (Xo.cells st),.bool failing] W fun e w'=>e=.returned (.bool true)/\I wb hb (k+1) w'
theorem Tryz.Xuw (p:Option Addr) (cap kb:Nat) (ks:List Int) (failing:Bool) (S:List Xo) (I:Nat->Nat->Nat->World->Prop) (w:World) (hS:Me w p S) (hpl:S ≠ []->∀ a,p=some a->a.block<w.heap.size) (hl:S.length<=281474976710656) (hz:∀ st∈S,st.s.length<=281474976710656/\st.t.length<=281474976710656) (hok:∀ st∈S,Xbb st) (hK:Xd1 w kb ks) (hkb:kb<w.heap.size) (hkl:ks.length<=20) (h9:9<=w.heap.size) (hE:Env w) (hT:Ja w) (hI:Xq6 w S ks failing I) :
  Calls prog 14 #[.slice p S.length cap,.slice (some ⟨kb,0,none⟩) ks.length ks.length,.bool failing] w fun e w'=>e=.returned (.bool true)/\Below w.heap.size w w':=by
 have hSm:=small p cap S w hS hl hz
 have hWl:=fun W=>Xtg W
 unfold Yn at hWl
 have hOp:=fun(W:World) (hb db rb md mn:Nat) (hBW:Below 9 w W) (h1:w.heap.size<=W.heap.size) (bH:BoxN W hb 78 #[.pointer (some ⟨db,0,none⟩),.pointer (some ⟨rb,0,none⟩),.pointer none]) (hD:Xj W db md mn none none (.slice none 0 0) (-1) (-1)) (bR:BoxN W rb 88 #[.slice none 0 0,.int .u64 0]) (hlo:w.heap.size<=hb/\w.heap.size<=db/\w.heap.size<=rb/\w.heap.size<=md/\w.heap.size<=mn)=>Xuz w.heap.size hb db rb md mn _ _ _ (-1) (-1) 7 0 0 W bH hD bR hlo h1 h9 (hE.below (hBW.mono (by decide)) (Nat.le_refl _)) (hT.below hBW) (by decide) (by decide)
 unfold Yn at hOp
 obtain⟨len,hlen⟩:∃ len,S.length=len:=⟨_,rfl⟩
 rw [hlen] at hSm ⊢;have Hlen:=Xb hlen;clear hlen hl
 obtain⟨kn,hkn⟩:∃ kn,ks.length=kn:=⟨_,rfl⟩
 rw [hkn] at hkl ⊢;have Hkn:=Xb hkn;clear hkn;go_enter func14,ntmps14
 go_upto_region 2 with(go_at_call 34;refine hSm.mono ?_;rintro e w1 ⟨b,rfl,hsm,hb1⟩)
 cases b
 ·go_wp2
  go_ret;exact⟨rfl,hb1⟩
 obtain⟨hl,hz2⟩:=hsm rfl;have l0:=hb1.size
 go_wp2_with (first
  | (go_at_call 35;refine(Xs7 _).mono ?_;rintro e w2 ⟨hb,db,rb,md,mn,rfl,bH,hD,bR,hlo,hb2⟩;have bel2:=hb1.trans (hb2.mono l0))
  | (go_at_call 16;refine(hWl _).mono ?_;rintro e w3 ⟨rfl,hb3⟩;have bel3:=bel2.trans (hb3.mono bel2.size);have hlo3:w.heap.size<=hb/\w.heap.size<=db/\w.heap.size<=rb/\w.heap.size<=md/\w.heap.size<=mn:=by omega)
  | (go_at_call 33;refine(hOp w3 hb db rb md mn (bel3.mono h9) bel3.size (bH.below hb3 bH.lt) (hD.below hb3) (bR.below hb3 bR.lt) hlo3).mono ?_;rintro e w4 ⟨rfl,⟨k,vx,hS4⟩,hb4⟩;have bel4:=bel3.trans hb4)
  | (go_at_call 36;refine(hIs hb _ _ _ w4 hS4.host).mono ?_;rintro e w5 ⟨rfl,rfl⟩)
  | (go_at_call 37;refine(rNew 7 _).mono ?_;rintro e w6 ⟨rfl,hR6,hb6⟩;have bel6:=bel4.trans (hb6.mono bel4.size);have hIn:=Inv.start bel6 bel6.size (hS4.below hb6) (hR6.lower bel4.size) (by have:=bel4.size;omega))
  | (go_at_call 38;refine(hIn.looksAt (BoxN.cell (BoxN.new w6 69 _) 1 rfl)).mono ?_;rintro e w7 ⟨rfl,hb7⟩))
 have hI7:=hI.start (hIn.below hb7);generalize w6.heap.size=wb at *;clear hIn hb7 hb6 hR6 bel6 hS4 hb4 bel4 bel3 hlo3 hb3 bel2 bH hD bR hb2 hSm hOp hWl hsm;have HI:=Xb hI;clear hI
 go_loopw [7,12] (fun ok i wr=>∃ k:Nat,k<=len/\i=.int .i64 k/\ok=.bool true/\I wb hb k wr) (fun _ i _=>len-(intOf i).toNat)
 case atStart=>exact⟨0,Nat.zero_le _,rfl,rfl,hI7⟩
 case round =>
  obtain⟨k,hk,rfl,rfl,hIk⟩:=hrel
  by_cases hkl2:k<len
  ·obtain⟨st,hst⟩:∃ st,S[k]? = some st:=⟨S[k]'(by have:=Xa Hlen;omega),by have:=Xa Hlen;simp [this,hkl2]⟩
   have hmem:=List.mem_of_getElem? hst
   have hne:S ≠ []:=fun e=>by rw [e] at hst;simp at hst
   obtain⟨b,off,rfl,hsc⟩:=hS.resolve_left hne;have hbl:b<w.heap.size:=hpl hne _ rfl
   have hSt:=fun W (h:I wb hb k W) (hin:st.kind∈ks)=>(Xa HI).step (by omega) hmem (hz2 st hmem) (hok st hmem) hin h
   have hcs:=fun W (h:I wb hb k W)=>(hsc.below ((Xa HI).bel h) hbl) k st hst
   have hks:=fun W (h:I wb hb k W)=>hK.below ((Xa HI).bel h) hkb
   obtain⟨kind,ss,tt,aa,bb,ff,fl,fu,ke,pa⟩:=st;simp only [Xo.cells] at hSt hcs;have Hst:=Xb hst;clear hst hok hz hz2 hsc hK hE hT;go_wp2
   go_loopw [13,14] (fun inn j wq=>∃ jj:Nat,jj<=kn/\j=.int .i64 jj/\inn=.bool (inB ks kind jj)/\I wb hb k wq) (fun _ j _=>kn-(intOf j).toNat)
   case atStart=>exact⟨0,by omega,rfl,rfl,hIk⟩
   case round =>
    obtain⟨jj,hjj,rfl,rfl,hIq⟩:=hrel
    by_cases hj4:jj<kn
    ·obtain⟨v,hv⟩:∃ v,ks[jj]? = some v:=⟨ks[jj]'(by have:=Xa Hkn;omega),by have:=Xa Hkn;simp [this,hj4]⟩
     have hkk:=hks _ hIq jj v hv;obtain⟨y0,-⟩:=hcs _ hIq;have hsu:=Xb (Xrw (kind:=kind) hv);clear hv;generalize inB ks kind jj=ib at *;cases ib
     focus
      go_wp2
     rotate_left
     focus
      go_wp2
     rotate_left
     all_goals
      go_quiet (fail);go_wp2;exact⟨⟨jj+1,by omega,rfl,by rw [Xa hsu];simp,(Xa HI).later hIq (below_drewN (Below.refl _ _) _)⟩,by simp [intOf];omega⟩
    obtain rfl:jj=kn:=by omega
    have hib:Hid (inB ks kind jj=true->kind∈ks):=Xb (fun e=>Xsm (by rw [Xa Hkn];exact e));obtain⟨y0,y1,y2,y3,y4,y5,y6,y7,y8,y9⟩:=hcs _ hIq;have hSt1:=hSt _ hIq;clear hSt hcs hks;generalize inB ks kind jj=ib at *;cases ib
    ·go_wp2
     go_roundw
     case rel=>exact⟨k+1,by omega,rfl,rfl,(Xa HI).more hIq⟩
     case measure=>simp [intOf];omega
    have hSt2:=hSt1 (Xa hib rfl);clear hSt1
    go_wp2_with (go_at_call 39;refine hSt2.mono ?_;rintro e w8 ⟨rfl,hI8⟩)
    go_roundw
    case rel=>exact⟨k+1,by omega,rfl,rfl,hI8⟩
    case measure=>simp [intOf];omega
  obtain rfl:k=len:=by omega
  go_wp2;go_ret;exact⟨rfl,(Xa HI).bel hIk⟩
theorem Me.below {W W':World} {p:Option Addr} {S:List Xo} (h:Me W p S) {B:Nat} (hb:Below B W W') (hp:S ≠ []->∀ a,p=some a->a.block<B):Me W' p S:=by
 rcases h with h | ⟨b,off,rfl,h⟩
 ·exact .inl h
 by_cases hS:S = []
 ·exact .inl hS
 exact .inr ⟨b,off,rfl,h.below hb (hp hS _ rfl)⟩
theorem Tryz.Xg5:prog.cellsOf 72=10:=by kernel_rfl
theorem Tryz.Xn1:prog.cellsOf 29=4:=by kernel_rfl
theorem Tryz.Xki:prog.cellsOf 3=1:=by kernel_rfl
theorem Tryz.Xrd:prog.cellsOf 9=1:=by kernel_rfl
theorem Xuu {α:Type} {l:List α} (h:l.length=10):∃ a b c d e f g i j k,l = [a,b,c,d,e,f,g,i,j,k]:=by
 match l,h with
 | [a,b,c,d,e,f,g,i,j,k],_=>exact⟨a,b,c,d,e,f,g,i,j,k,rfl⟩
theorem Xcz {z:Int} (h:(Lit.int .u64 z).wf=true):0<=z/\z<=18446744073709551615:=by
 simp [Lit.wf,IntKind.min,IntKind.max,IntKind.bits,IntKind.signed] at h;omega
theorem M3 {H:Type} {P:Program} {e:TypeId}:∀(l:List (DataW H)) (d:DataW H) (x:Nat),d∈l->x∈d.weights P e->x∈DataW.weightsAll P e l
 | [],_,_,h,_=>by cases h
 | a :: l,d,x,h,hx=>by
  simp only [DataW.weightsAll]
  rcases List.mem_cons.1 h with rfl | h
  ·exact List.mem_append_left _ hx
  exact List.mem_append_right _ (M3 l d x h hx)
theorem Tryz.Xqa {H:Type} {enc:TypeId × Value->H} {w:World} {base:Nat} {sp:Nat->Bool} {held:Bool} {fuel:Nat} {cs:List Value} {x:DataW H × List MemPlace} (h:DataW.trod enc prog w base sp held fuel 72 cs=some x) :
  ∃ st:Xo,cs=st.cells.toList/\Xbb st/\st.s.length∈x.1.weights prog 72/\st.t.length∈x.1.weights prog 72:=by
 obtain⟨xs,n,-,rfl,hl,hlen,hf⟩:=DataW.trod_struct underlying72 h;rw [Xg5] at hl;obtain⟨c0,c1,c2,c3,c4,c5,c6,c7,c8,c9,rfl⟩:=Xuu hl;have hlen7:xs.length=7:=hlen
 obtain⟨y0,y1,y2,y3,y4,y5,y6,rfl⟩:∃ y0 y1 y2 y3 y4 y5 y6,xs = [y0,y1,y2,y3,y4,y5,y6]:=by
  match xs,hlen7 with
  | [y0,y1,y2,y3,y4,y5,y6],_=>exact⟨y0,y1,y2,y3,y4,y5,y6,rfl⟩
 have f0:=hf 0 _ rfl;have f1:=hf 1 _ rfl;have f2:=hf 2 _ rfl;have f3:=hf 3 _ rfl;have f4:=hf 4 _ rfl;have f5:=hf 5 _ rfl;have f6:=hf 6 _ rfl;simp [Xki,Xrd,Xe3,Xn1] at f0 f1 f2 f3 f4 f5 f6;obtain⟨z0,e0,-,-⟩:=DataW.trod_int underlying3 f0;obtain⟨s1,e1,r1,-⟩:=DataW.trod_string underlying9 f1;obtain⟨s2,e2,r2,-⟩:=DataW.trod_string underlying9 f2;obtain⟨z3,e3,-,k3⟩:=DataW.trod_int underlying31 f3;obtain⟨z4,e4,-,k4⟩:=DataW.trod_int underlying31 f4;obtain⟨z5,e5,-,k5⟩:=DataW.trod_int underlying31 f5;obtain⟨us,m,-,-,-,hus,hg⟩:=DataW.trod_struct underlying29 f6;have hus4:us.length=4:=hus
 obtain⟨u0,u1,u2,u3,rfl⟩:∃ u0 u1 u2 u3,us = [u0,u1,u2,u3]:=by
  match us,hus4 with
  | [u0,u1,u2,u3],_=>exact⟨u0,u1,u2,u3,rfl⟩
 have g0:=hg 0 _ rfl;have g1:=hg 1 _ rfl;have g2:=hg 2 _ rfl;have g3:=hg 3 _ rfl;simp [Xki] at g0 g1 g2 g3;obtain⟨z6,e6,-,-⟩:=DataW.trod_int underlying3 g0;obtain⟨z7,e7,-,-⟩:=DataW.trod_int underlying3 g1;obtain⟨z8,e8,-,-⟩:=DataW.trod_int underlying3 g2;obtain⟨z9,e9,-,k9⟩:=DataW.trod_int underlying3 g3;simp at e0 e1 e2 e3 e4 e5 e6 e7 e8 e9;subst e0 e1 e2 e3 e4 e5 e6 e7 e8 e9;obtain⟨⟨l1⟩⟩:=s1;obtain⟨⟨l2⟩⟩:=s2;refine⟨⟨z0,l1,l2,z3,z4,z5,z6,z7,z8,z9⟩,rfl,⟨Xcz k3,Xcz k4,Xcz k5,by simp [Lit.wf,IntKind.min,IntKind.max,IntKind.bits,IntKind.signed] at k9;exact k9⟩,?_,?_⟩
 ·simp [DataW.weights,underlying72,DataW.weightsEach,r1,r2]
 simp [DataW.weights,underlying72,DataW.weightsEach,r1,r2]
theorem Xvq {α:Type} (d:α) {n:Nat} {p:Nat->α->Prop} (h:∀ i,i<n->∃ x,p i x):∃ f:Nat->α,∀ i,i<n->p i (f i):=by
 classical
 exact⟨fun i=>if hi:i<n then Classical.choose (h i hi) else d,fun i hi=>by
  show p i (if hi:i<n then Classical.choose (h i hi) else d)
  rw [dif_pos hi]
  exact Classical.choose_spec (h i hi)⟩
theorem Tryz.Xks {H:Type} {enc:TypeId × Value->H} {w:World} {base fuel:Nat} {held:Bool} {p:Option Addr} {len cap:Nat} {x:DataW H × List MemPlace} (h:DataW.trod enc prog w base (fun _=>true) held fuel 22 [.slice p len cap]=some x) (hsz:∀ y∈x.1.weights prog 22,y<=reachBytes) :
  ∃ S:List Xo,S.length=len/\Me w p S/\(S ≠ []->∀ a,p=some a->a.block<w.heap.size)/\S.length<=281474976710656/\(∀ st∈S,st.s.length<=281474976710656/\st.t.length<=281474976710656)/\∀ st∈S,Xbb st:=by
 have hrb:reachBytes<=281474976710656:=by decide
 rcases Go.Deep.open_slice underlying22 h with⟨e,-⟩ | ⟨a,len',cap',m,n,D,Pl,e,-,hl,-,hm,rfl,hx⟩
 ·simp at e
  obtain⟨rfl,rfl,rfl⟩:=e;exact⟨[],rfl,.inl rfl,fun h=>absurd rfl h,by simp,by simp,by simp⟩
 simp at e;obtain⟨rfl,rfl,rfl⟩:=e;simp at hm;subst hm
 obtain⟨f,hf⟩:=Xvq (⟨0,[],[],0,0,0,0,0,0,0⟩:Xo) (n:=m) (p:=fun i st=>w.cells? base (a.add (i*10)) 10=some st.cells.toList/\Xbb st/\st.s.length∈(D i).weights prog 72/\st.t.length∈(D i).weights prog 72) (fun i hi=>by
  obtain⟨cs',hc,ht⟩:=hx i hi;obtain⟨st,rfl,h1,h2,h3⟩:=Xqa ht;rw [Xg5] at hc
  exact⟨st,hc,h1,h2,h3⟩)
 have hlen:len<=281474976710656:=by
  have:=hsz ((((List.range len).map D).length+((List.range (m-len)).map fun j=>D (len+j)).length)*prog.bytesOf 72) (by simp [DataW.weights,underlying22])
  have hby:prog.bytesOf 72=96:=by kernel_rfl
  rw [hby] at this;simp at this;omega
 have hS:∀(i:Nat) (st:Xo),((List.range len).map f)[i]? = some st->i<len/\st=f i:=fun i st hi=>by
  by_cases hil:i<len
  ·simp [hil] at hi
   exact⟨hil,hi.symm⟩
  simp [hil] at hi
 have hmem:∀ st∈(List.range len).map f,∃ i,i<len/\st=f i:=fun st hst=>by
  obtain⟨i,hi,rfl⟩:=List.mem_map.1 hst;exact⟨i,List.mem_range.1 hi,rfl⟩
 have hw:∀ i,i<len->∀ y∈(D i).weights prog 72,y<=281474976710656:=fun i hi y hy=>by
  have:y∈(DataW.slice ((List.range len).map D) ((List.range (m-len)).map fun j=>D (len+j))).weights prog 22:=by
   simp only [DataW.weights,underlying22];exact List.mem_cons_of_mem _ (List.mem_append_left _ (M3 _ (D i) y (List.mem_map.2 ⟨i,List.mem_range.2 hi,rfl⟩) hy))
  exact Nat.le_trans (hsz y this) hrb
 obtain⟨b,off,spot⟩:=a;refine⟨(List.range len).map f,by simp,?_,fun hne a' ha'=>?_,by simpa using hlen,fun st hst=>?_,fun st hst=>?_⟩
 ·by_cases h0:len=0
  ·exact .inl (by simp [h0])
  have hc0:=(World.cells?_some (hf 0 (by omega)).1).2.2 0 (by omega)
  have hspot:spot=none:=by simpa [Addr.add] using World.cell?_spot (show w.cell? _=some _ from hc0)
  subst hspot;refine .inr ⟨b,off,rfl,fun i st hi=>?_⟩;obtain⟨hil,rfl⟩:=hS i st hi;have hc:=(World.cells?_some (hf i (by omega)).1).2.2
  have hcc:∀ j,j<10->w.cell? ⟨b,off+i*10+j,none⟩=(f i).cells.toList[j]?:=fun j hj=>by
   have:=hc j hj;rw [Lib.add_plain,Lib.add_plain] at this;exact this
  exact⟨hcc 0 (by omega),hcc 1 (by omega),hcc 2 (by omega),hcc 3 (by omega),hcc 4 (by omega),hcc 5 (by omega),hcc 6 (by omega),hcc 7 (by omega),hcc 8 (by omega),hcc 9 (by omega)⟩
 ·cases ha'
  have h0:0<len:=by
   rcases Nat.eq_zero_or_pos len with h | h
   ·exact absurd (by simp [h]) hne
   exact h
  exact World.cells?_block (hf 0 (by omega)).1 (by omega)
 ·obtain⟨i,hi,rfl⟩:=hmem st hst
  obtain⟨-,-,h1,h2⟩:=hf i (by omega);exact⟨hw i hi _ h1,hw i hi _ h2⟩
 obtain⟨i,hi,rfl⟩:=hmem st hst;exact(hf i (by omega)).2.1
structure Xb8 (tm:Int) (s:VSt) (q:List Xe) (L:List ThingD) (xs:List (List UInt8)):Prop where
 rel:Rel s.tks s.lks L
 full:∀ th∈L,V6 tm L xs th=true↔th.turn∈q
 tried:∀ th∈L,th.token=true->hasB xs th.id=true->Y6 (th.n:Int) L=true
theorem Xb8.perm {tm:Int} {s:VSt} {q q':List Xe} {L:List ThingD} {xs:List (List UInt8)} (h:Xb8 tm s q L xs) (hp:q'.Perm q):Xb8 tm s q' L xs:=⟨h.rel,fun th ht=>(h.full th ht).trans hp.mem_iff.symm,h.tried⟩
theorem Ub {tm:Int} {L:List ThingD} {xs:List (List UInt8)} {t:ThingD}:V6 tm L xs t=true↔(t.doomed=true\/t.token=false)/\t.at_<=tm/\(t.token=true->Y6 (t.n:Int) L=true)/\hasB xs t.id=false:=by
 unfold V6 ThingD.state
 cases t.token <;> cases t.doomed <;> by_cases h:t.at_<=tm <;> simp [h]
theorem Xm7 {L:List ThingD} {s:VSt} (h:Rel s.tks s.lks L) (ok:Xx s.tks s.lks) {x u:ThingD} (hx:x∈L) (hu:u∈L) (hne:u≠x):(x.id==u.id)=false:=by
 rw [beq_eq_false_iff_ne,ThingD.U5,ThingD.U5];intro e;obtain⟨e1,e2⟩:=Xcu (h.num ok hx) (h.num ok hu) e;exact hne (h.Xkr ok hu hx e1.symm e2.symm)
theorem Xd6 {L:List ThingD} {s:VSt} (h:Rel s.tks s.lks L) (ok:Xx s.tks s.lks) {x u:ThingD} (hx:x∈L) (hu:u∈L) (e:(u.turn.k,u.turn.n)=(x.turn.k,x.turn.n)):u=x:=by
 have e':=Prod.mk.inj e;refine h.Xkr ok hu hx ?_ ?_
 ·have:=e'.1
  unfold ThingD.turn kdB at this
  cases hu':u.token <;> cases hx':x.token <;> simp [hu',hx'] at this ⊢
 have:=e'.2;unfold ThingD.turn at this;simp at this;omega
theorem Xb8.start {tm:Int} {s:VSt} {L:List ThingD} (h:Rel s.tks s.lks L) (ok:Xx s.tks s.lks):Xb8 tm s (s.tks.flatMap (Yv s tm)++s.lks.flatMap (Zw tm)) L []:=by
 refine⟨h,fun th hth=>?_,fun th _ _ e=>by simp [hasB] at e⟩;rw [Ub]
 constructor
 ·rintro⟨h1,h2,h3,-⟩
  cases hk:th.token
  ·obtain⟨t,ht,rfl⟩:=h.Mi hth hk
   refine List.mem_append_right _ (List.mem_flatMap.2 ⟨t,ht,?_⟩);unfold Zw;rw [if_pos (show t.at_<=tm from h2)];exact List.mem_singleton.2 rfl
  obtain⟨t,ht,rfl⟩:=h.Zj hth hk;refine List.mem_append_left _ (List.mem_flatMap.2 ⟨t,ht,?_⟩);have hf:=h3 rfl;rw [h.free] at hf
  have hp:t.pd=true:=by
   rcases h1 with e | e
   ·exact e
   cases e
  have hc:(t.pd&&decide (t.at_<=tm) && !hasU s t.n)=true:=by
   rw [hp,show (!hasU s t.n)=true from hf,decide_eq_true (show t.at_<=tm from h2)];rfl
  unfold hasU at hc;unfold Yv;rw [if_pos hc];exact List.mem_singleton.2 rfl
 intro hm
 rcases List.mem_append.1 hm with hm | hm
 ·obtain⟨t,ht,hu⟩:=List.mem_flatMap.1 hm
  obtain⟨e,hp,ha,hb⟩:=J6 hu;have:th=thT t:=Xd6 h ok (h.Vh ht) hth (by rw [e];rfl);subst this;exact⟨.inl hp,ha,fun _=>by rw [h.free];simp [hb,thT],by simp [hasB]⟩
 obtain⟨t,ht,hu⟩:=List.mem_flatMap.1 hm;obtain⟨e,ha⟩:=Vv hu;have:th=thL t:=Xd6 h ok (h.Xcl ht) hth (by rw [e];rfl);subst this;exact⟨.inr rfl,ha,fun e=>(by cases e),by simp [hasB]⟩
theorem Xda {n:Int} {L L':List ThingD} (h:L'.map ThingD.of_=L.map ThingD.of_):Y6 n L'=Y6 n L:=by
 have e:∀ M:List ThingD,Y6 n M=(M.map ThingD.of_).all (fun o=>!(o==n)):=fun M=>by rw [List.all_map];rfl
 rw [e,e,h]
theorem Xb8.try1 {tm:Int} {s:VSt} {t:Xe} {q':List Xe} {it:Item} {tk:Bool} {n un:Nat} {L:List ThingD} {xs:List (List UInt8)} (h:Xb8 tm s (t :: q') L xs) (ok:Xx s.tks s.lks) (hQ:QOk tm s (t :: q')) (hs:Zr tm s t it tk n un) (hl:∀ u∈q',¬ ltT u t) :
  ∃ i th,L[i]? = some th/\Xf3 tm L xs=some i/\th.token=tk/\th.n=n/\Xb8 tm (it.app s) q' (L.set i (Ue tm th)) (xs ++ [th.id])/\Xb8 tm ((Item.gone tk n).app s) (q'++Jb ((Item.gone tk n).app s) tm un) (L.eraseIdx i) (xs ++ [th.id]):=by
 obtain⟨i,th,hi,ht,htk,hn,hof,hR1,hR2⟩:=hs.thing h.rel ok;have hth:=List.mem_of_getElem? hi
 have huq:∀ j u,L[j]? = some u->u.token=th.token->u.n=th.n->j=i:=fun j u hj e1 e2=>h.rel.idx ok hi hj e1 e2
 have hdue:V6 tm L xs th=true:=(h.full th hth).2 (by rw [ht];simp);obtain⟨hd1,hd2,hd3,hd4⟩:=Ub.1 hdue;obtain⟨nq1,nq2⟩:=List.nodup_cons.1 (by simpa using hQ.nd:((t.k,t.n) :: q'.map (fun t=>(t.k,t.n))).Nodup)
 have hnq:th.turn∉q':=fun hm=>nq1 (List.mem_map.2 ⟨th.turn,hm,by rw [ht]⟩)
 have hin:∀ u∈L,u≠th->(u.turn∈t :: q'↔u.turn∈q'):=fun u hu hne=>by
  rw [List.mem_cons]
  constructor
  ·rintro(e | e)
   ·exact absurd (Xd6 h.rel ok hth hu (by rw [e,ht])) hne
   exact e
  exact .inr
 refine⟨i,th,hi,Xtv hi hdue (fun u hu hp=>?_) huq,htk,hn,⟨hR1,fun u hu=>?_,fun u hu htok hb=>?_⟩,⟨hR2,fun u hu=>?_,fun u hu htok hb=>?_⟩⟩
 ·rw [Bool.eq_false_iff,Ne,Mz]
  have hm:=(h.full u hu).1 hp;rw [ht]
  rcases List.mem_cons.1 hm with e | e
  ·rw [e];unfold ltT;omega
  exact hl _ e
 ·have hfr:∀ m:Int,Y6 m (L.set i (Ue tm th))=Y6 m L:=fun m=>Xda (by
   rw [List.map_set]
   refine List.ext_getElem? fun j=>?_
   by_cases e:i=j
   ·subst e
    rw [List.getElem?_set_self (by simpa using(List.getElem?_eq_some_iff.1 hi).1),List.getElem?_map,hi];rfl
   rw [List.getElem?_set_ne e])
  rw [U2 hi huq] at hu;obtain⟨z,hz,rfl⟩:=List.mem_map.1 hu
  by_cases hk:Z1 th z=true
  ·rw [if_pos hk]
   have hz':z=th:=h.rel.Xkr ok hz hth (Ys.1 hk).1 (Ys.1 hk).2
   constructor
   ·intro hp
    have:=(Ub.1 hp).2.2.2;rw [Ur,show (Ue tm th).id=th.id from rfl] at this;simp at this
   intro hm;exact absurd (List.mem_map.2 ⟨_,hm,by rw [<- ht];rfl⟩:(t.k,t.n)∈q'.map (fun t=>(t.k,t.n))) nq1
  rw [if_neg hk]
  have hne:z≠th:=fun e=>hk (by rw [e];exact Ys.2 ⟨rfl,rfl⟩)
  rw [<- hin z hz hne,<- h.full z hz,Ub,Ub,hfr,Ur,Xm7 h.rel ok hth hz hne,Bool.or_false]
 ·have hfr:∀ m:Int,Y6 m (L.set i (Ue tm th))=Y6 m L:=fun m=>Xda (by
   rw [List.map_set]
   refine List.ext_getElem? fun j=>?_
   by_cases e:i=j
   ·subst e
    rw [List.getElem?_set_self (by simpa using(List.getElem?_eq_some_iff.1 hi).1),List.getElem?_map,hi];rfl
   rw [List.getElem?_set_ne e])
  rw [U2 hi huq] at hu;obtain⟨z,hz,rfl⟩:=List.mem_map.1 hu;rw [hfr]
  by_cases hk:Z1 th z=true
  ·rw [if_pos hk] at htok ⊢
   exact hd3 htok
  rw [if_neg hk] at htok hb ⊢
  have hne:z≠th:=fun e=>hk (by rw [e];exact Ys.2 ⟨rfl,rfl⟩)
  rw [Ur,Xm7 h.rel ok hth hz hne,Bool.or_false] at hb;exact h.tried z hz htok hb
 ·rw [Zl hi huq] at hu hR2 ⊢
  obtain⟨hz,hk⟩:=List.mem_filter.1 hu
  have hne:u≠th:=fun e=>by rw [e] at hk;simp [Z1] at hk
  have hmono:Y6 (u.n:Int) L=true->Y6 (u.n:Int) (L.filter fun z=>!Z1 th z)=true:=fun hf=>by
   unfold Y6 at hf ⊢;rw [List.all_eq_true] at hf ⊢
   exact fun z hz=>hf z (List.mem_filter.1 hz).1
  have hbk:u.n≠un->Y6 (u.n:Int) (L.filter fun z=>!Z1 th z)=true->Y6 (u.n:Int) L=true:=fun hnu hf=>by
   unfold Y6 at hf ⊢;rw [List.all_eq_true] at hf ⊢;intro z hz
   by_cases hkz:Z1 th z=true
   ·have hz':z=th:=h.rel.Xkr ok hz hth (Ys.1 hkz).1 (Ys.1 hkz).2
    rw [hz',hof];simp;omega
   exact hf z (List.mem_filter.2 ⟨hz,by simpa using hkz⟩)
  have hid:hasB (xs ++ [th.id]) u.id=hasB xs u.id:=by rw [Ur,Xm7 h.rel ok hth hz hne,Bool.or_false]
  rw [Ub,hid,List.mem_append]
  constructor
  ·rintro⟨h1,h2,h3,h4⟩
   by_cases hold:u.token=true->Y6 (u.n:Int) L=true
   ·exact .inl ((hin u hz hne).1 ((h.full u hz).1 (Ub.2 ⟨h1,h2,hold,h4⟩)))
   obtain⟨htok,hnf⟩:=Classical.not_imp.1 hold
   have hun:u.n=un:=Classical.byContradiction fun e=>hnf (hbk e (h3 htok))
   right
   obtain⟨p,hp,rfl⟩:=hR2.Zj hu htok;have hpn:p.n=un:=hun
   have hfind:((Item.gone tk n).app s).tks.find? (fun t=>t.n==un)=some p:=by
    cases hfd:((Item.gone tk n).app s).tks.find? (fun t=>t.n==un) with
    | none=>exact absurd (List.find?_eq_none.1 hfd p hp) (by simp [hpn])
    | some p2 =>
     have h5:=List.mem_of_find?_eq_some hfd
     have h6:p2.n=un:=by simpa using List.find?_some hfd
     have hinc:((Item.gone tk n).app s).tks.Pairwise (fun a b=>a.n<b.n):=by
      show (Yu tk n s.tks).Pairwise _
      unfold Yu
      split
      ·exact ok.incT.filter _
      exact ok.incT
     rw [Z5 (f:=Xd.n) hinc h5 hp (by omega)]
   have hpd:p.pd=true:=by
    rcases h1 with e | e
    ·exact e
    cases e
   have hfu:=h3 rfl;rw [show ((thT p).n:Int)=(p.n:Int) from rfl,hR2.free] at hfu
   have hc:(p.pd&&decide (p.at_<=tm) && !hasU ((Item.gone tk n).app s) p.n)=true:=by
    rw [hpd,hfu,decide_eq_true (show p.at_<=tm from h2)];rfl
   unfold Jb;rw [hfind];unfold hasU at hc;unfold Yv;simp only;rw [if_pos hc];exact List.mem_singleton.2 rfl
  rintro(hm | hm)
  ·obtain⟨h1,h2,h3,h4⟩:=Ub.1 ((h.full u hz).2 ((hin u hz hne).2 hm))
   exact⟨h1,h2,fun e=>hmono (h3 e),h4⟩
  unfold Jb at hm
  split at hm
  ·rename_i p hfd
   have h5:=List.mem_of_find?_eq_some hfd
   have h6:p.n=un:=by simpa using List.find?_some hfd
   obtain⟨e,hpd,hat,hnb⟩:=J6 hm;have hpL:=hR2.Vh h5;have hup:u=thT p:=Xd6 h.rel ok (List.mem_filter.1 hpL).1 hz (by rw [e];rfl);subst hup;refine⟨.inl hpd,hat,fun _=>by rw [show ((thT p).n:Int)=(p.n:Int) from rfl,hR2.free,hnb];rfl,?_⟩;rw [Bool.eq_false_iff];intro hb;have hf:=h.tried _ hz rfl hb;unfold Y6 at hf;rw [List.all_eq_true] at hf;have:=hf th hth;rw [hof] at this;simp [thT,h6] at this
  cases hm
 rw [Zl hi huq] at hu ⊢;obtain⟨hz,hk⟩:=List.mem_filter.1 hu
 have hne:u≠th:=fun e=>by rw [e] at hk;simp [Z1] at hk
 rw [Ur,Xm7 h.rel ok hth hz hne,Bool.or_false] at hb;have hf:=h.tried u hz htok hb;unfold Y6 at hf ⊢;rw [List.all_eq_true] at hf ⊢
 exact fun z hz=>hf z (List.mem_filter.1 hz).1
theorem Xb8.stop {tm:Int} {s:VSt} {L:List ThingD} {xs:List (List UInt8)} (h:Xb8 tm s [] L xs):Xf3 tm L xs=none:=
 Xoy fun u hu=>by
  rw [Bool.eq_false_iff];intro hp;exact absurd ((h.full u hu).1 hp) (by simp)
theorem Jn.lens {tm:Int} {a b:TS} (h:Jn tm a b) (ht:Jt a.s):b.s.tks.length<=a.s.tks.length/\b.s.lks.length<=a.s.lks.length:=by
 cases h with
 | fail hs hp hl ho hq =>
  cases hs with
  | tok t hm hk =>
   have:(Yh (Vb tm t) a.s.tks).length=a.s.tks.length:=J8 ht.incT hm rfl;simp only [Item.app];omega
  | lea t hm hk =>
   have:(Yc (U9 tm t) a.s.lks).length=a.s.lks.length:=Ua ht.incL hm rfl;simp only [Item.app];omega
 | @ok t q' q'' it tk n un hs hp hl ho hq =>
  have h1:(Yu tk n a.s.tks).length<=a.s.tks.length:=by unfold Yu;split;exact List.length_filter_le _ _;exact Nat.le_refl _
  have h2:(Y4 tk n a.s.lks).length<=a.s.lks.length:=by unfold Y4;split;exact Nat.le_refl _;exact List.length_filter_le _ _
  exact⟨h1,h2⟩
theorem Jn.strict {tm:Int} {a b:TS} (h:Jn tm a b) (ht:Jt a.s):b.q.length+(b.s.tks.length+b.s.lks.length)+1<=a.q.length+(a.s.tks.length+a.s.lks.length):=by
 cases h with
 | fail hs hp hl ho hq =>
  have h1:=hp.length_eq;have h2:=hq.length_eq;simp only [List.length_cons] at h1
  cases hs with
  | tok t hm hk =>
   have:(Yh (Vb tm t) a.s.tks).length=a.s.tks.length:=J8 ht.incT hm rfl;simp only [Item.app];omega
  | lea t hm hk =>
   have:(Yc (U9 tm t) a.s.lks).length=a.s.lks.length:=Ua ht.incL hm rfl;simp only [Item.app];omega
 | @ok t q' q'' it tk n un hs hp hl ho hq =>
  have h1:=hp.length_eq;have h2:=hq.length_eq
  have h3:(Jb ((Item.gone tk n).app a.s) tm un).length<=1:=by
   unfold Jb
   split
   ·unfold Yv;split <;> simp
   simp
  rw [List.length_append] at h2;simp only [List.length_cons] at h1
  cases hs with
  | tok t hm hk =>
   have:(a.s.tks.filter (fun x=>x.n != t.n)).length+1<=a.s.tks.length:=Ud _ hm (by simp);simp only [Item.app,Yu,Y4,Xbj,if_true];omega
  | lea t hm hk =>
   have:(a.s.lks.filter (fun x=>x.n != t.n)).length+1<=a.s.lks.length:=Ud _ hm (by simp);simp only [Item.app,Yu,Y4,Xbi,Bool.false_eq_true,if_false];omega
structure Bnd (s:VSt):Prop where
 ok:Xx s.tks s.lks
 nt:∀ x∈s.tks,x.n<=s.tn
 nl:∀ x∈s.lks,x.n<=s.ln
theorem Jn.bnd {tm:Int} {a b:TS} (h:Jn tm a b) (hb:Bnd a.s) (hT:Jt a.s) (hT':Jt b.s):Bnd b.s/\b.s.tn=a.s.tn/\b.s.ln=a.s.ln:=by
 have hl:=h.lens hT;have h1:=hb.ok
 cases h with
 | fail hs hp hl' ho hq =>
  cases hs with
  | tok t hm hk =>
   have en:max a.s.tn t.n=a.s.tn:=Nat.max_eq_left (hb.nt t hm);refine⟨⟨⟨Nat.le_trans hl.1 h1.lenT,Nat.le_trans hl.2 h1.lenL,hT'.incT,hT'.incL,fun x hx=>?_,h1.limL⟩,fun x hx=>?_,hb.nl⟩,en,rfl⟩
   ·rcases Zh hT.incT hx with rfl | hx
    ·exact h1.limT t hm
    exact h1.limT x hx
   show x.n<=max a.s.tn t.n
   rw [en]
   rcases Zh hT.incT hx with rfl | hx
   ·exact hb.nt t hm
   exact hb.nt x hx
  | lea t hm hk =>
   have en:max a.s.ln t.n=a.s.ln:=Nat.max_eq_left (hb.nl t hm);refine⟨⟨⟨Nat.le_trans hl.1 h1.lenT,Nat.le_trans hl.2 h1.lenL,hT'.incT,hT'.incL,h1.limT,fun x hx=>?_⟩,hb.nt,fun x hx=>?_⟩,rfl,en⟩
   ·rcases Jd hT.incL hx with rfl | hx
    ·exact h1.limL t hm
    exact h1.limL x hx
   show x.n<=max a.s.ln t.n
   rw [en]
   rcases Jd hT.incL hx with rfl | hx
   ·exact hb.nl t hm
   exact hb.nl x hx
 | ok hs hp hl' ho hq =>
  exact⟨⟨⟨Nat.le_trans hl.1 h1.lenT,Nat.le_trans hl.2 h1.lenL,hT'.incT,hT'.incL,fun x hx=>h1.limT x (Yz hx),fun x hx=>h1.limL x (Ze hx)⟩,fun x hx=>hb.nt x (Yz hx),fun x hx=>hb.nl x (Ze hx)⟩,rfl,rfl⟩
theorem Jv.head' {tm:Int} {a b:TS} (h:Jv tm a b):a=b\/∃ c,Jn tm a c/\Jv tm c b:=by
 induction h with
 | refl=>exact .inl rfl
 | step h h1 ih =>
  rcases ih with rfl | ⟨c,h2,h3⟩
  ·exact .inr ⟨_,h1,.refl _⟩
  exact .inr ⟨c,h2,.step h3 h1⟩
theorem Jn.Xuq {tm:Int} {a b:TS} (h:Jn tm a b):∃ k n,b.cl=a.cl ++ [(k,n)]:=by
 cases h with
 | fail hs hp hl ho hq=>exact⟨_,_,rfl⟩
 | ok hs hp hl ho hq=>exact⟨_,_,rfl⟩
theorem Jv.Xr9 {tm:Int} {a b:TS} (h:Jv tm a b):a.cl <+: b.cl:=by
 induction h with
 | refl=>exact List.prefix_refl _
 | step h h1 ih =>
  obtain⟨k,n,e⟩:=h1.Xuq;rw [e];exact ih.trans (List.prefix_append _ _)
structure Tk (tm:Int) (M:Int) (b a:TS) (L:List ThingD) (xs:List (List UInt8)):Prop where
 fwd:Jv tm a b
 bq:b.q = []
 go:Xa0 tm (M+a.cl.length) a
 bnd:Bnd a.s
 inv:Xb8 tm a.s a.q L xs
 hd:Uv L
 len:xs.length=a.cl.length
 old:∀ t∈a.s.tks,(t.n=0/\t.ak=0/\t.au=0)\/(t.ak=1/\t.au<t.n)
theorem Tk.step {tm M:Int} {b a:TS} {L:List ThingD} {xs:List (List UInt8)} (h:Tk tm M b a L xs) (hlt:a.cl.length<b.cl.length) :
  ∃ c i th k n,L[i]? = some th/\Xf3 tm L xs=some i/\b.cl[a.cl.length]? = some (k,n)/\th.id=nmStr k n/\0<i/\(th∈L/\0<=th.tries/\th.tries<=M+a.cl.length)/\c.fl=a.fl / 2/\c.cl.length=a.cl.length+1/\(c.s.tn=a.s.tn/\c.s.ln=a.s.ln/\c.s.tks.length<=a.s.tks.length/\c.s.lks.length<=a.s.lks.length)/\(((a.fl % 2==1)=true/\Tk tm M b c (L.set i (Ue tm th)) (xs ++ [th.id]))\/((a.fl % 2==1)=false/\Tk tm M b c (L.eraseIdx i) (xs ++ [th.id]))):=by
 rcases h.fwd.head' with rfl | ⟨c,h1,h2⟩
 ·omega
 obtain⟨hg,hcl⟩:=h1.going h.go
 have hg':Xa0 tm (M+c.cl.length) c:=by
  have e:M+((c.cl.length:Nat):Int)=M+(a.cl.length:Int)+1:=by rw [hcl];omega
  rw [e];exact hg
 obtain⟨hb,htn,hln⟩:=h1.bnd h.bnd h.go.tree hg.tree;have hlens:=h1.lens h.go.tree;have hold:=h1.old h.go.tree h.old;have hpre:=h2.Xr9
 have hxl:∀ th:ThingD,(xs ++ [th.id]).length=c.cl.length:=fun th=>by rw [List.length_append,h.len,hcl];rfl
 cases h1 with
 | @fail t q' q'' it tk n un hs hp hl ho hq =>
  obtain⟨i,th,hi,hdue,htk,hn,hT1,-⟩:=(h.inv.perm hp).try1 h.bnd.ok (h.go.q.perm hp) hs hl;have hm:=List.mem_of_getElem? hi
  have hnz:th.n≠0\/th.token=false:=by
   cases htk':th.token with
   | false=>exact .inr rfl
   | true =>
    left
    have hk:=hs.key;intro e0;exact(h.go.nz.perm hp) t (by simp) (by rw [hk.1,<- htk,htk'];rfl) (by rw [hk.2,<- hn,e0];rfl)
  have hi0:0<i:=by
   rcases Nat.eq_zero_or_pos i with rfl | hp0
   ·obtain⟨x,x1,x2,x3⟩:=h.hd
    rw [hi] at x1;cases x1
    rcases hnz with e | e
    ·exact absurd x3 e
    rw [x2] at e;cases e
   exact hp0
  have htr:0<=th.tries/\th.tries<=M+a.cl.length:=by
   cases htk':th.token with
   | true=>obtain⟨z,hz,rfl⟩:=h.inv.rel.Zj hm htk';exact h.go.tr.1 z hz
   | false=>obtain⟨z,hz,rfl⟩:=h.inv.rel.Mi hm htk';exact h.go.tr.2 z hz
  have hcn:b.cl[a.cl.length]? = some (kdB tk,n):=by
   obtain⟨r,hr⟩:=hpre;rw [<- hr];simp
  refine⟨_,i,th,kdB tk,n,hi,hdue,hcn,by rw [ThingD.U5,htk,hn];rfl,hi0,⟨hm,htr⟩,rfl,hcl,⟨htn,hln,hlens⟩,.inl ⟨ho,⟨h2,h.bq,hg',hb,hT1.perm hq,h.hd.set hi rfl rfl,hxl th,hold⟩⟩⟩
 | @ok t q' q'' it tk n un hs hp hl ho hq =>
  obtain⟨i,th,hi,hdue,htk,hn,-,hT2⟩:=(h.inv.perm hp).try1 h.bnd.ok (h.go.q.perm hp) hs hl;have hm:=List.mem_of_getElem? hi
  have hnz:th.n≠0\/th.token=false:=by
   cases htk':th.token with
   | false=>exact .inr rfl
   | true =>
    left
    have hk:=hs.key;intro e0;exact(h.go.nz.perm hp) t (by simp) (by rw [hk.1,<- htk,htk'];rfl) (by rw [hk.2,<- hn,e0];rfl)
  have hi0:0<i:=by
   rcases Nat.eq_zero_or_pos i with rfl | hp0
   ·obtain⟨x,x1,x2,x3⟩:=h.hd
    rw [hi] at x1;cases x1
    rcases hnz with e | e
    ·exact absurd x3 e
    rw [x2] at e;cases e
   exact hp0
  have htr:0<=th.tries/\th.tries<=M+a.cl.length:=by
   cases htk':th.token with
   | true=>obtain⟨z,hz,rfl⟩:=h.inv.rel.Zj hm htk';exact h.go.tr.1 z hz
   | false=>obtain⟨z,hz,rfl⟩:=h.inv.rel.Mi hm htk';exact h.go.tr.2 z hz
  have hcn:b.cl[a.cl.length]? = some (kdB tk,n):=by
   obtain⟨r,hr⟩:=hpre;rw [<- hr];simp
  refine⟨_,i,th,kdB tk,n,hi,hdue,hcn,by rw [ThingD.U5,htk,hn];rfl,hi0,⟨hm,htr⟩,rfl,hcl,⟨htn,hln,hlens⟩,.inr ⟨ho,⟨h2,h.bq,hg',hb,hT2.perm hq,h.hd.erase hi0,hxl th,hold⟩⟩⟩
theorem Tk.stop {tm M:Int} {b a:TS} {L:List ThingD} {xs:List (List UInt8)} (h:Tk tm M b a L xs) (he:¬ a.cl.length<b.cl.length):a=b/\Xf3 tm L xs=none:=by
 rcases h.fwd.head' with rfl | ⟨c,h1,h2⟩
 ·refine⟨rfl,Xb8.stop (s:=a.s) ?_⟩
  have:=h.inv;rw [h.bq] at this;exact this
 obtain⟨k,n,e⟩:=h1.Xuq;obtain⟨r,hr⟩:=h2.Xr9;rw [<- hr,e] at he;simp at he
theorem Tk.start {tm M:Int} {s:VSt} {fl:Int} {c:List UInt8} {b:TS} {L:List ThingD} {N:Nat} (hb:Jv tm ⟨s,s.tks.flatMap (Yv s tm)++s.lks.flatMap (Zw tm),fl,c,[]⟩ b) (hq:b.q = []) (ha:Z7 N s) (hM:M=((48*N:Nat):Int)) (hbn:Bnd s) (hr:Rel s.tks s.lks L) (hd:Uv L) (f0:0<=fl) (f1:fl<=18446744073709551615):Tk tm M b ⟨s,s.tks.flatMap (Yv s tm)++s.lks.flatMap (Zw tm),fl,c,[]⟩ L []:=
 ⟨hb,hq,by
  rw [hM]
  exact⟨ha.tree,QOk.start ha.tree,QNz.start ha.tree,by simpa using ha.tr,f0,f1⟩,hbn,Xb8.start hr hbn.ok,hd,rfl,ha.old⟩
theorem Jv.most {tm M:Int} {a b:TS} (h:Jv tm a b) (hg:Xa0 tm M a):(∃ M',Xa0 tm M' b)/\b.cl.length+(b.q.length+(b.s.tks.length+b.s.lks.length))<=a.cl.length+(a.q.length+(a.s.tks.length+a.s.lks.length)):=by
 induction h with
 | refl=>exact⟨⟨M,hg⟩,Nat.le_refl _⟩
 | step h h1 ih =>
  obtain⟨⟨M',hg'⟩,hle⟩:=ih;obtain⟨hg2,hcl⟩:=h1.going hg';have:=h1.strict hg'.tree;exact⟨⟨_,hg2⟩,by omega⟩
end Go.Proofs
namespace Go.Proofs
open Go.RowKit Go.Sort Go.Lib Go.Shelf
theorem V0 (a b:List ThingD):X9 (a++b)=X9 a++X9 b:=by simp [X9]
theorem Xk2 {L:List ThingD} (i:Nat) {j:Nat} {u:Value} (h:(X9 (L.take i))[j]? = some u):(X9 L)[j]? = some u:=by
 have hj:=(List.getElem?_eq_some_iff.1 h).1;rw [<- List.take_append_drop i L,V0,List.getElem?_append_left hj];exact h
theorem Xmn {L:List ThingD} {i:Nat} (hi:i<=L.length) {j:Nat} {u:Value} (h:(X9 (L.drop i))[j]? = some u):(X9 L)[i*8+j]? = some u:=by
 have e:(X9 (L.take i)).length=i*8:=by rw [Z4,List.length_take];congr 1;omega
 rw [<- List.take_append_drop i L,V0,List.getElem?_append_right (by omega),e,show i*8+j-i*8=j by omega];exact h
theorem Xgt {B vb g g1:Nat} {w w1 w2:World} (hB:B<=w.heap.size) (hvB:B<=vb) (h1:w.grownBy w1 (Value.slice none 0 0).ownBlock) (hg:w.heap.size<=g1) (h2:w1.grownBy w2 (some g1)) (v:Value) :
  Below B w (w2.setCell ⟨vb,0,none⟩ v)/\Spares [vb,g] w (w2.setCell ⟨vb,0,none⟩ v):=by
 have hk:∀ k,k<w.heap.size->w2.heap[k]? = w.heap[k]?:=fun k hk=>(h2.block k (Nat.lt_of_lt_of_le hk h1.size) (by intro e;injection e with e;omega)).trans (h1.block k hk (by simp [Value.ownBlock]))
 have b:Below w.heap.size w w2:=⟨h2.os.trans h1.os,h2.tape.trans h1.tape,h2.output.trans h1.output,Nat.le_trans h1.size h2.size,hk⟩
 exact⟨(b.mono hB).setCell (p:=⟨vb,0,none⟩) hvB v,(Spares.of_below b).set (by simp) _ _⟩
theorem Tryz.Xk.Xsb {B:Nat} {w w2:World} {vb g cap g2 cap2 len1 i:Nat} {L:List ThingD} {tm tn ln:Int} {xs:List Value} {sv:Value} (h:Xk B w vb g cap L tm tn ln) (hB:B<=w.heap.size) (hle:(L.eraseIdx i).length=len1) (hx:xs=X9 (L.eraseIdx i))
  (bV:BoxN w2 vb 108 #[sv,.int .u64 tm,.int .i64 tn,.int .i64 ln]) (hown:w2.ownsRow w.heap.size 105 8 (.slice (some ⟨g2,0,none⟩) len1 cap2) len1 xs) (hne:vb≠g2) :
  Xk B (w2.setCell ⟨vb,0,none⟩ (.slice (some ⟨g2,0,none⟩) len1 cap2)) vb g2 cap2 (L.eraseIdx i) tm tn ln:=by
 subst hx;subst hle;refine⟨bV.set 0 _,?_,?_,fun x hx=>h.num x (List.mem_of_mem_eraseIdx hx),fun x hx=>h.ofs x (List.mem_of_mem_eraseIdx hx)⟩
 ·have hr:=hown.kept (grownBy_setCell' w2 vb (.slice (some ⟨g2,0,none⟩) (L.eraseIdx i).length cap2)) (.inr (by simp [Value.ownBlock];omega))
  obtain⟨h2,⟨e1,-⟩ | ⟨g',cap',cur,e1,e2,e3⟩⟩:=hr
  ·cases e1
  cases e1;exact⟨h2,.inr ⟨g2,cap2,cur,rfl,Nat.le_trans hB e2,e3⟩⟩
 have:=h.lim;have:=List.length_eraseIdx_le L i;omega
theorem Xdc {vb g n:Nat} (hl:vb<n) (h:(Value.slice none 0 0).ownBlock=some g\/g=n):vb≠g:=by
 rcases h with h | h
 ·cases h
 omega
theorem Tryz.Xgk (B:Nat) (vb g cap:Nat) (L:List ThingD) (tm tn ln:Int) (w:World) (h:Xk B w vb g cap L tm tn ln) (hB:B<=w.heap.size) (hvB:B<=vb) (i:Nat) (hi0:0<i) (hil:i<L.length) :
  Calls prog 107 #[.pointer (some ⟨vb,0,none⟩),.int .i64 i,.bool true] w fun e w'=>∃ g' cap',e=.returned (.tuple #[])/\Xk B w' vb g' cap' (L.eraseIdx i) tm tn ln/\w.heap.size<=g'/\Below B w w'/\Spares [vb,g] w w':=by
 obtain⟨i0,hi,hz0,hz1,hz2⟩:=info_parts Xan;have hlim:=h.lim;have lg:=h.glt;have lv:=h.v.lt;have v0:=h.v.cell 0 (v:=.slice (some ⟨g,0,none⟩) L.length cap) rfl
 have hcap:L.length<=cap:=by
  obtain⟨-,⟨e1,-⟩ | ⟨g',cap',cur,e1,e2,e3,e4,e5,e6,e7⟩⟩:=h.row
  ·cases e1
  cases e1;first | exact e4 | exact e5 | omega
 have hcs:=h.row.cells (g:=g) rfl
 have n1:∀ j u,(X9 (L.take i))[j]? = some u->w.cell? ((⟨g,0,none⟩:Addr).add j)=some u:=fun j u hu=>hcs j u (Xk2 i hu)
 have n2:∀ j u,(X9 (L.drop (i+1)))[j]? = some u->w.cell? ((⟨g,(i+1)*8,none⟩:Addr).add j)=some u:=fun j u hu=>by
  have:=hcs _ u (Xmn (by omega) hu);rw [Lib.add_plain] at this ⊢
  simpa using this
 have l1:(X9 (L.take i)).length=i*8:=by rw [Z4,List.length_take];congr 1;omega
 have l2:(X9 (L.drop (i+1))).length=(L.length-(i+1))*8:=by rw [Z4,List.length_drop]
 have N1:=Xb n1;have N2:=Xb n2;have L1:=Xb l1;have L2:=Xb l2
 have N3:=Xb (fun(w1:World) (hg:w.grownBy w1 (Value.slice none 0 0).ownBlock) (j:Nat) (u:Value) (hu:(X9 (L.drop (i+1)))[j]? = some u)=>show w1.cell? ((⟨g,(i+1)*8,none⟩:Addr).add j)=some u from by
  have e:=n2 j u hu;rw [Lib.add_plain] at e ⊢
  exact(hg.cell_far _ lg (by simp [Value.ownBlock])).trans e)
 clear n1 n2 l1 l2 hcs
 obtain⟨len,hlen⟩:∃ len,L.length=len:=⟨_,rfl⟩
 rw [hlen] at hil hlim v0 hcap L2;have Hlen:=Xb hlen
 obtain⟨len1,hl1⟩:∃ len1,len=len1+1:=⟨len-1,by omega⟩
 have Hl1:=Xb hl1;clear hl1;clear hlen;have hle:Hid ((L.eraseIdx i).length=len1):=Xb (by rw [List.length_eraseIdx_of_lt (by rw [Xa Hlen];omega),Xa Hlen];have:=Xa Hl1;omega);have hfe:Hid (X9 (L.take i)++X9 (L.drop (i+1))=X9 (L.eraseIdx i)):=Xb (by rw [List.eraseIdx_eq_take_drop_succ,V0])
 by_cases hc:cap=i+1
 ·have hli:len=i+1:=by omega
  have hdn:Hid (X9 (L.drop (i+1)) = []):=Xb (by rw [List.drop_of_length_le (by rw [Xa Hlen];omega)];rfl);subst hc;subst hli;go_enter func107,ntmps107
  go_wp2_with (first
   | (at_builtin;refine wpList_append_lies _ rfl _ _ 106 rfl w.heap.size 105 i0 _ 8 72 underlying106 hi hz0 hz1 hz2 rfl (by decide) (.slice none 0 0) 0 [] rfl (World.ownsRow_nil _ _ _ _) ⟨g,0,none⟩ i (i+1) (X9 (L.take i)) rfl (Xa L1) (Xa N1) (Xam _) hi0 (by unfold maxLen;omega) (by omega) (Nat.le_refl _) _ rfl ?_;intro g1 cap1 w1 hown1 hgr1 hat1 hlt1;have bV1:=h.v.kept hgr1 (by simp [Value.ownBlock]);have d0:=bV1.cell 0 (v:=.slice (some ⟨g,0,none⟩) (i+1) (i+1)) (by rw [Xa Hlen];rfl);have Ho1:=Xb (show w1.ownsRow w.heap.size 105 8 (.slice (some ⟨g1,0,none⟩) i cap1) i (X9 (L.take i)) by simpa using hown1);have hvg1:vb≠g1:=Xdc lv hat1;have Hg1:=Xb hgr1;clear hown1 hgr1 hat1)
   | (at_builtin;refine wpList_append_own _ rfl _ _ 106 rfl w.heap.size 105 i0 _ 8 72 underlying106 hi hz0 hz1 hz2 rfl (by decide) (.slice (some ⟨g1,0,none⟩) i cap1) i _ rfl (Xa Ho1) ⟨g,0,none⟩ 0 0 [] rfl (by simp) (fun j u hu=>by simp at hu) (by simp) (by unfold maxLen;omega) (by omega) (Xa Hg1).size ?_;intro v2 w2 hown2 hgr2 hn2;clear hn2;rw [show i+0=len1 by have:=Xa Hl1;omega] at hown2;obtain⟨g2,cap2,rfl,hb2,hlt2⟩:=hown2.form (by have:=Xa Hl1;omega);have bV2:=bV1.kept hgr2 (by simpa [Value.ownBlock] using hvg1);have d2:=bV2.cell 0 (v:=.slice (some ⟨g,0,none⟩) (i+1) (i+1)) (by rw [Xa Hlen];rfl);have fz2:=bV2.frozen 0;have Ho2:=Xb hown2;have Hg2:=Xb hgr2;have HV2:=Xb bV2;clear hown2 hgr2 bV2))
  have hg1:=((Xa Ho1).lt g1 rfl).1
  have hvg2:vb≠g2:=by omega
  exact bodyPost_ret (v:=.tuple #[]) (by simp [results,results107,go_sem]) rfl ⟨g2,cap2,rfl,h.Xsb hB (Xa hle) (by rw [<- Xa hfe,Xa hdn]) (Xa HV2) (Xa Ho2) hvg2,hb2,Xgt hB hvB (Xa Hg1) hg1 (Xa Hg2) _⟩
 have hc':¬ i+1=cap:=by omega
 go_enter func107,ntmps107
 go_wp2_with (first
  | (at_builtin;refine wpList_append_lies _ rfl _ _ 106 rfl w.heap.size 105 i0 _ 8 72 underlying106 hi hz0 hz1 hz2 rfl (by decide) (.slice none 0 0) 0 [] rfl (World.ownsRow_nil _ _ _ _) ⟨g,0,none⟩ i cap (X9 (L.take i)) rfl (Xa L1) (Xa N1) (Xam _) hi0 (by unfold maxLen;omega) (by omega) (Nat.le_refl _) _ rfl ?_;intro g1 cap1 w1 hown1 hgr1 hat1 hlt1;have bV1:=h.v.kept hgr1 (by simp [Value.ownBlock]);have d0:=bV1.cell 0 (v:=.slice (some ⟨g,0,none⟩) len cap) (by rw [Xa Hlen];rfl);have Ho1:=Xb (show w1.ownsRow w.heap.size 105 8 (.slice (some ⟨g1,0,none⟩) i cap1) i (X9 (L.take i)) by simpa using hown1);have hvg1:vb≠g1:=Xdc lv hat1;have Hg1:=Xb hgr1;clear hown1 hgr1 hat1)
  | (at_builtin;refine wpList_append_own _ rfl _ _ 106 rfl w.heap.size 105 i0 _ 8 72 underlying106 hi hz0 hz1 hz2 rfl (by decide) (.slice (some ⟨g1,0,none⟩) i cap1) i _ rfl (Xa Ho1) ⟨g,(i+1)*8,none⟩ (len-(i+1)) (cap-(i+1)) (X9 (L.drop (i+1))) rfl (Xa L2) (Xa N3 w1 (Xa Hg1)) (Xam _) (by unfold maxLen;omega) (by omega) (Xa Hg1).size ?_;intro v2 w2 hown2 hgr2 hn2;clear hn2;rw [show i+(len-(i+1))=len1 by have:=Xa Hl1;omega] at hown2;obtain⟨g2,cap2,rfl,hb2,hlt2⟩:=hown2.form (by have:=Xa Hl1;omega);have bV2:=bV1.kept hgr2 (by simpa [Value.ownBlock] using hvg1);have d2:=bV2.cell 0 (v:=.slice (some ⟨g,0,none⟩) len cap) (by rw [Xa Hlen];rfl);have fz2:=bV2.frozen 0;have Ho2:=Xb hown2;have Hg2:=Xb hgr2;have HV2:=Xb bV2;clear hown2 hgr2 bV2))
 have hg1:=((Xa Ho1).lt g1 rfl).1
 have hvg2:vb≠g2:=by omega
 exact bodyPost_ret (v:=.tuple #[]) (by simp [results,results107,go_sem]) rfl ⟨g2,cap2,rfl,h.Xsb hB (Xa hle) (Xa hfe) (Xa HV2) (Xa Ho2) hvg2,hb2,Xgt hB hvB (Xa Hg1) hg1 (Xa Hg2) _⟩
end Go.Proofs
