import Derived.Test.YtjbekgjdempbiaaGreatDoorJQueA
import Derived.Test.YtjbekgjdempbiaaGreatDoorJStr
import Derived.BigQuiet
import Derived.BigRegion
import Derived.WalkMore
import Derived.Deep.RegionHeld3
import Derived.Laws.OwnMore
import Derived.Test.YtjbekgjdempbiaaGreatDoorJPutL
import Derived.Test.YtjbekgjdempbiaaGreatDoorJRefG
import Derived.Deep.RegionHeldLaw
import Derived.Deep.RegionLaw
import Derived.Deep.AppendLies
import Derived.ScopeJumps
set_option maxRecDepth 100000
set_option maxHeartbeats 8000000
namespace Go.Proofs
open Go.RowKit Go.Sort
def ltT (x y:Xe):Prop:=x.at_<y.at_\/(x.at_=y.at_/\(y.k<x.k\/(x.k=y.k/\x.n<y.n)))
instance (x y:Xe):Decidable (ltT x y):=by unfold ltT;exact inferInstance
theorem Xfg {a b:Int}:cmpI a b<0↔a<b:=by
 unfold cmpI
 split <;> (try split) <;> omega
theorem Xgq {a b:Int}:cmpI a b=0↔a=b:=by
 unfold cmpI
 split <;> (try split) <;> omega
theorem Xjg (x y:Xe):cmpT x y<0↔ltT x y:=by
 unfold cmpT ltT orI;have h1:=@Xfg x.at_ y.at_;have h2:=@Xgq x.at_ y.at_;have h3:=@Xfg y.k x.k;have h4:=@Xgq y.k x.k;have h5:=@Xfg x.n y.n
 split
 ·split
  ·omega
  omega
 omega
theorem Xnt (x:Xe):¬ ltT x x:=by unfold ltT;omega
theorem Xgw {x y z:Xe} (h:ltT x y) (h':ltT y z):ltT x z:=by unfold ltT at *;omega
theorem Xn8 {x y:Xe} (h:ltT x y):¬ ltT y x:=by unfold ltT at *;omega
def leT (x y:Xe):Prop:=¬ ltT y x
theorem M2 (x:Xe):leT x x:=Xnt x
theorem Xaq {x y z:Xe} (h:leT x y) (h':leT y z):leT x z:=by unfold leT ltT at *;omega
theorem Jg {x y:Xe} (h:ltT x y):leT x y:=Xn8 h
abbrev par (i:Nat):Nat:=(i-1) / 2
def getT (xs:List Xe) (i:Nat):Xe:=xs.getD i ⟨0,0,0⟩
theorem Xai {xs:List Xe} {i:Nat} {t:Xe} (h:xs[i]? = some t):getT xs i=t:=by
 unfold getT;simp [List.getD,h]
theorem Jh {xs:List Xe} {i:Nat} (h:i<xs.length):xs[i]? = some (getT xs i):=by
 unfold getT;simp [List.getD,h]
def swapT (xs:List Xe) (i j:Nat):List Xe:=(xs.set i (getT xs j)).set j (getT xs i)
theorem Y3 (xs:List Xe) (i j:Nat):(swapT xs i j).length=xs.length:=by simp [swapT]
theorem Zb {xs:List Xe} {i j:Nat} (hi:i<xs.length) (hj:j<xs.length) (k:Nat):getT (swapT xs i j) k=if k=j then getT xs i else if k=i then getT xs j else getT xs k:=by
 have key:(swapT xs i j)[k]? = if k=j then some (getT xs i) else if k=i then some (getT xs j) else xs[k]?:=by
  unfold swapT;rw [List.getElem?_set,List.getElem?_set];simp only [List.length_set]
  by_cases e1:j=k
  ·subst e1
   simp [hj]
  by_cases e2:i=k
  ·subst e2
   simp [e1,hi,Ne.symm e1]
  simp [e1,e2,Ne.symm e1,Ne.symm e2]
 unfold getT at key ⊢;rw [List.getD_eq_getElem?_getD,key]
 split
 ·rfl
 split
 ·rfl
 rw [List.getD_eq_getElem?_getD]
theorem Xbc {xs:List Xe} {i j:Nat} (hi:i<xs.length) (hj:j<xs.length):(swapT xs i j).Perm xs:=by
 unfold swapT;have e1:getT xs j=xs[j]:=Xai (by simp [hj]);have e2:getT xs i=xs[i]:=Xai (by simp [hi]);rw [e1,e2];exact List.set_set_perm hi hj
def Xay (xs:List Xe):Prop:=∀ i,0<i->i<xs.length->leT (getT xs (par i)) (getT xs i)
theorem Xay.root {xs:List Xe} (h:Xay xs):∀ i,i<xs.length->leT (getT xs 0) (getT xs i):=by
 intro i
 induction i using Nat.strongRecOn with
 | ind i ih =>
  intro hi
  by_cases h0:i=0
  ·subst h0;exact M2 _
  exact Xaq (ih (par i) (by unfold par;omega) (by unfold par;omega)) (h i (by omega) hi)
theorem Xro:Xay []:=fun i _ h=>by simp at h
structure RiseH (xs:List Xe) (a:Nat):Prop where
 lt:a<xs.length
 h1:∀ i,0<i->i<xs.length->i≠a->leT (getT xs (par i)) (getT xs i)
 h2:∀ i,0<i->i<xs.length->par i=a->0<a->leT (getT xs (par a)) (getT xs i)
theorem RiseH.start {xs:List Xe} (h:Xay xs) (t:Xe):RiseH (xs ++ [t]) xs.length:=by
 have hg:∀ i,i<xs.length->getT (xs ++ [t]) i=getT xs i:=fun i hi=>by
  unfold getT;rw [List.getD_eq_getElem?_getD,List.getD_eq_getElem?_getD,List.getElem?_append_left hi]
 refine⟨by simp,fun i h0 hi hne=>?_,fun i h0 hi hp _=>?_⟩
 ·have:i<xs.length:=by simp at hi;omega
  rw [hg i this,hg (par i) (by unfold par;omega)];exact h i h0 this
 simp at hi;unfold par at hp;omega
theorem RiseH.done {xs:List Xe} {a:Nat} (h:RiseH xs a) (hs:¬ ltT (getT xs a) (getT xs (par a))):Xay xs:=fun i h0 hi=>by
 by_cases e:i=a
 ·subst e;exact hs
 exact h.h1 i h0 hi e
theorem RiseH.step {xs:List Xe} {a:Nat} (h:RiseH xs a) (ha:0<a) (hs:ltT (getT xs a) (getT xs (par a))):RiseH (swapT xs (par a) a) (par a):=by
 have hal:=h.lt
 have hpl:par a<xs.length:=by unfold par;omega
 have hpa:par a≠a:=by unfold par;omega
 refine⟨by rw [Y3];exact hpl,fun i h0 hi hne=>?_,fun i h0 hi hp h0p=>?_⟩
 ·rw [Y3] at hi
  rw [Zb hpl hal,Zb hpl hal]
  by_cases e:i=a
  ·subst e
   rw [if_neg hpa,if_pos rfl,if_pos rfl];exact Jg hs
  rw [if_neg e,if_neg hne]
  by_cases ep:par i=a
  ·rw [if_pos ep]
   exact h.h2 i h0 hi ep ha
  rw [if_neg ep]
  by_cases eq:par i=par a
  ·rw [if_pos eq]
   have:=h.h1 i h0 hi e;rw [eq] at this;exact Xaq (Jg hs) this
  rw [if_neg eq];exact h.h1 i h0 hi e
 rw [Y3] at hi;rw [Zb hpl hal,Zb hpl hal]
 have e1:par (par a)≠a:=by unfold par;omega
 have e2:par (par a)≠par a:=by unfold par at *;omega
 rw [if_neg e1,if_neg e2];have hup:=h.h1 (par a) h0p hpl hpa
 by_cases e:i=a
 ·subst e
  rw [if_pos rfl];exact hup
 rw [if_neg e]
 have hip:i≠par a:=by unfold par at *;omega
 rw [if_neg hip];have:=h.h1 i h0 hi e;rw [hp] at this;exact Xaq hup this
structure Xbq (xs:List Xe) (a:Nat):Prop where
 h1:∀ i,0<i->i<xs.length->par i≠a->leT (getT xs (par i)) (getT xs i)
 h2:∀ i,0<i->i<xs.length->par i=a->0<a->leT (getT xs (par a)) (getT xs i)
def leastT (xs:List Xe) (f:Nat):List Nat->Nat
 | []=>f
 | p :: ps=>leastT xs (if p<xs.length/\ltT (getT xs p) (getT xs f) then p else f) ps
theorem Xhe {xs:List Xe} {a:Nat}:(leT (getT xs (leastT xs a [2*a+1,2*a+2])) (getT xs a))/\(2*a+1<xs.length->leT (getT xs (leastT xs a [2*a+1,2*a+2])) (getT xs (2*a+1)))/\(2*a+2<xs.length->leT (getT xs (leastT xs a [2*a+1,2*a+2])) (getT xs (2*a+2))):=by
 simp only [leastT]
 by_cases c1:2*a+1<xs.length/\ltT (getT xs (2*a+1)) (getT xs a)
 ·rw [if_pos c1]
  by_cases c2:2*a+2<xs.length/\ltT (getT xs (2*a+2)) (getT xs (2*a+1))
  ·rw [if_pos c2]
   exact⟨Jg (Xgw c2.2 c1.2),fun _=>Jg c2.2,fun _=>M2 _⟩
  rw [if_neg c2];exact⟨Jg c1.2,fun _=>M2 _,fun h h'=>c2 ⟨h,h'⟩⟩
 rw [if_neg c1]
 by_cases c2:2*a+2<xs.length/\ltT (getT xs (2*a+2)) (getT xs a)
 ·rw [if_pos c2]
  exact⟨Jg c2.2,fun h=>Xaq (Jg c2.2) (fun h'=>c1 ⟨h,h'⟩),fun _=>M2 _⟩
 rw [if_neg c2];exact⟨M2 _,fun h h'=>c1 ⟨h,h'⟩,fun h h'=>c2 ⟨h,h'⟩⟩
theorem Xle {xs:List Xe} {a:Nat}:leastT xs a [2*a+1,2*a+2]=a\/((leastT xs a [2*a+1,2*a+2]=2*a+1\/leastT xs a [2*a+1,2*a+2]=2*a+2)/\leastT xs a [2*a+1,2*a+2] < xs.length/\ltT (getT xs (leastT xs a [2*a+1,2*a+2])) (getT xs a)):=by
 simp only [leastT]
 by_cases c1:2*a+1<xs.length/\ltT (getT xs (2*a+1)) (getT xs a)
 ·rw [if_pos c1]
  by_cases c2:2*a+2<xs.length/\ltT (getT xs (2*a+2)) (getT xs (2*a+1))
  ·rw [if_pos c2]
   exact .inr ⟨.inr rfl,c2.1,Xgw c2.2 c1.2⟩
  rw [if_neg c2];exact .inr ⟨.inl rfl,c1⟩
 rw [if_neg c1]
 by_cases c2:2*a+2<xs.length/\ltT (getT xs (2*a+2)) (getT xs a)
 ·rw [if_pos c2]
  exact .inr ⟨.inr rfl,c2⟩
 rw [if_neg c2];exact .inl rfl
theorem Xbq.done {xs:List Xe} {a:Nat} (h:Xbq xs a) (hs:leastT xs a [2*a+1,2*a+2]=a):Xay xs:=fun i h0 hi=>by
 by_cases e:par i=a
 ·obtain⟨-,l1,l2⟩:=@Xhe xs a
  rw [hs] at l1 l2;rw [e]
  have:i=2*a+1\/i=2*a+2:=by unfold par at e;omega
  rcases this with rfl | rfl
  ·exact l1 hi
  exact l2 hi
 exact h.h1 i h0 hi e
theorem Xbq.step {xs:List Xe} {a:Nat} (h:Xbq xs a) (hs:leastT xs a [2*a+1,2*a+2]≠a):a<leastT xs a [2*a+1,2*a+2]/\leastT xs a [2*a+1,2*a+2] < xs.length/\Xbq (swapT xs (leastT xs a [2*a+1,2*a+2]) a) (leastT xs a [2*a+1,2*a+2]):=by
 obtain⟨-,l1,l2⟩:=@Xhe xs a;obtain⟨hm,hl,hlt⟩:=(@Xle xs a).resolve_left hs;generalize leastT xs a [2*a+1,2*a+2]=c at *
 have hac:a<c:=by omega
 have hal:a<xs.length:=by omega
 have hpc:par c=a:=by unfold par;omega
 refine⟨hac,hl,fun i h0 hi hne=>?_,fun i h0 hi hp h0c=>?_⟩
 ·rw [Y3] at hi
  rw [Zb hl hal,Zb hl hal]
  by_cases e:i=a
  ·subst e
   have e1:par i≠i:=by unfold par;omega
   have e2:par i≠c:=hne;rw [if_neg e1,if_neg e2,if_pos rfl];exact h.h2 c (by omega) hl hpc (by omega)
  rw [if_neg e]
  by_cases ep:par i=a
  ·rw [if_pos ep]
   by_cases ec:i=c
   ·rw [if_pos ec]
    exact Jg hlt
   rw [if_neg ec]
   have:i=2*a+1\/i=2*a+2:=by unfold par at ep;omega
   rcases this with rfl | rfl
   ·exact l1 hi
   exact l2 hi
  rw [if_neg ep,if_neg hne]
  have ec:i≠c:=fun e'=>ep (by rw [e'];exact hpc)
  rw [if_neg ec];exact h.h1 i h0 hi ep
 rw [Y3] at hi;rw [Zb hl hal,Zb hl hal,hpc,if_pos rfl]
 have e1:i≠a:=by unfold par at hp;omega
 have e2:i≠c:=by unfold par at hp;omega
 rw [if_neg e1,if_neg e2];have:=h.h1 i h0 hi (by omega);rw [hp] at this;exact this
theorem Xbq.start {xs:List Xe} (h:Xay xs):Xbq ((swapT xs 0 (xs.length-1)).take (xs.length-1)) 0:=by
 refine⟨fun i h0 hi hne=>?_,fun i h0 hi hp h00=>by omega⟩
 have hi':i<xs.length-1:=by
  rw [List.length_take,Y3] at hi;omega
 have hg:∀ k,k<xs.length-1->getT ((swapT xs 0 (xs.length-1)).take (xs.length-1)) k=getT (swapT xs 0 (xs.length-1)) k:=fun k hk=>by
  unfold getT;rw [List.getD_eq_getElem?_getD,List.getD_eq_getElem?_getD,List.getElem?_take,if_pos hk]
 rw [hg i hi',hg (par i) (by unfold par;omega)];rw [Zb (by omega) (by omega),Zb (by omega) (by omega)]
 have e1:par i≠xs.length-1:=by unfold par;omega
 rw [if_neg e1,if_neg hne,if_neg (by omega),if_neg (by omega)];exact h i h0 (by omega)
theorem Xc9 (xs:List Xe) (p:Nat):∀(os:List Nat) (f:Nat),leastT xs f (os ++ [p])=if p<xs.length/\ltT (getT xs p) (getT xs (leastT xs f os)) then p else leastT xs f os
 | [],f=>rfl
 | q :: os,f=>by
  simp only [List.cons_append,leastT];exact Xc9 xs p os _
theorem Xcv {xs:List Xe}:∀ {os:List Nat} {f:Nat},f<xs.length->leastT xs f os<xs.length
 | [],f,h=>h
 | q :: os,f,h=>by
  simp only [leastT]
  by_cases c:q<xs.length/\ltT (getT xs q) (getT xs f)
  ·rw [if_pos c];exact Xcv c.1
  rw [if_neg c];exact Xcv h
structure Tryz.QP (vb g cap:Nat) (xs:List Xe) (W:World):Prop where
 c:W.cell? ⟨vb,8,none⟩=some (.slice (some ⟨g,0,none⟩) xs.length cap)
 r:∀ i t,xs[i]? = some t->W.cell? ⟨g,i*3,none⟩=some (.int .u64 t.at_)/\W.cell? ⟨g,i*3+1,none⟩=some (.int .i64 t.k)/\W.cell? ⟨g,i*3+2,none⟩=some (.int .u64 t.n)
theorem My {W W':World} (h:Below W.heap.size W W') {a:Addr} {v:Value} (hc:W.cell? a=some v):W'.cell? a=some v:=
 (h.cell (World.block_lt_of_cell? W a hc)).trans hc
theorem Tryz.QP.below {vb g cap:Nat} {xs:List Xe} {W W':World} (h:QP vb g cap xs W) (hb:Below W.heap.size W W'):QP vb g cap xs W':=
 ⟨My hb h.c,fun i t ht=>by obtain⟨a,b,c⟩:=h.r i t ht;exact⟨My hb a,My hb b,My hb c⟩⟩
abbrev Tryz.Q2P (vb g cap n i j:Nat) (x y:Xe) (W:World):Prop:=
 W.cell? ⟨vb,8,none⟩=some (.slice (some ⟨g,0,none⟩) n cap)/\(W.cell? ⟨g,i*3,none⟩=some (.int .u64 x.at_)/\W.cell? ⟨g,i*3+1,none⟩=some (.int .i64 x.k)/\W.cell? ⟨g,i*3+2,none⟩=some (.int .u64 x.n))/\(W.cell? ⟨g,j*3,none⟩=some (.int .u64 y.at_)/\W.cell? ⟨g,j*3+1,none⟩=some (.int .i64 y.k)/\W.cell? ⟨g,j*3+2,none⟩=some (.int .u64 y.n))
theorem Tryz.QP.two {vb g cap i j:Nat} {x y:Xe} {xs:List Xe} {W:World} (h:QP vb g cap xs W) (hi:xs[i]? = some x) (hj:xs[j]? = some y):Q2P vb g cap xs.length i j x y W:=⟨h.c,h.r i x hi,h.r j y hj⟩
theorem Tryz.Xq2 (vb g cap ob:Nat) (xs:List Xe) (f:Nat) (os:List Nat) (w:World) (hQ:QP vb g cap xs w) (hO:∀ j p:Nat,os[j]? = some p->w.cell? ⟨ob,j,none⟩=some (.int .i64 (p:Int))) (hf:f<xs.length\/∀ p∈os,xs.length<=p) (hol:os.length<=10) (hop:∀ p∈os,p<=3000) :
  Calls prog 133 #[.pointer (some ⟨vb,8,none⟩),.int .i64 f,.slice (some ⟨ob,0,none⟩) os.length os.length] w fun e w'=>e=.returned (.int .i64 (leastT xs f os:Nat))/\Below w.heap.size w w':=by
 obtain⟨len,hlen⟩:∃ len,os.length=len:=⟨_,rfl⟩
 rw [hlen] at hol ⊢;have Hlen:=Xb hlen;clear hlen
 obtain⟨n,hnn⟩:∃ n,xs.length=n:=⟨_,rfl⟩
 have Hn:=Xb hnn;clear hnn;go_enter func133,ntmps133;go_wp2
 go_loopw [7,13] (fun l i wr=>∃ k ll:Nat,k<=len/\i=.int .i64 k/\l=.int .i64 ll/\Hid (ll=leastT xs f (os.take k))/\Below w.heap.size w wr) (fun _ i _=>len-(intOf i).toNat)
 case atStart=>exact⟨0,f,Nat.zero_le _,rfl,rfl,Xb rfl,Below.refl _ _⟩
 case round =>
  obtain⟨k,ll,hk,rfl,rfl,hll,hBw⟩:=hrel
  by_cases hkl:k<len
  ·obtain⟨p,hp⟩:∃ p,os[k]? = some p:=⟨os[k]'(by have:=Xa Hlen;omega),by have:=Xa Hlen;simp [this,hkl]⟩
   have ho:=cell_later hBw (hO k p hp);have hp3:=hop p (List.mem_of_getElem? hp);have hsn:=Xb (Xc9 xs p (os.take k) f);have htk:Hid (os.take (k+1)=os.take k ++ [p]):=Xb (by rw [List.take_add_one,hp];rfl);have hQw:=hQ.below hBw;have hc8:=hQw.c;rw [Xa Hn] at hc8
   by_cases hpn:p<n
   ·have hlx:ll<n:=by
     rw [Xa hll,<- Xa Hn];exact Xcv (hf.resolve_right (fun h=>by have:=h p (List.mem_of_getElem? hp);have:=Xa Hn;omega))
    obtain⟨x,hx⟩:∃ x,xs[p]? = some x:=⟨getT xs p,Jh (by rw [Xa Hn];exact hpn)⟩
    obtain⟨y,hy⟩:∃ y,xs[ll]? = some y:=⟨getT xs ll,Jh (by rw [Xa Hn];exact hlx)⟩
    have hq2:=hQw.two hx hy;rw [Xa Hn] at hq2
    have hC:=fun W=>Xt4 x y W
    have hm:=fun W=>Xjh x W
    have hres:Hid (leastT xs f (os.take (k+1))=if cmpT x y<0 then p else ll):=Xb (by
     rw [Xa htk,Xa hsn,<- Xa hll,Xai hx,Xai hy]
     by_cases hc:ltT x y
     ·rw [if_pos ⟨by rw [Xa Hn];exact hpn,hc⟩,if_pos ((Xjg x y).2 hc)]
     rw [if_neg (fun h=>hc h.2),if_neg (fun h=>hc ((Xjg x y).1 h))])
    obtain⟨c,hcc⟩:∃ c,cmpT x y=c:=⟨_,rfl⟩
    rw [hcc] at hres;simp only [hcc] at hC;obtain⟨x1,x2,x3⟩:=x;obtain⟨y1,y2,y3⟩:=y;simp only [Xe.cells,Q2P] at hC hm hq2
    have hpi:(p:Int)<(n:Int):=by omega
    have hp0:(0:Int)<=(p:Int):=by omega
    have hli:(ll:Int)<(n:Int):=by omega
    have hl0:(0:Int)<=(ll:Int):=by omega
    have hq3:Q2P vb g cap n p ll ⟨x1,x2,x3⟩ ⟨y1,y2,y3⟩ wr.drew:=hq2;clear hcc hx hy hQw hc8 hp hsn htk hO hop hQ hf hq2
    go_wp2_with fail
    have hd1:decide ((p:Int)<(n:Int))=true:=decide_eq_true hpi
    go_region_held3 (Q2P vb g cap n p ll ⟨x1,x2,x3⟩ ⟨y1,y2,y3⟩) (first
     | with_reducible exact hq3
     | with_reducible exact hq5
     | with_reducible assumption) (first
     | (go_at_call 337;refine(hC _).mono ?_;rintro e w5 ⟨rfl,hg5⟩;have hb5:Below wr.heap.size wr w5:=((Below.refl _ wr).drew).trans (Xp.below hg5);have hq5:Q2P vb g cap n p ll ⟨x1,x2,x3⟩ ⟨y1,y2,y3⟩ w5:=⟨My hb5 hq3.1,⟨My hb5 hq3.2.1.1,My hb5 hq3.2.1.2.1,My hb5 hq3.2.1.2.2⟩,⟨My hb5 hq3.2.2.1,My hb5 hq3.2.2.2.1,My hb5 hq3.2.2.2.2⟩⟩))
    have hB5:=hBw.trans (hb5.mono hBw.size);clear hq5 hq3 hC hm
    by_cases hc0:c<0
    ·rw [if_pos hc0] at hres
     go_wp2;exact⟨⟨k+1,p,by omega,rfl,rfl,Xb (Xa hres).symm,hB5⟩,by simp [intOf];omega⟩
    rw [if_neg hc0] at hres;go_wp2;exact⟨⟨k+1,ll,by omega,rfl,rfl,Xb (Xa hres).symm,hB5⟩,by simp [intOf];omega⟩
   have hpi:¬ (p:Int)<(n:Int):=by omega
   have hres:Hid (leastT xs f (os.take (k+1))=ll):=Xb (by
    rw [Xa htk,Xa hsn,if_neg (fun h=>hpn (by have:=h.1;rw [Xa Hn] at this;exact this)),<- Xa hll])
   clear hsn htk hO hop hQ hf hQw hp
   go_wp2_with fail
   go_quiet (fail);go_wp2;exact⟨⟨k+1,ll,by omega,rfl,rfl,Xb (Xa hres).symm,below_drewN hBw _⟩,by simp [intOf];omega⟩
  obtain rfl:k=len:=by omega
  have hta:os.take k=os:=List.take_of_length_le (by have:=Xa Hlen;omega);rw [hta] at hll;go_wp2;go_ret;exact⟨Yw (by rw [Xa hll]),hBw⟩
def Yj (xs:List Xe):List Value:=xs.flatMap fun x=>x.cells.toList
theorem Z1 (xs:List Xe):(Yj xs).length=xs.length*3:=by
 induction xs with
 | nil=>rfl
 | cons x xs ih=>simp only [Yj,List.flatMap_cons,List.length_append,List.length_cons] at ih ⊢;rw [ih];simp [Xe.cells];omega
theorem Xas:∀(xs:List Xe) (k j:Nat) (t:Xe),xs[k]? = some t->j<3->(Yj xs)[k*3+j]? = t.cells[j]?
 | [],_,_,_,h,_=>by simp at h
 | x :: xs,0,j,t,h,hj=>by
  obtain rfl:x=t:=by simpa using h
  show (x.cells.toList++Yj xs)[0*3+j]? = _
  rw [List.getElem?_append_left (by simp [Xe.cells];omega)];simp
 | x :: xs,k+1,j,t,h,hj=>by
  show (x.cells.toList++Yj xs)[(k+1)*3+j]? = _
  rw [List.getElem?_append_right (by simp [Xe.cells];omega),show x.cells.toList.length=3 from rfl,show (k+1)*3+j-3=k*3+j by omega];exact Xas xs k j t (by simpa using h) hj
theorem Vq:∀(xs:List Xe) (k:Nat) (t:Xe),k<xs.length->Yj (xs.set k t)=(((Yj xs).set (k*3) (.int .u64 t.at_)).set (k*3+1) (.int .i64 t.k)).set (k*3+2) (.int .u64 t.n)
 | [],_,_,h=>by simp at h
 | x :: xs,0,t,h=>by
  show t.cells.toList++Yj xs=(((x.cells.toList++Yj xs).set 0 _).set 1 _).set 2 _
  rfl
 | x :: xs,k+1,t,h=>by
  have ih:=Vq xs k t (by simpa using h)
  show x.cells.toList++Yj (xs.set k t)=(((x.cells.toList++Yj xs).set ((k+1)*3) _).set ((k+1)*3+1) _).set ((k+1)*3+2) _
  rw [ih,List.set_append_right _ _ (by simp [Xe.cells];omega),List.set_append_right _ _ (by simp [Xe.cells];omega),List.set_append_right _ _ (by simp [Xe.cells];omega)];rw [show x.cells.toList.length=3 from rfl,show (k+1)*3-3=k*3 by omega,show (k+1)*3+1-3=k*3+1 by omega,show (k+1)*3+2-3=k*3+2 by omega]
theorem Xev {xs:List Xe} {i:Nat} (hi:i<xs.length):swapT xs i i=xs:=by
 unfold swapT;have e2:getT xs i=xs[i]:=Xai (by simp [hi]);rw [List.set_set,e2];exact List.set_getElem_self hi
theorem Up {w:World} {B g n cap:Nat} {e:TypeId} {xs:List Xe} (h:w.ownsRow B e 3 (.slice (some ⟨g,0,none⟩) n cap) n (Yj xs)) {i:Nat} {t:Xe} (hi:xs[i]? = some t):w.cell? ⟨g,i*3,none⟩=some (.int .u64 t.at_)/\w.cell? ⟨g,i*3+1,none⟩=some (.int .i64 t.k)/\w.cell? ⟨g,i*3+2,none⟩=some (.int .u64 t.n):=by
 have hn:n=xs.length:=by have:=h.1;rw [Z1] at this;omega
 have hil:i<xs.length:=(List.getElem?_eq_some_iff.1 hi).1;refine⟨?_,?_,?_⟩
 ·rw [h.cellAt (i*3) (by omega)];exact Xas xs i 0 t hi (by omega)
 ·rw [h.cellAt (i*3+1) (by omega)];exact Xas xs i 1 t hi (by omega)
 rw [h.cellAt (i*3+2) (by omega)];exact Xas xs i 2 t hi (by omega)
theorem Tryz.Xtw (B vb g cap n:Nat) (xs:List Xe) (i j:Nat) (w:World) (c8:w.cell? ⟨vb,8,none⟩=some (.slice (some ⟨g,0,none⟩) n cap)) (hrow:w.ownsRow B 144 3 (.slice (some ⟨g,0,none⟩) n cap) n (Yj xs)) (hi:i<xs.length) (hj:j<xs.length) (hne:i≠j) :
  Calls prog 132 #[.pointer (some ⟨vb,8,none⟩),.int .i64 i,.int .i64 j] w fun e w'=>e=.returned (.tuple #[])/\w'.ownsRow B 144 3 (.slice (some ⟨g,0,none⟩) n cap) n (Yj (swapT xs i j))/\Spares [g] w w':=by
 have hn:n=xs.length:=by have:=hrow.1;rw [Z1] at this;omega
 obtain⟨x,hx⟩:∃ x,getT xs i=x:=⟨_,rfl⟩
 obtain⟨y,hy⟩:∃ y,getT xs j=y:=⟨_,rfl⟩
 obtain⟨t0,t1,t2⟩:=Up hrow (hx ▸ Jh hi);obtain⟨s0,s1,s2⟩:=Up hrow (hy ▸ Jh hj)
 have hfl:Hid (Yj (swapT xs i j)=((((((Yj xs).set (i*3) (.int .u64 y.at_)).set (i*3+1) (.int .i64 y.k)).set (i*3+2) (.int .u64 y.n)).set (j*3) (.int .u64 x.at_)).set (j*3+1) (.int .i64 x.k)).set (j*3+2) (.int .u64 x.n)):=Xb (by
  unfold swapT
  rw [hx,hy,Vq _ j x (by simpa using hj),Vq xs i y hi])
 have f0:=fun o=>hrow.frozenAt o
 obtain⟨x1,x2,x3⟩:=x;obtain⟨y1,y2,y3⟩:=y;simp only at t0 t1 t2 s0 s1 s2 hfl;have HR:=Xb hrow;clear hrow hx hy
 have hii:(i:Int)<(n:Int):=by omega
 have hjj:(j:Int)<(n:Int):=by omega
 have hi0:(0:Int)<=(i:Int):=by omega
 have hj0:(0:Int)<=(j:Int):=by omega
 have n1:i*3≠j*3:=by omega
 have n2:i*3≠j*3+1:=by omega
 have n3:i*3≠j*3+2:=by omega
 have n4:i*3+1≠j*3:=by omega
 have n5:i*3+1≠j*3+1:=by omega
 have n6:i*3+1≠j*3+2:=by omega
 have n7:i*3+2≠j*3:=by omega
 have n8:i*3+2≠j*3+1:=by omega
 have n9:i*3+2≠j*3+2:=by omega
 clear hn hi hj hne;go_enter func132,ntmps132
 go_region
 go_end0
 have hrow:=Xa HR;have r1:=(hrow.stored (i*3) (.int .u64 y1)).1;have r2:=(r1.stored (i*3+1) (.int .i64 y2)).1;have r3:=(r2.stored (i*3+2) (.int .u64 y3)).1;have r4:=(r3.stored (j*3) (.int .u64 x1)).1;have r5:=(r4.stored (j*3+1) (.int .i64 x2)).1;have r6:=(r5.stored (j*3+2) (.int .u64 x3)).1;have hs:Spares [g] w w:=Spares.of_below (Below.refl _ _);rw [<- Xa hfl] at r6;exact⟨rfl,r6.drew,((((((hs.set (by simp) _ _).set (by simp) _ _).set (by simp) _ _).set (by simp) _ _).set (by simp) _ _).set (by simp) _ _).drew⟩
theorem Tryz.Xtc (B vb g cap n:Nat) (xs:List Xe) (i:Nat) (w:World) (c8:w.cell? ⟨vb,8,none⟩=some (.slice (some ⟨g,0,none⟩) n cap)) (hrow:w.ownsRow B 144 3 (.slice (some ⟨g,0,none⟩) n cap) n (Yj xs)) (hi:i<xs.length) :
  Calls prog 132 #[.pointer (some ⟨vb,8,none⟩),.int .i64 i,.int .i64 i] w fun e w'=>e=.returned (.tuple #[])/\w'.ownsRow B 144 3 (.slice (some ⟨g,0,none⟩) n cap) n (Yj xs)/\Spares [g] w w':=by
 have hn:n=xs.length:=by have:=hrow.1;rw [Z1] at this;omega
 obtain⟨x,hx⟩:∃ x,getT xs i=x:=⟨_,rfl⟩
 obtain⟨t0,t1,t2⟩:=Up hrow (hx ▸ Jh hi)
 have hfl:Hid (((((((Yj xs).set (i*3) (.int .u64 x.at_)).set (i*3+1) (.int .i64 x.k)).set (i*3+2) (.int .u64 x.n)).set (i*3) (.int .u64 x.at_)).set (i*3+1) (.int .i64 x.k)).set (i*3+2) (.int .u64 x.n)=Yj xs):=Xb (by
  have h:=Xev hi;unfold swapT at h;rw [hx] at h
  rw [<- Vq xs i x hi,<- Vq _ i x (by simpa using hi),h])
 have f0:=fun o=>hrow.frozenAt o
 obtain⟨x1,x2,x3⟩:=x;simp only at t0 t1 t2 hfl;have HR:=Xb hrow;clear hrow hx
 have hii:(i:Int)<(n:Int):=by omega
 have hi0:(0:Int)<=(i:Int):=by omega
 have n4:i*3+1≠i*3:=by omega
 have n7:i*3+2≠i*3:=by omega
 have n8:i*3+2≠i*3+1:=by omega
 clear hn hi;go_enter func132,ntmps132
 go_region
 go_end0
 have hrow:=Xa HR;have r1:=(hrow.stored (i*3) (.int .u64 x1)).1;have r2:=(r1.stored (i*3+1) (.int .i64 x2)).1;have r3:=(r2.stored (i*3+2) (.int .u64 x3)).1;have r4:=(r3.stored (i*3) (.int .u64 x1)).1;have r5:=(r4.stored (i*3+1) (.int .i64 x2)).1;have r6:=(r5.stored (i*3+2) (.int .u64 x3)).1;have hs:Spares [g] w w:=Spares.of_below (Below.refl _ _);rw [Xa hfl] at r6;exact⟨rfl,r6.drew,((((((hs.set (by simp) _ _).set (by simp) _ _).set (by simp) _ _).set (by simp) _ _).set (by simp) _ _).set (by simp) _ _).drew⟩
theorem Tryz.Xre (B vb g cap n:Nat) (xs:List Xe) (i j:Nat) (w:World) (c8:w.cell? ⟨vb,8,none⟩=some (.slice (some ⟨g,0,none⟩) n cap)) (hrow:w.ownsRow B 144 3 (.slice (some ⟨g,0,none⟩) n cap) n (Yj xs)) (hi:i<xs.length) (hj:j<xs.length) :
  Calls prog 132 #[.pointer (some ⟨vb,8,none⟩),.int .i64 i,.int .i64 j] w fun e w'=>e=.returned (.tuple #[])/\w'.ownsRow B 144 3 (.slice (some ⟨g,0,none⟩) n cap) n (Yj (swapT xs i j))/\Spares [g] w w':=by
 by_cases h:i=j
 ·subst h
  rw [Xev hi];exact Xtc B vb g cap n xs i w c8 hrow hi
 exact Xtw B vb g cap n xs i j w c8 hrow hi hj h
theorem Xh5 (a b:List Xe):Yj (a++b)=Yj a++Yj b:=by simp [Yj]
theorem Xls (xs:List Xe) (k:Nat):Yj (xs.take k)=(Yj xs).take (k*3):=by
 induction xs generalizing k with
 | nil=>simp [Yj]
 | cons x xs ih =>
  cases k with
  | zero=>simp [Yj]
  | succ k =>
   rw [List.take_succ_cons]
   show x.cells.toList++Yj (xs.take k)=(x.cells.toList++Yj xs).take ((k+1)*3)
   rw [ih,List.take_append,show x.cells.toList.length=3 from rfl,show (k+1)*3-3=k*3 by omega,List.take_of_length_le (l:=x.cells.toList) (by rw [show x.cells.toList.length=3 from rfl];omega)]
theorem Mz {w:World} {g o vb i:Nat} {v:Value} (h:vb≠g):(w.setCell ⟨g,o,none⟩ v).cell? ⟨vb,i,none⟩=w.cell? ⟨vb,i,none⟩:=World.cell?_of_block (Yt _ _ _ _ _ h)
theorem Xua {w:World} {B g n cap:Nat} {e:TypeId} {ys zs:List Value} (h:w.ownsRow B e 3 (.slice (some ⟨g,0,none⟩) (n+1) cap) (n+1) ys) (hz:zs=ys.take (n*3)):w.ownsRow B e 3 (.slice (some ⟨g,0,none⟩) n cap) n zs:=by
 obtain⟨h1,⟨e1,-⟩ | ⟨g',cap',cur,e1,e2,e3,e4,e5,e6,e7⟩⟩:=h
 ·cases e1
 cases e1;refine⟨by rw [hz,List.length_take];omega,.inr ⟨g,cap,cur,rfl,e2,e3,by omega,e5,e6,?_⟩⟩;rw [hz,<- e7,List.take_take,show min (n*3) ((n+1)*3)=n*3 by omega]
theorem Tryz.qCut (B vb g cap n:Nat) (xs:List Xe) (w:World) (c8:w.cell? ⟨vb,8,none⟩=some (.slice (some ⟨g,0,none⟩) (n+1) cap)) (f8:w.frozen? ⟨vb,8,none⟩=false) (hrow:w.ownsRow B 144 3 (.slice (some ⟨g,0,none⟩) (n+1) cap) (n+1) (Yj xs)) (hne:vb≠g) (hcap:n+1<=cap) (hmx:cap<=9223372036854775807) :
  Calls prog 129 #[.pointer (some ⟨vb,8,none⟩),.int .i64 n] w fun e w'=>e=.returned (.tuple #[])/\∃ w1,w1.ownsRow B 144 3 (.slice (some ⟨g,0,none⟩) n cap) n (Yj (xs.take n))/\w.grownBy w1 (some g)/\w'=w1.setCell ⟨vb,8,none⟩ (.slice (some ⟨g,0,none⟩) n cap):=by
 have hn:n+1=xs.length:=by have:=hrow.1;rw [Z1] at this;omega
 obtain⟨t0,t1,t2⟩:=Up hrow (Jh (show n<xs.length by omega))
 have f0:=fun o=>hrow.frozenAt o
 generalize getT xs n=t at *;obtain⟨x1,x2,x3⟩:=t;simp only at t0 t1 t2
 have n4:n*3+1≠n*3:=by omega
 have n7:n*3+2≠n*3:=by omega
 have n8:n*3+2≠n*3+1:=by omega
 have hcl:(Builtin.clear_ #[122] 0 #[.slice (some ⟨g,n*3,none⟩) 1 (cap-n)]).run prog w=.ok (.tuple #[]) (((w.setCell ⟨g,n*3,none⟩ (.int .u64 0)).setCell ⟨g,n*3+1,none⟩ (.int .i64 0)).setCell ⟨g,n*3+2,none⟩ (.int .u64 0)):=by
  have hz:(Builtin.zeroCells #[Value.int .u64 0,.int .i64 0,.int .u64 0] 1).toList = [.int .u64 0,.int .i64 0,.int .u64 0]:=by kernel_rfl
  simp [Builtin.clear_,run_underlying underlying122,zeroValue144,hz,Value.cells,storeCells,go_sem,Addr.add,t0,t1,t2,f0]
 have HR:=Xb hrow;clear hrow
 have c8':(((w.setCell ⟨g,n*3,none⟩ (.int .u64 0)).setCell ⟨g,n*3+1,none⟩ (.int .i64 0)).setCell ⟨g,n*3+2,none⟩ (.int .u64 0)).cell? ⟨vb,8,none⟩=some (.slice (some ⟨g,0,none⟩) (n+1) cap):=by
  rw [Mz hne,Mz hne,Mz hne];exact c8
 have f8':(((w.setCell ⟨g,n*3,none⟩ (.int .u64 0)).setCell ⟨g,n*3+1,none⟩ (.int .i64 0)).setCell ⟨g,n*3+2,none⟩ (.int .u64 0)).frozen? ⟨vb,8,none⟩=false:=by
  rw [World.frozen?_setCell,World.frozen?_setCell,World.frozen?_setCell];exact f8
 clear hn
 have i0:(0:Int)<=(n:Int):=by omega
 have i1:(n:Int)<=(n:Int)+1:=by omega
 have i2:(n:Int)+1<=(cap:Int):=by omega
 have i3:(n:Int)<=(cap:Int):=by omega
 go_enter func129,ntmps129;go_wp2
 go_end0
 have hrow:=Xa HR;have r1:=hrow.stored (n*3) (.int .u64 0);have r2:=r1.1.stored (n*3+1) (.int .i64 0);have r3:=r2.1.stored (n*3+2) (.int .u64 0);refine⟨rfl,_,Xua r3.1 ?_,?_,rfl⟩
 ·rw [Xls]
  have hl:=Z1 xs;simp only [List.take_set];rw [List.set_eq_of_length_le (by simp [List.length_take];omega),List.set_eq_of_length_le (by simp [List.length_take];omega),List.set_eq_of_length_le (by simp [List.length_take];omega)]
 exact(r1.2.andThen r2.2 (fun j e=>.inr e)).andThen r3.2 (fun j e=>.inr e)
theorem Tryz.Xsp (vb:Nat) (v:Value) (w:World) (hv:v=.slice none 0 0\/∃ g cap,v=.slice (some ⟨g,0,none⟩) 0 cap) (c7:w.cell? ⟨vb,8,none⟩=some v) (f7:w.frozen? ⟨vb,8,none⟩=false) :
  Calls prog 129 #[.pointer (some ⟨vb,8,none⟩),.int .i64 0] w fun e w'=>e=.returned (.tuple #[])/\w'=w.setCell ⟨vb,8,none⟩ v:=by
 rcases hv with rfl | ⟨g,cap,rfl⟩
 ·have hcl:(Builtin.clear_ #[122] 0 #[.slice none 0 0]).run prog w=.ok (.tuple #[]) w:=by simp [Builtin.clear_,run_underlying underlying122,go_sem]
  go_enter func129,ntmps129;go_wp2
  go_end0
  exact⟨rfl,rfl⟩
 have hcl:(Builtin.clear_ #[122] 0 #[.slice (some ⟨g,0,none⟩) 0 cap]).run prog w=.ok (.tuple #[]) w:=by simp [Builtin.clear_,run_underlying underlying122,go_sem]
 go_enter func129,ntmps129;go_wp2
 go_end0
 exact⟨rfl,rfl⟩
theorem Tryz.Xog (vb:Nat) (v:Value) (w:World) (hv:v=.slice none 0 0\/∃ g cap,v=.slice (some ⟨g,0,none⟩) 0 cap) (c7:w.cell? ⟨vb,8,none⟩=some v) (f7:w.frozen? ⟨vb,8,none⟩=false) :
  Calls prog 74 #[.pointer (some ⟨vb,8,none⟩)] w fun e w'=>e=.returned (.tuple #[])/\w'=w.setCell ⟨vb,8,none⟩ v:=by
 go_enter func74,ntmps74
 go_wp2_with (go_at_call 129;refine(Xsp vb v _ hv c7 f7).mono ?_;rintro e w1 ⟨rfl,rfl⟩)
 go_end0
 exact⟨rfl,rfl⟩
end Go.Proofs
namespace Go.Proofs
open Go.RowKit Go.Sort Go.Lib Go.Shelf
theorem M1 {P:Program} {a:Act} {w:World} {Q:Exit->Act->World->Prop} {c rest:Code} (l:Nat) (J:Act->World->Prop) (μ:Act->World->Nat) (hf:findLabel c l=some (Code.skip.seq rest))
  (pass:∀ a w,J a w->rest.wp P (Exit.jump l (fun a' w'=>J a' w'/\μ a' w'<μ a w) Q) a w)
  (first:(∀ a w,J a w->rest.wp P (Exit.jump l J Q) a w)->c.wp P (Exit.jump l J Q) a w):(Code.scope c).wp P Q a w:=
 wp_scope_jumps l J μ hf (first (fun a w h=>wp_mono (pass a w h) (fun e a w hq=>by
  cases e <;> first | exact hq | exact⟨hq.1,hq.2.1⟩))) (fun a w h=>wp_seq (wp_skip (pass a w h)))
theorem Tryz.Xq9:(prog.info? 144).map (fun i=>(i.zero,i.size,i.bytes))=some (some (.agg #[.int .u64 0,.int .i64 0,.int .u64 0]),3,24):=by kernel_rfl
theorem Vw (w:World) (B i:Nat) (v:Value):w.grownBy (w.setCell ⟨B,i,none⟩ v) (some B):=⟨rfl,rfl,rfl,by simp,fun k _ hne=>Yt _ _ _ _ _ (fun e=>hne (by rw [e]))⟩
theorem Spares.Xaw {bs:List Nat} {W W':World} {row:Option Nat} (h:W.grownBy W' row) (hb:∀ b,row=some b->b∈bs):Spares bs W W':=⟨h.os,h.tape,h.output,h.size,fun k hk hn=>h.block k hk (fun e=>hn (hb k e.symm))⟩
theorem Spares.Xsl {bs:List Nat} {W W' W'':World} {g:Nat} (h:Spares bs W W') (h':Spares [g] W' W'') (hg:g∈bs\/W.heap.size<=g):Spares bs W W'':=
 ⟨h'.os.trans h.os,h'.tape.trans h.tape,h'.output.trans h.output,Nat.le_trans h.size h'.size,fun k hk hn=>(h'.block k (Nat.lt_of_lt_of_le hk h.size) (fun e=>by
  have e2:=List.mem_singleton.1 e;subst e2
  rcases hg with hg | hg
  ·exact hn hg
  omega)).trans (h.block k hk hn)⟩
structure Tryz.QV (B vb:Nat) (cs:Array Value) (g cap:Nat) (ys:List Xe) (W:World):Prop where
 v:BoxN W vb 126 (cs.setIfInBounds 8 (.slice (some ⟨g,0,none⟩) ys.length cap))
 row:W.ownsRow B 144 3 (.slice (some ⟨g,0,none⟩) ys.length cap) ys.length (Yj ys)
 h8:8<cs.size
theorem Tryz.QV.ne {B vb:Nat} {cs:Array Value} {g cap:Nat} {ys:List Xe} {W:World} (h:QV B vb cs g cap ys W):vb≠g:=by
 obtain⟨h1,⟨e1,-⟩ | ⟨g',cap',cur,e1,e2,e3,-⟩⟩:=h.row
 ·cases e1
 cases e1;exact h.v.ne (cs':=cur) e3 (by decide)
theorem Tryz.QV.cell {B vb:Nat} {cs:Array Value} {g cap:Nat} {ys:List Xe} {W:World} (h:QV B vb cs g cap ys W):W.cell? ⟨vb,8,none⟩=some (.slice (some ⟨g,0,none⟩) ys.length cap):=
 h.v.cell 8 (by rw [Array.getElem?_setIfInBounds_self_of_lt h.h8])
theorem Tryz.QV.qp {B vb:Nat} {cs:Array Value} {g cap:Nat} {ys:List Xe} {W:World} (h:QV B vb cs g cap ys W):QP vb g cap ys W:=⟨h.cell,fun _ _ ht=>Up h.row ht⟩
theorem Tryz.QV.below {B vb:Nat} {cs:Array Value} {g cap:Nat} {ys:List Xe} {W W':World} (h:QV B vb cs g cap ys W) (hb:Below W.heap.size W W'):QV B vb cs g cap ys W':=⟨h.v.below hb h.v.lt,ownsRow_below h.row hb,h.h8⟩
theorem Tryz.QV.swapped {B vb:Nat} {cs:Array Value} {g cap:Nat} {ys zs:List Xe} {W W':World} (h:QV B vb cs g cap ys W) (hs:Spares [g] W W') (hl:zs.length=ys.length) (hr:W'.ownsRow B 144 3 (.slice (some ⟨g,0,none⟩) ys.length cap) ys.length (Yj zs)):QV B vb cs g cap zs W':=by
 refine⟨?_,?_,h.h8⟩
 ·rw [hl];exact hs.box h.v (by simpa using h.ne)
 rw [hl];exact hr
theorem oneI (W:World) (t:TypeId) (p:Nat):∀ j q:Nat,[p][j]? = some q->(W.alloc (.cells #[.int .i64 (p:Int)] t)).cell? ⟨W.heap.size,j,none⟩=some (.int .i64 (q:Int)):=fun j q hq=>by
 cases j with
 | succ j=>simp at hq
 | zero =>
  obtain rfl:p=q:=by simpa using hq
  exact(BoxN.new W t #[.int .i64 (p:Int)]).cell 0 rfl
def Tryz.RiseJ (B vb:Nat) (cs:Array Value) (w:World) (bs:List Nat) (x1 x2 x3:Int) (zs:List Xe) (gq:Nat->Prop) (act:Act) (W:World):Prop:=
 ∃(a g cap:Nat) (ys:List Xe) (u5 u6 u7 u8 u9 u10 u11 u12 u13 u14 u15 u16 u17 u18 u19 u20 u21 u22 u23 u24 u25 u26 u27 u28 u29 u30 u31 u32 u33 u34 u35 u36:Value),act = { tmps:=#[.pointer (some ⟨vb,8,none⟩),.agg #[.int .u64 x1,.int .i64 x2,.int .u64 x3],undef,.pointer (some ⟨w.heap.size,0,none⟩),.int .i64 (a:Int),u5,u6,u7,u8,u9,u10,u11,u12,u13,u14,u15,u16,u17,u18,u19,u20,u21,u22,u23,u24,u25,u26,u27,u28,u29,u30,u31,u32,u33,u34,u35,u36],defers:=[] }/\RiseH ys a/\ys.Perm zs/\QV B vb cs g cap ys W/\gq g/\Spares bs w W
theorem Tryz.Xul (B vb:Nat) (v:Value) (n:Nat) (xs:List Xe) (cs:Array Value) (t:Xe) (w:World) (hV:BoxN w vb 126 cs) (h8:cs[8]? = some v) (hrow:w.ownsRow B 144 3 v n (Yj xs)) (hH:Xay xs) (hB:B<=w.heap.size) (hn:n<=100) :
  Calls prog 131 #[.pointer (some ⟨vb,8,none⟩),.agg t.cells] w fun e w'=>e=.returned (.tuple #[])/\∃ g cap ys,QV B vb cs g cap ys w'/\Xay ys/\ys.Perm (xs ++ [t])/\(v.ownBlock=some g\/w.heap.size<=g)/\Spares (vb :: v.ownBlock.toList) w w':=by
 obtain⟨i0,hi,hz0,hz1,hz2⟩:=info_parts Xq9
 have hnx:n=xs.length:=by have:=hrow.1;rw [Z1] at this;omega
 have Hnx:=Xb hnx;have h8s:8<cs.size:=(Array.getElem?_eq_some_iff.1 h8).1;have hnr:=hV.not_row (e:=144) (by decide) hrow;obtain⟨x1,x2,x3⟩:=t;simp only [Xe.cells];have bV:=hV.alloc (.cells #[.int .u64 x1,.int .i64 x2,.int .u64 x3] 144);have bT:=BoxN.new w 144 #[.int .u64 x1,.int .i64 x2,.int .u64 x3];have hr:=hrow.alloc (.cells #[.int .u64 x1,.int .i64 x2,.int .u64 x3] 144)
 have hs9:(w.alloc (.cells #[.int .u64 x1,.int .i64 x2,.int .u64 x3] 144)).heap.size=w.heap.size+1:=by simp
 have hP9:Spares (vb :: v.ownBlock.toList) w (w.alloc (.cells #[.int .u64 x1,.int .i64 x2,.int .u64 x3] 144)):=(Spares.of_below (Below.refl _ w)).alloc _;have lv:=hV.lt;clear hnx;go_enter func131,ntmps131
 go_wp2_with fail
 refine M1 0 (RiseJ B vb cs w (vb :: v.ownBlock.toList) x1 x2 x3 (xs ++ [⟨x1,x2,x3⟩]) (fun g=>v.ownBlock=some g\/w.heap.size<=g)) (fun a _=>(intOf (a.tmps.getD 4 undef)).toNat) rfl ?pass ?first
 case pass =>
  rintro _ W ⟨a,g,cap,ys,u5,u6,u7,u8,u9,u10,u11,u12,u13,u14,u15,u16,u17,u18,u19,u20,u21,u22,u23,u24,u25,u26,u27,u28,u29,u30,u31,u32,u33,u34,u35,u36,rfl,hR,hp,hq,hg,hS⟩
  have hlen:ys.length<=101:=by have:=hp.length_eq;have:=Xa Hnx;simp at *;omega
  have hal:=hR.lt
  have hpal:par a<ys.length:=by unfold par;omega
  have hB2:Below W.heap.size W (W.alloc (.cells #[.int .i64 (a:Int)] 3)):=(Below.refl _ W).alloc (Nat.le_refl _) _;have hL:=Xq2 vb g cap W.heap.size ys (par a) [a] _ (hq.qp.below hB2) (oneI W 3 a) (.inl hpal) (by simp) (by simp;omega)
  have hle:leastT ys (par a) [a]=if ltT (getT ys a) (getT ys (par a)) then a else par a:=by
   simp only [leastT]
   by_cases c:ltT (getT ys a) (getT ys (par a))
   ·rw [if_pos ⟨hal,c⟩,if_pos c]
   rw [if_neg (fun h=>c h.2),if_neg c]
  rw [hle] at hL
  have ha3:(a:Int)<=3000:=by omega
  have ha0:(0:Int)<=(a:Int):=by omega
  by_cases hc:ltT (getT ys a) (getT ys (par a))
  ·have hapos:0<a:=by
    rcases Nat.eq_zero_or_pos a with h0 | h0
    ·subst h0;exact absurd hc (Xnt _)
    exact h0
   have hst:=hR.step hapos hc;have hpm:=(Xbc hpal hal).trans hp
   have hSw:=fun W' (hb:Below W.heap.size W W')=>Xre B vb g cap ys.length ys (par a) a W' (hq.below hb).cell (hq.below hb).row hpal hal
   have hltp:par a<a:=by unfold par;omega
   have e1:((a:Int)-1) / 2=((par a:Nat):Int):=by unfold par;omega
   rw [if_pos hc] at hL
   have hap:(0:Int)<=(a:Int)-1:=by omega
   generalize par a=p at *
   have hnq:((a:Int) != (p:Int))=true:=by simp;omega
   have Hlt:=Xb hltp;have HR:=Xb hst;clear hR hle hal hpal hc hlen hst hltp
   go_wp2_with (go_at_call 133;refine hL.mono ?_;rintro e w2 ⟨rfl,hb2⟩;have hb3:=hB2.trans (hb2.mono (by simp));have hSw2:=hSw w2 hb3)
   go_wp2_with (go_at_call 132;refine hSw2.mono ?_;rintro e w4 ⟨rfl,hr4,hs4⟩)
   go_step3
   refine⟨rfl,⟨p,g,cap,swapT ys p a,_,_,_,_,_,_,_,_,_,_,_,_,_,_,_,_,_,_,_,_,_,_,_,_,_,_,_,_,_,_,_,_,rfl,Xa HR,hpm,(hq.below hb3).swapped hs4 (Y3 _ _ _) hr4,hg,(hS.trans (Spares.of_below hb3)).Xsl hs4 ?_⟩,?_⟩
   ·rcases hg with hg | hg
    ·exact .inl (by simp [hg])
    exact .inr hg
   have:=Xa Hlt;simp [intOf];omega
  have hdn:=hR.done hc;rw [if_neg hc] at hL
  have e1:((a:Int)-1).tdiv 2=((par a:Nat):Int):=by
   unfold par
   by_cases h0:a=0
   ·subst h0;rfl
   rw [Int.tdiv_eq_ediv_of_nonneg (by omega)];omega
  have e2:0<a->((a:Int)-1) / 2=((par a:Nat):Int):=fun h0=>by unfold par;omega
  generalize par a=p at *;clear hR hle hal hpal hc hlen
  by_cases h0:a=0
  focus
   subst h0
   have e3:p=0:=by
    have:=e1;simp at this;omega
   subst e3;clear e1 e2
  rotate_left
  focus
   have e3:=e2 (by omega)
   have hap:(0:Int)<=(a:Int)-1:=by omega
   clear e1 e2 h0
  rotate_left
  all_goals
   go_wp2_with (go_at_call 133;refine hL.mono ?_;rintro e w2 ⟨rfl,hb2⟩)
   have hb3:=hB2.trans (hb2.mono (by simp));simp only [Exit.jump]
   go_end0
   exact⟨rfl,g,cap,ys,hq.below hb3,hdn,hp,hg,hS.trans (Spares.of_below hb3)⟩
 case first =>
  intro hpass;have HP:=Xb hpass;clear hpass
  go_wp2_with fail
  obtain⟨W9,hW9⟩:∃ W9,w.alloc (.cells #[.int .u64 x1,.int .i64 x2,.int .u64 x3] 144)=W9:=⟨_,rfl⟩
  rw [hW9] at bV hr bT hs9 hP9;rw [hW9];clear hW9;have Hs9:=Xb hs9
  have hB9s:B<=W9.heap.size:=by omega
  clear hs9;have v7:=bV.cell 8 h8;have fv7:=bV.frozen 8;have v7a:=(bV.alloc (.cells #[.int .u64 x1,.int .i64 x2,.int .u64 x3] 144)).cell 8 h8;have y0:=bT.cell 0 (v:=.int .u64 x1) rfl;have y1:=bT.cell 1 (v:=.int .i64 x2) rfl;have y2:=bT.cell 2 (v:=.int .u64 x3) rfl
  go_region_law ((refine step_append_lies _ (by rfl) _ _ _ (by rfl) B 144 i0 _ 3 24 underlying122 hi hz0 hz1 hz2 rfl (by decide) v n (Yj xs) (by rfl) (ownsRow_below hr (by first | exact Xp.below ((Xp.refl _).alloc _) | exact Xp.below (((Xp.refl _).drewN _).alloc _))) ⟨W9.heap.size,0,none⟩ 1 1 [.int .u64 x1,.int .i64 x2,.int .u64 x3] (by rfl) rfl (World.news_of_block (heap_alloc_new _ _)) (by simp [Value.oneCell']) (by omega) (by unfold maxLen;omega) (by omega) (by simp;omega) _ rfl ?_;intro g' cap' w3 hown' hgrow hat hlt;have bV3:=(bV.below (B:=vb) (n₀:=W9.heap.size) (by first | exact Xp.below ((Xp.refl W9).alloc _) | exact Xp.below (((Xp.refl W9).drew).alloc _)) bV.lt).kept hgrow hnr;have d0:=bV3.cell 8 h8;have d1:=bV3.frozen 8))
  all_goals
   have hvg:vb≠g':=by
    rcases hat with e | e
    ·exact fun e'=>hnr (by rw [e,e'])
    have:=Xa Hs9
    have e2:g'=W9.heap.size+1:=by simpa using e
    omega
   have hwg:v.ownBlock=some g'\/w.heap.size<=g':=by
    rcases hat with e | e
    ·exact .inl e
    have:=Xa Hs9
    have e2:g'=W9.heap.size+1:=by simpa using e
    exact .inr (by omega)
   have hlq:(xs ++ [(⟨x1,x2,x3⟩:Xe)]).length=n+1:=by simp [Xa Hnx]
   have hown1:w3.ownsRow B 144 3 (.slice (some ⟨g',0,none⟩) (n+1) cap') (n+1) (Yj (xs ++ [⟨x1,x2,x3⟩])):=by rw [Xh5];exact hown'
   have hrow4:=hown1.kept (Vw w3 vb 8 (.slice (some ⟨g',0,none⟩) (n+1) cap')) (.inr (by simp [Value.ownBlock];exact fun e=>hvg e.symm));have bV4:=bV3.set 8 (.slice (some ⟨g',0,none⟩) (n+1) cap');have hP4:Spares (vb :: v.ownBlock.toList) w (w3.setCell ⟨vb,8,none⟩ (.slice (some ⟨g',0,none⟩) (n+1) cap')):=(((hP9.alloc _).drew).trans (Spares.Xaw hgrow (fun b hb=>by rw [hb];simp))).set (by simp) _ _
   have hqv:QV B vb cs g' cap' (xs ++ [⟨x1,x2,x3⟩]) (w3.setCell ⟨vb,8,none⟩ (.slice (some ⟨g',0,none⟩) (n+1) cap')):=⟨by rw [hlq];exact bV4,by rw [hlq];exact hrow4,h8s⟩
   have c8:=hqv.cell;rw [hlq] at c8;have HF:=Xb (And.intro hqv (And.intro hwg (And.intro hP4 (And.intro (RiseH.start hH ⟨x1,x2,x3⟩) (Xa Hnx)))));clear hown' hgrow hat hlt bV3 d0 d1 hP4 hP9 bV hr bT v7 fv7 v7a y0 y1 y2 hown1 hwg hnr hqv bV4 hrow4 hlq;generalize w3.setCell ⟨vb,8,none⟩ (.slice (some ⟨g',0,none⟩) (n+1) cap')=W4 at *;go_wp2
   go_step3
   simp only [Exit.then]
   apply_assumption
   obtain⟨f1,f2,f3,f4,f5⟩:=Xa HF;rw [<- f5] at f4;exact Xa HP _ _ ⟨n,g',cap',_,_,_,_,_,_,_,_,_,_,_,_,_,_,_,_,_,_,_,_,_,_,_,_,_,_,_,_,_,_,_,_,_,rfl,f4,List.Perm.refl _,f1,f2,f3⟩
theorem Tryz.Xtr (vb:Nat) (v:Value) (w:World) (hv:v=.slice none 0 0\/∃ g cap,v=.slice (some ⟨g,0,none⟩) 0 cap) (c7:w.cell? ⟨vb,8,none⟩=some v) :
  Calls prog 76 #[.pointer (some ⟨vb,8,none⟩)] w fun e w'=>e=.returned (.tuple #[.agg #[.int .u64 0,.int .i64 0,.int .u64 0],.bool false])/\Below w.heap.size w w':=by
 have lv:vb<w.heap.size:=World.block_lt_of_cell? w _ c7;have hb:Below w.heap.size w ((w.alloc (.cells #[.int .u64 0,.int .i64 0,.int .u64 0] 144)).alloc (.cells #[.int .u64 0,.int .i64 0,.int .u64 0] 144)):=((Below.refl _ w).alloc (Nat.le_refl _) _).alloc (by simp) _
 rcases hv with rfl | ⟨g,cap,rfl⟩
 all_goals
  go_enter func76,ntmps76;go_wp2
  go_step3
  go_wp2;rw [Exit.noGoto_ret];exact bodyPost_ret (v:=.tuple #[.agg #[.int .u64 0,.int .i64 0,.int .u64 0],.bool false]) (by simp [results,results76,go_sem]) rfl ⟨rfl,hb⟩
theorem Xp2 (W:World) (t:TypeId) (p q:Nat):∀ j r:Nat,[p,q][j]? = some r->(W.alloc (.cells #[.int .i64 (p:Int),.int .i64 (q:Int)] t)).cell? ⟨W.heap.size,j,none⟩=some (.int .i64 (r:Int)):=fun j r hr=>by
 match j,hr with
 | 0,hr =>
  obtain rfl:p=r:=by simpa using hr
  exact(BoxN.new W t #[.int .i64 (p:Int),.int .i64 (q:Int)]).cell 0 rfl
 | 1,hr =>
  obtain rfl:q=r:=by simpa using hr
  exact(BoxN.new W t #[.int .i64 (p:Int),.int .i64 (q:Int)]).cell 1 rfl
def Tryz.FallJ (B vb:Nat) (cs:Array Value) (w:World) (g m:Nat) (x:Xe) (zs:List Xe) (act:Act) (W:World):Prop:=
 ∃(a cap ib:Nat) (ys:List Xe) (u8 u9 u10 u11 u12 u13 u14 u15 u16 u17 u18 u19 u20 u21 u22 u23 u24 u25 u26 u27 u28 u29 u30 u31 u32 u33 u34 u35 u36 u37 u38 u39 u40 u41 u42 u43 u44 u45 u46 u47 u48 u49 u50 u51 u52 u53:Value),act = { tmps:=#[.pointer (some ⟨vb,8,none⟩),undef,.pointer (some ⟨w.heap.size,0,none⟩),.bool false,undef,.int .i64 (m:Int),.pointer (some ⟨ib,0,none⟩),.int .i64 (a:Int),u8,u9,u10,u11,u12,u13,u14,u15,u16,u17,u18,u19,u20,u21,u22,u23,u24,u25,u26,u27,u28,u29,u30,u31,u32,u33,u34,u35,u36,u37,u38,u39,u40,u41,u42,u43,u44,u45,u46,u47,u48,u49,u50,u51,u52,u53],defers:=[] }/\Xbq ys a/\(a=0\/a<ys.length)/\ys.Perm zs/\QV B vb cs g cap ys W/\BoxN W w.heap.size 144 #[.int .u64 0,.int .i64 0,.int .u64 0]/\BoxN W ib 144 x.cells/\w.heap.size<ib/\Spares [vb,g] w W
theorem Tryz.qPop (B vb g cap m:Nat) (xs:List Xe) (cs:Array Value) (w:World) (hq:QV B vb cs g cap xs w) (hH:Xay xs) (hm:xs.length=m+1) (hlen:m<=100) :
  Calls prog 76 #[.pointer (some ⟨vb,8,none⟩)] w fun e w'=>e=.returned (.tuple #[.agg (getT xs 0).cells,.bool true])/\∃ cap' ys,QV B vb cs g cap' ys w'/\Xay ys/\(getT xs 0 :: ys).Perm xs/\Spares [vb,g] w w':=by
 have hne:=hq.ne;have lv:=hq.v.lt;have lg:g<w.heap.size:=(hq.row.lt g rfl).2;have hB0:Below w.heap.size w (w.alloc (.cells #[.int .u64 0,.int .i64 0,.int .u64 0] 144)):=(Below.refl _ w).alloc (Nat.le_refl _) _;have b0:=BoxN.new w 144 #[.int .u64 0,.int .i64 0,.int .u64 0];have hq0:=hq.below hB0;have hP:=Xbc (xs:=xs) (i:=0) (j:=m) (by omega) (by omega)
 have hmg:getT (swapT xs 0 m) m=getT xs 0:=by rw [Zb (by omega) (by omega),if_pos rfl]
 have hF:=Xbq.start hH;rw [show xs.length-1=m by omega] at hF
 have hzs:(getT xs 0 :: (swapT xs 0 m).take m).Perm xs:=by
  refine List.Perm.trans ?_ hP
  have hl:(swapT xs 0 m).length=m+1:=by rw [Y3,hm]
  have e:swapT xs 0 m=(swapT xs 0 m).take m ++ [getT xs 0]:=by
   conv=>lhs;rw [<- List.take_of_length_le (l:=swapT xs 0 m) (i:=m+1) (by omega)]
   rw [List.take_add_one,Jh (by omega),hmg];rfl
  conv=>rhs;rw [e]
  exact(List.perm_append_comm (l₁:=[getT xs 0]) (l₂:=(swapT xs 0 m).take m))
 have hSw:=Xre B vb g cap xs.length xs 0 m _ hq0.cell hq0.row (by omega) (by omega);generalize hx:getT xs 0=x at *;go_enter func76,ntmps76
 go_wp2_with fail
 refine M1 0 (FallJ B vb cs w g m x ((swapT xs 0 m).take m)) (fun a _=>1000-(intOf (a.tmps.getD 7 undef)).toNat) rfl ?pass ?first
 case pass =>
  rintro _ W ⟨a,cap2,ib,ys,u8,u9,u10,u11,u12,u13,u14,u15,u16,u17,u18,u19,u20,u21,u22,u23,u24,u25,u26,u27,u28,u29,u30,u31,u32,u33,u34,u35,u36,u37,u38,u39,u40,u41,u42,u43,u44,u45,u46,u47,u48,u49,u50,u51,u52,u53,rfl,hFa,hal,hp,hqy,bR,bI,hib,hS⟩
  have hly:ys.length<=100:=by have:=hp.length_eq;rw [List.length_take,Y3] at this;omega
  have hB2:Below W.heap.size W (W.alloc (.cells #[.int .i64 ((2*a+1:Nat):Int),.int .i64 ((2*a+2:Nat):Int)] 3)):=(Below.refl _ W).alloc (Nat.le_refl _) _
  have hL:=Xq2 vb g cap2 W.heap.size ys a [2*a+1,2*a+2] _ (hqy.qp.below hB2) (Xp2 W 3 (2*a+1) (2*a+2)) (by
   by_cases h:a<ys.length
   ·exact .inl h
   ·refine .inr (fun p hp=>?_)
    simp only [List.mem_cons,List.not_mem_nil,or_false] at hp
    omega) (by simp) (by
   intro p hp;simp only [List.mem_cons,List.not_mem_nil,or_false] at hp
   omega)
  have c1:((2*a+1:Nat):Int)=2*(a:Int)+1:=by omega
  have c2:((2*a+2:Nat):Int)=2*(a:Int)+2:=by omega
  rw [c1,c2] at hB2;simp only [c1,c2] at hL
  have ha3:(a:Int)<=3000:=by omega
  have ha0:(0:Int)<=(a:Int):=by omega
  have lI:=bI.lt;have lR:=bR.lt;have lgW:g<W.heap.size:=(hqy.row.lt g rfl).2;have lvW:=hqy.v.lt
  have hgR:w.heap.size≠g:=by omega
  have hgI:ib≠g:=by omega
  have hvI:vb≠w.heap.size:=by omega
  clear c1 c2;obtain⟨x1,x2,x3⟩:=x;simp only [Xe.cells] at *
  by_cases hc:leastT ys a [2*a+1,2*a+2]=a
  ·have hdn:=hFa.done hc
   rw [hc] at hL;clear hFa
   go_wp2_with (go_at_call 133;refine hL.mono ?_;rintro e w2 ⟨rfl,hb2⟩;have hb3:=hB2.trans (hb2.mono (by simp));have bI2:=bI.below hb3 lI;have bR2:=bR.below hb3 lR;have i0:=bI2.cell 0 (v:=.int .u64 x1) rfl;have i1:=bI2.cell 1 (v:=.int .i64 x2) rfl;have i2:=bI2.cell 2 (v:=.int .u64 x3) rfl;have q0:=bR2.cell 0 (v:=.int .u64 0) rfl;have q1:=bR2.cell 1 (v:=.int .i64 0) rfl;have q2:=bR2.cell 2 (v:=.int .u64 0) rfl;have f0:=bR2.frozen 0;have f1:=bR2.frozen 1;have f2:=bR2.frozen 2)
   simp only [Exit.jump];have b6:BoxN _ w.heap.size 144 #[.int .u64 x1,.int .i64 x2,.int .u64 x3]:=((bR2.set 0 (.int .u64 x1)).set 1 (.int .i64 x2)).set 2 (.int .u64 x3);have hs6:Spares [w.heap.size] w2 (((w2.setCell ⟨w.heap.size,0,none⟩ (.int .u64 x1)).setCell ⟨w.heap.size,1,none⟩ (.int .i64 x2)).setCell ⟨w.heap.size,2,none⟩ (.int .u64 x3)):=(((Spares.of_below (Below.refl _ w2)).set (by simp) _ _).set (by simp) _ _).set (by simp) _ _
   have hq6:QV B vb cs g cap2 ys _:=⟨hs6.box (hqy.below hb3).v (by simpa using hvI),hs6.row (hqy.below hb3).row (by simpa using Ne.symm hgR),hqy.h8⟩
   have hS6:=(hS.trans (Spares.of_below hb3)).Xsl hs6 (.inr (Nat.le_refl _));generalize ((w2.setCell ⟨w.heap.size,0,none⟩ (.int .u64 x1)).setCell ⟨w.heap.size,1,none⟩ (.int .i64 x2)).setCell ⟨w.heap.size,2,none⟩ (.int .u64 x3)=W6 at *;have k0:=b6.cell 0 (v:=.int .u64 x1) rfl;have k1:=b6.cell 1 (v:=.int .i64 x2) rfl;have k2:=b6.cell 2 (v:=.int .u64 x3) rfl;exact bodyPost_ret (v:=.tuple #[.agg #[.int .u64 x1,.int .i64 x2,.int .u64 x3],.bool true]) (by simp [results,results76,go_sem,k0,k1,k2]) rfl ⟨rfl,cap2,ys,hq6,hdn,(List.Perm.cons _ hp).trans hzs,hS6⟩
  obtain⟨hac,hcl,hFc⟩:=hFa.step hc
  have hal2:a<ys.length:=by omega
  have hpm:=(Xbc hcl hal2).trans hp
  have hSw2:=fun W' (hb:Below W.heap.size W W')=>Xre B vb g cap2 ys.length ys (leastT ys a [2*a+1,2*a+2]) a W' (hqy.below hb).cell (hqy.below hb).row hcl hal2
  generalize leastT ys a [2*a+1,2*a+2]=c at *
  have hnq:((c:Int) != (a:Int))=true:=by simp;omega
  have Hlt:=Xb (And.intro hac hcl);have HF:=Xb hFc;clear hFa hc hFc hac
  go_wp2_with (go_at_call 133;refine hL.mono ?_;rintro e w2 ⟨rfl,hb2⟩;have hb3:=hB2.trans (hb2.mono (by simp));have hSw3:=hSw2 w2 hb3)
  go_wp2_with (go_at_call 132;refine hSw3.mono ?_;rintro e w4 ⟨rfl,hr4,hs4⟩)
  go_step3
  obtain⟨h1,h2⟩:=Xa Hlt;refine⟨rfl,⟨c,cap2,ib,swapT ys c a,_,_,_,_,_,_,_,_,_,_,_,_,_,_,_,_,_,_,_,_,_,_,_,_,_,_,_,_,_,_,_,_,_,_,_,_,_,_,_,_,_,_,_,_,_,_,rfl,Xa HF,.inr (by rw [Y3];exact h2),hpm,(hqy.below hb3).swapped hs4 (Y3 _ _ _) hr4,hs4.box (bR.below hb3 lR) (by simpa using hgR),hs4.box (bI.below hb3 lI) (by simpa using hgI),hib,(hS.trans (Spares.of_below hb3)).Xsl hs4 (.inl (by simp))⟩,?_⟩;simp [intOf];omega
 case first =>
  intro hpass;have HP:=Xb hpass;clear hpass;have c8:=hq0.cell;rw [hm] at c8 hSw;rw [show ((0:Nat):Int)=0 from rfl] at hSw
  have hcap:m+1<=cap/\cap<=9223372036854775807:=by
   obtain⟨-,⟨e1,-⟩ | ⟨g',cap',cur,e1,e2,e3,e4,e5,-⟩⟩:=hq.row
   ·cases e1
   cases e1;unfold maxLen at e5;omega
  obtain⟨hcp,hcm⟩:=hcap
  have hsl:(swapT xs 0 m).length=m+1:=by rw [Y3,hm]
  have hxm:(swapT xs 0 m)[m]? = some x:=by rw [Jh (by omega),hmg]
  have HH:=Xb (And.intro hF (And.intro hm (And.intro hsl hxm)));obtain⟨x1,x2,x3⟩:=x;clear hF hH hP hzs hq hmg hx
  have lz:w.heap.size<(w.alloc (.cells #[.int .u64 0,.int .i64 0,.int .u64 0] 144)).heap.size:=by simp
  clear hm hsl hxm
  go_wp2_with (first
   | (go_at_call 132;refine hSw.mono ?_;rintro e w1 ⟨rfl,r1,hs1⟩;have bV1:=hs1.box hq0.v (by simpa using hne);have b1:=hs1.box b0 (by simp;omega);have h81:=hq0.h8;obtain⟨z0,z1,z2⟩:=Up r1 (Xa HH).2.2.2;have c81:=(Xa HH).2.1 ▸ bV1.cell 8 (v:=.slice (some ⟨g,0,none⟩) xs.length cap) (by rw [Array.getElem?_setIfInBounds_self_of_lt h81]);clear c8)
   | (go_at_call 129;refine(qCut B vb g cap m (swapT xs 0 m) _ (cell_later ((Below.refl _ w1).alloc (Nat.le_refl _) _) c81) ((bV1.alloc _).frozen 8) (r1.alloc _) hne hcp hcm).mono ?_;rintro e w2 ⟨rfl,wx,rx,hgx,rfl⟩))
  go_step3
  simp only [Exit.then]
  apply_assumption
  obtain⟨hF,hm,hsl,-⟩:=Xa HH;have lg1:g<w1.heap.size:=(r1.lt g rfl).2;have lv1:=bV1.lt;have l01:=b1.lt
  have hyl:((swapT xs 0 m).take m).length=m:=by rw [List.length_take,hsl];omega
  have bV2:=((bV1.alloc (.cells #[.int .u64 x1,.int .i64 x2,.int .u64 x3] 144)).kept hgx (by intro e;injection e with e;exact hne e)).set 8 (.slice (some ⟨g,0,none⟩) m cap);rw [Array.setIfInBounds_setIfInBounds] at bV2;have bR2:=((b1.alloc (.cells #[.int .u64 x1,.int .i64 x2,.int .u64 x3] 144)).kept hgx (by intro e;injection e with e;omega)).other (B':=vb) (by omega) 8 (.slice (some ⟨g,0,none⟩) m cap);have bI2:=((BoxN.new w1 144 #[.int .u64 x1,.int .i64 x2,.int .u64 x3]).kept hgx (by intro e;injection e with e;omega)).other (B':=vb) (by omega) 8 (.slice (some ⟨g,0,none⟩) m cap);have r2:=rx.kept (Vw wx vb 8 (.slice (some ⟨g,0,none⟩) m cap)) (.inr (by simp [Value.ownBlock];exact fun e=>hne e.symm))
  have hS2:Spares [vb,g] w (wx.setCell ⟨vb,8,none⟩ (.slice (some ⟨g,0,none⟩) m cap)):=(((((Spares.of_below hB0).trans (hs1.mono (by simp))).alloc _).trans (Spares.X6 hgx (by simp))).set (by simp) _ _)
  exact Xa HP _ _ ⟨0,cap,w1.heap.size,(swapT xs 0 m).take m,_,_,_,_,_,_,_,_,_,_,_,_,_,_,_,_,_,_,_,_,_,_,_,_,_,_,_,_,_,_,_,_,_,_,_,_,_,_,_,_,_,_,_,_,_,_,rfl,hF,.inl rfl,List.Perm.refl _,⟨by rw [hyl];exact bV2,by rw [hyl];exact r2,h81⟩,bR2,bI2,by omega,hS2⟩
end Go.Proofs
