import Derived.Test.YtjbekgjdempbiaaGreatDoorJSq
import Derived.Test.YtjbekgjdempbiaaGreatDoorJSets
import Derived.Laws.OwnMore
import Derived.Test.YtjbekgjdempbiaaGreatDoorJLInfo
import Derived.BigQuiet
import Derived.BigRegion
import Derived.WalkMore
import Derived.Deep.RegionHeld3
set_option maxRecDepth 100000
set_option maxHeartbeats 8000000
namespace Go.Proofs
open Go.RowKit Go.Sort
structure Xc where
 at_:Int
 k:Int
 n:Int
def Xc.cells (t:Xc):Array Value:=#[.int .u64 t.at_,.int .i64 t.k,.int .u64 t.n]
def cmpT (x y:Xc):Int:=orI (cmpI x.at_ y.at_) (orI (cmpI y.k x.k) (cmpI x.n y.n))
theorem Tryz.Xpg (a b c:Int) (blk:Nat) (w:World) (h0:w.cell? ⟨blk,0,none⟩=some (.int .i64 a)) (h1:w.cell? ⟨blk,1,none⟩=some (.int .i64 b)) (h2:w.cell? ⟨blk,2,none⟩=some (.int .i64 c)) :
  Calls prog 333 #[.slice (some ⟨blk,0,none⟩) 3 3] w fun e w'=>e=.returned (.int .i64 (orI a (orI b c)))/\w'=w:=by
 obtain⟨r,hr⟩:∃ r,orI a (orI b c)=r:=⟨_,rfl⟩
 rw [hr]
 by_cases ha:a=0
 ·have ha':(a != 0)=false:=by simp [ha]
  by_cases hb:b=0
  ·have hb':(b != 0)=false:=by simp [hb]
   by_cases hc:c=0
   focus
    have hc':(c != 0)=false:=by simp [hc]
    have hfin:Hid (r=0):=Xb (by rw [<- hr];simp [orI,ha,hb,hc]);clear ha hb hc hr;go_enter func333,ntmps333;go_wp2;refine wp_loop_rounds 4 ?_;rw [rounds_succ];go_wp2
   rotate_left
   focus
    have hc':(c != 0)=true:=by simp [hc]
    have hfin:Hid (r=c):=Xb (by rw [<- hr];simp [orI,ha,hb]);clear ha hb hc hr;go_enter func333,ntmps333;go_wp2;refine wp_loop_rounds 4 ?_
   rotate_left
   all_goals
    rw [rounds_succ];go_wp2;rw [rounds_succ];go_wp2;rw [rounds_succ];go_wp2;go_ret;exact⟨Yj (Xa hfin).symm,rfl⟩
  have hb':(b != 0)=true:=by simp [hb]
  have hfin:Hid (r=b):=Xb (by rw [<- hr];simp [orI,ha,hb]);clear ha hb hr;go_enter func333,ntmps333;go_wp2;refine wp_loop_rounds 4 ?_;rw [rounds_succ];go_wp2;rw [rounds_succ];go_wp2;go_ret;exact⟨Yj (Xa hfin).symm,rfl⟩
 have ha':(a != 0)=true:=by simp [ha]
 have hfin:Hid (r=a):=Xb (by rw [<- hr];simp [orI,ha]);clear ha hr;go_enter func333,ntmps333;go_wp2;refine wp_loop_rounds 4 ?_;rw [rounds_succ];go_wp2;go_ret;exact⟨Yj (Xa hfin).symm,rfl⟩
structure Tryz.Xld (B:Nat) (x1 x2 x3 y1 y2 y3:Int) (W:World):Prop where
 a0:W.cell? ⟨B,0,none⟩=some (.int .u64 x1)
 a1:W.cell? ⟨B,1,none⟩=some (.int .i64 x2)
 a2:W.cell? ⟨B,2,none⟩=some (.int .u64 x3)
 b0:W.cell? ⟨B+1,0,none⟩=some (.int .u64 y1)
 b1:W.cell? ⟨B+1,1,none⟩=some (.int .i64 y2)
 b2:W.cell? ⟨B+1,2,none⟩=some (.int .u64 y3)
theorem Tryz.Xld.alloc {B:Nat} {x1 x2 x3 y1 y2 y3:Int} {W:World} (h:Xld B x1 x2 x3 y1 y2 y3 W) (o:Obj):Xld B x1 x2 x3 y1 y2 y3 (W.alloc o):=
 ⟨(World.cell?_alloc_some _ _ _ (by rw [h.a0];rfl)).trans h.a0,(World.cell?_alloc_some _ _ _ (by rw [h.a1];rfl)).trans h.a1,(World.cell?_alloc_some _ _ _ (by rw [h.a2];rfl)).trans h.a2,
  (World.cell?_alloc_some _ _ _ (by rw [h.b0];rfl)).trans h.b0,(World.cell?_alloc_some _ _ _ (by rw [h.b1];rfl)).trans h.b1,(World.cell?_alloc_some _ _ _ (by rw [h.b2];rfl)).trans h.b2⟩
theorem Tryz.Xmv (x y:Xc) (w:World):Calls prog 337 #[.agg x.cells,.agg y.cells] w fun e w'=>e=.returned (.int .i64 (cmpT x y))/\Xz w w':=by
 have hN:Hid (cmpT x y=orI (cmpI x.at_ y.at_) (orI (cmpI y.k x.k) (cmpI x.n y.n))):=Xb rfl
 have ha:=fun W=>Xho x.at_ y.at_ W
 have hk:=fun W=>Xh6 y.k x.k W
 have hu:=fun W=>Xho x.n y.n W
 generalize cmpI x.at_ y.at_=a at *;generalize cmpI y.k x.k=b at *;generalize cmpI x.n y.n=c at *;generalize cmpT x y=r at *;obtain⟨x1,x2,x3⟩:=x;obtain⟨y1,y2,y3⟩:=y;simp only [Xc.cells] at *;go_enter func337,ntmps337
 go_wp2_with fail
 have hP:Xld w.heap.size x1 x2 x3 y1 y2 y3 ((w.alloc (.cells #[.int .u64 x1,.int .i64 x2,.int .u64 x3] 144)).alloc (.cells #[.int .u64 y1,.int .i64 y2,.int .u64 y3] 144)).drew:=by
  have b1:=(BoxN.new w 144 #[.int .u64 x1,.int .i64 x2,.int .u64 x3]).alloc (.cells #[.int .u64 y1,.int .i64 y2,.int .u64 y3] 144);have b2:=BoxN.new (w.alloc (.cells #[.int .u64 x1,.int .i64 x2,.int .u64 x3] 144)) 144 #[.int .u64 y1,.int .i64 y2,.int .u64 y3];rw [World.size_alloc] at b2;exact⟨b1.cell 0 rfl,b1.cell 1 rfl,b1.cell 2 rfl,b2.cell 0 rfl,b2.cell 1 rfl,b2.cell 2 rfl⟩
 refine wp_region_held_drew (S:=Xld w.heap.size x1 x2 x3 y1 y2 y3) (by kernel_rfl) hP (fun hS0=>?_);refine Xt 0 ?v0 rfl ?y0 hS0 ?_
 case y0=>(rintro w ⟨q0,q1,q2,q3,q4,q5⟩;go_simp;try with_reducible rfl)
 refine Xt 1 ?v1 rfl ?y1 hS0 ?_
 case y1=>(rintro w ⟨q0,q1,q2,q3,q4,q5⟩;go_simp;try with_reducible rfl)
 refine Xt 2 ?v2 rfl ?y2 hS0 ?_
 case y2=>(rintro w ⟨q0,q1,q2,q3,q4,q5⟩;go_simp;try with_reducible rfl)
 refine Xt 3 ?v3 rfl ?y3 hS0 ?_
 case y3=>(rintro w ⟨q0,q1,q2,q3,q4,q5⟩;go_simp;try with_reducible rfl)
 refine Xt 5 ?v5 rfl ?y5 hS0 ?_
 case y5=>(rintro w ⟨q0,q1,q2,q3,q4,q5⟩;go_simp;try with_reducible rfl)
 refine Xt 6 ?v6 rfl ?y6 hS0 ?_
 case y6=>(rintro w ⟨q0,q1,q2,q3,q4,q5⟩;go_simp;try with_reducible rfl)
 refine Xt 7 ?v7 rfl ?y7 hS0 ?_
 case y7=>(rintro w ⟨q0,q1,q2,q3,q4,q5⟩;go_simp;try with_reducible rfl)
 refine Xt 8 ?v8 rfl ?y8 hS0 ?_
 case y8=>(rintro w ⟨q0,q1,q2,q3,q4,q5⟩;go_simp;try with_reducible rfl)
 refine Xt 9 ?v9 rfl ?y9 hS0 ?_
 case y9=>(rintro w ⟨q0,q1,q2,q3,q4,q5⟩;go_simp;try with_reducible rfl)
 refine Xt 10 ?v10 rfl ?y10 hS0 ?_
 case y10=>(rintro w ⟨q0,q1,q2,q3,q4,q5⟩;go_simp;try with_reducible rfl)
 refine Xt 12 ?v12 rfl ?y12 hS0 ?_
 case y12=>(rintro w ⟨q0,q1,q2,q3,q4,q5⟩;go_simp;try with_reducible rfl)
 refine Xt 13 ?v13 rfl ?y13 hS0 ?_
 case y13=>(rintro w ⟨q0,q1,q2,q3,q4,q5⟩;go_simp;try with_reducible rfl)
 refine Xt 14 ?v14 rfl ?y14 hS0 ?_
 case y14=>(rintro w ⟨q0,q1,q2,q3,q4,q5⟩;go_simp;try with_reducible rfl)
 refine Xt 15 ?v15 rfl ?y15 hS0 ?_
 case y15=>(rintro w ⟨q0,q1,q2,q3,q4,q5⟩;go_simp;try with_reducible rfl)
 refine Xt 16 ?v16 rfl ?y16 hS0 ?_
 case y16=>(rintro w ⟨q0,q1,q2,q3,q4,q5⟩;go_simp;try with_reducible rfl)
 refine Xt 17 ?v17 rfl ?y17 hS0 ?_
 case y17=>(rintro w ⟨q0,q1,q2,q3,q4,q5⟩;go_simp;try with_reducible rfl)
 refine Xh 4 rfl fun K hK=>?_;go_simp;refine(ha _).mono ?_;rintro e w5 ⟨rfl,rfl⟩;refine hK.out _ _ hS0 (fun _=>?_);clear hK K;refine Xh 11 rfl fun K hK=>?_;go_simp;refine(hk _).mono ?_;rintro e w5 ⟨rfl,rfl⟩;refine hK.out _ _ hS0 (fun _=>?_);clear hK K;refine Xh 18 rfl fun K hK=>?_;go_simp;refine(hu _).mono ?_;rintro e w5 ⟨rfl,rfl⟩;refine hK.out _ _ hS0 (fun _=>?_);clear hK K;refine Xh 19 rfl fun K hK=>?_;go_simp;refine hK.out _ _ (hS0.alloc _) (fun hS1=>?_);clear hK K;refine Xh 20 rfl fun K hK=>?_;go_simp;refine(Xpg a b c _ _ ?_ ?_ ?_).mono ?_
 ·go_simp
 ·go_simp
 ·go_simp
 rintro e w5 ⟨rfl,rfl⟩;refine hK.out _ _ hS1 (fun _=>?_);clear hK K;refine Xh 21 rfl fun K hK=>?_;go_simp;refine hK.out _ _ hS1 (fun _=>?_);clear hK K;refine wpAnyH_done (by kernel_rfl) ?_ _;go_wp2;go_ret;exact⟨Yj (Xa hN).symm,((((Xz.refl w).alloc _).alloc _).drew.alloc _)⟩
theorem Tryz.Xe5 (x:Xc) (w:World):Sem.run prog (method 517 144 (.agg x.cells) "Compare") w=.ok (337,.agg x.cells) w:=by kernel_rfl
def ltT (x y:Xc):Prop:=x.at_<y.at_\/(x.at_=y.at_/\(y.k<x.k\/(x.k=y.k/\x.n<y.n)))
instance (x y:Xc):Decidable (ltT x y):=by unfold ltT;exact inferInstance
theorem Xbm {a b:Int}:cmpI a b<0↔a<b:=by
 unfold cmpI
 split <;> (try split) <;> omega
theorem Xcw {a b:Int}:cmpI a b=0↔a=b:=by
 unfold cmpI
 split <;> (try split) <;> omega
theorem Xev (x y:Xc):cmpT x y<0↔ltT x y:=by
 unfold cmpT ltT orI;have h1:=@Xbm x.at_ y.at_;have h2:=@Xcw x.at_ y.at_;have h3:=@Xbm y.k x.k;have h4:=@Xcw y.k x.k;have h5:=@Xbm x.n y.n
 split
 ·split
  ·omega
  omega
 omega
theorem Xiq (x:Xc):¬ ltT x x:=by unfold ltT;omega
theorem Xcz {x y z:Xc} (h:ltT x y) (h':ltT y z):ltT x z:=by unfold ltT at *;omega
theorem Xjm {x y:Xc} (h:ltT x y):¬ ltT y x:=by unfold ltT at *;omega
def leT (x y:Xc):Prop:=¬ ltT y x
theorem Us (x:Xc):leT x x:=Xiq x
theorem U4 {x y z:Xc} (h:leT x y) (h':leT y z):leT x z:=by unfold leT ltT at *;omega
theorem Zr {x y:Xc} (h:ltT x y):leT x y:=Xjm h
abbrev par (i:Nat):Nat:=(i-1) / 2
def getT (xs:List Xc) (i:Nat):Xc:=xs.getD i ⟨0,0,0⟩
theorem U2 {xs:List Xc} {i:Nat} {t:Xc} (h:xs[i]? = some t):getT xs i=t:=by
 unfold getT;simp [List.getD,h]
theorem Zo {xs:List Xc} {i:Nat} (h:i<xs.length):xs[i]? = some (getT xs i):=by
 unfold getT;simp [List.getD,h]
def swapT (xs:List Xc) (i j:Nat):List Xc:=(xs.set i (getT xs j)).set j (getT xs i)
theorem Yr (xs:List Xc) (i j:Nat):(swapT xs i j).length=xs.length:=by simp [swapT]
theorem Yw {xs:List Xc} {i j:Nat} (hi:i<xs.length) (hj:j<xs.length) (k:Nat):getT (swapT xs i j) k=if k=j then getT xs i else if k=i then getT xs j else getT xs k:=by
 have key:(swapT xs i j)[k]? = if k=j then some (getT xs i) else if k=i then some (getT xs j) else xs[k]?:=by
  unfold swapT;rw [List.getElem?_set,List.getElem?_set];simp only [List.length_set]
  by_cases e1:j=k
  ·subst e1
   simp [hj]
  by_cases e2:i=k
  ·subst e2
   simp [e1,hi,Ne.symm e1]
  simp [e1,e2,Ne.symm e1,Ne.symm e2]
 unfold getT at key ⊢;rw [List.getD_eq_getElem?_getD,key]
 split
 ·rfl
 split
 ·rfl
 rw [List.getD_eq_getElem?_getD]
theorem Vw {xs:List Xc} {i j:Nat} (hi:i<xs.length) (hj:j<xs.length):(swapT xs i j).Perm xs:=by
 unfold swapT;have e1:getT xs j=xs[j]:=U2 (by simp [hj]);have e2:getT xs i=xs[i]:=U2 (by simp [hi]);rw [e1,e2];exact List.set_set_perm hi hj
def Vh (xs:List Xc):Prop:=∀ i,0<i->i<xs.length->leT (getT xs (par i)) (getT xs i)
theorem Vh.root {xs:List Xc} (h:Vh xs):∀ i,i<xs.length->leT (getT xs 0) (getT xs i):=by
 intro i
 induction i using Nat.strongRecOn with
 | ind i ih =>
  intro hi
  by_cases h0:i=0
  ·subst h0;exact Us _
  exact U4 (ih (par i) (by unfold par;omega) (by unfold par;omega)) (h i (by omega) hi)
theorem Xl1:Vh []:=fun i _ h=>by simp at h
structure RiseH (xs:List Xc) (a:Nat):Prop where
 lt:a<xs.length
 h1:∀ i,0<i->i<xs.length->i≠a->leT (getT xs (par i)) (getT xs i)
 h2:∀ i,0<i->i<xs.length->par i=a->0<a->leT (getT xs (par a)) (getT xs i)
theorem RiseH.start {xs:List Xc} (h:Vh xs) (t:Xc):RiseH (xs ++ [t]) xs.length:=by
 have hg:∀ i,i<xs.length->getT (xs ++ [t]) i=getT xs i:=fun i hi=>by
  unfold getT;rw [List.getD_eq_getElem?_getD,List.getD_eq_getElem?_getD,List.getElem?_append_left hi]
 refine⟨by simp,fun i h0 hi hne=>?_,fun i h0 hi hp _=>?_⟩
 ·have:i<xs.length:=by simp at hi;omega
  rw [hg i this,hg (par i) (by unfold par;omega)];exact h i h0 this
 simp at hi;unfold par at hp;omega
theorem RiseH.done {xs:List Xc} {a:Nat} (h:RiseH xs a) (hs:¬ ltT (getT xs a) (getT xs (par a))):Vh xs:=fun i h0 hi=>by
 by_cases e:i=a
 ·subst e;exact hs
 exact h.h1 i h0 hi e
theorem RiseH.step {xs:List Xc} {a:Nat} (h:RiseH xs a) (ha:0<a) (hs:ltT (getT xs a) (getT xs (par a))):RiseH (swapT xs (par a) a) (par a):=by
 have hal:=h.lt
 have hpl:par a<xs.length:=by unfold par;omega
 have hpa:par a≠a:=by unfold par;omega
 refine⟨by rw [Yr];exact hpl,fun i h0 hi hne=>?_,fun i h0 hi hp h0p=>?_⟩
 ·rw [Yr] at hi
  rw [Yw hpl hal,Yw hpl hal]
  by_cases e:i=a
  ·subst e
   rw [if_neg hpa,if_pos rfl,if_pos rfl];exact Zr hs
  rw [if_neg e,if_neg hne]
  by_cases ep:par i=a
  ·rw [if_pos ep]
   exact h.h2 i h0 hi ep ha
  rw [if_neg ep]
  by_cases eq:par i=par a
  ·rw [if_pos eq]
   have:=h.h1 i h0 hi e;rw [eq] at this;exact U4 (Zr hs) this
  rw [if_neg eq];exact h.h1 i h0 hi e
 rw [Yr] at hi;rw [Yw hpl hal,Yw hpl hal]
 have e1:par (par a)≠a:=by unfold par;omega
 have e2:par (par a)≠par a:=by unfold par at *;omega
 rw [if_neg e1,if_neg e2];have hup:=h.h1 (par a) h0p hpl hpa
 by_cases e:i=a
 ·subst e
  rw [if_pos rfl];exact hup
 rw [if_neg e]
 have hip:i≠par a:=by unfold par at *;omega
 rw [if_neg hip];have:=h.h1 i h0 hi e;rw [hp] at this;exact U4 hup this
structure Md (xs:List Xc) (a:Nat):Prop where
 h1:∀ i,0<i->i<xs.length->par i≠a->leT (getT xs (par i)) (getT xs i)
 h2:∀ i,0<i->i<xs.length->par i=a->0<a->leT (getT xs (par a)) (getT xs i)
def leastT (xs:List Xc) (f:Nat):List Nat->Nat
 | []=>f
 | p :: ps=>leastT xs (if p<xs.length/\ltT (getT xs p) (getT xs f) then p else f) ps
theorem Xc8 {xs:List Xc} {a:Nat}:(leT (getT xs (leastT xs a [2*a+1,2*a+2])) (getT xs a))/\(2*a+1<xs.length->leT (getT xs (leastT xs a [2*a+1,2*a+2])) (getT xs (2*a+1)))/\(2*a+2<xs.length->leT (getT xs (leastT xs a [2*a+1,2*a+2])) (getT xs (2*a+2))):=by
 simp only [leastT]
 by_cases c1:2*a+1<xs.length/\ltT (getT xs (2*a+1)) (getT xs a)
 ·rw [if_pos c1]
  by_cases c2:2*a+2<xs.length/\ltT (getT xs (2*a+2)) (getT xs (2*a+1))
  ·rw [if_pos c2]
   exact⟨Zr (Xcz c2.2 c1.2),fun _=>Zr c2.2,fun _=>Us _⟩
  rw [if_neg c2];exact⟨Zr c1.2,fun _=>Us _,fun h h'=>c2 ⟨h,h'⟩⟩
 rw [if_neg c1]
 by_cases c2:2*a+2<xs.length/\ltT (getT xs (2*a+2)) (getT xs a)
 ·rw [if_pos c2]
  exact⟨Zr c2.2,fun h=>U4 (Zr c2.2) (fun h'=>c1 ⟨h,h'⟩),fun _=>Us _⟩
 rw [if_neg c2];exact⟨Us _,fun h h'=>c1 ⟨h,h'⟩,fun h h'=>c2 ⟨h,h'⟩⟩
theorem Xga {xs:List Xc} {a:Nat}:leastT xs a [2*a+1,2*a+2]=a\/((leastT xs a [2*a+1,2*a+2]=2*a+1\/leastT xs a [2*a+1,2*a+2]=2*a+2)/\leastT xs a [2*a+1,2*a+2] < xs.length/\ltT (getT xs (leastT xs a [2*a+1,2*a+2])) (getT xs a)):=by
 simp only [leastT]
 by_cases c1:2*a+1<xs.length/\ltT (getT xs (2*a+1)) (getT xs a)
 ·rw [if_pos c1]
  by_cases c2:2*a+2<xs.length/\ltT (getT xs (2*a+2)) (getT xs (2*a+1))
  ·rw [if_pos c2]
   exact .inr ⟨.inr rfl,c2.1,Xcz c2.2 c1.2⟩
  rw [if_neg c2];exact .inr ⟨.inl rfl,c1⟩
 rw [if_neg c1]
 by_cases c2:2*a+2<xs.length/\ltT (getT xs (2*a+2)) (getT xs a)
 ·rw [if_pos c2]
  exact .inr ⟨.inr rfl,c2⟩
 rw [if_neg c2];exact .inl rfl
theorem Md.done {xs:List Xc} {a:Nat} (h:Md xs a) (hs:leastT xs a [2*a+1,2*a+2]=a):Vh xs:=fun i h0 hi=>by
 by_cases e:par i=a
 ·obtain⟨-,l1,l2⟩:=@Xc8 xs a
  rw [hs] at l1 l2;rw [e]
  have:i=2*a+1\/i=2*a+2:=by unfold par at e;omega
  rcases this with rfl | rfl
  ·exact l1 hi
  exact l2 hi
 exact h.h1 i h0 hi e
theorem Md.step {xs:List Xc} {a:Nat} (h:Md xs a) (hs:leastT xs a [2*a+1,2*a+2]≠a):a<leastT xs a [2*a+1,2*a+2]/\leastT xs a [2*a+1,2*a+2] < xs.length/\Md (swapT xs (leastT xs a [2*a+1,2*a+2]) a) (leastT xs a [2*a+1,2*a+2]):=by
 obtain⟨-,l1,l2⟩:=@Xc8 xs a;obtain⟨hm,hl,hlt⟩:=(@Xga xs a).resolve_left hs;generalize leastT xs a [2*a+1,2*a+2]=c at *
 have hac:a<c:=by omega
 have hal:a<xs.length:=by omega
 have hpc:par c=a:=by unfold par;omega
 refine⟨hac,hl,fun i h0 hi hne=>?_,fun i h0 hi hp h0c=>?_⟩
 ·rw [Yr] at hi
  rw [Yw hl hal,Yw hl hal]
  by_cases e:i=a
  ·subst e
   have e1:par i≠i:=by unfold par;omega
   have e2:par i≠c:=hne;rw [if_neg e1,if_neg e2,if_pos rfl];exact h.h2 c (by omega) hl hpc (by omega)
  rw [if_neg e]
  by_cases ep:par i=a
  ·rw [if_pos ep]
   by_cases ec:i=c
   ·rw [if_pos ec]
    exact Zr hlt
   rw [if_neg ec]
   have:i=2*a+1\/i=2*a+2:=by unfold par at ep;omega
   rcases this with rfl | rfl
   ·exact l1 hi
   exact l2 hi
  rw [if_neg ep,if_neg hne]
  have ec:i≠c:=fun e'=>ep (by rw [e'];exact hpc)
  rw [if_neg ec];exact h.h1 i h0 hi ep
 rw [Yr] at hi;rw [Yw hl hal,Yw hl hal,hpc,if_pos rfl]
 have e1:i≠a:=by unfold par at hp;omega
 have e2:i≠c:=by unfold par at hp;omega
 rw [if_neg e1,if_neg e2];have:=h.h1 i h0 hi (by omega);rw [hp] at this;exact this
theorem Md.start {xs:List Xc} (h:Vh xs):Md ((swapT xs 0 (xs.length-1)).take (xs.length-1)) 0:=by
 refine⟨fun i h0 hi hne=>?_,fun i h0 hi hp h00=>by omega⟩
 have hi':i<xs.length-1:=by
  rw [List.length_take,Yr] at hi;omega
 have hg:∀ k,k<xs.length-1->getT ((swapT xs 0 (xs.length-1)).take (xs.length-1)) k=getT (swapT xs 0 (xs.length-1)) k:=fun k hk=>by
  unfold getT;rw [List.getD_eq_getElem?_getD,List.getD_eq_getElem?_getD,List.getElem?_take,if_pos hk]
 rw [hg i hi',hg (par i) (by unfold par;omega)];rw [Yw (by omega) (by omega),Yw (by omega) (by omega)]
 have e1:par i≠xs.length-1:=by unfold par;omega
 rw [if_neg e1,if_neg hne,if_neg (by omega),if_neg (by omega)];exact h i h0 (by omega)
theorem Xam (xs:List Xc) (p:Nat):∀(os:List Nat) (f:Nat),leastT xs f (os ++ [p])=if p<xs.length/\ltT (getT xs p) (getT xs (leastT xs f os)) then p else leastT xs f os
 | [],f=>rfl
 | q :: os,f=>by
  simp only [List.cons_append,leastT];exact Xam xs p os _
theorem Mr {xs:List Xc}:∀ {os:List Nat} {f:Nat},f<xs.length->leastT xs f os<xs.length
 | [],f,h=>h
 | q :: os,f,h=>by
  simp only [leastT]
  by_cases c:q<xs.length/\ltT (getT xs q) (getT xs f)
  ·rw [if_pos c];exact Mr c.1
  rw [if_neg c];exact Mr h
structure Tryz.QP (vb g cap:Nat) (xs:List Xc) (W:World):Prop where
 c:W.cell? ⟨vb,8,none⟩=some (.slice (some ⟨g,0,none⟩) xs.length cap)
 r:∀ i t,xs[i]? = some t->W.cell? ⟨g,i*3,none⟩=some (.int .u64 t.at_)/\W.cell? ⟨g,i*3+1,none⟩=some (.int .i64 t.k)/\W.cell? ⟨g,i*3+2,none⟩=some (.int .u64 t.n)
theorem Uu {W W':World} (h:Below W.heap.size W W') {a:Addr} {v:Value} (hc:W.cell? a=some v):W'.cell? a=some v:=
 (h.cell (World.block_lt_of_cell? W a hc)).trans hc
theorem Tryz.QP.below {vb g cap:Nat} {xs:List Xc} {W W':World} (h:QP vb g cap xs W) (hb:Below W.heap.size W W'):QP vb g cap xs W':=
 ⟨Uu hb h.c,fun i t ht=>by obtain⟨a,b,c⟩:=h.r i t ht;exact⟨Uu hb a,Uu hb b,Uu hb c⟩⟩
abbrev Tryz.Q2P (vb g cap n i j:Nat) (x y:Xc) (W:World):Prop:=
 W.cell? ⟨vb,8,none⟩=some (.slice (some ⟨g,0,none⟩) n cap)/\(W.cell? ⟨g,i*3,none⟩=some (.int .u64 x.at_)/\W.cell? ⟨g,i*3+1,none⟩=some (.int .i64 x.k)/\W.cell? ⟨g,i*3+2,none⟩=some (.int .u64 x.n))/\(W.cell? ⟨g,j*3,none⟩=some (.int .u64 y.at_)/\W.cell? ⟨g,j*3+1,none⟩=some (.int .i64 y.k)/\W.cell? ⟨g,j*3+2,none⟩=some (.int .u64 y.n))
theorem Tryz.QP.two {vb g cap i j:Nat} {x y:Xc} {xs:List Xc} {W:World} (h:QP vb g cap xs W) (hi:xs[i]? = some x) (hj:xs[j]? = some y):Q2P vb g cap xs.length i j x y W:=⟨h.c,h.r i x hi,h.r j y hj⟩
theorem Tryz.Xmd (vb g cap ob:Nat) (xs:List Xc) (f:Nat) (os:List Nat) (w:World) (hQ:QP vb g cap xs w) (hO:∀ j p:Nat,os[j]? = some p->w.cell? ⟨ob,j,none⟩=some (.int .i64 (p:Int))) (hf:f<xs.length\/∀ p∈os,xs.length<=p) (hol:os.length<=10) (hop:∀ p∈os,p<=3000) :
  Calls prog 133 #[.pointer (some ⟨vb,8,none⟩),.int .i64 f,.slice (some ⟨ob,0,none⟩) os.length os.length] w fun e w'=>e=.returned (.int .i64 (leastT xs f os:Nat))/\Below w.heap.size w w':=by
 obtain⟨len,hlen⟩:∃ len,os.length=len:=⟨_,rfl⟩
 rw [hlen] at hol ⊢;have Hlen:=Xb hlen;clear hlen
 obtain⟨n,hnn⟩:∃ n,xs.length=n:=⟨_,rfl⟩
 have Hn:=Xb hnn;clear hnn;go_enter func133,ntmps133;go_wp2
 go_loopw [7,13] (fun l i wr=>∃ k ll:Nat,k<=len/\i=.int .i64 k/\l=.int .i64 ll/\Hid (ll=leastT xs f (os.take k))/\Below w.heap.size w wr) (fun _ i _=>len-(intOf i).toNat)
 case atStart=>exact⟨0,f,Nat.zero_le _,rfl,rfl,Xb rfl,Below.refl _ _⟩
 case round =>
  obtain⟨k,ll,hk,rfl,rfl,hll,hBw⟩:=hrel
  by_cases hkl:k<len
  ·obtain⟨p,hp⟩:∃ p,os[k]? = some p:=⟨os[k]'(by have:=Xa Hlen;omega),by have:=Xa Hlen;simp [this,hkl]⟩
   have ho:=cell_later hBw (hO k p hp);have hp3:=hop p (List.mem_of_getElem? hp);have hsn:=Xb (Xam xs p (os.take k) f);have htk:Hid (os.take (k+1)=os.take k ++ [p]):=Xb (by rw [List.take_add_one,hp];rfl);have hQw:=hQ.below hBw;have hc8:=hQw.c;rw [Xa Hn] at hc8
   by_cases hpn:p<n
   ·have hlx:ll<n:=by
     rw [Xa hll,<- Xa Hn];exact Mr (hf.resolve_right (fun h=>by have:=h p (List.mem_of_getElem? hp);have:=Xa Hn;omega))
    obtain⟨x,hx⟩:∃ x,xs[p]? = some x:=⟨getT xs p,Zo (by rw [Xa Hn];exact hpn)⟩
    obtain⟨y,hy⟩:∃ y,xs[ll]? = some y:=⟨getT xs ll,Zo (by rw [Xa Hn];exact hlx)⟩
    have hq2:=hQw.two hx hy;rw [Xa Hn] at hq2
    have hC:=fun W=>Xmv x y W
    have hm:=fun W=>Xe5 x W
    have hres:Hid (leastT xs f (os.take (k+1))=if cmpT x y<0 then p else ll):=Xb (by
     rw [Xa htk,Xa hsn,<- Xa hll,U2 hx,U2 hy]
     by_cases hc:ltT x y
     ·rw [if_pos ⟨by rw [Xa Hn];exact hpn,hc⟩,if_pos ((Xev x y).2 hc)]
     rw [if_neg (fun h=>hc h.2),if_neg (fun h=>hc ((Xev x y).1 h))])
    obtain⟨c,hcc⟩:∃ c,cmpT x y=c:=⟨_,rfl⟩
    rw [hcc] at hres;simp only [hcc] at hC;obtain⟨x1,x2,x3⟩:=x;obtain⟨y1,y2,y3⟩:=y;simp only [Xc.cells,Q2P] at hC hm hq2
    have hpi:(p:Int)<(n:Int):=by omega
    have hp0:(0:Int)<=(p:Int):=by omega
    have hli:(ll:Int)<(n:Int):=by omega
    have hl0:(0:Int)<=(ll:Int):=by omega
    have hq3:Q2P vb g cap n p ll ⟨x1,x2,x3⟩ ⟨y1,y2,y3⟩ wr.drew:=hq2;clear hcc hx hy hQw hc8 hp hsn htk hO hop hQ hf hq2
    go_wp2_with fail
    have hd1:decide ((p:Int)<(n:Int))=true:=decide_eq_true hpi
    go_region_held3 (Q2P vb g cap n p ll ⟨x1,x2,x3⟩ ⟨y1,y2,y3⟩) (first
     | with_reducible exact hq3
     | with_reducible exact hq5
     | with_reducible assumption) (first
     | (go_at_call 337;refine(hC _).mono ?_;rintro e w5 ⟨rfl,hg5⟩;have hb5:Below wr.heap.size wr w5:=((Below.refl _ wr).drew).trans (Xz.below hg5);have hq5:Q2P vb g cap n p ll ⟨x1,x2,x3⟩ ⟨y1,y2,y3⟩ w5:=⟨Uu hb5 hq3.1,⟨Uu hb5 hq3.2.1.1,Uu hb5 hq3.2.1.2.1,Uu hb5 hq3.2.1.2.2⟩,⟨Uu hb5 hq3.2.2.1,Uu hb5 hq3.2.2.2.1,Uu hb5 hq3.2.2.2.2⟩⟩))
    have hB5:=hBw.trans (hb5.mono hBw.size);clear hq5 hq3 hC hm
    by_cases hc0:c<0
    ·rw [if_pos hc0] at hres
     go_wp2;exact⟨⟨k+1,p,by omega,rfl,rfl,Xb (Xa hres).symm,hB5⟩,by simp [intOf];omega⟩
    rw [if_neg hc0] at hres;go_wp2;exact⟨⟨k+1,ll,by omega,rfl,rfl,Xb (Xa hres).symm,hB5⟩,by simp [intOf];omega⟩
   have hpi:¬ (p:Int)<(n:Int):=by omega
   have hres:Hid (leastT xs f (os.take (k+1))=ll):=Xb (by
    rw [Xa htk,Xa hsn,if_neg (fun h=>hpn (by have:=h.1;rw [Xa Hn] at this;exact this)),<- Xa hll])
   clear hsn htk hO hop hQ hf hQw hp
   go_wp2_with fail
   go_quiet (fail);go_wp2;exact⟨⟨k+1,ll,by omega,rfl,rfl,Xb (Xa hres).symm,below_drewN hBw _⟩,by simp [intOf];omega⟩
  obtain rfl:k=len:=by omega
  have hta:os.take k=os:=List.take_of_length_le (by have:=Xa Hlen;omega);rw [hta] at hll;go_wp2;go_ret;exact⟨Yj (by rw [Xa hll]),hBw⟩
def Yd (xs:List Xc):List Value:=xs.flatMap fun x=>x.cells.toList
theorem Zg (xs:List Xc):(Yd xs).length=xs.length*3:=by
 induction xs with
 | nil=>rfl
 | cons x xs ih=>simp only [Yd,List.flatMap_cons,List.length_append,List.length_cons] at ih ⊢;rw [ih];simp [Xc.cells];omega
theorem Va:∀(xs:List Xc) (k j:Nat) (t:Xc),xs[k]? = some t->j<3->(Yd xs)[k*3+j]? = t.cells[j]?
 | [],_,_,_,h,_=>by simp at h
 | x :: xs,0,j,t,h,hj=>by
  obtain rfl:x=t:=by simpa using h
  show (x.cells.toList++Yd xs)[0*3+j]? = _
  rw [List.getElem?_append_left (by simp [Xc.cells];omega)];simp
 | x :: xs,k+1,j,t,h,hj=>by
  show (x.cells.toList++Yd xs)[(k+1)*3+j]? = _
  rw [List.getElem?_append_right (by simp [Xc.cells];omega),show x.cells.toList.length=3 from rfl,show (k+1)*3+j-3=k*3+j by omega];exact Va xs k j t (by simpa using h) hj
theorem J1:∀(xs:List Xc) (k:Nat) (t:Xc),k<xs.length->Yd (xs.set k t)=(((Yd xs).set (k*3) (.int .u64 t.at_)).set (k*3+1) (.int .i64 t.k)).set (k*3+2) (.int .u64 t.n)
 | [],_,_,h=>by simp at h
 | x :: xs,0,t,h=>by
  show t.cells.toList++Yd xs=(((x.cells.toList++Yd xs).set 0 _).set 1 _).set 2 _
  rfl
 | x :: xs,k+1,t,h=>by
  have ih:=J1 xs k t (by simpa using h)
  show x.cells.toList++Yd (xs.set k t)=(((x.cells.toList++Yd xs).set ((k+1)*3) _).set ((k+1)*3+1) _).set ((k+1)*3+2) _
  rw [ih,List.set_append_right _ _ (by simp [Xc.cells];omega),List.set_append_right _ _ (by simp [Xc.cells];omega),List.set_append_right _ _ (by simp [Xc.cells];omega)];rw [show x.cells.toList.length=3 from rfl,show (k+1)*3-3=k*3 by omega,show (k+1)*3+1-3=k*3+1 by omega,show (k+1)*3+2-3=k*3+2 by omega]
theorem Xby {xs:List Xc} {i:Nat} (hi:i<xs.length):swapT xs i i=xs:=by
 unfold swapT;have e2:getT xs i=xs[i]:=U2 (by simp [hi]);rw [List.set_set,e2];exact List.set_getElem_self hi
theorem Jc {w:World} {B g n cap:Nat} {e:TypeId} {xs:List Xc} (h:w.ownsRow B e 3 (.slice (some ⟨g,0,none⟩) n cap) n (Yd xs)) {i:Nat} {t:Xc} (hi:xs[i]? = some t):w.cell? ⟨g,i*3,none⟩=some (.int .u64 t.at_)/\w.cell? ⟨g,i*3+1,none⟩=some (.int .i64 t.k)/\w.cell? ⟨g,i*3+2,none⟩=some (.int .u64 t.n):=by
 have hn:n=xs.length:=by have:=h.1;rw [Zg] at this;omega
 have hil:i<xs.length:=(List.getElem?_eq_some_iff.1 hi).1;refine⟨?_,?_,?_⟩
 ·rw [h.cellAt (i*3) (by omega)];exact Va xs i 0 t hi (by omega)
 ·rw [h.cellAt (i*3+1) (by omega)];exact Va xs i 1 t hi (by omega)
 rw [h.cellAt (i*3+2) (by omega)];exact Va xs i 2 t hi (by omega)
theorem Tryz.Xmz (B vb g cap n:Nat) (xs:List Xc) (i j:Nat) (w:World) (c8:w.cell? ⟨vb,8,none⟩=some (.slice (some ⟨g,0,none⟩) n cap)) (hrow:w.ownsRow B 144 3 (.slice (some ⟨g,0,none⟩) n cap) n (Yd xs)) (hi:i<xs.length) (hj:j<xs.length) (hne:i≠j) :
  Calls prog 132 #[.pointer (some ⟨vb,8,none⟩),.int .i64 i,.int .i64 j] w fun e w'=>e=.returned (.tuple #[])/\w'.ownsRow B 144 3 (.slice (some ⟨g,0,none⟩) n cap) n (Yd (swapT xs i j))/\Spares [g] w w':=by
 have hn:n=xs.length:=by have:=hrow.1;rw [Zg] at this;omega
 obtain⟨x,hx⟩:∃ x,getT xs i=x:=⟨_,rfl⟩
 obtain⟨y,hy⟩:∃ y,getT xs j=y:=⟨_,rfl⟩
 obtain⟨t0,t1,t2⟩:=Jc hrow (hx ▸ Zo hi);obtain⟨s0,s1,s2⟩:=Jc hrow (hy ▸ Zo hj)
 have hfl:Hid (Yd (swapT xs i j)=((((((Yd xs).set (i*3) (.int .u64 y.at_)).set (i*3+1) (.int .i64 y.k)).set (i*3+2) (.int .u64 y.n)).set (j*3) (.int .u64 x.at_)).set (j*3+1) (.int .i64 x.k)).set (j*3+2) (.int .u64 x.n)):=Xb (by
  unfold swapT
  rw [hx,hy,J1 _ j x (by simpa using hj),J1 xs i y hi])
 have f0:=fun o=>hrow.frozenAt o
 obtain⟨x1,x2,x3⟩:=x;obtain⟨y1,y2,y3⟩:=y;simp only at t0 t1 t2 s0 s1 s2 hfl;have HR:=Xb hrow;clear hrow hx hy
 have hii:(i:Int)<(n:Int):=by omega
 have hjj:(j:Int)<(n:Int):=by omega
 have hi0:(0:Int)<=(i:Int):=by omega
 have hj0:(0:Int)<=(j:Int):=by omega
 have n1:i*3≠j*3:=by omega
 have n2:i*3≠j*3+1:=by omega
 have n3:i*3≠j*3+2:=by omega
 have n4:i*3+1≠j*3:=by omega
 have n5:i*3+1≠j*3+1:=by omega
 have n6:i*3+1≠j*3+2:=by omega
 have n7:i*3+2≠j*3:=by omega
 have n8:i*3+2≠j*3+1:=by omega
 have n9:i*3+2≠j*3+2:=by omega
 clear hn hi hj hne;go_enter func132,ntmps132
 go_region
 go_end0
 have hrow:=Xa HR;have r1:=(hrow.stored (i*3) (.int .u64 y1)).1;have r2:=(r1.stored (i*3+1) (.int .i64 y2)).1;have r3:=(r2.stored (i*3+2) (.int .u64 y3)).1;have r4:=(r3.stored (j*3) (.int .u64 x1)).1;have r5:=(r4.stored (j*3+1) (.int .i64 x2)).1;have r6:=(r5.stored (j*3+2) (.int .u64 x3)).1;have hs:Spares [g] w w:=Spares.of_below (Below.refl _ _);rw [<- Xa hfl] at r6;exact⟨rfl,r6.drew,((((((hs.set (by simp) _ _).set (by simp) _ _).set (by simp) _ _).set (by simp) _ _).set (by simp) _ _).set (by simp) _ _).drew⟩
theorem Tryz.Xm5 (B vb g cap n:Nat) (xs:List Xc) (i:Nat) (w:World) (c8:w.cell? ⟨vb,8,none⟩=some (.slice (some ⟨g,0,none⟩) n cap)) (hrow:w.ownsRow B 144 3 (.slice (some ⟨g,0,none⟩) n cap) n (Yd xs)) (hi:i<xs.length) :
  Calls prog 132 #[.pointer (some ⟨vb,8,none⟩),.int .i64 i,.int .i64 i] w fun e w'=>e=.returned (.tuple #[])/\w'.ownsRow B 144 3 (.slice (some ⟨g,0,none⟩) n cap) n (Yd xs)/\Spares [g] w w':=by
 have hn:n=xs.length:=by have:=hrow.1;rw [Zg] at this;omega
 obtain⟨x,hx⟩:∃ x,getT xs i=x:=⟨_,rfl⟩
 obtain⟨t0,t1,t2⟩:=Jc hrow (hx ▸ Zo hi)
 have hfl:Hid (((((((Yd xs).set (i*3) (.int .u64 x.at_)).set (i*3+1) (.int .i64 x.k)).set (i*3+2) (.int .u64 x.n)).set (i*3) (.int .u64 x.at_)).set (i*3+1) (.int .i64 x.k)).set (i*3+2) (.int .u64 x.n)=Yd xs):=Xb (by
  have h:=Xby hi;unfold swapT at h;rw [hx] at h
  rw [<- J1 xs i x hi,<- J1 _ i x (by simpa using hi),h])
 have f0:=fun o=>hrow.frozenAt o
 obtain⟨x1,x2,x3⟩:=x;simp only at t0 t1 t2 hfl;have HR:=Xb hrow;clear hrow hx
 have hii:(i:Int)<(n:Int):=by omega
 have hi0:(0:Int)<=(i:Int):=by omega
 have n4:i*3+1≠i*3:=by omega
 have n7:i*3+2≠i*3:=by omega
 have n8:i*3+2≠i*3+1:=by omega
 clear hn hi;go_enter func132,ntmps132
 go_region
 go_end0
 have hrow:=Xa HR;have r1:=(hrow.stored (i*3) (.int .u64 x1)).1;have r2:=(r1.stored (i*3+1) (.int .i64 x2)).1;have r3:=(r2.stored (i*3+2) (.int .u64 x3)).1;have r4:=(r3.stored (i*3) (.int .u64 x1)).1;have r5:=(r4.stored (i*3+1) (.int .i64 x2)).1;have r6:=(r5.stored (i*3+2) (.int .u64 x3)).1;have hs:Spares [g] w w:=Spares.of_below (Below.refl _ _);rw [Xa hfl] at r6;exact⟨rfl,r6.drew,((((((hs.set (by simp) _ _).set (by simp) _ _).set (by simp) _ _).set (by simp) _ _).set (by simp) _ _).set (by simp) _ _).drew⟩
theorem Tryz.Xl6 (B vb g cap n:Nat) (xs:List Xc) (i j:Nat) (w:World) (c8:w.cell? ⟨vb,8,none⟩=some (.slice (some ⟨g,0,none⟩) n cap)) (hrow:w.ownsRow B 144 3 (.slice (some ⟨g,0,none⟩) n cap) n (Yd xs)) (hi:i<xs.length) (hj:j<xs.length) :
  Calls prog 132 #[.pointer (some ⟨vb,8,none⟩),.int .i64 i,.int .i64 j] w fun e w'=>e=.returned (.tuple #[])/\w'.ownsRow B 144 3 (.slice (some ⟨g,0,none⟩) n cap) n (Yd (swapT xs i j))/\Spares [g] w w':=by
 by_cases h:i=j
 ·subst h
  rw [Xby hi];exact Xm5 B vb g cap n xs i w c8 hrow hi
 exact Xmz B vb g cap n xs i j w c8 hrow hi hj h
end Go.Proofs
