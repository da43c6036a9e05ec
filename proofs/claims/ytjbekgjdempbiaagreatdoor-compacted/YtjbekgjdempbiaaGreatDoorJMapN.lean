import Derived.WalkKit
import Derived.WalkSpells
import Derived.Sort.Grow
import Derived.Deep.Quiet
import Derived.ProofKit
import Derived.Maps.OwnSet
import Derived.Maps.OwnIn
import Derived.Maps.Range
set_option maxRecDepth 100000
set_option maxHeartbeats 8000000
namespace Go.Proofs
open Go.RowKit Go.Sort
theorem Xb {p:Prop} (h:p):Hid p:=h
theorem Xa {p:Prop} (h:Hid p):p:=h
def Xz (w w':World):Prop:=∃(q:Nat) (os:Array Obj),w'=grow (w.drewN q) os
theorem Xz.refl (w:World):Xz w w:=⟨0,#[],by simp [grow,World.drewN]⟩
theorem Xz.alloc {w w':World} (h:Xz w w') (o:Obj):Xz w (w'.alloc o):=by
 obtain⟨q,os,rfl⟩:=h;exact⟨q,os ++ #[o],by rw [alloc_eq_grow,grow_grow]⟩
theorem Xz.drew {w w':World} (h:Xz w w'):Xz w w'.drew:=by
 obtain⟨q,os,rfl⟩:=h;exact⟨q+1,os,rfl⟩
theorem Xz.drewN {w w':World} (h:Xz w w') (n:Nat):Xz w (w'.drewN n):=by
 obtain⟨q,os,rfl⟩:=h;exact⟨q+n,os,by simp [grow,World.drewN,Nat.add_assoc]⟩
theorem Xz.trans {w w' w'':World} (h:Xz w w') (h':Xz w' w''):Xz w w'':=by
 obtain⟨q,os,rfl⟩:=h;obtain⟨q',os',rfl⟩:=h';exact⟨q+q',os++os',by simp [grow,World.drewN,Nat.add_assoc,Array.append_assoc]⟩
theorem Xn8 {W w1:World} {B:Nat} (hb:Below B W w1):(∀ b o,b<B->w1.cell? ⟨b,o,none⟩=W.cell? ⟨b,o,none⟩)/\(∀ b o,b<B->w1.frozen? ⟨b,o,none⟩=W.frozen? ⟨b,o,none⟩):=
 ⟨fun b o h=>hb.cell (p:=⟨b,o,none⟩) h,fun b o h=>hb.frozen (p:=⟨b,o,none⟩) h⟩
def cmpI (a b:Int):Int:=if a<b then -1 else if b<a then 1 else 0
def orI (a b:Int):Int:=if a=0 then b else a
def cmpN (x y:Int × Int):Int:=orI (cmpI x.1 y.1) (cmpI x.2 y.2)
def Uh (x:Int × Int):List Value:=[.int .i64 x.1,.int .u64 x.2]
theorem Yj {k:IntKind} {a b:Int} (h:a=b):Ending.returned (.int k a)=.returned (.int k b):=by rw [h]
theorem Xij {a b:Int} (h:a<b):cmpI a b = -1:=by simp [cmpI,h]
theorem Xip {a b:Int} (h:b<a):cmpI a b=1:=by unfold cmpI;rw [if_neg (by omega),if_pos h]
theorem Xh8 {a b:Int} (h:b<=a) (h':a<=b):cmpI a b=0:=by unfold cmpI;rw [if_neg (by omega),if_neg (by omega)]
theorem Xkx (x y:Int × Int):cmpN x y<0↔(x.1<y.1\/x.1=y.1/\x.2<y.2):=by
 unfold cmpN orI cmpI
 by_cases h1:x.1<y.1
 ·simp [h1]
 by_cases h2:y.1<x.1
 ·simp [h1,h2];omega
 have e:x.1=y.1:=by omega
 by_cases h3:x.2<y.2
 ·simp [e,h3]
 by_cases h4:y.2<x.2 <;> simp [e,h3,h4]
end Go.Proofs
namespace Go.Proofs
open Go.RowKit Go.Sort Go.Maps Go.WideMaps
def nmV (x:Int × Int):Value:=.agg #[.int .i64 x.1,.int .u64 x.2]
def Zt (x:Int × Int):Prop:=(Lit.int .i64 x.1).wf=true/\(Lit.int .u64 x.2).wf=true
def nmB (x:Int × Int):List UInt8:=keyBytes [.int .i64 x.1,.int .u64 x.2]
structure Xp (P:Program) (t:TypeId):Prop where
 law:KeyLaw P t
 key:P.keyType t=true
 cells:P.cellsOf t=2
 many:0<P.types.size
 shape:∃ f0 f1:Field,P.underlying t=some (.struct #[f0,f1])/\f0.name ≠ "_" /\ f1.name ≠ "_" /\ f0.offset=0/\f1.offset=1/\P.underlying f0.type=some (.int .i64)/\P.underlying f1.type=some (.int .u64)/\P.cellsOf f0.type=1/\P.cellsOf f1.type=1
section
variable {P:Program} {t:TypeId}
theorem Xp.keyOf (T:Xp P t) {x:Int × Int} (h:Zt x):keyOf P t (nmV x)=some (.string (nmB x)):=by
 obtain⟨h1,h2⟩:=h
 obtain⟨m,hm⟩:∃ m,P.types.size=m+1:=⟨P.types.size-1,by have:=T.many;omega⟩
 obtain⟨f0,f1,hu,n0,n1,o0,o1,u0,u1,c0,c1⟩:=T.shape;unfold Go.keyOf nmV nmB;rw [hu];simp [T.key,Value.formed,hu,T.cells,Value.cells,hm,Program.keyLits,n0,n1,o0,o1,u0,u1,c0,c1,h1,h2]
theorem Xp.inv (T:Xp P t) {v:Value} {l:Lit} (h:Go.keyOf P t v=some l):∃ x,Zt x/\v=nmV x/\l=.string (nmB x):=by
 obtain⟨m,hm⟩:∃ m,P.types.size=m+1:=⟨P.types.size-1,by have:=T.many;omega⟩
 obtain⟨f0,f1,hu,n0,n1,o0,o1,u0,u1,c0,c1⟩:=T.shape;unfold Go.keyOf at h;rw [hu] at h;simp only [T.key,Value.formed,hu,T.cells,hm,Bool.true_and] at h
 cases v <;> simp at h
 rename_i cs
 obtain⟨hs,ls,hl,rfl⟩:=h;obtain⟨cl⟩:=cs
 match cl,hs with
 | [v0,v1],h2 =>
  clear h2;simp only [Program.keyLits,hu,Value.cells,T.cells] at hl;simp [n0,n1,o0,o1,c0,c1,u0,u1] at hl;cases v0
  case int q0 z0 =>
   by_cases e0:q0=.i64/\(Lit.int .i64 z0).wf=true
   ·obtain⟨rfl,w0⟩:=e0
    cases v1
    case int q1 z1 =>
     by_cases e1:q1=.u64/\(Lit.int .u64 z1).wf=true
     ·obtain⟨rfl,w1⟩:=e1
      simp [w0,w1] at hl;exact⟨(z0,z1),⟨w0,w1⟩,rfl,by rw [<- hl];rfl⟩
     simp [e1,w0] at hl
    all_goals simp [w0] at hl
   simp [e0] at hl
  all_goals simp at hl
theorem Xp.inj (T:Xp P t) {x y:Int × Int} (hx:Zt x) (hy:Zt y) (h:nmB x=nmB y):x=y:=by
 have:=T.law.inj (T.keyOf hx) (by rw [T.keyOf hy,h]);simp only [nmV,Value.agg.injEq] at this;simp at this;exact Prod.ext this.1 this.2
end
open Go.ChangeMaps (notKey eq_of_perm_sorted)
open Go.WideShapes (sorted_perm)
def X8 (v:Value):Option (DataW Value × List MemPlace):=some (.held v,[])
def nmL (x:Int × Int):Lit:=.string (nmB x)
def Xeq (p:(Int × Int) × Value):Lit × DataW Value:=(nmL p.1,.held p.2)
def mapD (ks:List ((Int × Int) × Value)):DataW Value:=.map ((ks.map Xeq).foldr DataW.insert [])
def Yz (ks:List ((Int × Int) × Value)):Prop:=(∀ p∈ks,Zt p.1)/\(ks.map (·.1)).Nodup
def Z8 (ks:List ((Int × Int) × Value)) (x:Int × Int):Option Value:=(ks.find? (fun p=>decide (p.1=x))).map (·.2)
theorem Zq {v u:Value} {ps:List MemPlace} (h:X8 v=some (.held u,ps)):v=u:=by
 simp [X8] at h;exact h.1
theorem Z4 (x:Int × Int):WideAt.IsKeyLit (nmL x):=trivial
section
variable {P:Program} {t:TypeId}
theorem Xp.Xcf (T:Xp P t) {x y:Int × Int} (hx:Zt x) (hy:Zt y) (h:x≠y):nmL x≠nmL y:=fun e=>h (T.inj hx hy (by simpa [nmL] using e))
def KdN (l:Lit):Prop:=∃ x,Zt x/\l=nmL x
theorem Xp.Xbd (T:Xp P t):OneKind KdN:=
 ⟨fun⟨x,_,e⟩=>by rw [e];exact Z4 x,fun⟨x,hx,e⟩ ⟨y,hy,e'⟩ hne=>by subst e e';exact(Keyed.of_law T.law).total (T.keyOf hx) (T.keyOf hy) hne⟩
theorem Ml {ks:List ((Int × Int) × Value)} (h:Yz ks):Keys KdN (ks.map Xeq):=fun p hp=>by
 obtain⟨q,hq,rfl⟩:=List.mem_map.1 hp;exact⟨q.1,h.1 q hq,rfl⟩
theorem Xp.Xer (T:Xp P t) {ks:List ((Int × Int) × Value)} (h:Yz ks):(ks.map Xeq).Pairwise (fun p q=>p.1≠q.1):=by
 refine List.pairwise_map.2 ?_;have h2:ks.Pairwise (fun a b=>a.1≠b.1):=List.pairwise_map.1 h.2
 exact h2.imp_of_mem fun {a b} ha hb hab=>T.Xcf (h.1 a ha) (h.1 b hb) hab
theorem Xp.Xdt (T:Xp P t) {ks ks':List ((Int × Int) × Value)} (h:Yz ks) (hp:ks.Perm ks'):mapD ks=mapD ks':=by
 have h':Yz ks':=⟨fun p hp'=>h.1 p (hp.mem_iff.2 hp'),(hp.map _).nodup_iff.1 h.2⟩
 unfold mapD;rw [eq_of_perm_sorted ((sorted_perm _).trans ((hp.map Xeq).trans (sorted_perm _).symm)) (sorted_sorted T.Xbd _ (Ml h) (T.Xer h)) (sorted_sorted T.Xbd _ (Ml h') (T.Xer h'))]
theorem Xp.Xcc (T:Xp P t) {ks:List ((Int × Int) × Value)} (h:Yz ks) {x:Int × Int} (hx:Zt x):(ks.map Xeq).filter (notKey (nmL x))=(ks.filter (fun p=>decide (p.1≠x))).map Xeq:=by
 rw [List.filter_map]
 congr 1
 refine List.filter_congr fun p hp=>?_
 have hiff:notKey (nmL x) (Xeq p)=true↔p.1≠x:=by
  rw [notKey_iff (Z4 x)];exact⟨fun hne e=>hne (by show nmL p.1=_;rw [e]),fun hne=>T.Xcf (h.1 p hp) hx hne⟩
 rw [Bool.eq_iff_iff,decide_eq_true_iff];exact hiff
theorem Xp.Xce (T:Xp P t) {ks:List ((Int × Int) × Value)} (h:Yz ks) {x:Int × Int} (hx:Zt x) (v:Value):(mapD ks).put (nmL x) (.held v)=mapD ((x,v) :: ks.filter (fun p=>decide (p.1≠x))):=by
 unfold mapD;rw [DataW.put_eq,<- sorted_put T.Xbd (E':=((x,v) :: ks.filter (fun p=>decide (p.1≠x))).map Xeq) ⟨x,hx,rfl⟩ (Ml h) (T.Xer h) (by rw [T.Xcc h hx];exact List.Perm.refl _)]
theorem Xp.Xf8 (T:Xp P t) {ks:List ((Int × Int) × Value)} (h:Yz ks) {x:Int × Int} (hx:Zt x):(mapD ks).del (nmL x)=mapD (ks.filter (fun p=>decide (p.1≠x))):=by
 unfold mapD;rw [DataW.del_eq,<- sorted_del T.Xbd (E':=(ks.filter (fun p=>decide (p.1≠x))).map Xeq) (Ml h) (T.Xer h) (by rw [T.Xcc h hx])]
theorem Yz.tail {p:(Int × Int) × Value} {ks:List ((Int × Int) × Value)} (h:Yz (p :: ks)):Yz ks:=
 ⟨fun q hq=>h.1 q (List.mem_cons_of_mem _ hq),(List.nodup_cons.1 (by simpa using h.2)).2⟩
theorem Yz.fresh {p:(Int × Int) × Value} {ks:List ((Int × Int) × Value)} (h:Yz (p :: ks)):∀ q∈ks,q.1≠p.1:=fun q hq e=>by
 have:=(List.nodup_cons.1 (show (p.1 :: ks.map (·.1)).Nodup from by simpa using h.2)).1;exact this (by rw [<- e];exact List.mem_map.2 ⟨q,hq,rfl⟩)
theorem Xp.Je (T:Xp P t) {p:(Int × Int) × Value} {ks:List ((Int × Int) × Value)} (h:Yz (p :: ks)):mapD (p :: ks)=(mapD ks).put (nmL p.1) (.held p.2):=by
 rw [T.Xce h.tail (h.1 p (by simp)) p.2,List.filter_eq_self.2 (fun q hq=>by simpa using h.fresh q hq)]
theorem Xp.Vg (T:Xp P t):∀ ks,Yz ks->Tidy (mapD ks)
 | [],_=>tidy_empty
 | p :: ks,h=>by rw [T.Je h];exact(T.Vg ks h.tail).put (Z4 _) _
theorem Xp.Xcd (T:Xp P t) {x:Int × Int} (hx:Zt x):∀ ks,Yz ks->Maps.has (mapD ks) (nmL x)=ks.any (fun p=>decide (p.1=x))
 | [],_=>rfl
 | p :: ks,h=>by
  by_cases e:p.1=x
  ·subst e
   rw [T.Je h,has_put_same (T.Vg ks h.tail).isMap (Z4 _)];simp
  rw [T.Je h,has_put_other (T.Xcf hx (h.1 p (by simp)) (fun e'=>e e'.symm)),T.Xcd hx ks h.tail];simp [e]
theorem Xp.Jm (T:Xp P t) {x:Int × Int} (hx:Zt x) (z:DataW Value):∀ ks,Yz ks->(mapD ks).atKey (nmL x) z=(match Z8 ks x with | some b=>.held b | none=>z)
 | [],_=>rfl
 | p :: ks,h=>by
  by_cases e:p.1=x
  ·subst e
   rw [T.Je h,atKey_put_same (T.Vg ks h.tail).isMap (Z4 _)];simp [Z8]
  rw [T.Je h,atKey_put_other (T.Xcf hx (h.1 p (by simp)) (fun e'=>e e'.symm)),T.Jm hx z ks h.tail];simp [Z8,e]
theorem Xp.Zs (T:Xp P t):∀ ks,Yz ks->Maps.size (mapD ks)=ks.length
 | [],_=>rfl
 | p :: ks,h=>by
  have hf:Maps.has (mapD ks) (nmL p.1)=false:=by
   rw [T.Xcd (h.1 p (by simp)) ks h.tail];simp
   exact fun a b c hq=>h.fresh ((a,b),c) hq
  rw [T.Je h,size_put (T.Vg ks h.tail),hf,T.Zs ks h.tail];simp
def Jj (ks:List ((Int × Int) × Value)) (left:Lit->Bool) (ss:List (Int × Int)):Prop:=
 ss.Nodup/\(∀ x∈ss,Zt x)/\∀ x,Zt x->(x∈ss↔(x∈ks.map (·.1)/\left (nmL x)=false))
theorem Xp.Mo (T:Xp P t) {ks:List ((Int × Int) × Value)} (hk:Yz ks) {x:Int × Int} (hx:Zt x):Maps.has (mapD ks) (nmL x)=true↔x∈ks.map (·.1):=by
 rw [T.Xcd hx ks hk,List.any_eq_true];simp
theorem Jj.start (T:Xp P t) {ks:List ((Int × Int) × Value)} (hk:Yz ks):Jj ks (Maps.has (mapD ks)) []:=
 ⟨List.nodup_nil,by simp,fun x hx=>by
  have:=T.Mo hk hx
  cases h:Maps.has (mapD ks) (nmL x) <;> simp_all⟩
theorem Jj.step (T:Xp P t) {ks:List ((Int × Int) × Value)} {left:Lit->Bool} {ss:List (Int × Int)} (h:Jj ks left ss) {x:Int × Int} (hx:Zt x) (hlk:left (nmL x)=true) (hin:x∈ks.map (·.1)) :
  Jj ks (fun z=>left z && !z.sameKey (nmL x)) (ss ++ [x]):=by
 have hnew:x∉ss:=fun hm=>by have:=((h.2.2 x hx).1 hm).2;rw [hlk] at this;cases this
 refine⟨List.nodup_append.2 ⟨h.1,by simp,fun a ha b hb=>by simp at hb;subst hb;exact fun e=>hnew (e ▸ ha)⟩,fun y hy=>?_,fun y hy=>?_⟩
 ·rcases List.mem_append.1 hy with hy | hy
  ·exact h.2.1 y hy
  simp at hy;subst hy;exact hx
 by_cases e:y=x
 ·subst e
  have hs:(nmL y).sameKey (nmL y)=true:=by simp [nmL,Lit.sameKey]
  constructor
  ·intro _;exact⟨hin,by simp [hs]⟩
  intro _;simp
 have hs:(nmL y).sameKey (nmL x)=false:=sameKey_ne (T.Xcf hy hx e);rw [List.mem_append,h.2.2 y hy];simp [hs,e]
theorem Jj.perm {ks:List ((Int × Int) × Value)} (hk:Yz ks) {left:Lit->Bool} {ss:List (Int × Int)} (h:Jj ks left ss) (hl:∀ kl,left kl=false):ss.Perm (ks.map (·.1)):=by
 refine(List.perm_ext_iff_of_nodup h.1 hk.2).2 fun x=>⟨fun hm=>((h.2.2 x (h.2.1 x hm)).1 hm).1,fun hm=>?_⟩
 obtain⟨p,hp,rfl⟩:=List.mem_map.1 hm;exact(h.2.2 p.1 (hk.1 p hp)).2 ⟨hm,hl _⟩
end
end Go.Proofs
