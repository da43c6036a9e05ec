import Derived.WalkKit
import Derived.WalkSpells
import Derived.Sort.Grow
import Derived.Deep.Quiet
import Derived.ProofKit
import Derived.Maps.OwnSet
import Derived.Maps.OwnIn
import Derived.Maps.Range
import Derived.RangeFuncNested
import Derived.RangeFuncBox
import Derived.RangeFuncLeaves
import Derived.Shelf.SlSortCmp.NoneTotal
import Derived.Laws.OwnMore
set_option maxRecDepth 100000
set_option maxHeartbeats 8000000
namespace Go.Proofs
open Go.RowKit Go.Sort
theorem hid_intro {p:Prop} (h:p):Hid p:=h
theorem hid_elim {p:Prop} (h:Hid p):p:=h
def Grew (w w':World):Prop:=∃(q:Nat) (os:Array Obj),w'=grow (w.drewN q) os
theorem Grew.refl (w:World):Grew w w:=⟨0,#[],by simp [grow,World.drewN]⟩
theorem Grew.alloc {w w':World} (h:Grew w w') (o:Obj):Grew w (w'.alloc o):=by
 obtain⟨q,os,rfl⟩:=h;exact⟨q,os ++ #[o],by rw [alloc_eq_grow,grow_grow]⟩
theorem Grew.drew {w w':World} (h:Grew w w'):Grew w w'.drew:=by
 obtain⟨q,os,rfl⟩:=h;exact⟨q+1,os,rfl⟩
theorem Grew.drewN {w w':World} (h:Grew w w') (n:Nat):Grew w (w'.drewN n):=by
 obtain⟨q,os,rfl⟩:=h;exact⟨q+n,os,by simp [grow,World.drewN,Nat.add_assoc]⟩
theorem Grew.trans {w w' w'':World} (h:Grew w w') (h':Grew w' w''):Grew w w'':=by
 obtain⟨q,os,rfl⟩:=h;obtain⟨q',os',rfl⟩:=h';exact⟨q+q',os++os',by simp [grow,World.drewN,Nat.add_assoc,Array.append_assoc]⟩
theorem bcell {W w1:World} {B:Nat} (hb:Below B W w1):(∀ b o,b<B→w1.cell? ⟨b,o,none⟩=W.cell? ⟨b,o,none⟩)∧(∀ b o,b<B→w1.frozen? ⟨b,o,none⟩=W.frozen? ⟨b,o,none⟩):=
 ⟨fun b o h=>hb.cell (p:=⟨b,o,none⟩) h,fun b o h=>hb.frozen (p:=⟨b,o,none⟩) h⟩
def cmpI (a b:Int):Int:=if a<b then -1 else if b<a then 1 else 0
def orI (a b:Int):Int:=if a=0 then b else a
def cmpN (x y:Int × Int):Int:=orI (cmpI x.1 y.1) (cmpI x.2 y.2)
def encN (x:Int × Int):List Value:=[.int .i64 x.1,.int .u64 x.2]
theorem ret_int {k:IntKind} {a b:Int} (h:a=b):Ending.returned (.int k a)=.returned (.int k b):=by rw [h]
theorem cmpI_lt {a b:Int} (h:a<b):cmpI a b = -1:=by simp [cmpI,h]
theorem cmpI_gt {a b:Int} (h:b<a):cmpI a b=1:=by unfold cmpI;rw [if_neg (by omega),if_pos h]
theorem cmpI_eq {a b:Int} (h:b≤a) (h':a≤b):cmpI a b=0:=by unfold cmpI;rw [if_neg (by omega),if_neg (by omega)]
theorem cmpN_neg (x y:Int × Int):cmpN x y<0↔(x.1<y.1∨x.1=y.1∧x.2<y.2):=by
 unfold cmpN orI cmpI
 by_cases h1:x.1<y.1
 ·simp [h1]
 ·by_cases h2:y.1<x.1
  ·simp [h1,h2];omega
  ·have e:x.1=y.1:=by omega
   by_cases h3:x.2<y.2
   ·simp [e,h3]
   ·by_cases h4:y.2<x.2 <;> simp [e,h3,h4]
end Go.Proofs
namespace Go.Proofs
open Go.RowKit Go.Sort Go.Maps Go.WideMaps
def nmV (x:Int × Int):Value:=.agg #[.int .i64 x.1,.int .u64 x.2]
def NmWf (x:Int × Int):Prop:=(Lit.int .i64 x.1).wf=true∧(Lit.int .u64 x.2).wf=true
def nmB (x:Int × Int):List UInt8:=keyBytes [.int .i64 x.1,.int .u64 x.2]
structure NmType (P:Program) (t:TypeId):Prop where
 law:KeyLaw P t
 key:P.keyType t=true
 cells:P.cellsOf t=2
 many:0<P.types.size
 shape:∃ f0 f1:Field,P.underlying t=some (.struct #[f0,f1])∧f0.name ≠ "_" ∧ f1.name ≠ "_" ∧ f0.offset=0∧f1.offset=1∧P.underlying f0.type=some (.int .i64)∧P.underlying f1.type=some (.int .u64)∧P.cellsOf f0.type=1∧P.cellsOf f1.type=1
section
variable {P:Program} {t:TypeId}
theorem NmType.keyOf (T:NmType P t) {x:Int × Int} (h:NmWf x):keyOf P t (nmV x)=some (.string (nmB x)):=by
 obtain⟨h1,h2⟩:=h
 obtain⟨m,hm⟩:∃ m,P.types.size=m+1:=⟨P.types.size-1,by have:=T.many;omega⟩
 obtain⟨f0,f1,hu,n0,n1,o0,o1,u0,u1,c0,c1⟩:=T.shape;unfold Go.keyOf nmV nmB;rw [hu];simp [T.key,Value.formed,hu,T.cells,Value.cells,hm,Program.keyLits,n0,n1,o0,o1,u0,u1,c0,c1,h1,h2]
theorem NmType.inv (T:NmType P t) {v:Value} {l:Lit} (h:Go.keyOf P t v=some l):∃ x,NmWf x∧v=nmV x∧l=.string (nmB x):=by
 obtain⟨m,hm⟩:∃ m,P.types.size=m+1:=⟨P.types.size-1,by have:=T.many;omega⟩
 obtain⟨f0,f1,hu,n0,n1,o0,o1,u0,u1,c0,c1⟩:=T.shape;unfold Go.keyOf at h;rw [hu] at h;simp only [T.key,Value.formed,hu,T.cells,hm,Bool.true_and] at h
 cases v <;> simp at h
 rename_i cs
 obtain⟨hs,ls,hl,rfl⟩:=h;obtain⟨cl⟩:=cs
 match cl,hs with
 | [v0,v1],h2 =>
  clear h2;simp only [Program.keyLits,hu,Value.cells,T.cells] at hl;simp [n0,n1,o0,o1,c0,c1,u0,u1] at hl;cases v0
  case int q0 z0 =>
   by_cases e0:q0=.i64∧(Lit.int .i64 z0).wf=true
   ·obtain⟨rfl,w0⟩:=e0
    cases v1
    case int q1 z1 =>
     by_cases e1:q1=.u64∧(Lit.int .u64 z1).wf=true
     ·obtain⟨rfl,w1⟩:=e1
      simp [w0,w1] at hl;exact⟨(z0,z1),⟨w0,w1⟩,rfl,by rw [← hl];rfl⟩
     ·simp [e1,w0] at hl
    all_goals simp [w0] at hl
   ·simp [e0] at hl
  all_goals simp at hl
theorem NmType.inj (T:NmType P t) {x y:Int × Int} (hx:NmWf x) (hy:NmWf y) (h:nmB x=nmB y):x=y:=by
 have:=T.law.inj (T.keyOf hx) (by rw [T.keyOf hy,h]);simp only [nmV,Value.agg.injEq] at this;simp at this;exact Prod.ext this.1 this.2
end
open Go.ChangeMaps (notKey eq_of_perm_sorted)
open Go.WideShapes (sorted_perm)
def valR (v:Value):Option (DataW Value × List MemPlace):=some (.held v,[])
def nmL (x:Int × Int):Lit:=.string (nmB x)
def entN (p:(Int × Int) × Value):Lit × DataW Value:=(nmL p.1,.held p.2)
def mapD (ks:List ((Int × Int) × Value)):DataW Value:=.map ((ks.map entN).foldr DataW.insert [])
def KsOk (ks:List ((Int × Int) × Value)):Prop:=(∀ p∈ks,NmWf p.1)∧(ks.map (·.1)).Nodup
def ksGet (ks:List ((Int × Int) × Value)) (x:Int × Int):Option Value:=(ks.find? (fun p=>decide (p.1=x))).map (·.2)
theorem valR_held {v u:Value} {ps:List MemPlace} (h:valR v=some (.held u,ps)):v=u:=by
 simp [valR] at h;exact h.1
theorem isKeyLit_nm (x:Int × Int):WideAt.IsKeyLit (nmL x):=trivial
section
variable {P:Program} {t:TypeId}
theorem NmType.nmL_ne (T:NmType P t) {x y:Int × Int} (hx:NmWf x) (hy:NmWf y) (h:x≠y):nmL x≠nmL y:=fun e=>h (T.inj hx hy (by simpa [nmL] using e))
def KdN (l:Lit):Prop:=∃ x,NmWf x∧l=nmL x
theorem NmType.oneKind (T:NmType P t):OneKind KdN:=
 ⟨fun⟨x,_,e⟩=>by rw [e];exact isKeyLit_nm x,fun⟨x,hx,e⟩ ⟨y,hy,e'⟩ hne=>by subst e e';exact(Keyed.of_law T.law).total (T.keyOf hx) (T.keyOf hy) hne⟩
theorem keys_ent {ks:List ((Int × Int) × Value)} (h:KsOk ks):Keys KdN (ks.map entN):=fun p hp=>by
 obtain⟨q,hq,rfl⟩:=List.mem_map.1 hp;exact⟨q.1,h.1 q hq,rfl⟩
theorem NmType.ent_ne (T:NmType P t) {ks:List ((Int × Int) × Value)} (h:KsOk ks):(ks.map entN).Pairwise (fun p q=>p.1≠q.1):=by
 refine List.pairwise_map.2 ?_;have h2:ks.Pairwise (fun a b=>a.1≠b.1):=List.pairwise_map.1 h.2
 exact h2.imp_of_mem fun {a b} ha hb hab=>T.nmL_ne (h.1 a ha) (h.1 b hb) hab
theorem NmType.mapD_perm (T:NmType P t) {ks ks':List ((Int × Int) × Value)} (h:KsOk ks) (hp:ks.Perm ks'):mapD ks=mapD ks':=by
 have h':KsOk ks':=⟨fun p hp'=>h.1 p (hp.mem_iff.2 hp'),(hp.map _).nodup_iff.1 h.2⟩
 unfold mapD;rw [eq_of_perm_sorted ((sorted_perm _).trans ((hp.map entN).trans (sorted_perm _).symm)) (sorted_sorted T.oneKind _ (keys_ent h) (T.ent_ne h)) (sorted_sorted T.oneKind _ (keys_ent h') (T.ent_ne h'))]
theorem NmType.filter_ent (T:NmType P t) {ks:List ((Int × Int) × Value)} (h:KsOk ks) {x:Int × Int} (hx:NmWf x):(ks.map entN).filter (notKey (nmL x))=(ks.filter (fun p=>decide (p.1≠x))).map entN:=by
 rw [List.filter_map]
 congr 1
 refine List.filter_congr fun p hp=>?_
 have hiff:notKey (nmL x) (entN p)=true↔p.1≠x:=by
  rw [notKey_iff (isKeyLit_nm x)];exact⟨fun hne e=>hne (by show nmL p.1=_;rw [e]),fun hne=>T.nmL_ne (h.1 p hp) hx hne⟩
 rw [Bool.eq_iff_iff,decide_eq_true_iff];exact hiff
theorem NmType.mapD_put (T:NmType P t) {ks:List ((Int × Int) × Value)} (h:KsOk ks) {x:Int × Int} (hx:NmWf x) (v:Value):(mapD ks).put (nmL x) (.held v)=mapD ((x,v) :: ks.filter (fun p=>decide (p.1≠x))):=by
 unfold mapD;rw [DataW.put_eq,← sorted_put T.oneKind (E':=((x,v) :: ks.filter (fun p=>decide (p.1≠x))).map entN) ⟨x,hx,rfl⟩ (keys_ent h) (T.ent_ne h) (by rw [T.filter_ent h hx];exact List.Perm.refl _)]
theorem NmType.mapD_del (T:NmType P t) {ks:List ((Int × Int) × Value)} (h:KsOk ks) {x:Int × Int} (hx:NmWf x):(mapD ks).del (nmL x)=mapD (ks.filter (fun p=>decide (p.1≠x))):=by
 unfold mapD;rw [DataW.del_eq,← sorted_del T.oneKind (E':=(ks.filter (fun p=>decide (p.1≠x))).map entN) (keys_ent h) (T.ent_ne h) (by rw [T.filter_ent h hx])]
theorem KsOk.tail {p:(Int × Int) × Value} {ks:List ((Int × Int) × Value)} (h:KsOk (p :: ks)):KsOk ks:=
 ⟨fun q hq=>h.1 q (List.mem_cons_of_mem _ hq),(List.nodup_cons.1 (by simpa using h.2)).2⟩
theorem KsOk.fresh {p:(Int × Int) × Value} {ks:List ((Int × Int) × Value)} (h:KsOk (p :: ks)):∀ q∈ks,q.1≠p.1:=fun q hq e=>by
 have:=(List.nodup_cons.1 (show (p.1 :: ks.map (·.1)).Nodup from by simpa using h.2)).1;exact this (by rw [← e];exact List.mem_map.2 ⟨q,hq,rfl⟩)
theorem NmType.mapD_cons (T:NmType P t) {p:(Int × Int) × Value} {ks:List ((Int × Int) × Value)} (h:KsOk (p :: ks)):mapD (p :: ks)=(mapD ks).put (nmL p.1) (.held p.2):=by
 rw [T.mapD_put h.tail (h.1 p (by simp)) p.2,List.filter_eq_self.2 (fun q hq=>by simpa using h.fresh q hq)]
theorem NmType.tidy_mapD (T:NmType P t):∀ ks,KsOk ks→Tidy (mapD ks)
 | [],_=>tidy_empty
 | p :: ks,h=>by rw [T.mapD_cons h];exact(T.tidy_mapD ks h.tail).put (isKeyLit_nm _) _
theorem NmType.has_mapD (T:NmType P t) {x:Int × Int} (hx:NmWf x):∀ ks,KsOk ks→Maps.has (mapD ks) (nmL x)=ks.any (fun p=>decide (p.1=x))
 | [],_=>rfl
 | p :: ks,h=>by
  by_cases e:p.1=x
  ·subst e
   rw [T.mapD_cons h,has_put_same (T.tidy_mapD ks h.tail).isMap (isKeyLit_nm _)];simp
  ·rw [T.mapD_cons h,has_put_other (T.nmL_ne hx (h.1 p (by simp)) (fun e'=>e e'.symm)),T.has_mapD hx ks h.tail]
   simp [e]
theorem NmType.atKey_mapD (T:NmType P t) {x:Int × Int} (hx:NmWf x) (z:DataW Value):∀ ks,KsOk ks→(mapD ks).atKey (nmL x) z=(match ksGet ks x with | some b=>.held b | none=>z)
 | [],_=>rfl
 | p :: ks,h=>by
  by_cases e:p.1=x
  ·subst e
   rw [T.mapD_cons h,atKey_put_same (T.tidy_mapD ks h.tail).isMap (isKeyLit_nm _)];simp [ksGet]
  ·rw [T.mapD_cons h,atKey_put_other (T.nmL_ne hx (h.1 p (by simp)) (fun e'=>e e'.symm)),T.atKey_mapD hx z ks h.tail]
   simp [ksGet,e]
theorem NmType.size_mapD (T:NmType P t):∀ ks,KsOk ks→Maps.size (mapD ks)=ks.length
 | [],_=>rfl
 | p :: ks,h=>by
  have hf:Maps.has (mapD ks) (nmL p.1)=false:=by
   rw [T.has_mapD (h.1 p (by simp)) ks h.tail];simp
   exact fun a b c hq=>h.fresh ((a,b),c) hq
  rw [T.mapD_cons h,size_put (T.tidy_mapD ks h.tail),hf,T.size_mapD ks h.tail];simp
def CollN (ks:List ((Int × Int) × Value)) (left:Lit→Bool) (ss:List (Int × Int)):Prop:=
 ss.Nodup∧(∀ x∈ss,NmWf x)∧∀ x,NmWf x→(x∈ss↔(x∈ks.map (·.1)∧left (nmL x)=false))
theorem NmType.has_iff (T:NmType P t) {ks:List ((Int × Int) × Value)} (hk:KsOk ks) {x:Int × Int} (hx:NmWf x):Maps.has (mapD ks) (nmL x)=true↔x∈ks.map (·.1):=by
 rw [T.has_mapD hx ks hk,List.any_eq_true];simp
theorem CollN.start (T:NmType P t) {ks:List ((Int × Int) × Value)} (hk:KsOk ks):CollN ks (Maps.has (mapD ks)) []:=
 ⟨List.nodup_nil,by simp,fun x hx=>by
  have:=T.has_iff hk hx
  cases h:Maps.has (mapD ks) (nmL x) <;> simp_all⟩
theorem CollN.step (T:NmType P t) {ks:List ((Int × Int) × Value)} {left:Lit→Bool} {ss:List (Int × Int)} (h:CollN ks left ss) {x:Int × Int} (hx:NmWf x) (hlk:left (nmL x)=true) (hin:x∈ks.map (·.1)) :
  CollN ks (fun z=>left z && !z.sameKey (nmL x)) (ss ++ [x]):=by
 have hnew:x∉ss:=fun hm=>by have:=((h.2.2 x hx).1 hm).2;rw [hlk] at this;cases this
 refine⟨List.nodup_append.2 ⟨h.1,by simp,fun a ha b hb=>by simp at hb;subst hb;exact fun e=>hnew (e ▸ ha)⟩,fun y hy=>?_,fun y hy=>?_⟩
 ·rcases List.mem_append.1 hy with hy | hy
  ·exact h.2.1 y hy
  ·simp at hy;subst hy;exact hx
 ·by_cases e:y=x
  ·subst e
   have hs:(nmL y).sameKey (nmL y)=true:=by simp [nmL,Lit.sameKey]
   constructor
   ·intro _;exact⟨hin,by simp [hs]⟩
   ·intro _;simp
  ·have hs:(nmL y).sameKey (nmL x)=false:=sameKey_ne (T.nmL_ne hy hx e)
   rw [List.mem_append,h.2.2 y hy];simp [hs,e]
theorem CollN.perm {ks:List ((Int × Int) × Value)} (hk:KsOk ks) {left:Lit→Bool} {ss:List (Int × Int)} (h:CollN ks left ss) (hl:∀ kl,left kl=false):ss.Perm (ks.map (·.1)):=by
 refine(List.perm_ext_iff_of_nodup h.1 hk.2).2 fun x=>⟨fun hm=>((h.2.2 x (h.2.1 x hm)).1 hm).1,fun hm=>?_⟩
 obtain⟨p,hp,rfl⟩:=List.mem_map.1 hm;exact(h.2.2 p.1 (hk.1 p hp)).2 ⟨hm,hl _⟩
end
end Go.Proofs
namespace Go.Proofs
open Go.RowKit Go.Sort
def BoxN (W:World) (B:Nat) (t:TypeId) (cs:Array Value):Prop:=W.heap[B]? = some (.cells cs t (0,0))
section
variable {W W':World} {B:Nat} {t:TypeId} {cs:Array Value}
theorem BoxN.lt (h:BoxN W B t cs):B<W.heap.size:=(Array.getElem?_eq_some_iff.1 h).1
theorem BoxN.cell (h:BoxN W B t cs) (i:Nat) {v:Value} (hv:cs[i]? = some v):W.cell? ⟨B,i,none⟩=some v:=by simp [World.cell?,show W.heap[B]? = _ from h,hv]
theorem BoxN.frozen (h:BoxN W B t cs) (i:Nat):W.frozen? ⟨B,i,none⟩=false:=by simp [World.frozen?,show W.heap[B]? = _ from h]
theorem BoxN.new (W:World) (t:TypeId) (cs:Array Value):BoxN (W.alloc (.cells cs t)) W.heap.size t cs:=World.alloc_heap_new W _
theorem BoxN.kept {row:Option Nat} (h:BoxN W B t cs) (hg:W.grownBy W' row) (hne:some B≠row):BoxN W' B t cs:=(hg.block B h.lt hne).trans h
theorem BoxN.alloc (h:BoxN W B t cs) (o:Obj):BoxN (W.alloc o) B t cs:=h.kept (World.grownBy_alloc W o none) (by simp)
theorem BoxN.below {n₀:Nat} (h:BoxN W B t cs) (hb:Below n₀ W W') (hB:B<n₀):BoxN W' B t cs:=(hb.block B hB).trans h
theorem BoxN.set (h:BoxN W B t cs) (i:Nat) (v:Value):BoxN (W.setCell ⟨B,i,none⟩ v) B t (cs.setIfInBounds i v):=by
 obtain⟨hlt,hk⟩:=Array.getElem?_eq_some_iff.1 h
 show (W.heap.modify B _)[B]? = _
 rw [Array.getElem?_eq_getElem (by rw [Array.size_modify];exact hlt),Array.getElem_modify_self,hk];rfl
theorem BoxN.other {B':Nat} (h:BoxN W B t cs) (hne:B≠B') (i:Nat) (v:Value):BoxN (W.setCell ⟨B',i,none⟩ v) B t cs:=by
 show (W.heap.modify B' _)[B]? = _
 rw [Array.getElem?_modify,if_neg (fun e=>hne e.symm)];exact h
end
def cellOr (W:World) (a:Addr):Value:=(W.cell? a).getD undef
theorem cellOr_some {W:World} {a:Addr} (h:(W.cell? a).isSome):W.cell? a=some (cellOr W a):=by
 unfold cellOr;obtain⟨v,hv⟩:=Option.isSome_iff_exists.1 h;rw [hv];rfl
theorem boxN_own {β:Type} (B:Nat) (t:TypeId) (f:β→Array Value):Own (fun s W=>BoxN W B t (f s)):=fun _ X _ _ hs hg hrow =>
 hs.kept hg (fun e'=>by obtain⟨o,ho,hc⟩:=hrow B e'.symm;rw [show X.heap[B]? = _ from hs] at ho;cases ho;cases hc)
def SeqO {α:Type} (n:Nat) (P:Program) (g:Nat) (lb:Array Value) (encs:α→Array Value) (E:World→Prop) (Kp:World→World→Prop) (S Sp:List α→Prop) (N:Nat) (w:World):Prop:=
 ∀(l:Nat) (J Jx:List α→World→Prop) (W:World),Below w.heap.size w W→OwnFrom W.heap.size J→OwnFrom W.heap.size Jx→(∀ s V,J s V→E V) →
  (∀ pre x W1,J pre W1→pre.length<N→YieldAt Fence.wide (n-1) P l (encs x) W1 fun e W' =>
   (e=.returned (.bool true)∧J (pre ++ [x]) W'∧Kp W1 W'∧KeepsFrom W.heap.size W1 W')∨(e=.returned (.bool false)∧Jx (pre ++ [x]) W'∧KeepsFrom W.heap.size W1 W')) →
  J [] W →
  CallsIn Fence.wide n P g (#[.func (.yield l) #[] #[]] ++ lb) W fun e W'=>(∃ v,e=.returned v)∧((∃ xs,S xs∧J xs W')∨(∃ pre,Sp pre∧Jx pre W'))
structure Booked (W:World) (D:Nat) (r:Loop):Prop where
 loop:W.heap[D+1]? = some (.loop r)
 defd:W.heap[D]? = some (.deferred (some []))
theorem Booked.own {W W':World} {D:Nat} {r:Loop} {row:Option Nat} (h:Booked W D r) (hg:W.grownBy W' row) (hr:∀ k,row=some k→D+2≤k):Booked W' D r:=
 ⟨(hg.block _ (Array.getElem?_eq_some_iff.1 h.loop).1 (fun e=>by have:=hr _ e.symm;omega)).trans h.loop,
  (hg.block _ (Array.getElem?_eq_some_iff.1 h.defd).1 (fun e=>by have:=hr _ e.symm;omega)).trans h.defd⟩
theorem Booked.put {W:World} {D:Nat} {r:Loop} (h:Booked W D r) (r':Loop):Booked (W.putObj (D+1) (.loop r')) D r':=
 ⟨World.putObj_heap_same (Array.getElem?_eq_some_iff.1 h.loop).1,(World.putObj_heap_other (by omega)).trans h.defd⟩
theorem keepsFrom_up {B B':Nat} {W W':World} (h:KeepsFrom B W W') (hB:B≤B'):KeepsFrom B' W W':=⟨h.size,fun k o hk h1 h2=>h.same k o (Nat.le_trans hB hk) h1 h2⟩
theorem keepsFrom_put {B j:Nat} (W:World) (o:Obj) (hj:j<B):KeepsFrom B W (W.putObj j o):=KeepsFrom.of_grownBy (grownBy_putObj' W j o) (fun k e=>by cases e;exact hj)
theorem Booked.from {W W':World} {D:Nat} {r:Loop} (h:Booked W D r) (hk:KeepsFrom D W W'):Booked W' D r:=
 ⟨hk.same _ _ (by omega) h.loop rfl,hk.same _ _ (Nat.le_refl _) h.defd rfl⟩
section
variable {n:Nat} {P:Program}
theorem wpIn_rangeO {α:Type} {g:Operand} {ps:Array Tmp} {assign body:Code} {Q:Exit→Act→World→Prop} {a:Act} {w:World}
  (h1:1≤n) {gf:Nat} {lb:Array Value} (hg:a.eval g=.func (.func gf) #[] lb) (eg:∀ args w,(callFunc gf args).run P w=.ok (.enter gf args) w)
  {encs:α→Array Value} {E:World→Prop} {Kp:World→World→Prop} {S Sp:List α→Prop} {N:Nat} {w0:World} (hseq:SeqO (n-1) P gf lb encs E Kp S Sp N w0)
  (hKt:∀ {A B C:World},Kp A B→Kp B C→Kp A C) (hKb:∀(W:World) (l:Nat) (o o':Obj),w.heap.size≤l→W.heap[l]? = some o→o.isCells=false→o.isWalk=false→Kp W (W.putObj l o'))
  (hb0:Below w0.heap.size w0 w) (hps:∀ x,(encs x).size=ps.size)
  (I:List α→World→Prop) (Ix:Code→List α→World→Prop) (hI:OwnFrom w.heap.size I) (hIx:∀ c,OwnFrom w.heap.size (Ix c)) (hIE:∀ s V,I s V→E V) (h0:I [] w)
  (Ax:α→Act→World→Prop) (hAx:∀ x a',OwnFrom w.heap.size (fun(_:Unit) W=>Ax x a' W))
  (hassign:∀(l:Nat) (pre:List α) (x:α) (W:World) (K:Act→World→Prop),I pre W→(∀ a' W',KeepsFrom w.heap.size W W'→Kp W W'→I pre W'→Ax x a' W'→K a' W') →
   assign.wpIn (Fence.wide.inRound l) (n-1-1) P (Exit.then K (fun _ _ _=>False)) { tmps:=(ps.zip (encs x)).foldl (fun t (p,v)=>t.setIfInBounds p v) a.tmps,defers:=[] } W)
  (hbody:∀(l:Nat) (pre:List α) (x:α) (a':Act) (W:World),w.heap.size≤l→I pre W→Ax x a' W→pre.length<N→body.wpIn (Fence.wide.inRound l) (n-1-1) P (ownPostG w.heap.size Kp I Ix (pre ++ [x]) W) a' W)
  (hdone:∀(D:Nat) (xs:List α) (W:World),w.heap.size≤D→S xs→I xs W→W.heap[D]? = some (.deferred (some []))→Q .normal { a with defers:={ target:=.collected D,args:=#[] } :: a.defers } W)
  (hstop:∀(D:Nat) (c:Code) (pre:List α) (W:World),w.heap.size≤D→Sp pre→Ix c pre W→W.heap[D]? = some (.deferred (some []))→c.wpIn Fence.wide n P Q { a with defers:={ target:=.collected D,args:=#[] } :: a.defers } W) :
  (Code.rangeFunc g ps assign body).wpIn Fence.wide n P Q a w:=by
 refine wpIn_rangeFunc ?_;intro fn hfn
 let rc:LoopState→Option Code→Loop:=fun st pe=>{ state:=st,pending:=pe,fn,tmps:=a.tmps,params:=ps,assign,body,defers:=w.heap.size }
 obtain⟨W1,hW1⟩:∃ W1,(w.alloc (.deferred (some []))).alloc (.loop (rc .ready none))=W1:=⟨_,rfl⟩
 have hz1:W1.heap.size=w.heap.size+2:=by rw [← hW1];simp
 have hk1:Booked W1 w.heap.size (rc .ready none):=by
  rw [← hW1];refine⟨?_,(Below.heap_alloc _ _ _ (by simp)).trans (World.alloc_heap_new w _)⟩;have:=World.alloc_heap_new (w.alloc (.deferred (some []))) (.loop (rc .ready none))
  rwa [World.size_alloc] at this
 have hi1:I [] W1:=by rw [← hW1];exact hI.alloc _ (hI.alloc _ h0)
 have hb1:Below w0.heap.size w0 W1:=by
  rw [← hW1];exact hb0.trans ((((Below.refl _ w).alloc (Nat.le_refl _) _).alloc (by simp) _).mono hb0.size)
 have widen:∀ {A:World} {row:Option Nat},(∀ r,row=some r→W1.heap.size≤r∧∃ o:Obj,A.heap[r]? = some o∧o.isCells=false)→∀ r,row=some r→w.heap.size≤r∧∃ o:Obj,A.heap[r]? = some o∧o.isCells=false:=
  fun h r e=>⟨by have:=(h r e).1;omega,(h r e).2⟩
 refine⟨w.heap.size+1,[{ target:=.collected w.heap.size,args:=#[] }],W1,{ target:=.fn (.func gf) lb,args:=#[.func (.yield (w.heap.size+1)) #[] #[]] },W1,gf,
  #[.func (.yield (w.heap.size+1)) #[] #[]] ++ lb,W1,?_,?_,fun _ _=>trivial,?_,fun _=>h1,?_⟩
 ·rw [← hW1];exact run_enterLoop_outer _ _ _ _ _
 ·simp only [resolve,hg];simp [go_sem]
 ·simp [invoke,go_sem,eg]
 refine(hseq (w.heap.size+1) (fun pre W=>I pre W∧Booked W w.heap.size (rc .ready none)) (fun pre W=>∃ c,Ix c pre W∧Booked W w.heap.size (rc .done (some c))) W1 hb1
  (fun s A B row hs hg' hr=>⟨hI s A B row hs.1 hg' (widen hr),hs.2.own hg' (fun k e=>by have:=(hr k e).1;omega)⟩)
  (fun s A B row ⟨c,hc,hk⟩ hg' hr=>⟨c,hIx c s A B row hc hg' (widen hr),hk.own hg' (fun k e=>by have:=(hr k e).1;omega)⟩) (fun s V hs=>hIE s V hs.1) ?_ ⟨hi1,hk1⟩).mono ?_
 ·rintro pre x W ⟨hi,hk⟩ hlen
  have hy:=run_yield (P:=P) (args:=encs x) hk.loop (hps x);refine⟨fn,_,assign,body,hy,roundIn_of_wpIn hfn (hassign _ pre x W _ hi ?_)⟩;clear hy;intro a' V kf kp hi' hax
  have hkV:=hk.from kf
  have hltV:=(Array.getElem?_eq_some_iff.1 hkV.loop).1;refine⟨_,run_beginRound hkV.loop rfl,?_⟩;have hkB:=hkV.put { rc .ready none with state:=.busy };have kpB:Kp V (V.putObj (w.heap.size+1) (.loop { rc .ready none with state:=.busy })):=hKb _ _ _ _ (by omega) hkV.loop rfl rfl;refine wpIn_mono (hbody _ pre x a' _ (by omega) (hI.putObj _ hi' (by omega) hkV.loop rfl) ((hAx x a').putObj (s:=()) _ hax (by omega) hkV.loop rfl) hlen) ?_;rintro e a3 W3 hp
  have kfAll:∀ {W3:World} (_:KeepsFrom w.heap.size (V.putObj (w.heap.size+1) (.loop { rc .ready none with state:=.busy })) W3) (o:Obj),KeepsFrom W1.heap.size W (W3.putObj (w.heap.size+1) o):=fun k3 o =>
   (((keepsFrom_up kf (by omega)).trans (keepsFrom_put V _ (by omega))).trans (keepsFrom_up k3 (by omega))).trans (keepsFrom_put _ o (by omega))
  have leave:∀ c,KeepsFrom w.heap.size (V.putObj (w.heap.size+1) (.loop { rc .ready none with state:=.busy })) W3→Ix c (pre ++ [x]) W3 →
    ∃ v W',(Instr.endRound (w.heap.size+1) (some c)).run P W3=.ok v W'∧v=.bool false∧(∃ c',Ix c' (pre ++ [x]) W'∧Booked W' w.heap.size (rc .done (some c')))∧KeepsFrom W1.heap.size W W':=fun c k3 i3=>by
   have hk3:=hkB.from k3
   exact⟨_,_,run_endRound (P:=P) (some c) hk3.loop,rfl,⟨c,(hIx c).putObj _ i3 (by omega) hk3.loop rfl,hk3.put _⟩,kfAll k3 _⟩
  cases e with
  | normal =>
   obtain⟨k3,kp3,i3⟩:=hp
   have hk3:=hkB.from k3
   exact⟨_,_,run_endRound (P:=P) none hk3.loop,.inl ⟨rfl,⟨hI.putObj _ i3 (by omega) hk3.loop rfl,hk3.put _⟩,hKt kp (hKt (hKt kpB kp3) (hKb _ _ _ _ (by omega) hk3.loop rfl rfl)),kfAll k3 _⟩⟩
  | ret =>
   obtain⟨v,W',hrun,rfl,rest⟩:=leave .ret hp.1 hp.2;exact⟨_,_,hrun,.inr ⟨rfl,rest⟩⟩
  | exit id =>
   obtain⟨v,W',hrun,rfl,rest⟩:=leave (.exit id) hp.1 hp.2;exact⟨_,_,hrun,.inr ⟨rfl,rest⟩⟩
  | goto t =>
   obtain⟨v,W',hrun,rfl,rest⟩:=leave (.goto t) hp.1 hp.2;exact⟨_,_,hrun,.inr ⟨rfl,rest⟩⟩
  | panic ch=>exact hp.elim
  | outgrown=>exact hp.elim
 ·rintro e W2 ⟨⟨v,rfl⟩,(⟨xs,hS,hi,hk⟩ | ⟨pre,hSp,c,hi,hk⟩)⟩
  ·exact⟨none,_,run_endLoop (P:=P) hk.loop (by simp [rc]),hdone _ xs _ (Nat.le_refl _) hS (hI.putObj _ hi (by omega) hk.loop rfl) ((World.putObj_heap_other (by omega)).trans hk.defd)⟩
  ·exact⟨some c,_,run_endLoop (P:=P) hk.loop (by simp [rc]),hstop _ c pre _ (Nat.le_refl _) hSp ((hIx c).putObj _ hi (by omega) hk.loop rfl) ((World.putObj_heap_other (by omega)).trans hk.defd)⟩
end
end Go.Proofs
namespace Go.Proofs
open Go.RowKit Go.Sort Go.Shelf
def flatN (ss:List (Int × Int)):List Value:=ss.flatMap encN
theorem flatN_snoc (ss:List (Int × Int)) (x:Int × Int):flatN (ss ++ [x])=flatN ss ++ [.int .i64 x.1,.int .u64 x.2]:=by simp [flatN,encN]
theorem flatN_length (ss:List (Int × Int)):(flatN ss).length=ss.length*2:=by
 induction ss with
 | nil=>rfl
 | cons x ss ih=>simp [flatN,encN] at ih ⊢;omega
theorem get_flatN:∀(ss:List (Int × Int)) (t:Nat),t<ss.length*2→(flatN ss)[t]? = some ((encN (ss[t / 2]!))[t % 2]!)
 | [],t,h=>by simp at h
 | x :: ss,0,_=>by simp [flatN,encN]
 | x :: ss,1,_=>by simp [flatN,encN]
 | x :: ss,t+2,h=>by
  have ih:=get_flatN ss t (by simp at h;omega)
  have e1:(t+2) / 2=t / 2+1:=by omega
  have e2:(t+2) % 2=t % 2:=by omega
  rw [e1,e2]
  simpa [flatN,encN] using ih
theorem flatK_flatN (ss:List (Int × Int)):flatK encN 2 ss.toArray=(flatN ss).toArray:=by
 apply Array.ext';apply List.ext_getElem?;intro t
 by_cases h:t<ss.length*2
 ·rw [show ((flatN ss).toArray.toList)=flatN ss from rfl,get_flatN ss t h]
  rw [Array.getElem?_toList,Array.getElem?_eq_getElem (by simpa using h),← getElem!_pos _ t (by simpa using h),get_flatK encN 2 ss.toArray t (by simpa using h)];simp
 ·rw [Array.getElem?_toList,Array.getElem?_eq_none (by simpa using Nat.le_of_not_lt h),List.getElem?_eq_none (by rw [show ((flatN ss).toArray.toList)=flatN ss from rfl,flatN_length];omega)]
theorem holdsK_row {w:World} {g:Nat} {cur:Array Value} {e:TypeId} {ss:List (Int × Int)} (hb:w.heap[g]? = some (.cells cur e (0,0))) (ht:cur.toList.take (ss.length*2)=flatN ss):HoldsK encN 2 w g 0 ss.toArray:=by
 unfold HoldsK;rw [flatK_flatN];intro j hj
 have hj':j<ss.length*2:=by simpa [flatN_length] using hj
 refine⟨?_,by simp [World.frozen?,hb]⟩
 have h1:(cur.toList.take (ss.length*2))[j]? = (flatN ss)[j]?:=by rw [ht]
 rw [List.getElem?_take_of_lt hj'] at h1
 have hj2:j<(flatN ss).length:=by rw [flatN_length];exact hj'
 simp only [World.cell?,hb,Nat.zero_add];simp only [Option.isSome_none,Bool.false_eq_true,if_false];rw [← Array.getElem?_toList,h1];simp [hj2]
theorem heap_sortedK {w:World} {g n:Nat} {os:Array Obj} {cur:Array Value} {e:TypeId} {fr:Nat × Nat} (d:Array (Int × Int)) (hb:w.heap[g]? = some (.cells cur e fr)) :
  (sortWorldK encN 2 w g 0 n d os).heap[g]? = some (.cells (putCells id 0 (flatK encN 2 d) cur) e fr):=by
 have hg:g<w.heap.size:=(Array.getElem?_eq_some_iff.1 hb).1;unfold sortWorldK putRowK;rw [heap_grow_old _ _ (by simpa using hg)];simp [putRow,mapBlock,Sort.ahead,Array.getElem?_modify,hb,onCells]
theorem grownBy_sortedK {w:World} {g n:Nat} {os:Array Obj} (d:Array (Int × Int)):w.grownBy (sortWorldK encN 2 w g 0 n d os) (some g):=by
 unfold sortWorldK putRowK;refine⟨rfl,rfl,rfl,by simp,fun k hk hne=>?_⟩;rw [heap_grow_old _ _ (by simpa using hk)]
 have:g≠k:=fun e=>hne (by rw [e])
 simp [putRow,mapBlock,Sort.ahead,Array.getElem?_modify,this]
theorem take_putCellsK (cur:Array Value) (ts:List Value) (h:ts.length≤cur.size):(putCells id 0 ts.toArray cur).toList.take ts.length=ts:=by
 apply List.ext_getElem?;intro j
 by_cases hj:j<ts.length
 ·rw [List.getElem?_take_of_lt hj,Array.getElem?_toList]
  simp [putCells,hj,show j<cur.size by omega]
 ·rw [List.getElem?_take_eq_none (by omega),List.getElem?_eq_none (by omega)]
theorem ownsRow_sortedK {w:World} {base g cap n:Nat} {e:TypeId} {os:Array Obj} {cur:Array Value} {ss ts:List (Int × Int)} (hl:ts.length=ss.length) (hbase:base≤g) (hb:w.heap[g]? = some (.cells cur e (0,0)))
  (h1:ss.length≤cap) (h2:cap≤maxLen) (h3:cur.size=cap*2) :
  (sortWorldK encN 2 w g 0 n ts.toArray os).ownsRow base e 2 (.slice (some ⟨g,0,none⟩) ss.length cap) ss.length (flatN ts):=
 ⟨by rw [flatN_length,hl],.inr ⟨g,cap,_,rfl,hbase,heap_sortedK _ hb,h1,h2,by simp [putCells,h3],by
  rw [flatK_flatN,← hl,← flatN_length];exact take_putCellsK cur (flatN ts) (by rw [flatN_length];omega)⟩⟩
theorem ltOf_cmpN (x y:Int × Int):ltOf cmpN x y=decide (x.1<y.1∨x.1=y.1∧x.2<y.2):=by
 unfold ltOf;exact decide_eq_decide.2 (cmpN_neg x y)
theorem swoN:SWO (ltOf cmpN) where
 irrefl x:=by rw [ltOf_cmpN];simp
 trans x y z h1 h2:=by rw [ltOf_cmpN] at *;simp at *;omega
 ntrans x y z h1 h2:=by rw [ltOf_cmpN] at *;simp at *;omega
theorem ltN_total (x y:Int × Int) (h1:ltOf cmpN x y=false) (h2:ltOf cmpN y x=false):x=y:=by
 rw [ltOf_cmpN] at *;simp at h1 h2;exact Prod.ext (by omega) (by omega)
def SortedN (L:List (Int × Int)):Prop:=L.Pairwise (fun x y=>ltOf cmpN x y=true)
theorem mergeSort_names {ss L:List (Int × Int)} (hp:ss.Perm L) (hs:SortedN L):ss.mergeSort (fun x y=>!ltOf cmpN y x)=L:=by
 have tr:∀ a b c:Int × Int,(!ltOf cmpN b a)=true→(!ltOf cmpN c b)=true→(!ltOf cmpN c a)=true:=fun a b c h1 h2=>by
  simp at *;exact swoN.ntrans c b a h2 h1
 have to:∀ a b:Int × Int,((!ltOf cmpN b a)||(!ltOf cmpN a b))=true:=fun a b=>by
  rw [ltOf_cmpN,ltOf_cmpN];simp;omega
 refine List.Perm.eq_of_pairwise (le:=fun a b=>(!ltOf cmpN b a)=true) (fun a b _ _ h1 h2=>ltN_total a b (by simpa using h2) (by simpa using h1)) (List.pairwise_mergeSort tr to ss) ?_ ((List.mergeSort_perm ss _).trans hp)
 refine hs.imp fun {a b} h=>?_
 rw [ltOf_cmpN] at *;simp at *;omega
end Go.Proofs
namespace Go.Proofs
open Go.RowKit Go.Sort Go.Maps Go.WideMaps
theorem ksGet_mem {ks:List ((Int × Int) × Value)} {x:Int × Int} {b:Value} (h:ksGet ks x=some b):(x,b)∈ks:=by
 unfold ksGet at h
 cases hf:ks.find? (fun p=>decide (p.1=x)) with
 | none=>simp [hf] at h
 | some p =>
  simp [hf] at h;have h1:=List.mem_of_find?_eq_some hf;have h2:=List.find?_some hf;simp at h2;obtain⟨p1,p2⟩:=p;simp at h h2;subst h h2;exact h1
theorem ksGet_none {ks:List ((Int × Int) × Value)} {x:Int × Int}:ksGet ks x=none↔∀ p∈ks,p.1≠x:=by
 unfold ksGet;simp [List.find?_eq_none]
theorem ksGet_of_mem {ks:List ((Int × Int) × Value)} (hk:KsOk ks) {x:Int × Int} {b:Value} (h:(x,b)∈ks):ksGet ks x=some b:=by
 induction ks with
 | nil=>cases h
 | cons p ks ih =>
  rcases List.mem_cons.1 h with rfl | h'
  ·simp [ksGet]
  ·have hne:p.1≠x:=fun e=>hk.fresh _ h' (by simpa using e.symm)
   have:=ih hk.tail h'
   simpa [ksGet,hne] using this
section
variable {P:Program} {t:TypeId} {ks:List ((Int × Int) × Value)} {x:Int × Int}
theorem NmType.has_some (T:NmType P t) (hk:KsOk ks) (hx:NmWf x) {b:Value} (hg:ksGet ks x=some b):Maps.has (mapD ks) (nmL x)=true:=
 (T.has_iff hk hx).2 (List.mem_map.2 ⟨_,ksGet_mem hg,rfl⟩)
theorem NmType.has_none (T:NmType P t) (hk:KsOk ks) (hx:NmWf x) (hg:ksGet ks x=none):Maps.has (mapD ks) (nmL x)=false:=by
 cases h:Maps.has (mapD ks) (nmL x) with
 | false=>rfl
 | true =>
  obtain⟨p,hp,e⟩:=List.mem_map.1 ((T.has_iff hk hx).1 h);exact absurd e (ksGet_none.1 hg p hp)
section
variable {w:World} {b n:Nat} {tm e:TypeId}
theorem NmType.look_hit (T:NmType P t) (hk:KsOk ks) (hx:NmWf x) (hown:w.ownsMap P t valR b n (mapD ks)) (ht:P.underlying tm=some (.map t e)) {z:Value} (hz:(zeroValue e).run P w=.ok z w) {pv:Value} (hg:ksGet ks x=some pv) :
  (Instr.lookup tm (.map (some b)) (nmV x) true).run P w=.ok (.tuple #[pv,.bool true]) w:=by
 obtain⟨v,ps,hrun,hv⟩:=hown.look_ok (Keyed.of_law T.law) ht hz (zd:=.held z) (zp:=[]) rfl (T.keyOf hx);have h1:=T.atKey_mapD hx (.held z) ks hk;rw [hg] at h1;rw [show Lit.string (nmB x)=nmL x from rfl,h1] at hv;rw [hrun,show Lit.string (nmB x)=nmL x from rfl,T.has_some hk hx hg,valR_held hv]
theorem NmType.look_miss (T:NmType P t) (hk:KsOk ks) (hx:NmWf x) (hown:w.ownsMap P t valR b n (mapD ks)) (ht:P.underlying tm=some (.map t e)) {z:Value} (hz:(zeroValue e).run P w=.ok z w) (hg:ksGet ks x=none) :
  (Instr.lookup tm (.map (some b)) (nmV x) true).run P w=.ok (.tuple #[z,.bool false]) w:=by
 obtain⟨v,ps,hrun,hv⟩:=hown.look_ok (Keyed.of_law T.law) ht hz (zd:=.held z) (zp:=[]) rfl (T.keyOf hx);have h1:=T.atKey_mapD hx (.held z) ks hk;rw [hg] at h1;rw [show Lit.string (nmB x)=nmL x from rfl,h1] at hv;rw [hrun,show Lit.string (nmB x)=nmL x from rfl,T.has_none hk hx hg,valR_held hv]
theorem NmType.look1_hit (T:NmType P t) (hk:KsOk ks) (hx:NmWf x) (hown:w.ownsMap P t valR b n (mapD ks)) (ht:P.underlying tm=some (.map t e)) {z:Value} (hz:(zeroValue e).run P w=.ok z w) {pv:Value} (hg:ksGet ks x=some pv) :
  (Instr.lookup tm (.map (some b)) (nmV x) false).run P w=.ok pv w:=by
 obtain⟨v,ps,hrun,hv⟩:=hown.lookup (Keyed.of_law T.law) ht hz (zd:=.held z) (zp:=[]) rfl (T.keyOf hx);have h1:=T.atKey_mapD hx (.held z) ks hk;rw [hg] at h1;rw [show Lit.string (nmB x)=nmL x from rfl,h1] at hv;rw [hrun,valR_held hv]
end
end
def Stays (bad:TypeId→Bool):Obj→Bool
 | .cells _ t _=>!bad t
 | o=>o.isWalk
structure KeepsT (bad:TypeId→Bool) (W W':World):Prop where
 size:W.heap.size≤W'.heap.size
 same:∀(k:Nat) (o:Obj),W.heap[k]? = some o→Stays bad o=true→W'.heap[k]? = some o
section
variable {bad:TypeId→Bool} {W W' W'':World}
theorem KeepsT.refl (bad:TypeId→Bool) (W:World):KeepsT bad W W:=⟨Nat.le_refl _,fun _ _ h _=>h⟩
theorem KeepsT.trans (h:KeepsT bad W W') (h':KeepsT bad W' W''):KeepsT bad W W'':=⟨Nat.le_trans h.size h'.size,fun k o hk hs=>h'.same k o (h.same k o hk hs) hs⟩
theorem KeepsT.grown {row:Option Nat} (hg:W.grownBy W' row) (hr:∀ j,row=some j→∀ o,W.heap[j]? = some o→Stays bad o=false):KeepsT bad W W':=
 ⟨hg.size,fun k o hk hs=>(hg.block k (Array.getElem?_eq_some_iff.1 hk).1 (fun e=>by have:=hr k e.symm o hk;rw [hs] at this;cases this)).trans hk⟩
theorem KeepsT.alloc (W:World) (o:Obj):KeepsT bad W (W.alloc o):=KeepsT.grown (World.grownBy_alloc W o none) (fun _ e=>by cases e)
theorem KeepsT.below (h:Below W.heap.size W W'):KeepsT bad W W':=⟨h.size,fun k _ hk _=>(h.block k (Array.getElem?_eq_some_iff.1 hk).1).trans hk⟩
theorem keepsT_t {A B C:World} (h:KeepsT bad A B) (k:KeepsT bad B C):KeepsT bad A C:=h.trans k
theorem keepsT_b {w:World} (W:World) (l:Nat) (o o':Obj) (_:w.heap.size≤l) (h:W.heap[l]? = some o) (h1:o.isCells=false) (h2:o.isWalk=false):KeepsT bad W (W.putObj l o'):=
 KeepsT.grown (grownBy_putObj' W l o') (fun j e o2 ho=>by
  cases e;rw [h] at ho;cases ho
  cases o <;> simp_all [Stays,Obj.isCells])
theorem KeepsT.box {B:Nat} {t:TypeId} {cs:Array Value} (h:KeepsT bad W W') (hb:BoxN W B t cs) (ht:bad t=false):BoxN W' B t cs:=h.same B _ hb (by simp [Stays,ht])
theorem KeepsT.map {H:Type} {P:Program} {k:TypeId} {R:Value→Option (DataW H × List MemPlace)} {b n:Nat} {D:DataW H} (h:KeepsT bad W W') (hm:W.ownsMap P k R b n D):W'.ownsMap P k R b n D:=by
 obtain⟨es,clock,hb,F,hs,hD⟩:=hm;exact⟨es,clock,h.same b _ hb rfl,F,hs,hD⟩
theorem KeepsT.row {base:Nat} {e:TypeId} {size:Nat} {v:Value} {k:Nat} {xs:List Value} (h:KeepsT bad W W') (hr:W.ownsRow base e size v k xs) (he:bad e=false):W'.ownsRow base e size v k xs:=by
 refine⟨hr.1,?_⟩
 rcases hr.2 with hn | ⟨g,cap,cur,hv,hbg,hg,rest⟩
 ·exact .inl hn
 ·exact .inr ⟨g,cap,cur,hv,hbg,h.same g _ hg (by simp [Stays,he]),rest⟩
end
end Go.Proofs
