import Derived.WalkKit
import Derived.WalkSpells
import Derived.Sort.Grow
import Derived.Deep.Quiet
import Derived.ProofKit
import Derived.Maps.OwnSet
import Derived.Maps.OwnIn
import Derived.Maps.Range
import Derived.RangeFuncNested
import Derived.RangeFuncBox
import Derived.RangeFuncLeaves
import Derived.Shelf.SlSortCmp.NoneTotal
import Derived.Laws.OwnMore
set_option maxRecDepth 100000
set_option maxHeartbeats 8000000
namespace Go.Proofs
open Go.RowKit Go.Sort
theorem Xb {p:Prop} (h:p):Hid p:=h
theorem Xa {p:Prop} (h:Hid p):p:=h
def Xp (w w':World):Prop:=∃(q:Nat) (os:Array Obj),w'=grow (w.drewN q) os
theorem Xp.refl (w:World):Xp w w:=⟨0,#[],by simp [grow,World.drewN]⟩
theorem Xp.alloc {w w':World} (h:Xp w w') (o:Obj):Xp w (w'.alloc o):=by
 obtain⟨q,os,rfl⟩:=h;exact⟨q,os ++ #[o],by rw [alloc_eq_grow,grow_grow]⟩
theorem Xp.drew {w w':World} (h:Xp w w'):Xp w w'.drew:=by
 obtain⟨q,os,rfl⟩:=h;exact⟨q+1,os,rfl⟩
theorem Xp.drewN {w w':World} (h:Xp w w') (n:Nat):Xp w (w'.drewN n):=by
 obtain⟨q,os,rfl⟩:=h;exact⟨q+n,os,by simp [grow,World.drewN,Nat.add_assoc]⟩
theorem Xp.trans {w w' w'':World} (h:Xp w w') (h':Xp w' w''):Xp w w'':=by
 obtain⟨q,os,rfl⟩:=h;obtain⟨q',os',rfl⟩:=h';exact⟨q+q',os++os',by simp [grow,World.drewN,Nat.add_assoc,Array.append_assoc]⟩
theorem Xuj {W w1:World} {B:Nat} (hb:Below B W w1):(∀ b o,b<B->w1.cell? ⟨b,o,none⟩=W.cell? ⟨b,o,none⟩)/\(∀ b o,b<B->w1.frozen? ⟨b,o,none⟩=W.frozen? ⟨b,o,none⟩):=
 ⟨fun b o h=>hb.cell (p:=⟨b,o,none⟩) h,fun b o h=>hb.frozen (p:=⟨b,o,none⟩) h⟩
def cmpI (a b:Int):Int:=if a<b then -1 else if b<a then 1 else 0
def orI (a b:Int):Int:=if a=0 then b else a
def cmpN (x y:Int × Int):Int:=orI (cmpI x.1 y.1) (cmpI x.2 y.2)
def Ml (x:Int × Int):List Value:=[.int .i64 x.1,.int .u64 x.2]
theorem Yw {k:IntKind} {a b:Int} (h:a=b):Ending.returned (.int k a)=.returned (.int k b):=by rw [h]
theorem Xns {a b:Int} (h:a<b):cmpI a b = -1:=by simp [cmpI,h]
theorem Xnf {a b:Int} (h:b<a):cmpI a b=1:=by unfold cmpI;rw [if_neg (by omega),if_pos h]
theorem Xnk {a b:Int} (h:b<=a) (h':a<=b):cmpI a b=0:=by unfold cmpI;rw [if_neg (by omega),if_neg (by omega)]
theorem Xq5 (x y:Int × Int):cmpN x y<0↔(x.1<y.1\/x.1=y.1/\x.2<y.2):=by
 unfold cmpN orI cmpI
 by_cases h1:x.1<y.1
 ·simp [h1]
 by_cases h2:y.1<x.1
 ·simp [h1,h2];omega
 have e:x.1=y.1:=by omega
 by_cases h3:x.2<y.2
 ·simp [e,h3]
 by_cases h4:y.2<x.2 <;> simp [e,h3,h4]
end Go.Proofs
namespace Go.Proofs
open Go.RowKit Go.Sort Go.Maps Go.WideMaps
def nmV (x:Int × Int):Value:=.agg #[.int .i64 x.1,.int .u64 x.2]
def Zr (x:Int × Int):Prop:=(Lit.int .i64 x.1).wf=true/\(Lit.int .u64 x.2).wf=true
def nmB (x:Int × Int):List UInt8:=keyBytes [.int .i64 x.1,.int .u64 x.2]
structure X4 (P:Program) (t:TypeId):Prop where
 law:KeyLaw P t
 key:P.keyType t=true
 cells:P.cellsOf t=2
 many:0<P.types.size
 shape:∃ f0 f1:Field,P.underlying t=some (.struct #[f0,f1])/\f0.name ≠ "_" /\ f1.name ≠ "_" /\ f0.offset=0/\f1.offset=1/\P.underlying f0.type=some (.int .i64)/\P.underlying f1.type=some (.int .u64)/\P.cellsOf f0.type=1/\P.cellsOf f1.type=1
section
variable {P:Program} {t:TypeId}
theorem X4.keyOf (T:X4 P t) {x:Int × Int} (h:Zr x):keyOf P t (nmV x)=some (.string (nmB x)):=by
 obtain⟨h1,h2⟩:=h
 obtain⟨m,hm⟩:∃ m,P.types.size=m+1:=⟨P.types.size-1,by have:=T.many;omega⟩
 obtain⟨f0,f1,hu,n0,n1,o0,o1,u0,u1,c0,c1⟩:=T.shape;unfold Go.keyOf nmV nmB;rw [hu];simp [T.key,Value.formed,hu,T.cells,Value.cells,hm,Program.keyLits,n0,n1,o0,o1,u0,u1,c0,c1,h1,h2]
theorem X4.inv (T:X4 P t) {v:Value} {l:Lit} (h:Go.keyOf P t v=some l):∃ x,Zr x/\v=nmV x/\l=.string (nmB x):=by
 obtain⟨m,hm⟩:∃ m,P.types.size=m+1:=⟨P.types.size-1,by have:=T.many;omega⟩
 obtain⟨f0,f1,hu,n0,n1,o0,o1,u0,u1,c0,c1⟩:=T.shape;unfold Go.keyOf at h;rw [hu] at h;simp only [T.key,Value.formed,hu,T.cells,hm,Bool.true_and] at h
 cases v <;> simp at h
 rename_i cs
 obtain⟨hs,ls,hl,rfl⟩:=h;obtain⟨cl⟩:=cs
 match cl,hs with
 | [v0,v1],h2 =>
  clear h2;simp only [Program.keyLits,hu,Value.cells,T.cells] at hl;simp [n0,n1,o0,o1,c0,c1,u0,u1] at hl;cases v0
  case int q0 z0 =>
   by_cases e0:q0=.i64/\(Lit.int .i64 z0).wf=true
   ·obtain⟨rfl,w0⟩:=e0
    cases v1
    case int q1 z1 =>
     by_cases e1:q1=.u64/\(Lit.int .u64 z1).wf=true
     ·obtain⟨rfl,w1⟩:=e1
      simp [w0,w1] at hl;exact⟨(z0,z1),⟨w0,w1⟩,rfl,by rw [<- hl];rfl⟩
     simp [e1,w0] at hl
    all_goals simp [w0] at hl
   simp [e0] at hl
  all_goals simp at hl
theorem X4.inj (T:X4 P t) {x y:Int × Int} (hx:Zr x) (hy:Zr y) (h:nmB x=nmB y):x=y:=by
 have:=T.law.inj (T.keyOf hx) (by rw [T.keyOf hy,h]);simp only [nmV,Value.agg.injEq] at this;simp at this;exact Prod.ext this.1 this.2
end
open Go.ChangeMaps (notKey eq_of_perm_sorted)
open Go.WideShapes (sorted_perm)
def Ye (v:Value):Option (DataW Value × List MemPlace):=some (.held v,[])
def nmL (x:Int × Int):Lit:=.string (nmB x)
def Xhu (p:(Int × Int) × Value):Lit × DataW Value:=(nmL p.1,.held p.2)
def mapD (ks:List ((Int × Int) × Value)):DataW Value:=.map ((ks.map Xhu).foldr DataW.insert [])
def Zd (ks:List ((Int × Int) × Value)):Prop:=(∀ p∈ks,Zr p.1)/\(ks.map (·.1)).Nodup
def Ul (ks:List ((Int × Int) × Value)) (x:Int × Int):Option Value:=(ks.find? (fun p=>decide (p.1=x))).map (·.2)
theorem J1 {v u:Value} {ps:List MemPlace} (h:Ye v=some (.held u,ps)):v=u:=by
 simp [Ye] at h;exact h.1
theorem Ub (x:Int × Int):WideAt.IsKeyLit (nmL x):=trivial
section
variable {P:Program} {t:TypeId}
theorem X4.Xfu (T:X4 P t) {x y:Int × Int} (hx:Zr x) (hy:Zr y) (h:x≠y):nmL x≠nmL y:=fun e=>h (T.inj hx hy (by simpa [nmL] using e))
def KdN (l:Lit):Prop:=∃ x,Zr x/\l=nmL x
theorem X4.Xd7 (T:X4 P t):OneKind KdN:=
 ⟨fun⟨x,_,e⟩=>by rw [e];exact Ub x,fun⟨x,hx,e⟩ ⟨y,hy,e'⟩ hne=>by subst e e';exact(Keyed.of_law T.law).total (T.keyOf hx) (T.keyOf hy) hne⟩
theorem Xcd {ks:List ((Int × Int) × Value)} (h:Zd ks):Keys KdN (ks.map Xhu):=fun p hp=>by
 obtain⟨q,hq,rfl⟩:=List.mem_map.1 hp;exact⟨q.1,h.1 q hq,rfl⟩
theorem X4.Xip (T:X4 P t) {ks:List ((Int × Int) × Value)} (h:Zd ks):(ks.map Xhu).Pairwise (fun p q=>p.1≠q.1):=by
 refine List.pairwise_map.2 ?_;have h2:ks.Pairwise (fun a b=>a.1≠b.1):=List.pairwise_map.1 h.2
 exact h2.imp_of_mem fun {a b} ha hb hab=>T.Xfu (h.1 a ha) (h.1 b hb) hab
theorem X4.Xhk (T:X4 P t) {ks ks':List ((Int × Int) × Value)} (h:Zd ks) (hp:ks.Perm ks'):mapD ks=mapD ks':=by
 have h':Zd ks':=⟨fun p hp'=>h.1 p (hp.mem_iff.2 hp'),(hp.map _).nodup_iff.1 h.2⟩
 unfold mapD;rw [eq_of_perm_sorted ((sorted_perm _).trans ((hp.map Xhu).trans (sorted_perm _).symm)) (sorted_sorted T.Xd7 _ (Xcd h) (T.Xip h)) (sorted_sorted T.Xd7 _ (Xcd h') (T.Xip h'))]
theorem X4.Xfr (T:X4 P t) {ks:List ((Int × Int) × Value)} (h:Zd ks) {x:Int × Int} (hx:Zr x):(ks.map Xhu).filter (notKey (nmL x))=(ks.filter (fun p=>decide (p.1≠x))).map Xhu:=by
 rw [List.filter_map]
 congr 1
 refine List.filter_congr fun p hp=>?_
 have hiff:notKey (nmL x) (Xhu p)=true↔p.1≠x:=by
  rw [notKey_iff (Ub x)];exact⟨fun hne e=>hne (by show nmL p.1=_;rw [e]),fun hne=>T.Xfu (h.1 p hp) hx hne⟩
 rw [Bool.eq_iff_iff,decide_eq_true_iff];exact hiff
theorem X4.Xft (T:X4 P t) {ks:List ((Int × Int) × Value)} (h:Zd ks) {x:Int × Int} (hx:Zr x) (v:Value):(mapD ks).put (nmL x) (.held v)=mapD ((x,v) :: ks.filter (fun p=>decide (p.1≠x))):=by
 unfold mapD;rw [DataW.put_eq,<- sorted_put T.Xd7 (E':=((x,v) :: ks.filter (fun p=>decide (p.1≠x))).map Xhu) ⟨x,hx,rfl⟩ (Xcd h) (T.Xip h) (by rw [T.Xfr h hx];exact List.Perm.refl _)]
theorem X4.Xkq (T:X4 P t) {ks:List ((Int × Int) × Value)} (h:Zd ks) {x:Int × Int} (hx:Zr x):(mapD ks).del (nmL x)=mapD (ks.filter (fun p=>decide (p.1≠x))):=by
 unfold mapD;rw [DataW.del_eq,<- sorted_del T.Xd7 (E':=(ks.filter (fun p=>decide (p.1≠x))).map Xhu) (Xcd h) (T.Xip h) (by rw [T.Xfr h hx])]
theorem Zd.tail {p:(Int × Int) × Value} {ks:List ((Int × Int) × Value)} (h:Zd (p :: ks)):Zd ks:=
 ⟨fun q hq=>h.1 q (List.mem_cons_of_mem _ hq),(List.nodup_cons.1 (by simpa using h.2)).2⟩
theorem Zd.fresh {p:(Int × Int) × Value} {ks:List ((Int × Int) × Value)} (h:Zd (p :: ks)):∀ q∈ks,q.1≠p.1:=fun q hq e=>by
 have:=(List.nodup_cons.1 (show (p.1 :: ks.map (·.1)).Nodup from by simpa using h.2)).1;exact this (by rw [<- e];exact List.mem_map.2 ⟨q,hq,rfl⟩)
theorem X4.Ut (T:X4 P t) {p:(Int × Int) × Value} {ks:List ((Int × Int) × Value)} (h:Zd (p :: ks)):mapD (p :: ks)=(mapD ks).put (nmL p.1) (.held p.2):=by
 rw [T.Xft h.tail (h.1 p (by simp)) p.2,List.filter_eq_self.2 (fun q hq=>by simpa using h.fresh q hq)]
theorem X4.Xax (T:X4 P t):∀ ks,Zd ks->Tidy (mapD ks)
 | [],_=>tidy_empty
 | p :: ks,h=>by rw [T.Ut h];exact(T.Xax ks h.tail).put (Ub _) _
theorem X4.Xfs (T:X4 P t) {x:Int × Int} (hx:Zr x):∀ ks,Zd ks->Maps.has (mapD ks) (nmL x)=ks.any (fun p=>decide (p.1=x))
 | [],_=>rfl
 | p :: ks,h=>by
  by_cases e:p.1=x
  ·subst e
   rw [T.Ut h,has_put_same (T.Xax ks h.tail).isMap (Ub _)];simp
  rw [T.Ut h,has_put_other (T.Xfu hx (h.1 p (by simp)) (fun e'=>e e'.symm)),T.Xfs hx ks h.tail];simp [e]
theorem X4.U4 (T:X4 P t) {x:Int × Int} (hx:Zr x) (z:DataW Value):∀ ks,Zd ks->(mapD ks).atKey (nmL x) z=(match Ul ks x with | some b=>.held b | none=>z)
 | [],_=>rfl
 | p :: ks,h=>by
  by_cases e:p.1=x
  ·subst e
   rw [T.Ut h,atKey_put_same (T.Xax ks h.tail).isMap (Ub _)];simp [Ul]
  rw [T.Ut h,atKey_put_other (T.Xfu hx (h.1 p (by simp)) (fun e'=>e e'.symm)),T.U4 hx z ks h.tail];simp [Ul,e]
theorem X4.Z6 (T:X4 P t):∀ ks,Zd ks->Maps.size (mapD ks)=ks.length
 | [],_=>rfl
 | p :: ks,h=>by
  have hf:Maps.has (mapD ks) (nmL p.1)=false:=by
   rw [T.Xfs (h.1 p (by simp)) ks h.tail];simp
   exact fun a b c hq=>h.fresh ((a,b),c) hq
  rw [T.Ut h,size_put (T.Xax ks h.tail),hf,T.Z6 ks h.tail];simp
def U1 (ks:List ((Int × Int) × Value)) (left:Lit->Bool) (ss:List (Int × Int)):Prop:=
 ss.Nodup/\(∀ x∈ss,Zr x)/\∀ x,Zr x->(x∈ss↔(x∈ks.map (·.1)/\left (nmL x)=false))
theorem X4.Xcj (T:X4 P t) {ks:List ((Int × Int) × Value)} (hk:Zd ks) {x:Int × Int} (hx:Zr x):Maps.has (mapD ks) (nmL x)=true↔x∈ks.map (·.1):=by
 rw [T.Xfs hx ks hk,List.any_eq_true];simp
theorem U1.start (T:X4 P t) {ks:List ((Int × Int) × Value)} (hk:Zd ks):U1 ks (Maps.has (mapD ks)) []:=
 ⟨List.nodup_nil,by simp,fun x hx=>by
  have:=T.Xcj hk hx
  cases h:Maps.has (mapD ks) (nmL x) <;> simp_all⟩
theorem U1.step (T:X4 P t) {ks:List ((Int × Int) × Value)} {left:Lit->Bool} {ss:List (Int × Int)} (h:U1 ks left ss) {x:Int × Int} (hx:Zr x) (hlk:left (nmL x)=true) (hin:x∈ks.map (·.1)) :
  U1 ks (fun z=>left z && !z.sameKey (nmL x)) (ss ++ [x]):=by
 have hnew:x∉ss:=fun hm=>by have:=((h.2.2 x hx).1 hm).2;rw [hlk] at this;cases this
 refine⟨List.nodup_append.2 ⟨h.1,by simp,fun a ha b hb=>by simp at hb;subst hb;exact fun e=>hnew (e ▸ ha)⟩,fun y hy=>?_,fun y hy=>?_⟩
 ·rcases List.mem_append.1 hy with hy | hy
  ·exact h.2.1 y hy
  simp at hy;subst hy;exact hx
 by_cases e:y=x
 ·subst e
  have hs:(nmL y).sameKey (nmL y)=true:=by simp [nmL,Lit.sameKey]
  constructor
  ·intro _;exact⟨hin,by simp [hs]⟩
  intro _;simp
 have hs:(nmL y).sameKey (nmL x)=false:=sameKey_ne (T.Xfu hy hx e);rw [List.mem_append,h.2.2 y hy];simp [hs,e]
theorem U1.perm {ks:List ((Int × Int) × Value)} (hk:Zd ks) {left:Lit->Bool} {ss:List (Int × Int)} (h:U1 ks left ss) (hl:∀ kl,left kl=false):ss.Perm (ks.map (·.1)):=by
 refine(List.perm_ext_iff_of_nodup h.1 hk.2).2 fun x=>⟨fun hm=>((h.2.2 x (h.2.1 x hm)).1 hm).1,fun hm=>?_⟩
 obtain⟨p,hp,rfl⟩:=List.mem_map.1 hm;exact(h.2.2 p.1 (hk.1 p hp)).2 ⟨hm,hl _⟩
end
end Go.Proofs
namespace Go.Proofs
open Go.RowKit Go.Sort
def BoxN (W:World) (B:Nat) (t:TypeId) (cs:Array Value):Prop:=W.heap[B]? = some (.cells cs t (0,0))
section
variable {W W':World} {B:Nat} {t:TypeId} {cs:Array Value}
theorem BoxN.lt (h:BoxN W B t cs):B<W.heap.size:=(Array.getElem?_eq_some_iff.1 h).1
theorem BoxN.cell (h:BoxN W B t cs) (i:Nat) {v:Value} (hv:cs[i]? = some v):W.cell? ⟨B,i,none⟩=some v:=by simp [World.cell?,show W.heap[B]? = _ from h,hv]
theorem BoxN.frozen (h:BoxN W B t cs) (i:Nat):W.frozen? ⟨B,i,none⟩=false:=by simp [World.frozen?,show W.heap[B]? = _ from h]
theorem BoxN.new (W:World) (t:TypeId) (cs:Array Value):BoxN (W.alloc (.cells cs t)) W.heap.size t cs:=World.alloc_heap_new W _
theorem BoxN.kept {row:Option Nat} (h:BoxN W B t cs) (hg:W.grownBy W' row) (hne:some B≠row):BoxN W' B t cs:=(hg.block B h.lt hne).trans h
theorem BoxN.alloc (h:BoxN W B t cs) (o:Obj):BoxN (W.alloc o) B t cs:=h.kept (World.grownBy_alloc W o none) (by simp)
theorem BoxN.below {n₀:Nat} (h:BoxN W B t cs) (hb:Below n₀ W W') (hB:B<n₀):BoxN W' B t cs:=(hb.block B hB).trans h
theorem BoxN.set (h:BoxN W B t cs) (i:Nat) (v:Value):BoxN (W.setCell ⟨B,i,none⟩ v) B t (cs.setIfInBounds i v):=by
 obtain⟨hlt,hk⟩:=Array.getElem?_eq_some_iff.1 h
 show (W.heap.modify B _)[B]? = _
 rw [Array.getElem?_eq_getElem (by rw [Array.size_modify];exact hlt),Array.getElem_modify_self,hk];rfl
theorem BoxN.other {B':Nat} (h:BoxN W B t cs) (hne:B≠B') (i:Nat) (v:Value):BoxN (W.setCell ⟨B',i,none⟩ v) B t cs:=by
 show (W.heap.modify B' _)[B]? = _
 rw [Array.getElem?_modify,if_neg (fun e=>hne e.symm)];exact h
end
def X5 (W:World) (a:Addr):Value:=(W.cell? a).getD undef
theorem Xg {W:World} {a:Addr} (h:(W.cell? a).isSome):W.cell? a=some (X5 W a):=by
 unfold X5;obtain⟨v,hv⟩:=Option.isSome_iff_exists.1 h;rw [hv];rfl
theorem Xy {β:Type} (B:Nat) (t:TypeId) (f:β->Array Value):Own (fun s W=>BoxN W B t (f s)):=fun _ X _ _ hs hg hrow =>
 hs.kept hg (fun e'=>by obtain⟨o,ho,hc⟩:=hrow B e'.symm;rw [show X.heap[B]? = _ from hs] at ho;cases ho;cases hc)
def Xs5 {α:Type} (n:Nat) (P:Program) (g:Nat) (lb:Array Value) (encs:α->Array Value) (E:World->Prop) (Kp:World->World->Prop) (S Sp:List α->Prop) (N:Nat) (w:World):Prop:=
 ∀(l:Nat) (J Jx:List α->World->Prop) (W:World),Below w.heap.size w W->OwnFrom W.heap.size J->OwnFrom W.heap.size Jx->(∀ s V,J s V->E V) ->
  (∀ pre x W1,J pre W1->pre.length<N->YieldAt Fence.wide (n-1) P l (encs x) W1 fun e W' =>
   (e=.returned (.bool true)/\J (pre ++ [x]) W'/\Kp W1 W'/\KeepsFrom W.heap.size W1 W')\/(e=.returned (.bool false)/\Jx (pre ++ [x]) W'/\KeepsFrom W.heap.size W1 W')) ->
  J [] W ->
  CallsIn Fence.wide n P g (#[.func (.yield l) #[] #[]] ++ lb) W fun e W'=>(∃ v,e=.returned v)/\((∃ xs,S xs/\J xs W')\/(∃ pre,Sp pre/\Jx pre W'))
structure J0 (W:World) (D:Nat) (r:Loop):Prop where
 loop:W.heap[D+1]? = some (.loop r)
 defd:W.heap[D]? = some (.deferred (some []))
theorem J0.own {W W':World} {D:Nat} {r:Loop} {row:Option Nat} (h:J0 W D r) (hg:W.grownBy W' row) (hr:∀ k,row=some k->D+2<=k):J0 W' D r:=
 ⟨(hg.block _ (Array.getElem?_eq_some_iff.1 h.loop).1 (fun e=>by have:=hr _ e.symm;omega)).trans h.loop,
  (hg.block _ (Array.getElem?_eq_some_iff.1 h.defd).1 (fun e=>by have:=hr _ e.symm;omega)).trans h.defd⟩
theorem J0.put {W:World} {D:Nat} {r:Loop} (h:J0 W D r) (r':Loop):J0 (W.putObj (D+1) (.loop r')) D r':=
 ⟨World.putObj_heap_same (Array.getElem?_eq_some_iff.1 h.loop).1,(World.putObj_heap_other (by omega)).trans h.defd⟩
theorem Yk {B B':Nat} {W W':World} (h:KeepsFrom B W W') (hB:B<=B'):KeepsFrom B' W W':=⟨h.size,fun k o hk h1 h2=>h.same k o (Nat.le_trans hB hk) h1 h2⟩
theorem Xa3 {B j:Nat} (W:World) (o:Obj) (hj:j<B):KeepsFrom B W (W.putObj j o):=KeepsFrom.of_grownBy (grownBy_putObj' W j o) (fun k e=>by cases e;exact hj)
theorem J0.from {W W':World} {D:Nat} {r:Loop} (h:J0 W D r) (hk:KeepsFrom D W W'):J0 W' D r:=
 ⟨hk.same _ _ (by omega) h.loop rfl,hk.same _ _ (Nat.le_refl _) h.defd rfl⟩
section
variable {n:Nat} {P:Program}
theorem Vd {α:Type} {g:Operand} {ps:Array Tmp} {assign body:Code} {Q:Exit->Act->World->Prop} {a:Act} {w:World}
  (h1:1<=n) {gf:Nat} {lb:Array Value} (hg:a.eval g=.func (.func gf) #[] lb) (eg:∀ args w,(callFunc gf args).run P w=.ok (.enter gf args) w)
  {encs:α->Array Value} {E:World->Prop} {Kp:World->World->Prop} {S Sp:List α->Prop} {N:Nat} {w0:World} (hseq:Xs5 (n-1) P gf lb encs E Kp S Sp N w0)
  (hKt:∀ {A B C:World},Kp A B->Kp B C->Kp A C) (hKb:∀(W:World) (l:Nat) (o o':Obj),w.heap.size<=l->W.heap[l]? = some o->o.isCells=false->o.isWalk=false->Kp W (W.putObj l o'))
  (hb0:Below w0.heap.size w0 w) (hps:∀ x,(encs x).size=ps.size)
  (I:List α->World->Prop) (Ix:Code->List α->World->Prop) (hI:OwnFrom w.heap.size I) (hIx:∀ c,OwnFrom w.heap.size (Ix c)) (hIE:∀ s V,I s V->E V) (h0:I [] w)
  (Ax:α->Act->World->Prop) (hAx:∀ x a',OwnFrom w.heap.size (fun(_:Unit) W=>Ax x a' W))
  (hassign:∀(l:Nat) (pre:List α) (x:α) (W:World) (K:Act->World->Prop),I pre W->(∀ a' W',KeepsFrom w.heap.size W W'->Kp W W'->I pre W'->Ax x a' W'->K a' W') ->
   assign.wpIn (Fence.wide.inRound l) (n-1-1) P (Exit.then K (fun _ _ _=>False)) { tmps:=(ps.zip (encs x)).foldl (fun t (p,v)=>t.setIfInBounds p v) a.tmps,defers:=[] } W)
  (hbody:∀(l:Nat) (pre:List α) (x:α) (a':Act) (W:World),w.heap.size<=l->I pre W->Ax x a' W->pre.length<N->body.wpIn (Fence.wide.inRound l) (n-1-1) P (ownPostG w.heap.size Kp I Ix (pre ++ [x]) W) a' W)
  (hdone:∀(D:Nat) (xs:List α) (W:World),w.heap.size<=D->S xs->I xs W->W.heap[D]? = some (.deferred (some []))->Q .normal { a with defers:={ target:=.collected D,args:=#[] } :: a.defers } W)
  (hstop:∀(D:Nat) (c:Code) (pre:List α) (W:World),w.heap.size<=D->Sp pre->Ix c pre W->W.heap[D]? = some (.deferred (some []))->c.wpIn Fence.wide n P Q { a with defers:={ target:=.collected D,args:=#[] } :: a.defers } W) :
  (Code.rangeFunc g ps assign body).wpIn Fence.wide n P Q a w:=by
 refine wpIn_rangeFunc ?_;intro fn hfn
 let rc:LoopState->Option Code->Loop:=fun st pe=>{ state:=st,pending:=pe,fn,tmps:=a.tmps,params:=ps,assign,body,defers:=w.heap.size }
 obtain⟨W1,hW1⟩:∃ W1,(w.alloc (.deferred (some []))).alloc (.loop (rc .ready none))=W1:=⟨_,rfl⟩
 have hz1:W1.heap.size=w.heap.size+2:=by rw [<- hW1];simp
 have hk1:J0 W1 w.heap.size (rc .ready none):=by
  rw [<- hW1];refine⟨?_,(Below.heap_alloc _ _ _ (by simp)).trans (World.alloc_heap_new w _)⟩;have:=World.alloc_heap_new (w.alloc (.deferred (some []))) (.loop (rc .ready none))
  rwa [World.size_alloc] at this
 have hi1:I [] W1:=by rw [<- hW1];exact hI.alloc _ (hI.alloc _ h0)
 have hb1:Below w0.heap.size w0 W1:=by
  rw [<- hW1];exact hb0.trans ((((Below.refl _ w).alloc (Nat.le_refl _) _).alloc (by simp) _).mono hb0.size)
 have widen:∀ {A:World} {row:Option Nat},(∀ r,row=some r->W1.heap.size<=r/\∃ o:Obj,A.heap[r]? = some o/\o.isCells=false)->∀ r,row=some r->w.heap.size<=r/\∃ o:Obj,A.heap[r]? = some o/\o.isCells=false:=
  fun h r e=>⟨by have:=(h r e).1;omega,(h r e).2⟩
 refine⟨w.heap.size+1,[{ target:=.collected w.heap.size,args:=#[] }],W1,{ target:=.fn (.func gf) lb,args:=#[.func (.yield (w.heap.size+1)) #[] #[]] },W1,gf,
  #[.func (.yield (w.heap.size+1)) #[] #[]] ++ lb,W1,?_,?_,fun _ _=>trivial,?_,fun _=>h1,?_⟩
 ·rw [<- hW1];exact run_enterLoop_outer _ _ _ _ _
 ·simp only [resolve,hg];simp [go_sem]
 ·simp [invoke,go_sem,eg]
 refine(hseq (w.heap.size+1) (fun pre W=>I pre W/\J0 W w.heap.size (rc .ready none)) (fun pre W=>∃ c,Ix c pre W/\J0 W w.heap.size (rc .done (some c))) W1 hb1
  (fun s A B row hs hg' hr=>⟨hI s A B row hs.1 hg' (widen hr),hs.2.own hg' (fun k e=>by have:=(hr k e).1;omega)⟩)
  (fun s A B row ⟨c,hc,hk⟩ hg' hr=>⟨c,hIx c s A B row hc hg' (widen hr),hk.own hg' (fun k e=>by have:=(hr k e).1;omega)⟩) (fun s V hs=>hIE s V hs.1) ?_ ⟨hi1,hk1⟩).mono ?_
 ·rintro pre x W ⟨hi,hk⟩ hlen
  have hy:=run_yield (P:=P) (args:=encs x) hk.loop (hps x);refine⟨fn,_,assign,body,hy,roundIn_of_wpIn hfn (hassign _ pre x W _ hi ?_)⟩;clear hy;intro a' V kf kp hi' hax
  have hkV:=hk.from kf
  have hltV:=(Array.getElem?_eq_some_iff.1 hkV.loop).1;refine⟨_,run_beginRound hkV.loop rfl,?_⟩;have hkB:=hkV.put { rc .ready none with state:=.busy };have kpB:Kp V (V.putObj (w.heap.size+1) (.loop { rc .ready none with state:=.busy })):=hKb _ _ _ _ (by omega) hkV.loop rfl rfl;refine wpIn_mono (hbody _ pre x a' _ (by omega) (hI.putObj _ hi' (by omega) hkV.loop rfl) ((hAx x a').putObj (s:=()) _ hax (by omega) hkV.loop rfl) hlen) ?_;rintro e a3 W3 hp
  have kfAll:∀ {W3:World} (_:KeepsFrom w.heap.size (V.putObj (w.heap.size+1) (.loop { rc .ready none with state:=.busy })) W3) (o:Obj),KeepsFrom W1.heap.size W (W3.putObj (w.heap.size+1) o):=fun k3 o =>
   (((Yk kf (by omega)).trans (Xa3 V _ (by omega))).trans (Yk k3 (by omega))).trans (Xa3 _ o (by omega))
  have leave:∀ c,KeepsFrom w.heap.size (V.putObj (w.heap.size+1) (.loop { rc .ready none with state:=.busy })) W3->Ix c (pre ++ [x]) W3 ->
    ∃ v W',(Instr.endRound (w.heap.size+1) (some c)).run P W3=.ok v W'/\v=.bool false/\(∃ c',Ix c' (pre ++ [x]) W'/\J0 W' w.heap.size (rc .done (some c')))/\KeepsFrom W1.heap.size W W':=fun c k3 i3=>by
   have hk3:=hkB.from k3
   exact⟨_,_,run_endRound (P:=P) (some c) hk3.loop,rfl,⟨c,(hIx c).putObj _ i3 (by omega) hk3.loop rfl,hk3.put _⟩,kfAll k3 _⟩
  cases e with
  | normal =>
   obtain⟨k3,kp3,i3⟩:=hp
   have hk3:=hkB.from k3
   exact⟨_,_,run_endRound (P:=P) none hk3.loop,.inl ⟨rfl,⟨hI.putObj _ i3 (by omega) hk3.loop rfl,hk3.put _⟩,hKt kp (hKt (hKt kpB kp3) (hKb _ _ _ _ (by omega) hk3.loop rfl rfl)),kfAll k3 _⟩⟩
  | ret =>
   obtain⟨v,W',hrun,rfl,rest⟩:=leave .ret hp.1 hp.2;exact⟨_,_,hrun,.inr ⟨rfl,rest⟩⟩
  | exit id =>
   obtain⟨v,W',hrun,rfl,rest⟩:=leave (.exit id) hp.1 hp.2;exact⟨_,_,hrun,.inr ⟨rfl,rest⟩⟩
  | goto t =>
   obtain⟨v,W',hrun,rfl,rest⟩:=leave (.goto t) hp.1 hp.2;exact⟨_,_,hrun,.inr ⟨rfl,rest⟩⟩
  | panic ch=>exact hp.elim
  | outgrown=>exact hp.elim
 rintro e W2 ⟨⟨v,rfl⟩,(⟨xs,hS,hi,hk⟩ | ⟨pre,hSp,c,hi,hk⟩)⟩
 ·exact⟨none,_,run_endLoop (P:=P) hk.loop (by simp [rc]),hdone _ xs _ (Nat.le_refl _) hS (hI.putObj _ hi (by omega) hk.loop rfl) ((World.putObj_heap_other (by omega)).trans hk.defd)⟩
 exact⟨some c,_,run_endLoop (P:=P) hk.loop (by simp [rc]),hstop _ c pre _ (Nat.le_refl _) hSp ((hIx c).putObj _ hi (by omega) hk.loop rfl) ((World.putObj_heap_other (by omega)).trans hk.defd)⟩
end
end Go.Proofs
namespace Go.Proofs
open Go.RowKit Go.Sort Go.Shelf
def Y5 (ss:List (Int × Int)):List Value:=ss.flatMap Ml
theorem Xlv (ss:List (Int × Int)) (x:Int × Int):Y5 (ss ++ [x])=Y5 ss ++ [.int .i64 x.1,.int .u64 x.2]:=by simp [Y5,Ml]
theorem Z4 (ss:List (Int × Int)):(Y5 ss).length=ss.length*2:=by
 induction ss with
 | nil=>rfl
 | cons x ss ih=>simp [Y5,Ml] at ih ⊢;omega
theorem Xat:∀(ss:List (Int × Int)) (t:Nat),t<ss.length*2->(Y5 ss)[t]? = some ((Ml (ss[t / 2]!))[t % 2]!)
 | [],t,h=>by simp at h
 | x :: ss,0,_=>by simp [Y5,Ml]
 | x :: ss,1,_=>by simp [Y5,Ml]
 | x :: ss,t+2,h=>by
  have ih:=Xat ss t (by simp at h;omega)
  have e1:(t+2) / 2=t / 2+1:=by omega
  have e2:(t+2) % 2=t % 2:=by omega
  rw [e1,e2]
  simpa [Y5,Ml] using ih
theorem Xdg (ss:List (Int × Int)):flatK Ml 2 ss.toArray=(Y5 ss).toArray:=by
 apply Array.ext';apply List.ext_getElem?;intro t
 by_cases h:t<ss.length*2
 ·rw [show ((Y5 ss).toArray.toList)=Y5 ss from rfl,Xat ss t h]
  rw [Array.getElem?_toList,Array.getElem?_eq_getElem (by simpa using h),<- getElem!_pos _ t (by simpa using h),get_flatK Ml 2 ss.toArray t (by simpa using h)];simp
 rw [Array.getElem?_toList,Array.getElem?_eq_none (by simpa using Nat.le_of_not_lt h),List.getElem?_eq_none (by rw [show ((Y5 ss).toArray.toList)=Y5 ss from rfl,Z4];omega)]
theorem Xmd {w:World} {g:Nat} {cur:Array Value} {e:TypeId} {ss:List (Int × Int)} (hb:w.heap[g]? = some (.cells cur e (0,0))) (ht:cur.toList.take (ss.length*2)=Y5 ss):HoldsK Ml 2 w g 0 ss.toArray:=by
 unfold HoldsK;rw [Xdg];intro j hj
 have hj':j<ss.length*2:=by simpa [Z4] using hj
 refine⟨?_,by simp [World.frozen?,hb]⟩
 have h1:(cur.toList.take (ss.length*2))[j]? = (Y5 ss)[j]?:=by rw [ht]
 rw [List.getElem?_take_of_lt hj'] at h1
 have hj2:j<(Y5 ss).length:=by rw [Z4];exact hj'
 simp only [World.cell?,hb,Nat.zero_add];simp only [Option.isSome_none,Bool.false_eq_true,if_false];rw [<- Array.getElem?_toList,h1];simp [hj2]
theorem Xh8 {w:World} {g n:Nat} {os:Array Obj} {cur:Array Value} {e:TypeId} {fr:Nat × Nat} (d:Array (Int × Int)) (hb:w.heap[g]? = some (.cells cur e fr)) :
  (sortWorldK Ml 2 w g 0 n d os).heap[g]? = some (.cells (putCells id 0 (flatK Ml 2 d) cur) e fr):=by
 have hg:g<w.heap.size:=(Array.getElem?_eq_some_iff.1 hb).1;unfold sortWorldK putRowK;rw [heap_grow_old _ _ (by simpa using hg)];simp [putRow,mapBlock,Sort.ahead,Array.getElem?_modify,hb,onCells]
theorem Xdv {w:World} {g n:Nat} {os:Array Obj} (d:Array (Int × Int)):w.grownBy (sortWorldK Ml 2 w g 0 n d os) (some g):=by
 unfold sortWorldK putRowK;refine⟨rfl,rfl,rfl,by simp,fun k hk hne=>?_⟩;rw [heap_grow_old _ _ (by simpa using hk)]
 have:g≠k:=fun e=>hne (by rw [e])
 simp [putRow,mapBlock,Sort.ahead,Array.getElem?_modify,this]
theorem Xep (cur:Array Value) (ts:List Value) (h:ts.length<=cur.size):(putCells id 0 ts.toArray cur).toList.take ts.length=ts:=by
 apply List.ext_getElem?;intro j
 by_cases hj:j<ts.length
 ·rw [List.getElem?_take_of_lt hj,Array.getElem?_toList]
  simp [putCells,hj,show j<cur.size by omega]
 rw [List.getElem?_take_eq_none (by omega),List.getElem?_eq_none (by omega)]
theorem Xdu {w:World} {base g cap n:Nat} {e:TypeId} {os:Array Obj} {cur:Array Value} {ss ts:List (Int × Int)} (hl:ts.length=ss.length) (hbase:base<=g) (hb:w.heap[g]? = some (.cells cur e (0,0)))
  (h1:ss.length<=cap) (h2:cap<=maxLen) (h3:cur.size=cap*2) :
  (sortWorldK Ml 2 w g 0 n ts.toArray os).ownsRow base e 2 (.slice (some ⟨g,0,none⟩) ss.length cap) ss.length (Y5 ts):=
 ⟨by rw [Z4,hl],.inr ⟨g,cap,_,rfl,hbase,Xh8 _ hb,h1,h2,by simp [putCells,h3],by
  rw [Xdg,<- hl,<- Z4];exact Xep cur (Y5 ts) (by rw [Z4];omega)⟩⟩
theorem Jl (x y:Int × Int):ltOf cmpN x y=decide (x.1<y.1\/x.1=y.1/\x.2<y.2):=by
 unfold ltOf;exact decide_eq_decide.2 (Xq5 x y)
theorem swoN:SWO (ltOf cmpN) where
 irrefl x:=by rw [Jl];simp
 trans x y z h1 h2:=by rw [Jl] at *;simp at *;omega
 ntrans x y z h1 h2:=by rw [Jl] at *;simp at *;omega
theorem Xgv (x y:Int × Int) (h1:ltOf cmpN x y=false) (h2:ltOf cmpN y x=false):x=y:=by
 rw [Jl] at *;simp at h1 h2;exact Prod.ext (by omega) (by omega)
def J4 (L:List (Int × Int)):Prop:=L.Pairwise (fun x y=>ltOf cmpN x y=true)
theorem Mj {ss L:List (Int × Int)} (hp:ss.Perm L) (hs:J4 L):ss.mergeSort (fun x y=>!ltOf cmpN y x)=L:=by
 have tr:∀ a b c:Int × Int,(!ltOf cmpN b a)=true->(!ltOf cmpN c b)=true->(!ltOf cmpN c a)=true:=fun a b c h1 h2=>by
  simp at *;exact swoN.ntrans c b a h2 h1
 have to:∀ a b:Int × Int,((!ltOf cmpN b a)||(!ltOf cmpN a b))=true:=fun a b=>by
  rw [Jl,Jl];simp;omega
 refine List.Perm.eq_of_pairwise (le:=fun a b=>(!ltOf cmpN b a)=true) (fun a b _ _ h1 h2=>Xgv a b (by simpa using h2) (by simpa using h1)) (List.pairwise_mergeSort tr to ss) ?_ ((List.mergeSort_perm ss _).trans hp)
 refine hs.imp fun {a b} h=>?_
 rw [Jl] at *;simp at *;omega
end Go.Proofs
namespace Go.Proofs
open Go.RowKit Go.Sort Go.Maps Go.WideMaps
theorem Xg9 {ks:List ((Int × Int) × Value)} {x:Int × Int} {b:Value} (h:Ul ks x=some b):(x,b)∈ks:=by
 unfold Ul at h
 cases hf:ks.find? (fun p=>decide (p.1=x)) with
 | none=>simp [hf] at h
 | some p =>
  simp [hf] at h;have h1:=List.mem_of_find?_eq_some hf;have h2:=List.find?_some hf;simp at h2;obtain⟨p1,p2⟩:=p;simp at h h2;subst h h2;exact h1
theorem Xbm {ks:List ((Int × Int) × Value)} {x:Int × Int}:Ul ks x=none↔∀ p∈ks,p.1≠x:=by
 unfold Ul;simp [List.find?_eq_none]
theorem Z0 {ks:List ((Int × Int) × Value)} (hk:Zd ks) {x:Int × Int} {b:Value} (h:(x,b)∈ks):Ul ks x=some b:=by
 induction ks with
 | nil=>cases h
 | cons p ks ih =>
  rcases List.mem_cons.1 h with rfl | h'
  ·simp [Ul]
  have hne:p.1≠x:=fun e=>hk.fresh _ h' (by simpa using e.symm)
  have:=ih hk.tail h'
  simpa [Ul,hne] using this
section
variable {P:Program} {t:TypeId} {ks:List ((Int × Int) × Value)} {x:Int × Int}
theorem X4.Xsc (T:X4 P t) (hk:Zd ks) (hx:Zr x) {b:Value} (hg:Ul ks x=some b):Maps.has (mapD ks) (nmL x)=true:=
 (T.Xcj hk hx).2 (List.mem_map.2 ⟨_,Xg9 hg,rfl⟩)
theorem X4.Xko (T:X4 P t) (hk:Zd ks) (hx:Zr x) (hg:Ul ks x=none):Maps.has (mapD ks) (nmL x)=false:=by
 cases h:Maps.has (mapD ks) (nmL x) with
 | false=>rfl
 | true =>
  obtain⟨p,hp,e⟩:=List.mem_map.1 ((T.Xcj hk hx).1 h);exact absurd e (Xbm.1 hg p hp)
section
variable {w:World} {b n:Nat} {tm e:TypeId}
theorem X4.Xck (T:X4 P t) (hk:Zd ks) (hx:Zr x) (hown:w.ownsMap P t Ye b n (mapD ks)) (ht:P.underlying tm=some (.map t e)) {z:Value} (hz:(zeroValue e).run P w=.ok z w) {pv:Value} (hg:Ul ks x=some pv) :
  (Instr.lookup tm (.map (some b)) (nmV x) true).run P w=.ok (.tuple #[pv,.bool true]) w:=by
 obtain⟨v,ps,hrun,hv⟩:=hown.look_ok (Keyed.of_law T.law) ht hz (zd:=.held z) (zp:=[]) rfl (T.keyOf hx);have h1:=T.U4 hx (.held z) ks hk;rw [hg] at h1;rw [show Lit.string (nmB x)=nmL x from rfl,h1] at hv;rw [hrun,show Lit.string (nmB x)=nmL x from rfl,T.Xsc hk hx hg,J1 hv]
theorem X4.Xhj (T:X4 P t) (hk:Zd ks) (hx:Zr x) (hown:w.ownsMap P t Ye b n (mapD ks)) (ht:P.underlying tm=some (.map t e)) {z:Value} (hz:(zeroValue e).run P w=.ok z w) (hg:Ul ks x=none) :
  (Instr.lookup tm (.map (some b)) (nmV x) true).run P w=.ok (.tuple #[z,.bool false]) w:=by
 obtain⟨v,ps,hrun,hv⟩:=hown.look_ok (Keyed.of_law T.law) ht hz (zd:=.held z) (zp:=[]) rfl (T.keyOf hx);have h1:=T.U4 hx (.held z) ks hk;rw [hg] at h1;rw [show Lit.string (nmB x)=nmL x from rfl,h1] at hv;rw [hrun,show Lit.string (nmB x)=nmL x from rfl,T.Xko hk hx hg,J1 hv]
theorem X4.Xhh (T:X4 P t) (hk:Zd ks) (hx:Zr x) (hown:w.ownsMap P t Ye b n (mapD ks)) (ht:P.underlying tm=some (.map t e)) {z:Value} (hz:(zeroValue e).run P w=.ok z w) {pv:Value} (hg:Ul ks x=some pv) :
  (Instr.lookup tm (.map (some b)) (nmV x) false).run P w=.ok pv w:=by
 obtain⟨v,ps,hrun,hv⟩:=hown.lookup (Keyed.of_law T.law) ht hz (zd:=.held z) (zp:=[]) rfl (T.keyOf hx);have h1:=T.U4 hx (.held z) ks hk;rw [hg] at h1;rw [show Lit.string (nmB x)=nmL x from rfl,h1] at hv;rw [hrun,J1 hv]
end
end
def Xda (bad:TypeId->Bool):Obj->Bool
 | .cells _ t _=>!bad t
 | o=>o.isWalk
structure KeepsT (bad:TypeId->Bool) (W W':World):Prop where
 size:W.heap.size<=W'.heap.size
 same:∀(k:Nat) (o:Obj),W.heap[k]? = some o->Xda bad o=true->W'.heap[k]? = some o
section
variable {bad:TypeId->Bool} {W W' W'':World}
theorem KeepsT.refl (bad:TypeId->Bool) (W:World):KeepsT bad W W:=⟨Nat.le_refl _,fun _ _ h _=>h⟩
theorem KeepsT.trans (h:KeepsT bad W W') (h':KeepsT bad W' W''):KeepsT bad W W'':=⟨Nat.le_trans h.size h'.size,fun k o hk hs=>h'.same k o (h.same k o hk hs) hs⟩
theorem KeepsT.grown {row:Option Nat} (hg:W.grownBy W' row) (hr:∀ j,row=some j->∀ o,W.heap[j]? = some o->Xda bad o=false):KeepsT bad W W':=
 ⟨hg.size,fun k o hk hs=>(hg.block k (Array.getElem?_eq_some_iff.1 hk).1 (fun e=>by have:=hr k e.symm o hk;rw [hs] at this;cases this)).trans hk⟩
theorem KeepsT.alloc (W:World) (o:Obj):KeepsT bad W (W.alloc o):=KeepsT.grown (World.grownBy_alloc W o none) (fun _ e=>by cases e)
theorem KeepsT.below (h:Below W.heap.size W W'):KeepsT bad W W':=⟨h.size,fun k _ hk _=>(h.block k (Array.getElem?_eq_some_iff.1 hk).1).trans hk⟩
theorem Jr {A B C:World} (h:KeepsT bad A B) (k:KeepsT bad B C):KeepsT bad A C:=h.trans k
theorem Jo {w:World} (W:World) (l:Nat) (o o':Obj) (_:w.heap.size<=l) (h:W.heap[l]? = some o) (h1:o.isCells=false) (h2:o.isWalk=false):KeepsT bad W (W.putObj l o'):=
 KeepsT.grown (grownBy_putObj' W l o') (fun j e o2 ho=>by
  cases e;rw [h] at ho;cases ho
  cases o <;> simp_all [Xda,Obj.isCells])
theorem KeepsT.box {B:Nat} {t:TypeId} {cs:Array Value} (h:KeepsT bad W W') (hb:BoxN W B t cs) (ht:bad t=false):BoxN W' B t cs:=h.same B _ hb (by simp [Xda,ht])
theorem KeepsT.map {H:Type} {P:Program} {k:TypeId} {R:Value->Option (DataW H × List MemPlace)} {b n:Nat} {D:DataW H} (h:KeepsT bad W W') (hm:W.ownsMap P k R b n D):W'.ownsMap P k R b n D:=by
 obtain⟨es,clock,hb,F,hs,hD⟩:=hm;exact⟨es,clock,h.same b _ hb rfl,F,hs,hD⟩
theorem KeepsT.row {base:Nat} {e:TypeId} {size:Nat} {v:Value} {k:Nat} {xs:List Value} (h:KeepsT bad W W') (hr:W.ownsRow base e size v k xs) (he:bad e=false):W'.ownsRow base e size v k xs:=by
 refine⟨hr.1,?_⟩
 rcases hr.2 with hn | ⟨g,cap,cur,hv,hbg,hg,rest⟩
 ·exact .inl hn
 exact .inr ⟨g,cap,cur,hv,hbg,h.same g _ hg (by simp [Xda,he]),rest⟩
end
end Go.Proofs
