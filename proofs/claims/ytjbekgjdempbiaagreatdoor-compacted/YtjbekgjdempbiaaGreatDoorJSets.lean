import Derived.Test.YtjbekgjdempbiaaGreatDoorJBox
import Derived.RangeFuncNested
import Derived.RangeFuncLeaves
import Derived.Test.YtjbekgjdempbiaaGreatDoorJMapN
import Derived.Shelf.SlSortCmp.NoneTotal
import Derived.Laws.OwnMore
import Derived.Test.YtjbekgjdempbiaaGreatDoorProg
import Derived.WalkKit
import Derived.WalkSpells
import Derived.WalkLawsBesides
import Derived.Deep.RegionWith
import Derived.Deep.RegionHeld3
import Derived.RangeFuncBound
import Derived.RangeFuncCalls
import Derived.Shelf.Abstract
import Derived.Shelf.AbstractIn
import Derived.Shelf.RegionOpen
import Derived.Maps.AppendAt
import Derived.WalkSmall
import Derived.OwnWalkIn
import Derived.TacticsInMore
import Derived.LoopNIn
import Derived.LoopIn
import Derived.Stop.RegionWithIn
import Derived.Maps.OwnSet
set_option maxRecDepth 100000
set_option maxHeartbeats 8000000
namespace Go.Proofs
open Go.RowKit Go.Sort
def Xny {α:Type} (n:Nat) (P:Program) (g:Nat) (lb:Array Value) (encs:α->Array Value) (E:World->Prop) (Kp:World->World->Prop) (S Sp:List α->Prop) (N:Nat) (w:World):Prop:=
 ∀(l:Nat) (J Jx:List α->World->Prop) (W:World),Below w.heap.size w W->OwnFrom W.heap.size J->OwnFrom W.heap.size Jx->(∀ s V,J s V->E V) ->
  (∀ pre x W1,J pre W1->pre.length<N->YieldAt Fence.wide (n-1) P l (encs x) W1 fun e W' =>
   (e=.returned (.bool true)/\J (pre ++ [x]) W'/\Kp W1 W'/\KeepsFrom W.heap.size W1 W')\/(e=.returned (.bool false)/\Jx (pre ++ [x]) W'/\KeepsFrom W.heap.size W1 W')) ->
  J [] W ->
  CallsIn Fence.wide n P g (#[.func (.yield l) #[] #[]] ++ lb) W fun e W'=>(∃ v,e=.returned v)/\((∃ xs,S xs/\J xs W')\/(∃ pre,Sp pre/\Jx pre W'))
structure Zz (W:World) (D:Nat) (r:Loop):Prop where
 loop:W.heap[D+1]? = some (.loop r)
 defd:W.heap[D]? = some (.deferred (some []))
theorem Zz.own {W W':World} {D:Nat} {r:Loop} {row:Option Nat} (h:Zz W D r) (hg:W.grownBy W' row) (hr:∀ k,row=some k->D+2<=k):Zz W' D r:=
 ⟨(hg.block _ (Array.getElem?_eq_some_iff.1 h.loop).1 (fun e=>by have:=hr _ e.symm;omega)).trans h.loop,
  (hg.block _ (Array.getElem?_eq_some_iff.1 h.defd).1 (fun e=>by have:=hr _ e.symm;omega)).trans h.defd⟩
theorem Zz.put {W:World} {D:Nat} {r:Loop} (h:Zz W D r) (r':Loop):Zz (W.putObj (D+1) (.loop r')) D r':=
 ⟨World.putObj_heap_same (Array.getElem?_eq_some_iff.1 h.loop).1,(World.putObj_heap_other (by omega)).trans h.defd⟩
theorem Ys {B B':Nat} {W W':World} (h:KeepsFrom B W W') (hB:B<=B'):KeepsFrom B' W W':=⟨h.size,fun k o hk h1 h2=>h.same k o (Nat.le_trans hB hk) h1 h2⟩
theorem Vl {B j:Nat} (W:World) (o:Obj) (hj:j<B):KeepsFrom B W (W.putObj j o):=KeepsFrom.of_grownBy (grownBy_putObj' W j o) (fun k e=>by cases e;exact hj)
theorem Zz.from {W W':World} {D:Nat} {r:Loop} (h:Zz W D r) (hk:KeepsFrom D W W'):Zz W' D r:=
 ⟨hk.same _ _ (by omega) h.loop rfl,hk.same _ _ (Nat.le_refl _) h.defd rfl⟩
section
variable {n:Nat} {P:Program}
theorem Uv {α:Type} {g:Operand} {ps:Array Tmp} {assign body:Code} {Q:Exit->Act->World->Prop} {a:Act} {w:World}
  (h1:1<=n) {gf:Nat} {lb:Array Value} (hg:a.eval g=.func (.func gf) #[] lb) (eg:∀ args w,(callFunc gf args).run P w=.ok (.enter gf args) w)
  {encs:α->Array Value} {E:World->Prop} {Kp:World->World->Prop} {S Sp:List α->Prop} {N:Nat} {w0:World} (hseq:Xny (n-1) P gf lb encs E Kp S Sp N w0)
  (hKt:∀ {A B C:World},Kp A B->Kp B C->Kp A C) (hKb:∀(W:World) (l:Nat) (o o':Obj),w.heap.size<=l->W.heap[l]? = some o->o.isCells=false->o.isWalk=false->Kp W (W.putObj l o'))
  (hb0:Below w0.heap.size w0 w) (hps:∀ x,(encs x).size=ps.size)
  (I:List α->World->Prop) (Ix:Code->List α->World->Prop) (hI:OwnFrom w.heap.size I) (hIx:∀ c,OwnFrom w.heap.size (Ix c)) (hIE:∀ s V,I s V->E V) (h0:I [] w)
  (Ax:α->Act->World->Prop) (hAx:∀ x a',OwnFrom w.heap.size (fun(_:Unit) W=>Ax x a' W))
  (hassign:∀(l:Nat) (pre:List α) (x:α) (W:World) (K:Act->World->Prop),I pre W->(∀ a' W',KeepsFrom w.heap.size W W'->Kp W W'->I pre W'->Ax x a' W'->K a' W') ->
   assign.wpIn (Fence.wide.inRound l) (n-1-1) P (Exit.then K (fun _ _ _=>False)) { tmps:=(ps.zip (encs x)).foldl (fun t (p,v)=>t.setIfInBounds p v) a.tmps,defers:=[] } W)
  (hbody:∀(l:Nat) (pre:List α) (x:α) (a':Act) (W:World),w.heap.size<=l->I pre W->Ax x a' W->pre.length<N->body.wpIn (Fence.wide.inRound l) (n-1-1) P (ownPostG w.heap.size Kp I Ix (pre ++ [x]) W) a' W)
  (hdone:∀(D:Nat) (xs:List α) (W:World),w.heap.size<=D->S xs->I xs W->W.heap[D]? = some (.deferred (some []))->Q .normal { a with defers:={ target:=.collected D,args:=#[] } :: a.defers } W)
  (hstop:∀(D:Nat) (c:Code) (pre:List α) (W:World),w.heap.size<=D->Sp pre->Ix c pre W->W.heap[D]? = some (.deferred (some []))->c.wpIn Fence.wide n P Q { a with defers:={ target:=.collected D,args:=#[] } :: a.defers } W) :
  (Code.rangeFunc g ps assign body).wpIn Fence.wide n P Q a w:=by
 refine wpIn_rangeFunc ?_;intro fn hfn
 let rc:LoopState->Option Code->Loop:=fun st pe=>{ state:=st,pending:=pe,fn,tmps:=a.tmps,params:=ps,assign,body,defers:=w.heap.size }
 obtain⟨W1,hW1⟩:∃ W1,(w.alloc (.deferred (some []))).alloc (.loop (rc .ready none))=W1:=⟨_,rfl⟩
 have hz1:W1.heap.size=w.heap.size+2:=by rw [<- hW1];simp
 have hk1:Zz W1 w.heap.size (rc .ready none):=by
  rw [<- hW1];refine⟨?_,(Below.heap_alloc _ _ _ (by simp)).trans (World.alloc_heap_new w _)⟩;have:=World.alloc_heap_new (w.alloc (.deferred (some []))) (.loop (rc .ready none))
  rwa [World.size_alloc] at this
 have hi1:I [] W1:=by rw [<- hW1];exact hI.alloc _ (hI.alloc _ h0)
 have hb1:Below w0.heap.size w0 W1:=by
  rw [<- hW1];exact hb0.trans ((((Below.refl _ w).alloc (Nat.le_refl _) _).alloc (by simp) _).mono hb0.size)
 have widen:∀ {A:World} {row:Option Nat},(∀ r,row=some r->W1.heap.size<=r/\∃ o:Obj,A.heap[r]? = some o/\o.isCells=false)->∀ r,row=some r->w.heap.size<=r/\∃ o:Obj,A.heap[r]? = some o/\o.isCells=false:=
  fun h r e=>⟨by have:=(h r e).1;omega,(h r e).2⟩
 refine⟨w.heap.size+1,[{ target:=.collected w.heap.size,args:=#[] }],W1,{ target:=.fn (.func gf) lb,args:=#[.func (.yield (w.heap.size+1)) #[] #[]] },W1,gf,
  #[.func (.yield (w.heap.size+1)) #[] #[]] ++ lb,W1,?_,?_,fun _ _=>trivial,?_,fun _=>h1,?_⟩
 ·rw [<- hW1];exact run_enterLoop_outer _ _ _ _ _
 ·simp only [resolve,hg];simp [go_sem]
 ·simp [invoke,go_sem,eg]
 refine(hseq (w.heap.size+1) (fun pre W=>I pre W/\Zz W w.heap.size (rc .ready none)) (fun pre W=>∃ c,Ix c pre W/\Zz W w.heap.size (rc .done (some c))) W1 hb1
  (fun s A B row hs hg' hr=>⟨hI s A B row hs.1 hg' (widen hr),hs.2.own hg' (fun k e=>by have:=(hr k e).1;omega)⟩)
  (fun s A B row ⟨c,hc,hk⟩ hg' hr=>⟨c,hIx c s A B row hc hg' (widen hr),hk.own hg' (fun k e=>by have:=(hr k e).1;omega)⟩) (fun s V hs=>hIE s V hs.1) ?_ ⟨hi1,hk1⟩).mono ?_
 ·rintro pre x W ⟨hi,hk⟩ hlen
  have hy:=run_yield (P:=P) (args:=encs x) hk.loop (hps x);refine⟨fn,_,assign,body,hy,roundIn_of_wpIn hfn (hassign _ pre x W _ hi ?_)⟩;clear hy;intro a' V kf kp hi' hax
  have hkV:=hk.from kf
  have hltV:=(Array.getElem?_eq_some_iff.1 hkV.loop).1;refine⟨_,run_beginRound hkV.loop rfl,?_⟩;have hkB:=hkV.put { rc .ready none with state:=.busy };have kpB:Kp V (V.putObj (w.heap.size+1) (.loop { rc .ready none with state:=.busy })):=hKb _ _ _ _ (by omega) hkV.loop rfl rfl;refine wpIn_mono (hbody _ pre x a' _ (by omega) (hI.putObj _ hi' (by omega) hkV.loop rfl) ((hAx x a').putObj (s:=()) _ hax (by omega) hkV.loop rfl) hlen) ?_;rintro e a3 W3 hp
  have kfAll:∀ {W3:World} (_:KeepsFrom w.heap.size (V.putObj (w.heap.size+1) (.loop { rc .ready none with state:=.busy })) W3) (o:Obj),KeepsFrom W1.heap.size W (W3.putObj (w.heap.size+1) o):=fun k3 o =>
   (((Ys kf (by omega)).trans (Vl V _ (by omega))).trans (Ys k3 (by omega))).trans (Vl _ o (by omega))
  have leave:∀ c,KeepsFrom w.heap.size (V.putObj (w.heap.size+1) (.loop { rc .ready none with state:=.busy })) W3->Ix c (pre ++ [x]) W3 ->
    ∃ v W',(Instr.endRound (w.heap.size+1) (some c)).run P W3=.ok v W'/\v=.bool false/\(∃ c',Ix c' (pre ++ [x]) W'/\Zz W' w.heap.size (rc .done (some c')))/\KeepsFrom W1.heap.size W W':=fun c k3 i3=>by
   have hk3:=hkB.from k3
   exact⟨_,_,run_endRound (P:=P) (some c) hk3.loop,rfl,⟨c,(hIx c).putObj _ i3 (by omega) hk3.loop rfl,hk3.put _⟩,kfAll k3 _⟩
  cases e with
  | normal =>
   obtain⟨k3,kp3,i3⟩:=hp
   have hk3:=hkB.from k3
   exact⟨_,_,run_endRound (P:=P) none hk3.loop,.inl ⟨rfl,⟨hI.putObj _ i3 (by omega) hk3.loop rfl,hk3.put _⟩,hKt kp (hKt (hKt kpB kp3) (hKb _ _ _ _ (by omega) hk3.loop rfl rfl)),kfAll k3 _⟩⟩
  | ret =>
   obtain⟨v,W',hrun,rfl,rest⟩:=leave .ret hp.1 hp.2;exact⟨_,_,hrun,.inr ⟨rfl,rest⟩⟩
  | exit id =>
   obtain⟨v,W',hrun,rfl,rest⟩:=leave (.exit id) hp.1 hp.2;exact⟨_,_,hrun,.inr ⟨rfl,rest⟩⟩
  | goto t =>
   obtain⟨v,W',hrun,rfl,rest⟩:=leave (.goto t) hp.1 hp.2;exact⟨_,_,hrun,.inr ⟨rfl,rest⟩⟩
  | panic ch=>exact hp.elim
  | outgrown=>exact hp.elim
 rintro e W2 ⟨⟨v,rfl⟩,(⟨xs,hS,hi,hk⟩ | ⟨pre,hSp,c,hi,hk⟩)⟩
 ·exact⟨none,_,run_endLoop (P:=P) hk.loop (by simp [rc]),hdone _ xs _ (Nat.le_refl _) hS (hI.putObj _ hi (by omega) hk.loop rfl) ((World.putObj_heap_other (by omega)).trans hk.defd)⟩
 exact⟨some c,_,run_endLoop (P:=P) hk.loop (by simp [rc]),hstop _ c pre _ (Nat.le_refl _) hSp ((hIx c).putObj _ hi (by omega) hk.loop rfl) ((World.putObj_heap_other (by omega)).trans hk.defd)⟩
end
end Go.Proofs
namespace Go.Proofs
open Go.RowKit Go.Sort Go.Shelf
def Yu (ss:List (Int × Int)):List Value:=ss.flatMap Uh
theorem Xhl (ss:List (Int × Int)) (x:Int × Int):Yu (ss ++ [x])=Yu ss ++ [.int .i64 x.1,.int .u64 x.2]:=by simp [Yu,Uh]
theorem Ze (ss:List (Int × Int)):(Yu ss).length=ss.length*2:=by
 induction ss with
 | nil=>rfl
 | cons x ss ih=>simp [Yu,Uh] at ih ⊢;omega
theorem U1:∀(ss:List (Int × Int)) (t:Nat),t<ss.length*2->(Yu ss)[t]? = some ((Uh (ss[t / 2]!))[t % 2]!)
 | [],t,h=>by simp at h
 | x :: ss,0,_=>by simp [Yu,Uh]
 | x :: ss,1,_=>by simp [Yu,Uh]
 | x :: ss,t+2,h=>by
  have ih:=U1 ss t (by simp at h;omega)
  have e1:(t+2) / 2=t / 2+1:=by omega
  have e2:(t+2) % 2=t % 2:=by omega
  rw [e1,e2]
  simpa [Yu,Uh] using ih
theorem Xas (ss:List (Int × Int)):flatK Uh 2 ss.toArray=(Yu ss).toArray:=by
 apply Array.ext';apply List.ext_getElem?;intro t
 by_cases h:t<ss.length*2
 ·rw [show ((Yu ss).toArray.toList)=Yu ss from rfl,U1 ss t h]
  rw [Array.getElem?_toList,Array.getElem?_eq_getElem (by simpa using h),<- getElem!_pos _ t (by simpa using h),get_flatK Uh 2 ss.toArray t (by simpa using h)];simp
 rw [Array.getElem?_toList,Array.getElem?_eq_none (by simpa using Nat.le_of_not_lt h),List.getElem?_eq_none (by rw [show ((Yu ss).toArray.toList)=Yu ss from rfl,Ze];omega)]
theorem Xhm {w:World} {g:Nat} {cur:Array Value} {e:TypeId} {ss:List (Int × Int)} (hb:w.heap[g]? = some (.cells cur e (0,0))) (ht:cur.toList.take (ss.length*2)=Yu ss):HoldsK Uh 2 w g 0 ss.toArray:=by
 unfold HoldsK;rw [Xas];intro j hj
 have hj':j<ss.length*2:=by simpa [Ze] using hj
 refine⟨?_,by simp [World.frozen?,hb]⟩
 have h1:(cur.toList.take (ss.length*2))[j]? = (Yu ss)[j]?:=by rw [ht]
 rw [List.getElem?_take_of_lt hj'] at h1
 have hj2:j<(Yu ss).length:=by rw [Ze];exact hj'
 simp only [World.cell?,hb,Nat.zero_add];simp only [Option.isSome_none,Bool.false_eq_true,if_false];rw [<- Array.getElem?_toList,h1];simp [hj2]
theorem Xd7 {w:World} {g n:Nat} {os:Array Obj} {cur:Array Value} {e:TypeId} {fr:Nat × Nat} (d:Array (Int × Int)) (hb:w.heap[g]? = some (.cells cur e fr)) :
  (sortWorldK Uh 2 w g 0 n d os).heap[g]? = some (.cells (putCells id 0 (flatK Uh 2 d) cur) e fr):=by
 have hg:g<w.heap.size:=(Array.getElem?_eq_some_iff.1 hb).1;unfold sortWorldK putRowK;rw [heap_grow_old _ _ (by simpa using hg)];simp [putRow,mapBlock,Sort.ahead,Array.getElem?_modify,hb,onCells]
theorem Xa3 {w:World} {g n:Nat} {os:Array Obj} (d:Array (Int × Int)):w.grownBy (sortWorldK Uh 2 w g 0 n d os) (some g):=by
 unfold sortWorldK putRowK;refine⟨rfl,rfl,rfl,by simp,fun k hk hne=>?_⟩;rw [heap_grow_old _ _ (by simpa using hk)]
 have:g≠k:=fun e=>hne (by rw [e])
 simp [putRow,mapBlock,Sort.ahead,Array.getElem?_modify,this]
theorem Xb9 (cur:Array Value) (ts:List Value) (h:ts.length<=cur.size):(putCells id 0 ts.toArray cur).toList.take ts.length=ts:=by
 apply List.ext_getElem?;intro j
 by_cases hj:j<ts.length
 ·rw [List.getElem?_take_of_lt hj,Array.getElem?_toList]
  simp [putCells,hj,show j<cur.size by omega]
 rw [List.getElem?_take_eq_none (by omega),List.getElem?_eq_none (by omega)]
theorem Xa4 {w:World} {base g cap n:Nat} {e:TypeId} {os:Array Obj} {cur:Array Value} {ss ts:List (Int × Int)} (hl:ts.length=ss.length) (hbase:base<=g) (hb:w.heap[g]? = some (.cells cur e (0,0)))
  (h1:ss.length<=cap) (h2:cap<=maxLen) (h3:cur.size=cap*2) :
  (sortWorldK Uh 2 w g 0 n ts.toArray os).ownsRow base e 2 (.slice (some ⟨g,0,none⟩) ss.length cap) ss.length (Yu ts):=
 ⟨by rw [Ze,hl],.inr ⟨g,cap,_,rfl,hbase,Xd7 _ hb,h1,h2,by simp [putCells,h3],by
  rw [Xas,<- hl,<- Ze];exact Xb9 cur (Yu ts) (by rw [Ze];omega)⟩⟩
theorem Zn (x y:Int × Int):ltOf cmpN x y=decide (x.1<y.1\/x.1=y.1/\x.2<y.2):=by
 unfold ltOf;exact decide_eq_decide.2 (Xkx x y)
theorem swoN:SWO (ltOf cmpN) where
 irrefl x:=by rw [Zn];simp
 trans x y z h1 h2:=by rw [Zn] at *;simp at *;omega
 ntrans x y z h1 h2:=by rw [Zn] at *;simp at *;omega
theorem Xc4 (x y:Int × Int) (h1:ltOf cmpN x y=false) (h2:ltOf cmpN y x=false):x=y:=by
 rw [Zn] at *;simp at h1 h2;exact Prod.ext (by omega) (by omega)
def Z2 (L:List (Int × Int)):Prop:=L.Pairwise (fun x y=>ltOf cmpN x y=true)
theorem Ug {ss L:List (Int × Int)} (hp:ss.Perm L) (hs:Z2 L):ss.mergeSort (fun x y=>!ltOf cmpN y x)=L:=by
 have tr:∀ a b c:Int × Int,(!ltOf cmpN b a)=true->(!ltOf cmpN c b)=true->(!ltOf cmpN c a)=true:=fun a b c h1 h2=>by
  simp at *;exact swoN.ntrans c b a h2 h1
 have to:∀ a b:Int × Int,((!ltOf cmpN b a)||(!ltOf cmpN a b))=true:=fun a b=>by
  rw [Zn,Zn];simp;omega
 refine List.Perm.eq_of_pairwise (le:=fun a b=>(!ltOf cmpN b a)=true) (fun a b _ _ h1 h2=>Xc4 a b (by simpa using h2) (by simpa using h1)) (List.pairwise_mergeSort tr to ss) ?_ ((List.mergeSort_perm ss _).trans hp)
 refine hs.imp fun {a b} h=>?_
 rw [Zn] at *;simp at *;omega
end Go.Proofs
namespace Go.Proofs
open Go.RowKit Go.Sort Go.Maps Go.WideMaps
theorem Xc1 {ks:List ((Int × Int) × Value)} {x:Int × Int} {b:Value} (h:Z8 ks x=some b):(x,b)∈ks:=by
 unfold Z8 at h
 cases hf:ks.find? (fun p=>decide (p.1=x)) with
 | none=>simp [hf] at h
 | some p =>
  simp [hf] at h;have h1:=List.mem_of_find?_eq_some hf;have h2:=List.find?_some hf;simp at h2;obtain⟨p1,p2⟩:=p;simp at h h2;subst h h2;exact h1
theorem Xbt {ks:List ((Int × Int) × Value)} {x:Int × Int}:Z8 ks x=none↔∀ p∈ks,p.1≠x:=by
 unfold Z8;simp [List.find?_eq_none]
theorem Zh {ks:List ((Int × Int) × Value)} (hk:Yz ks) {x:Int × Int} {b:Value} (h:(x,b)∈ks):Z8 ks x=some b:=by
 induction ks with
 | nil=>cases h
 | cons p ks ih =>
  rcases List.mem_cons.1 h with rfl | h'
  ·simp [Z8]
  have hne:p.1≠x:=fun e=>hk.fresh _ h' (by simpa using e.symm)
  have:=ih hk.tail h'
  simpa [Z8,hne] using this
section
variable {P:Program} {t:TypeId} {ks:List ((Int × Int) × Value)} {x:Int × Int}
theorem Xp.Xml (T:Xp P t) (hk:Yz ks) (hx:Zt x) {b:Value} (hg:Z8 ks x=some b):Maps.has (mapD ks) (nmL x)=true:=
 (T.Mo hk hx).2 (List.mem_map.2 ⟨_,Xc1 hg,rfl⟩)
theorem Xp.Xf6 (T:Xp P t) (hk:Yz ks) (hx:Zt x) (hg:Z8 ks x=none):Maps.has (mapD ks) (nmL x)=false:=by
 cases h:Maps.has (mapD ks) (nmL x) with
 | false=>rfl
 | true =>
  obtain⟨p,hp,e⟩:=List.mem_map.1 ((T.Mo hk hx).1 h);exact absurd e (Xbt.1 hg p hp)
section
variable {w:World} {b n:Nat} {tm e:TypeId}
theorem Xp.Mp (T:Xp P t) (hk:Yz ks) (hx:Zt x) (hown:w.ownsMap P t X8 b n (mapD ks)) (ht:P.underlying tm=some (.map t e)) {z:Value} (hz:(zeroValue e).run P w=.ok z w) {pv:Value} (hg:Z8 ks x=some pv) :
  (Instr.lookup tm (.map (some b)) (nmV x) true).run P w=.ok (.tuple #[pv,.bool true]) w:=by
 obtain⟨v,ps,hrun,hv⟩:=hown.look_ok (Keyed.of_law T.law) ht hz (zd:=.held z) (zp:=[]) rfl (T.keyOf hx);have h1:=T.Jm hx (.held z) ks hk;rw [hg] at h1;rw [show Lit.string (nmB x)=nmL x from rfl,h1] at hv;rw [hrun,show Lit.string (nmB x)=nmL x from rfl,T.Xml hk hx hg,Zq hv]
theorem Xp.Xj8 (T:Xp P t) (hk:Yz ks) (hx:Zt x) (hown:w.ownsMap P t X8 b n (mapD ks)) (ht:P.underlying tm=some (.map t e)) {z:Value} (hz:(zeroValue e).run P w=.ok z w) (hg:Z8 ks x=none) :
  (Instr.lookup tm (.map (some b)) (nmV x) true).run P w=.ok (.tuple #[z,.bool false]) w:=by
 obtain⟨v,ps,hrun,hv⟩:=hown.look_ok (Keyed.of_law T.law) ht hz (zd:=.held z) (zp:=[]) rfl (T.keyOf hx);have h1:=T.Jm hx (.held z) ks hk;rw [hg] at h1;rw [show Lit.string (nmB x)=nmL x from rfl,h1] at hv;rw [hrun,show Lit.string (nmB x)=nmL x from rfl,T.Xf6 hk hx hg,Zq hv]
theorem Xp.Xds (T:Xp P t) (hk:Yz ks) (hx:Zt x) (hown:w.ownsMap P t X8 b n (mapD ks)) (ht:P.underlying tm=some (.map t e)) {z:Value} (hz:(zeroValue e).run P w=.ok z w) {pv:Value} (hg:Z8 ks x=some pv) :
  (Instr.lookup tm (.map (some b)) (nmV x) false).run P w=.ok pv w:=by
 obtain⟨v,ps,hrun,hv⟩:=hown.lookup (Keyed.of_law T.law) ht hz (zd:=.held z) (zp:=[]) rfl (T.keyOf hx);have h1:=T.Jm hx (.held z) ks hk;rw [hg] at h1;rw [show Lit.string (nmB x)=nmL x from rfl,h1] at hv;rw [hrun,Zq hv]
end
end
def Xaw (bad:TypeId->Bool):Obj->Bool
 | .cells _ t _=>!bad t
 | o=>o.isWalk
structure KeepsT (bad:TypeId->Bool) (W W':World):Prop where
 size:W.heap.size<=W'.heap.size
 same:∀(k:Nat) (o:Obj),W.heap[k]? = some o->Xaw bad o=true->W'.heap[k]? = some o
section
variable {bad:TypeId->Bool} {W W' W'':World}
theorem KeepsT.refl (bad:TypeId->Bool) (W:World):KeepsT bad W W:=⟨Nat.le_refl _,fun _ _ h _=>h⟩
theorem KeepsT.trans (h:KeepsT bad W W') (h':KeepsT bad W' W''):KeepsT bad W W'':=⟨Nat.le_trans h.size h'.size,fun k o hk hs=>h'.same k o (h.same k o hk hs) hs⟩
theorem KeepsT.grown {row:Option Nat} (hg:W.grownBy W' row) (hr:∀ j,row=some j->∀ o,W.heap[j]? = some o->Xaw bad o=false):KeepsT bad W W':=
 ⟨hg.size,fun k o hk hs=>(hg.block k (Array.getElem?_eq_some_iff.1 hk).1 (fun e=>by have:=hr k e.symm o hk;rw [hs] at this;cases this)).trans hk⟩
theorem KeepsT.alloc (W:World) (o:Obj):KeepsT bad W (W.alloc o):=KeepsT.grown (World.grownBy_alloc W o none) (fun _ e=>by cases e)
theorem KeepsT.below (h:Below W.heap.size W W'):KeepsT bad W W':=⟨h.size,fun k _ hk _=>(h.block k (Array.getElem?_eq_some_iff.1 hk).1).trans hk⟩
theorem Jl {A B C:World} (h:KeepsT bad A B) (k:KeepsT bad B C):KeepsT bad A C:=h.trans k
theorem Jk {w:World} (W:World) (l:Nat) (o o':Obj) (_:w.heap.size<=l) (h:W.heap[l]? = some o) (h1:o.isCells=false) (h2:o.isWalk=false):KeepsT bad W (W.putObj l o'):=
 KeepsT.grown (grownBy_putObj' W l o') (fun j e o2 ho=>by
  cases e;rw [h] at ho;cases ho
  cases o <;> simp_all [Xaw,Obj.isCells])
theorem KeepsT.box {B:Nat} {t:TypeId} {cs:Array Value} (h:KeepsT bad W W') (hb:BoxN W B t cs) (ht:bad t=false):BoxN W' B t cs:=h.same B _ hb (by simp [Xaw,ht])
theorem KeepsT.map {H:Type} {P:Program} {k:TypeId} {R:Value->Option (DataW H × List MemPlace)} {b n:Nat} {D:DataW H} (h:KeepsT bad W W') (hm:W.ownsMap P k R b n D):W'.ownsMap P k R b n D:=by
 obtain⟨es,clock,hb,F,hs,hD⟩:=hm;exact⟨es,clock,h.same b _ hb rfl,F,hs,hD⟩
theorem KeepsT.row {base:Nat} {e:TypeId} {size:Nat} {v:Value} {k:Nat} {xs:List Value} (h:KeepsT bad W W') (hr:W.ownsRow base e size v k xs) (he:bad e=false):W'.ownsRow base e size v k xs:=by
 refine⟨hr.1,?_⟩
 rcases hr.2 with hn | ⟨g,cap,cur,hv,hbg,hg,rest⟩
 ·exact .inl hn
 exact .inr ⟨g,cap,cur,hv,hbg,h.same g _ hg (by simp [Xaw,he]),rest⟩
end
end Go.Proofs
namespace Go.Proofs
open Go.RowKit Go.Sort
theorem Tryz.Xiy (a:Int) (w:World):Calls prog 336 #[.int .i64 a] w fun e w'=>e=.returned (.bool false)/\w'=w:=by
 go_enter func336,ntmps336;go_wp2;go_ret;exact⟨by simp,rfl⟩
theorem Tryz.Xe6 (a:Int) (w:World):Calls prog 276 #[.int .u64 a] w fun e w'=>e=.returned (.bool false)/\w'=w:=by
 go_enter func276,ntmps276;go_wp2;go_ret;exact⟨by simp,rfl⟩
theorem Tryz.Xh6 (a b:Int) (w:World):Calls prog 334 #[.int .i64 a,.int .i64 b] w fun e w'=>e=.returned (.int .i64 (cmpI a b))/\w'=w:=by
 go_enter func334,ntmps334
 go_wp2_with (go_at_call 336;refine(Xiy _ _).mono ?_;rintro e w' ⟨rfl,rfl⟩)
 all_goals go_ret
 ·exact⟨Yj (Xij ‹_›).symm,rfl⟩
 ·exact⟨Yj (Xip ‹_›).symm,rfl⟩
 exact⟨Yj (Xh8 ‹_› ‹_›).symm,rfl⟩
theorem Tryz.Xho (a b:Int) (w:World):Calls prog 335 #[.int .u64 a,.int .u64 b] w fun e w'=>e=.returned (.int .i64 (cmpI a b))/\w'=w:=by
 go_enter func335,ntmps335
 go_wp2_with (go_at_call 276;refine(Xe6 _ _).mono ?_;rintro e w' ⟨rfl,rfl⟩)
 all_goals go_ret
 ·exact⟨Yj (Xij ‹_›).symm,rfl⟩
 ·exact⟨Yj (Xip ‹_›).symm,rfl⟩
 exact⟨Yj (Xh8 ‹_› ‹_›).symm,rfl⟩
theorem Tryz.Xpk (a b:Int) (blk:Nat) (w:World) (h0:w.cell? ⟨blk,0,none⟩=some (.int .i64 a)) (h1:w.cell? ⟨blk,1,none⟩=some (.int .i64 b)) :
  Calls prog 333 #[.slice (some ⟨blk,0,none⟩) 2 2] w fun e w'=>e=.returned (.int .i64 (orI a b))/\w'=w:=by
 by_cases ha:a=0
 ·have ha':(a != 0)=false:=by simp [ha]
  have hfin:Hid (orI a b=b):=show orI a b=b by simp [orI,ha]
  clear ha
  by_cases hb:b=0
  ·have hb':(b != 0)=false:=by simp [hb]
   have hfin2:Hid (b=0):=hb;clear hb;go_enter func333,ntmps333;go_wp2;refine wp_loop_rounds 3 ?_;rw [rounds_succ];go_wp2;rw [rounds_succ];go_wp2;rw [rounds_succ];go_wp2;go_ret;exact⟨Yj (show (0:Int)=orI a b by rw [show orI a b=b from hfin,show b=0 from hfin2]),rfl⟩
  have hb':(b != 0)=true:=by simp [hb]
  clear hb;go_enter func333,ntmps333;go_wp2;refine wp_loop_rounds 3 ?_;rw [rounds_succ];go_wp2;rw [rounds_succ];go_wp2;go_ret;exact⟨Yj (show b=orI a b by rw [show orI a b=b from hfin]),rfl⟩
 have ha':(a != 0)=true:=by simp [ha]
 have hfin:Hid (orI a b=a):=show orI a b=a by simp [orI,ha]
 clear ha;go_enter func333,ntmps333;go_wp2;refine wp_loop_rounds 3 ?_;rw [rounds_succ];go_wp2;go_ret;exact⟨Yj (show a=orI a b by rw [show orI a b=a from hfin]),rfl⟩
theorem Tryz.Xay (x y:Int × Int) (w:World):Calls prog 332 #[.agg #[.int .i64 x.1,.int .u64 x.2],.agg #[.int .i64 y.1,.int .u64 y.2]] w fun e w'=>e=.returned (.int .i64 (cmpN x y))/\Xz w w':=by
 have hN:Hid (cmpN x y=orI (cmpI x.1 y.1) (cmpI x.2 y.2)):=show _=_ from rfl
 have hk:=fun W=>Xh6 x.1 y.1 W
 have hu:=fun W=>Xho x.2 y.2 W
 generalize cmpI x.1 y.1=a at *;generalize cmpI x.2 y.2=b at *;generalize cmpN x y=r at *;go_enter func332,ntmps332
 go_wp2_with fail
 go_region_held3 (fun W=>W.cell? ⟨w.heap.size,0,none⟩=some (.int .i64 x.1)/\W.cell? ⟨w.heap.size,1,none⟩=some (.int .u64 x.2)/\W.cell? ⟨w.heap.size+1,0,none⟩=some (.int .i64 y.1)/\W.cell? ⟨w.heap.size+1,1,none⟩=some (.int .u64 y.2)) (go_keep) (first
  | (go_at_call 334;refine(hk _).mono ?_;rintro e w' ⟨rfl,rfl⟩)
  | (go_at_call 335;refine(hu _).mono ?_;rintro e w' ⟨rfl,rfl⟩)
  | (go_at_call 333;refine(Xpk a b _ _ ?_ ?_).mono ?_;go_simp;go_simp;rintro e w' ⟨rfl,rfl⟩))
 go_wp2;go_ret;exact⟨Yj (show orI a b=r from (show r=orI a b from hN).symm),((((Xz.refl w).alloc _).alloc _).alloc _).drew⟩
theorem Tryz.Xbv (a b:Int) (w:World):Sem.run prog (method 517 114 (.agg #[.int .i64 a,.int .u64 b]) "Compare") w=.ok (332,.agg #[.int .i64 a,.int .u64 b]) w:=by kernel_rfl
theorem Tryz.Xk6 (x y:Int × Int) (w:World):Calls prog 171 #[.agg #[.int .i64 x.1,.int .u64 x.2],.agg #[.int .i64 y.1,.int .u64 y.2]] w fun e w'=>e=.returned (.int .i64 (cmpN x y))/\Xz w w':=by
 have hk:=fun W=>Xay x y W
 have hm:=fun W=>Xbv x.1 x.2 W
 generalize cmpN x y=r at *;go_enter func171,ntmps171
 go_wp2_with (go_at_call 332;refine(hk _).mono ?_;rintro e w' ⟨rfl,hg⟩)
 go_ret;exact⟨rfl,(((Xz.refl w).alloc _).alloc _).trans hg⟩
theorem Tryz.Xky (x y:Int × Int) (w:World):Calls prog 173 #[.agg #[.int .i64 x.1,.int .u64 x.2],.agg #[.int .i64 y.1,.int .u64 y.2]] w fun e w'=>e=.returned (.int .i64 (cmpN x y))/\Xz w w':=by
 have hk:=fun W=>Xay x y W
 have hm:=fun W=>Xbv x.1 x.2 W
 generalize cmpN x y=r at *;go_enter func173,ntmps173
 go_wp2_with (go_at_call 332;refine(hk _).mono ?_;rintro e w' ⟨rfl,hg⟩)
 go_ret;exact⟨rfl,(((Xz.refl w).alloc _).alloc _).trans hg⟩
end Go.Proofs
namespace Go.Proofs
open Go.RowKit Go.Maps Go.Sort Go.Shelf
attribute [local go_sem] Oper.semAt_some
theorem Tryz.Xk1:(prog.info? 114).map (fun i=>(i.zero,i.size,i.bytes))=some (some (.agg #[.int .i64 0,.int .u64 0]),2,16):=by kernel_rfl
theorem Tryz.appendSeq_in (n:Nat) (hn:3<=n) (g:Nat) (lb:Array Value) (eg:∀ args w,(callFunc g args).run prog w=.ok (.enter g args) w)
  (S Sp:List (Int × Int)->Prop) (N:Nat) (hN:N<=1000) (w:World) (hseq:SeqStopsK Fence.wide (n-1) prog g lb (fun x=>#[nmV x]) KeepsWalks S Sp N w) :
  CallsIn Fence.wide n prog 224 #[.slice none 0 0,.func (.func g) #[] lb] w fun e w'=>∃(v:Value) (ss:List (Int × Int)),e=.returned v/\S ss/\w'.ownsRow w.heap.size 114 2 v ss.length (Yu ss)/\(v=.slice none 0 0↔ss = [])/\Below w.heap.size w w':=by
 have h1:1<=n:=by omega
 obtain⟨i0,hi,hz0,hz1,hz2⟩:=info_parts Xk1;refine callsIn_of_wp_marks func224 rfl trivial ?_ rfl;simp only [ntmps224,List.size_toArray,List.length_cons,List.length_nil,Nat.reduceAdd,Nat.reduceSub,Array.replicate_succ,Array.replicate_zero,List.push_toArray,List.append_toArray,List.nil_append,List.cons_append]
 gi_wp2
 have bS:=Boxed.new w 220 (.slice none 0 0);have hB0:Below w.heap.size w (w.alloc (.cells #[.slice none 0 0] 220)):=(Below.refl _ w).alloc (Nat.le_refl _) _
 obtain⟨W0,hW0⟩:∃ W0,w.alloc (.cells #[.slice none 0 0] 220)=W0:=⟨_,rfl⟩
 have hsz:W0.heap.size=w.heap.size+1:=by rw [<- hW0];simp
 rw [hW0] at bS hB0 ⊢;clear hW0
 refine wpIn_rangeFunc_ownH rfl h1 (gf:=g) (lb:=lb) rfl trivial eg (hseq) walksK_t walksK_b hB0 (fun _=>rfl)
  (fun pre W=>(∃ v,Boxed W w.heap.size 220 v/\W.ownsRow w.heap.size 114 2 v pre.length (Yu pre)/\(v=.slice none 0 0↔pre = []))/\Below w.heap.size w W)
  (fun _ _ _=>False)
  (OwnFrom.and (Own.from (holdsRow_own _ _ _ _ _ (fun pre:List (Int × Int)=>pre.length) (fun pre=>Yu pre) (fun pre v=>(v=.slice none 0 0↔pre = []))) _) (ownFrom_below (Nat.le_refl _) (by omega)))
  (fun _ _ _ _ _ hs _ _=>hs)
  ⟨⟨_,bS,World.ownsRow_nil _ _ _ _,by simp⟩,hB0⟩
  (fun x a' W=>∃ Bx,w.heap.size<Bx/\BoxN W Bx 114 #[.int .i64 x.1,.int .u64 x.2]/\a' = { tmps:=#[.slice none 0 0,.func (.func g) #[] lb,.pointer (some ⟨w.heap.size,0,none⟩),undef,.slice none 0 0,.pointer (some ⟨Bx,0,none⟩),.func (.func g) #[] lb,.agg #[.int .i64 x.1,.int .u64 x.2],undef,undef,undef,undef,undef],defers:=[] })
  (fun x a' _ X Y row hs hg hr=>by obtain⟨Bx,h1,h2,h3⟩:=hs;exact⟨Bx,h1,X6 Bx 114 (fun(_:Unit)=>#[.int .i64 x.1,.int .u64 x.2]) () X Y row h2 hg (fun r e=>(hr r e).2),h3⟩)
  ?assign ?body ?done ?stop
 case assign =>
  rintro l pre x W K ⟨⟨v,bS1,hr1,hnil⟩,hB1⟩ hK;unfold nmV
  gi_wp2
  exact hK _ _ ((KeepsOthers.alloc _ _).from _) (KeepsWalks.alloc _ _) ⟨⟨v,bS1.alloc _,hr1.alloc _,hnil⟩,hB1.alloc hB1.size _⟩ ⟨W.heap.size,bS1.lt,BoxN.new W 114 _,rfl⟩
 case body =>
  rintro l pre x a' W hl ⟨r,hr⟩ ⟨⟨v,bS1,hr1,hnil⟩,hB1⟩ ⟨Bx,hBx,bX,rfl⟩ hlt;have cS:=bS1.cell;have cX0:=bX.cell 0 (v:=.int .i64 x.1) rfl;have cX1:=bX.cell 1 (v:=.int .u64 x.2) rfl
  gi_wp2_with (gi_at_builtin;refine wpListIn_append_own _ rfl _ _ 220 rfl w.heap.size 114 i0 _ 2 16 underlying220 hi hz0 hz1 hz2 rfl (by decide) _ _ _ rfl (hr1.alloc _) ⟨W.heap.size,0,none⟩ 1 1 [.int .i64 x.1,.int .u64 x.2] rfl rfl (cell_two_new _ _ _ _) (by simp [Value.oneCell']) (by unfold maxLen;omega) (by omega) (by have:=hB1.size;simp;omega) ?_;intro v' w1 hown' hgrow hn';obtain⟨g',cap',rfl⟩:=ownsRow_succ hown';obtain⟨hv1,hv2,hr2,hk2,hb2⟩:=bS1.appended (by decide) hr1 hB1.size (Nat.le_refl _) hown' hgrow;have hc1:=hv1.cell;have hf1:=hv1.frozen)
  exact⟨hk2.from _,hk2.walks,⟨_,hv2,by rw [Xhl,List.length_append];exact hr2,by simp⟩,hB1.trans hb2⟩
 case done =>
  rintro D zs W hD hS ⟨⟨v,bS1,hr1,hnil⟩,hB1⟩ hK;have cS:=bS1.cell
  gi_wp2
  refine⟨by simp,.inl ⟨_,_,rfl,run_takeDeferred hK,?_⟩⟩;exact⟨_,results_tmp rfl _ _ _,v,zs,rfl,hS,ownsRow_putObj hr1 _ hK rfl,hnil,hB1.trans (belowK_b (w:=w) (Nat.le_refl _) W D _ _ (by omega) hK rfl rfl)⟩
 case stop =>
  rintro D c pre W _ _ h _;exact h.elim
theorem Tryz.collect_in (n:Nat) (hn:4<=n) (g:Nat) (lb:Array Value) (eg:∀ args w,(callFunc g args).run prog w=.ok (.enter g args) w)
  (S Sp:List (Int × Int)->Prop) (N:Nat) (hN:N<=1000) (w:World) (hseq:SeqStopsK Fence.wide (n-1-1) prog g lb (fun x=>#[nmV x]) KeepsWalks S Sp N w) :
  CallsIn Fence.wide n prog 200 #[.func (.func g) #[] lb] w fun e w'=>∃(v:Value) (ss:List (Int × Int)),e=.returned v/\S ss/\w'.ownsRow w.heap.size 114 2 v ss.length (Yu ss)/\(v=.slice none 0 0↔ss = [])/\Below w.heap.size w w':=by
 have h1:1<=n:=by omega
 have hfn:Fence.wide.fn 224:=trivial
 have hA:=fun W hs=>appendSeq_in (n-1) (by omega) g lb eg S Sp N hN W hs
 refine callsIn_of_wp func200 rfl trivial ?_ rfl;simp only [ntmps200,List.size_toArray,List.length_cons,List.length_nil,Nat.reduceAdd,Nat.reduceSub,Array.replicate_succ,Array.replicate_zero,List.push_toArray,List.append_toArray,List.nil_append,List.cons_append]
 gi_wp2_with (gi_at_call 224;refine(hA _ hseq).mono ?_;rintro e w' ⟨v,ss,rfl,hS,hrow,hnil,hb⟩)
 go_ret;exact⟨v,ss,rfl,hS,hrow,hnil,hb⟩
end Go.Proofs
namespace Go.Proofs
open Go.RowKit Go.Sort
def Xia (ops:Array Oper):Bool:=ops.all fun o=>match o.op with | .defer _=>false | _=>true
theorem Xd1 {ops:Array Oper} (h:Xia ops=true) {i:Nat} {o:Oper} (ho:ops[i]? = some o):∀ c,o.op ≠ .defer c:=fun c hc=>by
 obtain⟨hi,he⟩:=Array.getElem?_eq_some_iff.1 ho;have:=(Array.all_eq_true.1 h) i hi;rw [he,hc] at this;cases this
section
variable {n:Nat} {P:Program} {md:Region.Mode} {ops:Array Oper} {Q:Exit->Act->World->Prop}
theorem Xd2 (l:Nat) {o:Oper} (hd:∀ c,o.op ≠ .defer c) {a:Act} {w:World} {K:Act->World->Prop} (h:o.wpIn Fence.wide n P a w K Q):o.wpIn (Fence.wide.inRound l) n P a w K Q:=by
 unfold Oper.wpIn at h ⊢;rw [Oper.semAt_eq _ _ _ hd] at h ⊢;exact h
theorem Xx (l:Nat) (hd:Xia ops=true):∀(fuel:Nat) (listed:Array Bool) (a:Act) (w:World),wpAnyIn Fence.wide n P md ops Q fuel listed a w->wpAnyIn (Fence.wide.inRound l) n P md ops Q fuel listed a w
 | 0,_,_,_,h=>h
 | fuel+1,listed,a,w,h=>by
  refine⟨h.1,fun i hi=>?_⟩;have hs:=h.2 i hi;unfold wpOpIn at hs ⊢
  cases ho:ops[i]? with
  | none=>rw [ho] at hs;exact Xx l hd fuel _ _ _ hs
  | some o =>
   rw [ho] at hs;simp only at hs ⊢
   split
   ·rename_i hw
    rw [if_pos hw] at hs;exact Xd2 l (Xd1 hd ho) (Oper.wpIn_mono (fun a w=>Xx l hd fuel _ a w) hs)
   rename_i hw
   rw [if_neg hw] at hs;exact⟨hs.1,Xx l hd fuel _ _ _ hs.2⟩
end
def Ya (a b c d:Int):Value:=.agg #[.int .i64 a,.int .i64 b,.int .i64 c,.int .i64 d]
theorem BoxN.ne {W:World} {B B':Nat} {t t':TypeId} {cs cs':Array Value} (h:BoxN W B t cs) (h':BoxN W B' t' cs') (hne:t≠t'):B≠B':=by
 rintro rfl;have e:some (Obj.cells cs t (0,0))=some (Obj.cells cs' t' (0,0)):=h.symm.trans h';simp at e;exact hne e.2
theorem Tryz.Xpc (w:World):Calls prog 16 #[] w fun e w'=>e=.returned (Ya (-1) (-1) 0 0)/\Below w.heap.size w w':=by
 unfold Ya;go_enter func16,ntmps16;go_wp2;exact bodyPost_ret (v:=.agg #[.int .i64 (-1),.int .i64 (-1),.int .i64 0,.int .i64 0]) (by simp [results,results16,go_sem]) rfl ⟨rfl,(Below.refl _ _).alloc (Nat.le_refl _) _⟩
theorem Yh (w:World) (db i k:Nat) (v:Value) (hd:k≠db):(w.setCell ⟨db,i,none⟩ v).heap[k]? = w.heap[k]?:=by
 show (w.heap.modify db _)[k]? = _
 rw [Array.getElem?_modify,if_neg (fun e=>hd e.symm)]
theorem Xdl (w:World) (db i i':Nat) (v v':Value) (o:Obj):w.grownBy (((w.setCell ⟨db,i,none⟩ v).setCell ⟨db,i',none⟩ v').alloc o).drew (some db):=
 ⟨rfl,rfl,rfl,by simp [World.drew],fun k hk hne=>by
  have hd:k≠db:=fun e=>hne (by rw [e])
  show (((w.setCell ⟨db,i,none⟩ v).setCell ⟨db,i',none⟩ v').heap.push o)[k]? = _
  rw [Array.getElem?_push_lt (by simpa using hk),<- Array.getElem?_eq_getElem]
  rw [Yh _ _ _ _ _ hd,Yh _ _ _ _ _ hd]⟩
abbrev Tryz.Z7 (hb db fb:Nat) (a b:Int) (W:World):Prop:=
 (W.cell? ⟨hb,0,none⟩=some (.pointer (some ⟨db,0,none⟩))/\W.cell? ⟨fb,0,none⟩=some (.int .i64 a)/\W.cell? ⟨fb,1,none⟩=some (.int .i64 b)) /\
 (W.cell? ⟨db,3,none⟩=some (Xq W ⟨db,3,none⟩)/\W.cell? ⟨db,4,none⟩=some (Xq W ⟨db,4,none⟩))/\W.frozen? ⟨db,3,none⟩=false/\W.frozen? ⟨db,4,none⟩=false
theorem Tryz.Z7.start {W:World} {hb db fb:Nat} {a b c d:Int} {cs ds:Array Value} (hs:W.heap.size=fb) (hH:BoxN W hb 78 cs) (h0:cs[0]? = some (.pointer (some ⟨db,0,none⟩))) (hD:BoxN W db 100 ds) (h6:ds.size=6) :
  Z7 hb db fb a b (W.alloc (.cells #[.int .i64 a,.int .i64 b,.int .i64 c,.int .i64 d] 29)).drew:=by
 subst hs;have bF:=BoxN.new W 29 #[.int .i64 a,.int .i64 b,.int .i64 c,.int .i64 d];have bH:=hH.alloc (.cells #[.int .i64 a,.int .i64 b,.int .i64 c,.int .i64 d] 29);have bD:=hD.alloc (.cells #[.int .i64 a,.int .i64 b,.int .i64 c,.int .i64 d] 29);exact⟨⟨bH.cell 0 h0,bF.cell 0 rfl,bF.cell 1 rfl⟩,⟨Xg (by have h:=bD.cell 3 (v:=ds[3]) (by simp [h6]);show ((W.alloc _).cell? _).isSome;rw [h];rfl),Xg (by have h:=bD.cell 4 (v:=ds[4]) (by simp [h6]);show ((W.alloc _).cell? _).isSome;rw [h];rfl)⟩,bD.frozen 3,bD.frozen 4⟩
theorem Tryz.Z7.Xmr {w:World} {hb db:Nat} {a b c d:Int} {c1 c2 m1 m2 p l f dn:Value} (hH:BoxN w hb 78 #[.pointer (some ⟨db,0,none⟩),c1,c2]) (hD:BoxN w db 100 #[m1,m2,p,l,f,dn]) (hne:hb≠db) (i:Nat) (v:Value) :
  Z7 hb db w.heap.size a b ((w.setCell ⟨db,i,none⟩ v).alloc (.cells #[.int .i64 a,.int .i64 b,.int .i64 c,.int .i64 d] 29)).drew:=
 Z7.start (by simp) (hH.other hne i v) rfl (hD.set i v) (by simp)
theorem Tryz.Z7.Xms {w:World} {hb db:Nat} {a b c d:Int} {c1 c2 m1 m2 p l f dn:Value} (hH:BoxN w hb 78 #[.pointer (some ⟨db,0,none⟩),c1,c2]) (hD:BoxN w db 100 #[m1,m2,p,l,f,dn]) (hne:hb≠db) (i:Nat) (v:Value) (i':Nat) (v':Value) :
  Z7 hb db w.heap.size a b (((w.setCell ⟨db,i,none⟩ v).setCell ⟨db,i',none⟩ v').alloc (.cells #[.int .i64 a,.int .i64 b,.int .i64 c,.int .i64 d] 29)).drew:=
 Z7.start (by simp) ((hH.other hne i v).other hne i' v') rfl ((hD.set i v).set i' v') (by simp)
theorem Tryz.before (hb db:Nat) (c1 c2 m1 m2 p l f dn:Value) (a b c d:Int) (w:World) (hH:BoxN w hb 78 #[.pointer (some ⟨db,0,none⟩),c1,c2]) (hD:BoxN w db 100 #[m1,m2,p,l,f,dn]) :
  Calls prog 40 #[.pointer (some ⟨hb,0,none⟩),Ya a b c d] w fun e w'=>e=.returned (.tuple #[])/\BoxN w' db 100 #[m1,m2,p,.int .i64 a,.int .i64 b,dn]/\w.grownBy w' (some db):=by
 have lH:=hH.lt;have lD:=hD.lt;have hne:=hH.ne hD (by decide);unfold Ya;go_enter func40,ntmps40;go_wp2
 go_region_held3 (Z7 hb db w.heap.size a b) (first
  | with_reducible exact Z7.start rfl hH rfl hD rfl
  | with_reducible exact Z7.Xmr hH hD hne _ _
  | with_reducible exact Z7.Xms hH hD hne _ _ _ _
  | with_reducible assumption) (fail)
 all_goals
  go_wp2
  go_end0
  exact⟨rfl,((hD.set 3 _).set 4 _).alloc _,Xdl _ _ _ _ _ _ _⟩
theorem Tryz.after (hb db:Nat) (c1 c2 m1 m2 p l f:Value) (a b c d:Int) (w:World) (hH:BoxN w hb 78 #[.pointer (some ⟨db,0,none⟩),c1,c2]) (hD:BoxN w db 100 #[m1,m2,p,l,f,.bool false]) :
  Calls prog 42 #[.pointer (some ⟨hb,0,none⟩),Ya a b c d] w fun e w'=>e=.returned (.tuple #[])/\BoxN w' db 100 #[m1,m2,p,.int .i64 (-1),.int .i64 (-1),.bool false]/\w.grownBy w' (some db):=by
 have h0:=hH.cell 0 (v:=.pointer (some ⟨db,0,none⟩)) rfl;have d5:=hD.cell 5 (v:=.bool false) rfl;have lH:=hH.lt;have lD:=hD.lt;have hne:=hH.ne hD (by decide);unfold Ya;go_enter func42,ntmps42;go_wp2
 go_region_held3 (Z7 hb db w.heap.size a b) (first
  | with_reducible exact Z7.start rfl hH rfl hD rfl
  | with_reducible exact Z7.Xmr hH hD hne _ _
  | with_reducible exact Z7.Xms hH hD hne _ _ _ _
  | with_reducible assumption) (fail)
 all_goals
  go_wp2
  go_end0
  exact⟨rfl,((hD.set 3 _).set 4 _).alloc _,Xdl _ _ _ _ _ _ _⟩
structure Spares (bs:List Nat) (W W':World):Prop where
 os:W'.os=W.os
 tape:W'.tape=W.tape
 output:W'.output=W.output
 size:W.heap.size<=W'.heap.size
 block:∀ k,k<W.heap.size->k∉bs->W'.heap[k]? = W.heap[k]?
section
variable {W W' W'':World} {bs:List Nat}
theorem Spares.of_below (h:Below W.heap.size W W'):Spares bs W W':=⟨h.os,h.tape,h.output,h.size,fun k hk _=>h.block k hk⟩
theorem Spares.X4 {b:Nat} (h:W.grownBy W' (some b)) (hb:b∈bs):Spares bs W W':=⟨h.os,h.tape,h.output,h.size,fun k hk hn=>h.block k hk (fun e=>hn (by injection e with e;rw [e];exact hb))⟩
theorem Spares.trans (h:Spares bs W W') (h':Spares bs W' W''):Spares bs W W'':=⟨h'.os.trans h.os,h'.tape.trans h.tape,h'.output.trans h.output,Nat.le_trans h.size h'.size,fun k hk hn=>(h'.block k (Nat.lt_of_lt_of_le hk h.size) hn).trans (h.block k hk hn)⟩
theorem Spares.mono {bs':List Nat} (h:Spares bs W W') (hs:∀ b∈bs,b∈bs'):Spares bs' W W':=⟨h.os,h.tape,h.output,h.size,fun k hk hn=>h.block k hk (fun e=>hn (hs k e))⟩
theorem Spares.box {B:Nat} {t:TypeId} {cs:Array Value} (h:Spares bs W W') (hB:BoxN W B t cs) (hn:B∉bs):BoxN W' B t cs:=(h.block B hB.lt hn).trans hB
theorem Spares.map {H:Type} {P:Program} {k:TypeId} {R:Value->Option (DataW H × List MemPlace)} {D:DataW H} {b n:Nat} (h:Spares bs W W') (hm:W.ownsMap P k R b n D) (hn:b∉bs):W'.ownsMap P k R b n D:=by
 have hl:=hm.lt;obtain⟨es,clock,hb,F,hs,hD⟩:=hm;exact⟨es,clock,(h.block b hl hn).trans hb,F,hs,hD⟩
theorem Spares.row {base size n g cap:Nat} {e:TypeId} {xs:List Value} (h:Spares bs W W') (hr:W.ownsRow base e size (.slice (some ⟨g,0,none⟩) n cap) n xs) (hn:g∉bs):W'.ownsRow base e size (.slice (some ⟨g,0,none⟩) n cap) n xs:=by
 obtain⟨h1,⟨e1,-⟩ | ⟨g',cap',cur,e1,e2,e3,e4⟩⟩:=hr
 ·cases e1
 cases e1;exact⟨h1,.inr ⟨g,cap,cur,rfl,e2,Spares.box (t:=e) (cs:=cur) h e3 hn,e4⟩⟩
theorem Spares.below {B:Nat} (h:Spares bs W W') (hB:B<=W.heap.size) (hn:∀ b∈bs,B<=b):Below B W W':=⟨h.os,h.tape,h.output,h.size,fun k hk=>h.block k (by omega) (fun e=>by have:=hn k e;omega)⟩
end
theorem Spares.set {bs:List Nat} {W W':World} (h:Spares bs W W') {b:Nat} (hb:b∈bs) (i:Nat) (v:Value):Spares bs W (W'.setCell ⟨b,i,none⟩ v):=
 ⟨h.os,h.tape,h.output,by simpa using h.size,fun k hk hn=>by rw [Yh _ _ _ _ _ (fun e=>hn (by rw [e];exact hb))];exact h.block k hk hn⟩
theorem Spares.alloc {bs:List Nat} {W W':World} (h:Spares bs W W') (o:Obj):Spares bs W (W'.alloc o):=h.trans (Spares.of_below ((Below.refl _ _).alloc (Nat.le_refl _) o))
theorem Spares.drew {bs:List Nat} {W W':World} (h:Spares bs W W'):Spares bs W W'.drew:=h.trans (Spares.of_below ((Below.refl _ _).drew))
theorem BoxN.Xof {W:World} {q:Nat} {t:TypeId} {c0 c1 c2 c3 c4:Value} (h:BoxN W q t #[c0,c1,c2,c3,c4]):(W.cell? ⟨q,0,none⟩=some c0/\W.cell? ⟨q,1,none⟩=some c1/\W.cell? ⟨q,2,none⟩=some c2/\W.cell? ⟨q,3,none⟩=some c3/\W.cell? ⟨q,4,none⟩=some c4)/\(W.frozen? ⟨q,0,none⟩=false/\W.frozen? ⟨q,1,none⟩=false/\W.frozen? ⟨q,2,none⟩=false/\W.frozen? ⟨q,3,none⟩=false/\W.frozen? ⟨q,4,none⟩=false):=
 ⟨⟨h.cell 0 rfl,h.cell 1 rfl,h.cell 2 rfl,h.cell 3 rfl,h.cell 4 rfl⟩,⟨h.frozen 0,h.frozen 1,h.frozen 2,h.frozen 3,h.frozen 4⟩⟩
theorem BoxN.sets5 {W:World} {q:Nat} {t:TypeId} {c0 c1 c2 c3 c4:Value} (h:BoxN W q t #[c0,c1,c2,c3,c4]) (v0 v1 v2 v3 v4:Value):BoxN (((((W.setCell ⟨q,0,none⟩ v0).setCell ⟨q,1,none⟩ v1).setCell ⟨q,2,none⟩ v2).setCell ⟨q,3,none⟩ v3).setCell ⟨q,4,none⟩ v4) q t #[v0,v1,v2,v3,v4]:=by
 have h1:BoxN (W.setCell ⟨q,0,none⟩ v0) q t #[v0,c1,c2,c3,c4]:=h.set 0 v0;have h2:BoxN ((W.setCell ⟨q,0,none⟩ v0).setCell ⟨q,1,none⟩ v1) q t #[v0,v1,c2,c3,c4]:=h1.set 1 v1;have h3:BoxN (((W.setCell ⟨q,0,none⟩ v0).setCell ⟨q,1,none⟩ v1).setCell ⟨q,2,none⟩ v2) q t #[v0,v1,v2,c3,c4]:=h2.set 2 v2;have h4:BoxN ((((W.setCell ⟨q,0,none⟩ v0).setCell ⟨q,1,none⟩ v1).setCell ⟨q,2,none⟩ v2).setCell ⟨q,3,none⟩ v3) q t #[v0,v1,v2,v3,c4]:=h3.set 3 v3;have h5:BoxN (((((W.setCell ⟨q,0,none⟩ v0).setCell ⟨q,1,none⟩ v1).setCell ⟨q,2,none⟩ v2).setCell ⟨q,3,none⟩ v3).setCell ⟨q,4,none⟩ v4) q t #[v0,v1,v2,v3,v4]:=h4.set 4 v4;exact h5
theorem Xgf {B:Nat} {w W:World} (hb:Below B w W) {q:Nat} (hq:B<=q) (v0 v1 v2 v3 v4:Value):Below B w (((((W.setCell ⟨q,0,none⟩ v0).setCell ⟨q,1,none⟩ v1).setCell ⟨q,2,none⟩ v2).setCell ⟨q,3,none⟩ v3).setCell ⟨q,4,none⟩ v4):=(((((hb.setCell (p:=⟨q,0,none⟩) hq v0).setCell (p:=⟨q,1,none⟩) hq v1).setCell (p:=⟨q,2,none⟩) hq v2).setCell (p:=⟨q,3,none⟩) hq v3).setCell (p:=⟨q,4,none⟩) hq v4)
abbrev Xep (W:World) (rb:Nat):Prop:=
 (W.cell? ⟨rb,0,none⟩=some (Xq W ⟨rb,0,none⟩)/\W.cell? ⟨rb,1,none⟩=some (Xq W ⟨rb,1,none⟩)/\W.cell? ⟨rb,2,none⟩=some (Xq W ⟨rb,2,none⟩)/\W.cell? ⟨rb,3,none⟩=some (Xq W ⟨rb,3,none⟩)/\W.cell? ⟨rb,4,none⟩=some (Xq W ⟨rb,4,none⟩)) /\
 (W.frozen? ⟨rb,0,none⟩=false/\W.frozen? ⟨rb,1,none⟩=false/\W.frozen? ⟨rb,2,none⟩=false/\W.frozen? ⟨rb,3,none⟩=false/\W.frozen? ⟨rb,4,none⟩=false)
theorem Xep.below {W W':World} {rb:Nat} (h:Xep W rb) (hb:Below W.heap.size W W'):Xep W' rb:=by
 have hlt:rb<W.heap.size:=World.block_lt_of_cell? _ _ h.1.1
 have c:∀ i,W'.cell? ⟨rb,i,none⟩=W.cell? ⟨rb,i,none⟩:=fun i=>hb.cell (p:=⟨rb,i,none⟩) hlt
 have f:∀ i,W'.frozen? ⟨rb,i,none⟩=W.frozen? ⟨rb,i,none⟩:=fun i=>hb.frozen (p:=⟨rb,i,none⟩) hlt
 have e:∀ i,Xq W' ⟨rb,i,none⟩=Xq W ⟨rb,i,none⟩:=fun i=>by unfold Xq;rw [c i]
 simp only [Xep,c,f,e];exact h
theorem Xep.set {W:World} {rb:Nat} (h:Xep W rb) (a:Addr) (v:Value):Xep (W.setCell a v) rb:=by
 obtain⟨⟨c0,c1,c2,c3,c4⟩,f0,f1,f2,f3,f4⟩:=h
 have g:∀ i,(W.cell? ⟨rb,i,none⟩).isSome->((W.setCell a v).cell? ⟨rb,i,none⟩).isSome:=fun i hi=>by
  obtain⟨x,hx⟩:=Option.isSome_iff_exists.1 hi;obtain⟨y,hy⟩:=cell?_setCell_some (w:=W) (p:=a) (x:=v) hx;rw [hy];rfl
 have f:∀ i,(W.setCell a v).frozen? ⟨rb,i,none⟩=W.frozen? ⟨rb,i,none⟩:=fun i=>World.frozen?_setCell _ _ _ _
 exact⟨⟨Xg (g 0 (by rw [c0];rfl)),Xg (g 1 (by rw [c1];rfl)),Xg (g 2 (by rw [c2];rfl)),Xg (g 3 (by rw [c3];rfl)),Xg (g 4 (by rw [c4];rfl))⟩,(f 0).trans f0,(f 1).trans f1,(f 2).trans f2,(f 3).trans f3,(f 4).trans f4⟩
theorem Xep.sets {W:World} {rb:Nat} (h:Xep W rb) (v0 v1 v2 v3 v4:Value):(((((W.setCell ⟨rb,0,none⟩ v0).setCell ⟨rb,1,none⟩ v1).setCell ⟨rb,2,none⟩ v2).setCell ⟨rb,3,none⟩ v3).setCell ⟨rb,4,none⟩ v4).cell? ⟨rb,0,none⟩=some v0/\(((((W.setCell ⟨rb,0,none⟩ v0).setCell ⟨rb,1,none⟩ v1).setCell ⟨rb,2,none⟩ v2).setCell ⟨rb,3,none⟩ v3).setCell ⟨rb,4,none⟩ v4).cell? ⟨rb,1,none⟩=some v1/\(((((W.setCell ⟨rb,0,none⟩ v0).setCell ⟨rb,1,none⟩ v1).setCell ⟨rb,2,none⟩ v2).setCell ⟨rb,3,none⟩ v3).setCell ⟨rb,4,none⟩ v4).cell? ⟨rb,2,none⟩=some v2/\(((((W.setCell ⟨rb,0,none⟩ v0).setCell ⟨rb,1,none⟩ v1).setCell ⟨rb,2,none⟩ v2).setCell ⟨rb,3,none⟩ v3).setCell ⟨rb,4,none⟩ v4).cell? ⟨rb,3,none⟩=some v3/\(((((W.setCell ⟨rb,0,none⟩ v0).setCell ⟨rb,1,none⟩ v1).setCell ⟨rb,2,none⟩ v2).setCell ⟨rb,3,none⟩ v3).setCell ⟨rb,4,none⟩ v4).cell? ⟨rb,4,none⟩=some v4:=by
 have o:∀(V:World) (i j:Nat) (v:Value),i≠j->(V.setCell ⟨rb,i,none⟩ v).cell? ⟨rb,j,none⟩=V.cell? ⟨rb,j,none⟩:=fun V i j v _=>World.cell?_setCell_other _ _ _ _ (by simp)
 have h0:=h;have h1:=h0.set ⟨rb,0,none⟩ v0;have h2:=h1.set ⟨rb,1,none⟩ v1;have h3:=h2.set ⟨rb,2,none⟩ v2;have h4:=h3.set ⟨rb,3,none⟩ v3;have s0:=World.cell?_setCell_same _ _ v0 h0.1.1;have s1:=World.cell?_setCell_same _ _ v1 h1.1.2.1;have s2:=World.cell?_setCell_same _ _ v2 h2.1.2.2.1;have s3:=World.cell?_setCell_same _ _ v3 h3.1.2.2.2.1;have s4:=World.cell?_setCell_same _ _ v4 h4.1.2.2.2.2;refine⟨?_,?_,?_,?_,s4⟩
 ·rw [o _ 4 0 _ (by omega),o _ 3 0 _ (by omega),o _ 2 0 _ (by omega),o _ 1 0 _ (by omega),s0]
 ·rw [o _ 4 1 _ (by omega),o _ 3 1 _ (by omega),o _ 2 1 _ (by omega),s1]
 ·rw [o _ 4 2 _ (by omega),o _ 3 2 _ (by omega),s2]
 rw [o _ 4 3 _ (by omega),s3]
theorem BoxN.open7 {W:World} {q:Nat} {t:TypeId} {c0 c1 c2 c3 c4 c5 c6:Value} (h:BoxN W q t #[c0,c1,c2,c3,c4,c5,c6]):(W.cell? ⟨q,0,none⟩=some c0/\W.cell? ⟨q,1,none⟩=some c1/\W.cell? ⟨q,2,none⟩=some c2/\W.cell? ⟨q,3,none⟩=some c3/\W.cell? ⟨q,4,none⟩=some c4/\W.cell? ⟨q,5,none⟩=some c5/\W.cell? ⟨q,6,none⟩=some c6)/\(W.frozen? ⟨q,0,none⟩=false/\W.frozen? ⟨q,1,none⟩=false/\W.frozen? ⟨q,2,none⟩=false/\W.frozen? ⟨q,3,none⟩=false/\W.frozen? ⟨q,4,none⟩=false/\W.frozen? ⟨q,5,none⟩=false/\W.frozen? ⟨q,6,none⟩=false):=
 ⟨⟨h.cell 0 rfl,h.cell 1 rfl,h.cell 2 rfl,h.cell 3 rfl,h.cell 4 rfl,h.cell 5 rfl,h.cell 6 rfl⟩,⟨h.frozen 0,h.frozen 1,h.frozen 2,h.frozen 3,h.frozen 4,h.frozen 5,h.frozen 6⟩⟩
theorem BoxN.sets7 {W:World} {q:Nat} {t:TypeId} {c0 c1 c2 c3 c4 c5 c6:Value} (h:BoxN W q t #[c0,c1,c2,c3,c4,c5,c6]) (v0 v1 v2 v3 v4 v5 v6:Value):BoxN (((((((W.setCell ⟨q,0,none⟩ v0).setCell ⟨q,1,none⟩ v1).setCell ⟨q,2,none⟩ v2).setCell ⟨q,3,none⟩ v3).setCell ⟨q,4,none⟩ v4).setCell ⟨q,5,none⟩ v5).setCell ⟨q,6,none⟩ v6) q t #[v0,v1,v2,v3,v4,v5,v6]:=by
 have h1:BoxN (W.setCell ⟨q,0,none⟩ v0) q t #[v0,c1,c2,c3,c4,c5,c6]:=h.set 0 v0;have h2:BoxN ((W.setCell ⟨q,0,none⟩ v0).setCell ⟨q,1,none⟩ v1) q t #[v0,v1,c2,c3,c4,c5,c6]:=h1.set 1 v1;have h3:BoxN (((W.setCell ⟨q,0,none⟩ v0).setCell ⟨q,1,none⟩ v1).setCell ⟨q,2,none⟩ v2) q t #[v0,v1,v2,c3,c4,c5,c6]:=h2.set 2 v2;have h4:BoxN ((((W.setCell ⟨q,0,none⟩ v0).setCell ⟨q,1,none⟩ v1).setCell ⟨q,2,none⟩ v2).setCell ⟨q,3,none⟩ v3) q t #[v0,v1,v2,v3,c4,c5,c6]:=h3.set 3 v3;have h5:BoxN (((((W.setCell ⟨q,0,none⟩ v0).setCell ⟨q,1,none⟩ v1).setCell ⟨q,2,none⟩ v2).setCell ⟨q,3,none⟩ v3).setCell ⟨q,4,none⟩ v4) q t #[v0,v1,v2,v3,v4,c5,c6]:=h4.set 4 v4;have h6:BoxN ((((((W.setCell ⟨q,0,none⟩ v0).setCell ⟨q,1,none⟩ v1).setCell ⟨q,2,none⟩ v2).setCell ⟨q,3,none⟩ v3).setCell ⟨q,4,none⟩ v4).setCell ⟨q,5,none⟩ v5) q t #[v0,v1,v2,v3,v4,v5,c6]:=h5.set 5 v5;have h7:BoxN (((((((W.setCell ⟨q,0,none⟩ v0).setCell ⟨q,1,none⟩ v1).setCell ⟨q,2,none⟩ v2).setCell ⟨q,3,none⟩ v3).setCell ⟨q,4,none⟩ v4).setCell ⟨q,5,none⟩ v5).setCell ⟨q,6,none⟩ v6) q t #[v0,v1,v2,v3,v4,v5,v6]:=h6.set 6 v6;exact h7
abbrev Mn (W:World) (rb:Nat):Prop:=
 (W.cell? ⟨rb,0,none⟩=some (Xq W ⟨rb,0,none⟩)/\W.cell? ⟨rb,1,none⟩=some (Xq W ⟨rb,1,none⟩)/\W.cell? ⟨rb,2,none⟩=some (Xq W ⟨rb,2,none⟩)/\W.cell? ⟨rb,3,none⟩=some (Xq W ⟨rb,3,none⟩)/\W.cell? ⟨rb,4,none⟩=some (Xq W ⟨rb,4,none⟩)/\W.cell? ⟨rb,5,none⟩=some (Xq W ⟨rb,5,none⟩)/\W.cell? ⟨rb,6,none⟩=some (Xq W ⟨rb,6,none⟩)) /\
 (W.frozen? ⟨rb,0,none⟩=false/\W.frozen? ⟨rb,1,none⟩=false/\W.frozen? ⟨rb,2,none⟩=false/\W.frozen? ⟨rb,3,none⟩=false/\W.frozen? ⟨rb,4,none⟩=false/\W.frozen? ⟨rb,5,none⟩=false/\W.frozen? ⟨rb,6,none⟩=false)
theorem Mn.below {W W':World} {rb:Nat} (h:Mn W rb) (hb:Below W.heap.size W W'):Mn W' rb:=by
 have hlt:rb<W.heap.size:=World.block_lt_of_cell? _ _ h.1.1
 have c:∀ i,W'.cell? ⟨rb,i,none⟩=W.cell? ⟨rb,i,none⟩:=fun i=>hb.cell (p:=⟨rb,i,none⟩) hlt
 have f:∀ i,W'.frozen? ⟨rb,i,none⟩=W.frozen? ⟨rb,i,none⟩:=fun i=>hb.frozen (p:=⟨rb,i,none⟩) hlt
 have e:∀ i,Xq W' ⟨rb,i,none⟩=Xq W ⟨rb,i,none⟩:=fun i=>by unfold Xq;rw [c i]
 simp only [Mn,c,f,e];exact h
theorem Mn.mk {W:World} {rb:Nat} (h:∀ i,i<7->(W.cell? ⟨rb,i,none⟩).isSome) (f:∀ i,i<7->W.frozen? ⟨rb,i,none⟩=false):Mn W rb:=
 ⟨⟨Xg (h 0 (by omega)),Xg (h 1 (by omega)),Xg (h 2 (by omega)),Xg (h 3 (by omega)),Xg (h 4 (by omega)),Xg (h 5 (by omega)),Xg (h 6 (by omega))⟩,f 0 (by omega),f 1 (by omega),f 2 (by omega),f 3 (by omega),f 4 (by omega),f 5 (by omega),f 6 (by omega)⟩
theorem BoxN.row7 {W:World} {q:Nat} {t:TypeId} {c0 c1 c2 c3 c4 c5 c6:Value} (h:BoxN W q t #[c0,c1,c2,c3,c4,c5,c6]):Mn W q:=by
 refine Mn.mk (fun i hi=>?_) (fun i _=>h.frozen i);rw [h.cell i (v:=#[c0,c1,c2,c3,c4,c5,c6][i]) (by simp [hi])];rfl
theorem Mn.set {W:World} {rb:Nat} (h:Mn W rb) (a:Addr) (v:Value):Mn (W.setCell a v) rb:=by
 obtain⟨⟨c0,c1,c2,c3,c4,c5,c6⟩,f0,f1,f2,f3,f4,f5,f6⟩:=h
 have g:∀ i,(W.cell? ⟨rb,i,none⟩).isSome->((W.setCell a v).cell? ⟨rb,i,none⟩).isSome:=fun i hi=>by
  obtain⟨x,hx⟩:=Option.isSome_iff_exists.1 hi;obtain⟨y,hy⟩:=cell?_setCell_some (w:=W) (p:=a) (x:=v) hx;rw [hy];rfl
 have f:∀ i,(W.setCell a v).frozen? ⟨rb,i,none⟩=W.frozen? ⟨rb,i,none⟩:=fun i=>World.frozen?_setCell _ _ _ _
 exact⟨⟨Xg (g 0 (by rw [c0];rfl)),Xg (g 1 (by rw [c1];rfl)),Xg (g 2 (by rw [c2];rfl)),Xg (g 3 (by rw [c3];rfl)),Xg (g 4 (by rw [c4];rfl)),Xg (g 5 (by rw [c5];rfl)),Xg (g 6 (by rw [c6];rfl))⟩,(f 0).trans f0,(f 1).trans f1,(f 2).trans f2,(f 3).trans f3,(f 4).trans f4,(f 5).trans f5,(f 6).trans f6⟩
theorem Mn.sets {W:World} {rb:Nat} (h:Mn W rb) (v0 v1 v2 v3 v4 v5 v6:Value):(((((((W.setCell ⟨rb,0,none⟩ v0).setCell ⟨rb,1,none⟩ v1).setCell ⟨rb,2,none⟩ v2).setCell ⟨rb,3,none⟩ v3).setCell ⟨rb,4,none⟩ v4).setCell ⟨rb,5,none⟩ v5).setCell ⟨rb,6,none⟩ v6).cell? ⟨rb,0,none⟩=some v0/\(((((((W.setCell ⟨rb,0,none⟩ v0).setCell ⟨rb,1,none⟩ v1).setCell ⟨rb,2,none⟩ v2).setCell ⟨rb,3,none⟩ v3).setCell ⟨rb,4,none⟩ v4).setCell ⟨rb,5,none⟩ v5).setCell ⟨rb,6,none⟩ v6).cell? ⟨rb,1,none⟩=some v1/\(((((((W.setCell ⟨rb,0,none⟩ v0).setCell ⟨rb,1,none⟩ v1).setCell ⟨rb,2,none⟩ v2).setCell ⟨rb,3,none⟩ v3).setCell ⟨rb,4,none⟩ v4).setCell ⟨rb,5,none⟩ v5).setCell ⟨rb,6,none⟩ v6).cell? ⟨rb,2,none⟩=some v2/\(((((((W.setCell ⟨rb,0,none⟩ v0).setCell ⟨rb,1,none⟩ v1).setCell ⟨rb,2,none⟩ v2).setCell ⟨rb,3,none⟩ v3).setCell ⟨rb,4,none⟩ v4).setCell ⟨rb,5,none⟩ v5).setCell ⟨rb,6,none⟩ v6).cell? ⟨rb,3,none⟩=some v3/\(((((((W.setCell ⟨rb,0,none⟩ v0).setCell ⟨rb,1,none⟩ v1).setCell ⟨rb,2,none⟩ v2).setCell ⟨rb,3,none⟩ v3).setCell ⟨rb,4,none⟩ v4).setCell ⟨rb,5,none⟩ v5).setCell ⟨rb,6,none⟩ v6).cell? ⟨rb,4,none⟩=some v4/\(((((((W.setCell ⟨rb,0,none⟩ v0).setCell ⟨rb,1,none⟩ v1).setCell ⟨rb,2,none⟩ v2).setCell ⟨rb,3,none⟩ v3).setCell ⟨rb,4,none⟩ v4).setCell ⟨rb,5,none⟩ v5).setCell ⟨rb,6,none⟩ v6).cell? ⟨rb,5,none⟩=some v5/\(((((((W.setCell ⟨rb,0,none⟩ v0).setCell ⟨rb,1,none⟩ v1).setCell ⟨rb,2,none⟩ v2).setCell ⟨rb,3,none⟩ v3).setCell ⟨rb,4,none⟩ v4).setCell ⟨rb,5,none⟩ v5).setCell ⟨rb,6,none⟩ v6).cell? ⟨rb,6,none⟩=some v6:=by
 have o:∀(V:World) (i j:Nat) (v:Value),i≠j->(V.setCell ⟨rb,i,none⟩ v).cell? ⟨rb,j,none⟩=V.cell? ⟨rb,j,none⟩:=fun V i j v _=>World.cell?_setCell_other _ _ _ _ (by simp)
 have h0:=h;have h1:=h0.set ⟨rb,0,none⟩ v0;have h2:=h1.set ⟨rb,1,none⟩ v1;have h3:=h2.set ⟨rb,2,none⟩ v2;have h4:=h3.set ⟨rb,3,none⟩ v3;have h5:=h4.set ⟨rb,4,none⟩ v4;have h6:=h5.set ⟨rb,5,none⟩ v5;have s0:=World.cell?_setCell_same _ _ v0 h0.1.1;have s1:=World.cell?_setCell_same _ _ v1 h1.1.2.1;have s2:=World.cell?_setCell_same _ _ v2 h2.1.2.2.1;have s3:=World.cell?_setCell_same _ _ v3 h3.1.2.2.2.1;have s4:=World.cell?_setCell_same _ _ v4 h4.1.2.2.2.2.1;have s5:=World.cell?_setCell_same _ _ v5 h5.1.2.2.2.2.2.1;have s6:=World.cell?_setCell_same _ _ v6 h6.1.2.2.2.2.2.2;refine⟨?_,?_,?_,?_,?_,?_,s6⟩
 ·rw [o _ 6 0 _ (by omega),o _ 5 0 _ (by omega),o _ 4 0 _ (by omega),o _ 3 0 _ (by omega),o _ 2 0 _ (by omega),o _ 1 0 _ (by omega),s0]
 ·rw [o _ 6 1 _ (by omega),o _ 5 1 _ (by omega),o _ 4 1 _ (by omega),o _ 3 1 _ (by omega),o _ 2 1 _ (by omega),s1]
 ·rw [o _ 6 2 _ (by omega),o _ 5 2 _ (by omega),o _ 4 2 _ (by omega),o _ 3 2 _ (by omega),s2]
 ·rw [o _ 6 3 _ (by omega),o _ 5 3 _ (by omega),o _ 4 3 _ (by omega),s3]
 ·rw [o _ 6 4 _ (by omega),o _ 5 4 _ (by omega),s4]
 rw [o _ 6 5 _ (by omega),s5]
theorem BoxN.Xh4 {W:World} {q:Nat} {t:TypeId} {c0 c1 c2 c3 c4 c5 c6 c7 c8 c9:Value} (h:BoxN W q t #[c0,c1,c2,c3,c4,c5,c6,c7,c8,c9]):(W.cell? ⟨q,0,none⟩=some c0/\W.cell? ⟨q,1,none⟩=some c1/\W.cell? ⟨q,2,none⟩=some c2/\W.cell? ⟨q,3,none⟩=some c3/\W.cell? ⟨q,4,none⟩=some c4/\W.cell? ⟨q,5,none⟩=some c5/\W.cell? ⟨q,6,none⟩=some c6/\W.cell? ⟨q,7,none⟩=some c7/\W.cell? ⟨q,8,none⟩=some c8/\W.cell? ⟨q,9,none⟩=some c9)/\(W.frozen? ⟨q,0,none⟩=false/\W.frozen? ⟨q,1,none⟩=false/\W.frozen? ⟨q,2,none⟩=false/\W.frozen? ⟨q,3,none⟩=false/\W.frozen? ⟨q,4,none⟩=false/\W.frozen? ⟨q,5,none⟩=false/\W.frozen? ⟨q,6,none⟩=false/\W.frozen? ⟨q,7,none⟩=false/\W.frozen? ⟨q,8,none⟩=false/\W.frozen? ⟨q,9,none⟩=false):=
 ⟨⟨h.cell 0 rfl,h.cell 1 rfl,h.cell 2 rfl,h.cell 3 rfl,h.cell 4 rfl,h.cell 5 rfl,h.cell 6 rfl,h.cell 7 rfl,h.cell 8 rfl,h.cell 9 rfl⟩,⟨h.frozen 0,h.frozen 1,h.frozen 2,h.frozen 3,h.frozen 4,h.frozen 5,h.frozen 6,h.frozen 7,h.frozen 8,h.frozen 9⟩⟩
theorem BoxN.sets10 {W:World} {q:Nat} {t:TypeId} {c0 c1 c2 c3 c4 c5 c6 c7 c8 c9:Value} (h:BoxN W q t #[c0,c1,c2,c3,c4,c5,c6,c7,c8,c9]) (v0 v1 v2 v3 v4 v5 v6 v7 v8 v9:Value):BoxN ((((((((((W.setCell ⟨q,0,none⟩ v0).setCell ⟨q,1,none⟩ v1).setCell ⟨q,2,none⟩ v2).setCell ⟨q,3,none⟩ v3).setCell ⟨q,4,none⟩ v4).setCell ⟨q,5,none⟩ v5).setCell ⟨q,6,none⟩ v6).setCell ⟨q,7,none⟩ v7).setCell ⟨q,8,none⟩ v8).setCell ⟨q,9,none⟩ v9) q t #[v0,v1,v2,v3,v4,v5,v6,v7,v8,v9]:=by
 have h1:BoxN (W.setCell ⟨q,0,none⟩ v0) q t #[v0,c1,c2,c3,c4,c5,c6,c7,c8,c9]:=h.set 0 v0;have h2:BoxN ((W.setCell ⟨q,0,none⟩ v0).setCell ⟨q,1,none⟩ v1) q t #[v0,v1,c2,c3,c4,c5,c6,c7,c8,c9]:=h1.set 1 v1;have h3:BoxN (((W.setCell ⟨q,0,none⟩ v0).setCell ⟨q,1,none⟩ v1).setCell ⟨q,2,none⟩ v2) q t #[v0,v1,v2,c3,c4,c5,c6,c7,c8,c9]:=h2.set 2 v2;have h4:BoxN ((((W.setCell ⟨q,0,none⟩ v0).setCell ⟨q,1,none⟩ v1).setCell ⟨q,2,none⟩ v2).setCell ⟨q,3,none⟩ v3) q t #[v0,v1,v2,v3,c4,c5,c6,c7,c8,c9]:=h3.set 3 v3;have h5:BoxN (((((W.setCell ⟨q,0,none⟩ v0).setCell ⟨q,1,none⟩ v1).setCell ⟨q,2,none⟩ v2).setCell ⟨q,3,none⟩ v3).setCell ⟨q,4,none⟩ v4) q t #[v0,v1,v2,v3,v4,c5,c6,c7,c8,c9]:=h4.set 4 v4;have h6:BoxN ((((((W.setCell ⟨q,0,none⟩ v0).setCell ⟨q,1,none⟩ v1).setCell ⟨q,2,none⟩ v2).setCell ⟨q,3,none⟩ v3).setCell ⟨q,4,none⟩ v4).setCell ⟨q,5,none⟩ v5) q t #[v0,v1,v2,v3,v4,v5,c6,c7,c8,c9]:=h5.set 5 v5;have h7:BoxN (((((((W.setCell ⟨q,0,none⟩ v0).setCell ⟨q,1,none⟩ v1).setCell ⟨q,2,none⟩ v2).setCell ⟨q,3,none⟩ v3).setCell ⟨q,4,none⟩ v4).setCell ⟨q,5,none⟩ v5).setCell ⟨q,6,none⟩ v6) q t #[v0,v1,v2,v3,v4,v5,v6,c7,c8,c9]:=h6.set 6 v6;have h8:BoxN ((((((((W.setCell ⟨q,0,none⟩ v0).setCell ⟨q,1,none⟩ v1).setCell ⟨q,2,none⟩ v2).setCell ⟨q,3,none⟩ v3).setCell ⟨q,4,none⟩ v4).setCell ⟨q,5,none⟩ v5).setCell ⟨q,6,none⟩ v6).setCell ⟨q,7,none⟩ v7) q t #[v0,v1,v2,v3,v4,v5,v6,v7,c8,c9]:=h7.set 7 v7;have h9:BoxN (((((((((W.setCell ⟨q,0,none⟩ v0).setCell ⟨q,1,none⟩ v1).setCell ⟨q,2,none⟩ v2).setCell ⟨q,3,none⟩ v3).setCell ⟨q,4,none⟩ v4).setCell ⟨q,5,none⟩ v5).setCell ⟨q,6,none⟩ v6).setCell ⟨q,7,none⟩ v7).setCell ⟨q,8,none⟩ v8) q t #[v0,v1,v2,v3,v4,v5,v6,v7,v8,c9]:=h8.set 8 v8;have h10:BoxN ((((((((((W.setCell ⟨q,0,none⟩ v0).setCell ⟨q,1,none⟩ v1).setCell ⟨q,2,none⟩ v2).setCell ⟨q,3,none⟩ v3).setCell ⟨q,4,none⟩ v4).setCell ⟨q,5,none⟩ v5).setCell ⟨q,6,none⟩ v6).setCell ⟨q,7,none⟩ v7).setCell ⟨q,8,none⟩ v8).setCell ⟨q,9,none⟩ v9) q t #[v0,v1,v2,v3,v4,v5,v6,v7,v8,v9]:=h9.set 9 v9;exact h10
theorem Xfx {B:Nat} {w W:World} (hb:Below B w W) {q:Nat} (hq:B<=q) (v0 v1 v2 v3 v4 v5 v6 v7 v8 v9:Value):Below B w ((((((((((W.setCell ⟨q,0,none⟩ v0).setCell ⟨q,1,none⟩ v1).setCell ⟨q,2,none⟩ v2).setCell ⟨q,3,none⟩ v3).setCell ⟨q,4,none⟩ v4).setCell ⟨q,5,none⟩ v5).setCell ⟨q,6,none⟩ v6).setCell ⟨q,7,none⟩ v7).setCell ⟨q,8,none⟩ v8).setCell ⟨q,9,none⟩ v9):=((((((((((hb.setCell (p:=⟨q,0,none⟩) hq v0).setCell (p:=⟨q,1,none⟩) hq v1).setCell (p:=⟨q,2,none⟩) hq v2).setCell (p:=⟨q,3,none⟩) hq v3).setCell (p:=⟨q,4,none⟩) hq v4).setCell (p:=⟨q,5,none⟩) hq v5).setCell (p:=⟨q,6,none⟩) hq v6).setCell (p:=⟨q,7,none⟩) hq v7).setCell (p:=⟨q,8,none⟩) hq v8).setCell (p:=⟨q,9,none⟩) hq v9)
abbrev Z6 (W:World) (rb:Nat):Prop:=
 (W.cell? ⟨rb,0,none⟩=some (Xq W ⟨rb,0,none⟩)/\W.cell? ⟨rb,1,none⟩=some (Xq W ⟨rb,1,none⟩)/\W.cell? ⟨rb,2,none⟩=some (Xq W ⟨rb,2,none⟩)/\W.cell? ⟨rb,3,none⟩=some (Xq W ⟨rb,3,none⟩)/\W.cell? ⟨rb,4,none⟩=some (Xq W ⟨rb,4,none⟩)/\W.cell? ⟨rb,5,none⟩=some (Xq W ⟨rb,5,none⟩)/\W.cell? ⟨rb,6,none⟩=some (Xq W ⟨rb,6,none⟩)/\W.cell? ⟨rb,7,none⟩=some (Xq W ⟨rb,7,none⟩)/\W.cell? ⟨rb,8,none⟩=some (Xq W ⟨rb,8,none⟩)/\W.cell? ⟨rb,9,none⟩=some (Xq W ⟨rb,9,none⟩)) /\
 (W.frozen? ⟨rb,0,none⟩=false/\W.frozen? ⟨rb,1,none⟩=false/\W.frozen? ⟨rb,2,none⟩=false/\W.frozen? ⟨rb,3,none⟩=false/\W.frozen? ⟨rb,4,none⟩=false/\W.frozen? ⟨rb,5,none⟩=false/\W.frozen? ⟨rb,6,none⟩=false/\W.frozen? ⟨rb,7,none⟩=false/\W.frozen? ⟨rb,8,none⟩=false/\W.frozen? ⟨rb,9,none⟩=false)
theorem Z6.below {W W':World} {rb:Nat} (h:Z6 W rb) (hb:Below W.heap.size W W'):Z6 W' rb:=by
 have hlt:rb<W.heap.size:=World.block_lt_of_cell? _ _ h.1.1
 have c:∀ i,W'.cell? ⟨rb,i,none⟩=W.cell? ⟨rb,i,none⟩:=fun i=>hb.cell (p:=⟨rb,i,none⟩) hlt
 have f:∀ i,W'.frozen? ⟨rb,i,none⟩=W.frozen? ⟨rb,i,none⟩:=fun i=>hb.frozen (p:=⟨rb,i,none⟩) hlt
 have e:∀ i,Xq W' ⟨rb,i,none⟩=Xq W ⟨rb,i,none⟩:=fun i=>by unfold Xq;rw [c i]
 simp only [Z6,c,f,e];exact h
theorem Z6.mk {W:World} {rb:Nat} (h:∀ i,i<10->(W.cell? ⟨rb,i,none⟩).isSome) (f:∀ i,i<10->W.frozen? ⟨rb,i,none⟩=false):Z6 W rb:=
 ⟨⟨Xg (h 0 (by omega)),Xg (h 1 (by omega)),Xg (h 2 (by omega)),Xg (h 3 (by omega)),Xg (h 4 (by omega)),Xg (h 5 (by omega)),Xg (h 6 (by omega)),Xg (h 7 (by omega)),Xg (h 8 (by omega)),Xg (h 9 (by omega))⟩,f 0 (by omega),f 1 (by omega),f 2 (by omega),f 3 (by omega),f 4 (by omega),f 5 (by omega),f 6 (by omega),f 7 (by omega),f 8 (by omega),f 9 (by omega)⟩
theorem BoxN.row10 {W:World} {q:Nat} {t:TypeId} {c0 c1 c2 c3 c4 c5 c6 c7 c8 c9:Value} (h:BoxN W q t #[c0,c1,c2,c3,c4,c5,c6,c7,c8,c9]):Z6 W q:=by
 refine Z6.mk (fun i hi=>?_) (fun i _=>h.frozen i);rw [h.cell i (v:=#[c0,c1,c2,c3,c4,c5,c6,c7,c8,c9][i]) (by simp [hi])];rfl
theorem Z6.set {W:World} {rb:Nat} (h:Z6 W rb) (a:Addr) (v:Value):Z6 (W.setCell a v) rb:=by
 obtain⟨⟨c0,c1,c2,c3,c4,c5,c6,c7,c8,c9⟩,f0,f1,f2,f3,f4,f5,f6,f7,f8,f9⟩:=h
 have g:∀ i,(W.cell? ⟨rb,i,none⟩).isSome->((W.setCell a v).cell? ⟨rb,i,none⟩).isSome:=fun i hi=>by
  obtain⟨x,hx⟩:=Option.isSome_iff_exists.1 hi;obtain⟨y,hy⟩:=cell?_setCell_some (w:=W) (p:=a) (x:=v) hx;rw [hy];rfl
 have f:∀ i,(W.setCell a v).frozen? ⟨rb,i,none⟩=W.frozen? ⟨rb,i,none⟩:=fun i=>World.frozen?_setCell _ _ _ _
 exact⟨⟨Xg (g 0 (by rw [c0];rfl)),Xg (g 1 (by rw [c1];rfl)),Xg (g 2 (by rw [c2];rfl)),Xg (g 3 (by rw [c3];rfl)),Xg (g 4 (by rw [c4];rfl)),Xg (g 5 (by rw [c5];rfl)),Xg (g 6 (by rw [c6];rfl)),Xg (g 7 (by rw [c7];rfl)),Xg (g 8 (by rw [c8];rfl)),Xg (g 9 (by rw [c9];rfl))⟩,(f 0).trans f0,(f 1).trans f1,(f 2).trans f2,(f 3).trans f3,(f 4).trans f4,(f 5).trans f5,(f 6).trans f6,(f 7).trans f7,(f 8).trans f8,(f 9).trans f9⟩
theorem Z6.sets {W:World} {rb:Nat} (h:Z6 W rb) (v0 v1 v2 v3 v4 v5 v6 v7 v8 v9:Value):((((((((((W.setCell ⟨rb,0,none⟩ v0).setCell ⟨rb,1,none⟩ v1).setCell ⟨rb,2,none⟩ v2).setCell ⟨rb,3,none⟩ v3).setCell ⟨rb,4,none⟩ v4).setCell ⟨rb,5,none⟩ v5).setCell ⟨rb,6,none⟩ v6).setCell ⟨rb,7,none⟩ v7).setCell ⟨rb,8,none⟩ v8).setCell ⟨rb,9,none⟩ v9).cell? ⟨rb,0,none⟩=some v0/\((((((((((W.setCell ⟨rb,0,none⟩ v0).setCell ⟨rb,1,none⟩ v1).setCell ⟨rb,2,none⟩ v2).setCell ⟨rb,3,none⟩ v3).setCell ⟨rb,4,none⟩ v4).setCell ⟨rb,5,none⟩ v5).setCell ⟨rb,6,none⟩ v6).setCell ⟨rb,7,none⟩ v7).setCell ⟨rb,8,none⟩ v8).setCell ⟨rb,9,none⟩ v9).cell? ⟨rb,1,none⟩=some v1/\((((((((((W.setCell ⟨rb,0,none⟩ v0).setCell ⟨rb,1,none⟩ v1).setCell ⟨rb,2,none⟩ v2).setCell ⟨rb,3,none⟩ v3).setCell ⟨rb,4,none⟩ v4).setCell ⟨rb,5,none⟩ v5).setCell ⟨rb,6,none⟩ v6).setCell ⟨rb,7,none⟩ v7).setCell ⟨rb,8,none⟩ v8).setCell ⟨rb,9,none⟩ v9).cell? ⟨rb,2,none⟩=some v2/\((((((((((W.setCell ⟨rb,0,none⟩ v0).setCell ⟨rb,1,none⟩ v1).setCell ⟨rb,2,none⟩ v2).setCell ⟨rb,3,none⟩ v3).setCell ⟨rb,4,none⟩ v4).setCell ⟨rb,5,none⟩ v5).setCell ⟨rb,6,none⟩ v6).setCell ⟨rb,7,none⟩ v7).setCell ⟨rb,8,none⟩ v8).setCell ⟨rb,9,none⟩ v9).cell? ⟨rb,3,none⟩=some v3/\((((((((((W.setCell ⟨rb,0,none⟩ v0).setCell ⟨rb,1,none⟩ v1).setCell ⟨rb,2,none⟩ v2).setCell ⟨rb,3,none⟩ v3).setCell ⟨rb,4,none⟩ v4).setCell ⟨rb,5,none⟩ v5).setCell ⟨rb,6,none⟩ v6).setCell ⟨rb,7,none⟩ v7).setCell ⟨rb,8,none⟩ v8).setCell ⟨rb,9,none⟩ v9).cell? ⟨rb,4,none⟩=some v4/\((((((((((W.setCell ⟨rb,0,none⟩ v0).setCell ⟨rb,1,none⟩ v1).setCell ⟨rb,2,none⟩ v2).setCell ⟨rb,3,none⟩ v3).setCell ⟨rb,4,none⟩ v4).setCell ⟨rb,5,none⟩ v5).setCell ⟨rb,6,none⟩ v6).setCell ⟨rb,7,none⟩ v7).setCell ⟨rb,8,none⟩ v8).setCell ⟨rb,9,none⟩ v9).cell? ⟨rb,5,none⟩=some v5/\((((((((((W.setCell ⟨rb,0,none⟩ v0).setCell ⟨rb,1,none⟩ v1).setCell ⟨rb,2,none⟩ v2).setCell ⟨rb,3,none⟩ v3).setCell ⟨rb,4,none⟩ v4).setCell ⟨rb,5,none⟩ v5).setCell ⟨rb,6,none⟩ v6).setCell ⟨rb,7,none⟩ v7).setCell ⟨rb,8,none⟩ v8).setCell ⟨rb,9,none⟩ v9).cell? ⟨rb,6,none⟩=some v6/\((((((((((W.setCell ⟨rb,0,none⟩ v0).setCell ⟨rb,1,none⟩ v1).setCell ⟨rb,2,none⟩ v2).setCell ⟨rb,3,none⟩ v3).setCell ⟨rb,4,none⟩ v4).setCell ⟨rb,5,none⟩ v5).setCell ⟨rb,6,none⟩ v6).setCell ⟨rb,7,none⟩ v7).setCell ⟨rb,8,none⟩ v8).setCell ⟨rb,9,none⟩ v9).cell? ⟨rb,7,none⟩=some v7/\((((((((((W.setCell ⟨rb,0,none⟩ v0).setCell ⟨rb,1,none⟩ v1).setCell ⟨rb,2,none⟩ v2).setCell ⟨rb,3,none⟩ v3).setCell ⟨rb,4,none⟩ v4).setCell ⟨rb,5,none⟩ v5).setCell ⟨rb,6,none⟩ v6).setCell ⟨rb,7,none⟩ v7).setCell ⟨rb,8,none⟩ v8).setCell ⟨rb,9,none⟩ v9).cell? ⟨rb,8,none⟩=some v8/\((((((((((W.setCell ⟨rb,0,none⟩ v0).setCell ⟨rb,1,none⟩ v1).setCell ⟨rb,2,none⟩ v2).setCell ⟨rb,3,none⟩ v3).setCell ⟨rb,4,none⟩ v4).setCell ⟨rb,5,none⟩ v5).setCell ⟨rb,6,none⟩ v6).setCell ⟨rb,7,none⟩ v7).setCell ⟨rb,8,none⟩ v8).setCell ⟨rb,9,none⟩ v9).cell? ⟨rb,9,none⟩=some v9:=by
 have o:∀(V:World) (i j:Nat) (v:Value),i≠j->(V.setCell ⟨rb,i,none⟩ v).cell? ⟨rb,j,none⟩=V.cell? ⟨rb,j,none⟩:=fun V i j v _=>World.cell?_setCell_other _ _ _ _ (by simp)
 have h0:=h;have h1:=h0.set ⟨rb,0,none⟩ v0;have h2:=h1.set ⟨rb,1,none⟩ v1;have h3:=h2.set ⟨rb,2,none⟩ v2;have h4:=h3.set ⟨rb,3,none⟩ v3;have h5:=h4.set ⟨rb,4,none⟩ v4;have h6:=h5.set ⟨rb,5,none⟩ v5;have h7:=h6.set ⟨rb,6,none⟩ v6;have h8:=h7.set ⟨rb,7,none⟩ v7;have h9:=h8.set ⟨rb,8,none⟩ v8;have s0:=World.cell?_setCell_same _ _ v0 h0.1.1;have s1:=World.cell?_setCell_same _ _ v1 h1.1.2.1;have s2:=World.cell?_setCell_same _ _ v2 h2.1.2.2.1;have s3:=World.cell?_setCell_same _ _ v3 h3.1.2.2.2.1;have s4:=World.cell?_setCell_same _ _ v4 h4.1.2.2.2.2.1;have s5:=World.cell?_setCell_same _ _ v5 h5.1.2.2.2.2.2.1;have s6:=World.cell?_setCell_same _ _ v6 h6.1.2.2.2.2.2.2.1;have s7:=World.cell?_setCell_same _ _ v7 h7.1.2.2.2.2.2.2.2.1;have s8:=World.cell?_setCell_same _ _ v8 h8.1.2.2.2.2.2.2.2.2.1;have s9:=World.cell?_setCell_same _ _ v9 h9.1.2.2.2.2.2.2.2.2.2;refine⟨?_,?_,?_,?_,?_,?_,?_,?_,?_,s9⟩
 ·rw [o _ 9 0 _ (by omega),o _ 8 0 _ (by omega),o _ 7 0 _ (by omega),o _ 6 0 _ (by omega),o _ 5 0 _ (by omega),o _ 4 0 _ (by omega),o _ 3 0 _ (by omega),o _ 2 0 _ (by omega),o _ 1 0 _ (by omega),s0]
 ·rw [o _ 9 1 _ (by omega),o _ 8 1 _ (by omega),o _ 7 1 _ (by omega),o _ 6 1 _ (by omega),o _ 5 1 _ (by omega),o _ 4 1 _ (by omega),o _ 3 1 _ (by omega),o _ 2 1 _ (by omega),s1]
 ·rw [o _ 9 2 _ (by omega),o _ 8 2 _ (by omega),o _ 7 2 _ (by omega),o _ 6 2 _ (by omega),o _ 5 2 _ (by omega),o _ 4 2 _ (by omega),o _ 3 2 _ (by omega),s2]
 ·rw [o _ 9 3 _ (by omega),o _ 8 3 _ (by omega),o _ 7 3 _ (by omega),o _ 6 3 _ (by omega),o _ 5 3 _ (by omega),o _ 4 3 _ (by omega),s3]
 ·rw [o _ 9 4 _ (by omega),o _ 8 4 _ (by omega),o _ 7 4 _ (by omega),o _ 6 4 _ (by omega),o _ 5 4 _ (by omega),s4]
 ·rw [o _ 9 5 _ (by omega),o _ 8 5 _ (by omega),o _ 7 5 _ (by omega),o _ 6 5 _ (by omega),s5]
 ·rw [o _ 9 6 _ (by omega),o _ 8 6 _ (by omega),o _ 7 6 _ (by omega),s6]
 ·rw [o _ 9 7 _ (by omega),o _ 8 7 _ (by omega),s7]
 rw [o _ 9 8 _ (by omega),s8]
theorem Ub (w:World) (o o':Obj):Below w.heap.size w ((w.alloc o).alloc o'):=((Below.refl _ w).alloc (Nat.le_refl _) _).alloc (by simp) _
end Go.Proofs
