import Derived.Test.YtjbekgjdempbiaaGreatDoorJBox
import Derived.RangeFuncNested
import Derived.RangeFuncLeaves
import Derived.Test.YtjbekgjdempbiaaGreatDoorJMapN
import Derived.Shelf.SlSortCmp.NoneTotal
import Derived.Laws.OwnMore
import Derived.Test.YtjbekgjdempbiaaGreatDoorProg
import Derived.WalkKit
import Derived.WalkSpells
import Derived.WalkLawsBesides
import Derived.Deep.RegionWith
import Derived.Deep.RegionHeld3
import Derived.RangeFuncBound
import Derived.RangeFuncCalls
import Derived.Shelf.Abstract
import Derived.Shelf.AbstractIn
import Derived.Shelf.RegionOpen
import Derived.Maps.AppendAt
import Derived.WalkSmall
import Derived.OwnWalkIn
import Derived.TacticsInMore
import Derived.LoopNIn
import Derived.LoopIn
import Derived.Stop.RegionWithIn
set_option maxRecDepth 100000
set_option maxHeartbeats 8000000
namespace Go.Proofs
open Go.RowKit Go.Sort
def Xs5 {α:Type} (n:Nat) (P:Program) (g:Nat) (lb:Array Value) (encs:α->Array Value) (E:World->Prop) (Kp:World->World->Prop) (S Sp:List α->Prop) (N:Nat) (w:World):Prop:=
 ∀(l:Nat) (J Jx:List α->World->Prop) (W:World),Below w.heap.size w W->OwnFrom W.heap.size J->OwnFrom W.heap.size Jx->(∀ s V,J s V->E V) ->
  (∀ pre x W1,J pre W1->pre.length<N->YieldAt Fence.wide (n-1) P l (encs x) W1 fun e W' =>
   (e=.returned (.bool true)/\J (pre ++ [x]) W'/\Kp W1 W'/\KeepsFrom W.heap.size W1 W')\/(e=.returned (.bool false)/\Jx (pre ++ [x]) W'/\KeepsFrom W.heap.size W1 W')) ->
  J [] W ->
  CallsIn Fence.wide n P g (#[.func (.yield l) #[] #[]] ++ lb) W fun e W'=>(∃ v,e=.returned v)/\((∃ xs,S xs/\J xs W')\/(∃ pre,Sp pre/\Jx pre W'))
structure Jy (W:World) (D:Nat) (r:Loop):Prop where
 loop:W.heap[D+1]? = some (.loop r)
 defd:W.heap[D]? = some (.deferred (some []))
theorem Jy.own {W W':World} {D:Nat} {r:Loop} {row:Option Nat} (h:Jy W D r) (hg:W.grownBy W' row) (hr:∀ k,row=some k->D+2<=k):Jy W' D r:=
 ⟨(hg.block _ (Array.getElem?_eq_some_iff.1 h.loop).1 (fun e=>by have:=hr _ e.symm;omega)).trans h.loop,
  (hg.block _ (Array.getElem?_eq_some_iff.1 h.defd).1 (fun e=>by have:=hr _ e.symm;omega)).trans h.defd⟩
theorem Jy.put {W:World} {D:Nat} {r:Loop} (h:Jy W D r) (r':Loop):Jy (W.putObj (D+1) (.loop r')) D r':=
 ⟨World.putObj_heap_same (Array.getElem?_eq_some_iff.1 h.loop).1,(World.putObj_heap_other (by omega)).trans h.defd⟩
theorem Yk {B B':Nat} {W W':World} (h:KeepsFrom B W W') (hB:B<=B'):KeepsFrom B' W W':=⟨h.size,fun k o hk h1 h2=>h.same k o (Nat.le_trans hB hk) h1 h2⟩
theorem Xa2 {B j:Nat} (W:World) (o:Obj) (hj:j<B):KeepsFrom B W (W.putObj j o):=KeepsFrom.of_grownBy (grownBy_putObj' W j o) (fun k e=>by cases e;exact hj)
theorem Jy.from {W W':World} {D:Nat} {r:Loop} (h:Jy W D r) (hk:KeepsFrom D W W'):Jy W' D r:=
 ⟨hk.same _ _ (by omega) h.loop rfl,hk.same _ _ (Nat.le_refl _) h.defd rfl⟩
section
variable {n:Nat} {P:Program}
theorem Ve {α:Type} {g:Operand} {ps:Array Tmp} {assign body:Code} {Q:Exit->Act->World->Prop} {a:Act} {w:World}
  (h1:1<=n) {gf:Nat} {lb:Array Value} (hg:a.eval g=.func (.func gf) #[] lb) (eg:∀ args w,(callFunc gf args).run P w=.ok (.enter gf args) w)
  {encs:α->Array Value} {E:World->Prop} {Kp:World->World->Prop} {S Sp:List α->Prop} {N:Nat} {w0:World} (hseq:Xs5 (n-1) P gf lb encs E Kp S Sp N w0)
  (hKt:∀ {A B C:World},Kp A B->Kp B C->Kp A C) (hKb:∀(W:World) (l:Nat) (o o':Obj),w.heap.size<=l->W.heap[l]? = some o->o.isCells=false->o.isWalk=false->Kp W (W.putObj l o'))
  (hb0:Below w0.heap.size w0 w) (hps:∀ x,(encs x).size=ps.size)
  (I:List α->World->Prop) (Ix:Code->List α->World->Prop) (hI:OwnFrom w.heap.size I) (hIx:∀ c,OwnFrom w.heap.size (Ix c)) (hIE:∀ s V,I s V->E V) (h0:I [] w)
  (Ax:α->Act->World->Prop) (hAx:∀ x a',OwnFrom w.heap.size (fun(_:Unit) W=>Ax x a' W))
  (hassign:∀(l:Nat) (pre:List α) (x:α) (W:World) (K:Act->World->Prop),I pre W->(∀ a' W',KeepsFrom w.heap.size W W'->Kp W W'->I pre W'->Ax x a' W'->K a' W') ->
   assign.wpIn (Fence.wide.inRound l) (n-1-1) P (Exit.then K (fun _ _ _=>False)) { tmps:=(ps.zip (encs x)).foldl (fun t (p,v)=>t.setIfInBounds p v) a.tmps,defers:=[] } W)
  (hbody:∀(l:Nat) (pre:List α) (x:α) (a':Act) (W:World),w.heap.size<=l->I pre W->Ax x a' W->pre.length<N->body.wpIn (Fence.wide.inRound l) (n-1-1) P (ownPostG w.heap.size Kp I Ix (pre ++ [x]) W) a' W)
  (hdone:∀(D:Nat) (xs:List α) (W:World),w.heap.size<=D->S xs->I xs W->W.heap[D]? = some (.deferred (some []))->Q .normal { a with defers:={ target:=.collected D,args:=#[] } :: a.defers } W)
  (hstop:∀(D:Nat) (c:Code) (pre:List α) (W:World),w.heap.size<=D->Sp pre->Ix c pre W->W.heap[D]? = some (.deferred (some []))->c.wpIn Fence.wide n P Q { a with defers:={ target:=.collected D,args:=#[] } :: a.defers } W) :
  (Code.rangeFunc g ps assign body).wpIn Fence.wide n P Q a w:=by
 refine wpIn_rangeFunc ?_;intro fn hfn
 let rc:LoopState->Option Code->Loop:=fun st pe=>{ state:=st,pending:=pe,fn,tmps:=a.tmps,params:=ps,assign,body,defers:=w.heap.size }
 obtain⟨W1,hW1⟩:∃ W1,(w.alloc (.deferred (some []))).alloc (.loop (rc .ready none))=W1:=⟨_,rfl⟩
 have hz1:W1.heap.size=w.heap.size+2:=by rw [<- hW1];simp
 have hk1:Jy W1 w.heap.size (rc .ready none):=by
  rw [<- hW1];refine⟨?_,(Below.heap_alloc _ _ _ (by simp)).trans (World.alloc_heap_new w _)⟩;have:=World.alloc_heap_new (w.alloc (.deferred (some []))) (.loop (rc .ready none))
  rwa [World.size_alloc] at this
 have hi1:I [] W1:=by rw [<- hW1];exact hI.alloc _ (hI.alloc _ h0)
 have hb1:Below w0.heap.size w0 W1:=by
  rw [<- hW1];exact hb0.trans ((((Below.refl _ w).alloc (Nat.le_refl _) _).alloc (by simp) _).mono hb0.size)
 have widen:∀ {A:World} {row:Option Nat},(∀ r,row=some r->W1.heap.size<=r/\∃ o:Obj,A.heap[r]? = some o/\o.isCells=false)->∀ r,row=some r->w.heap.size<=r/\∃ o:Obj,A.heap[r]? = some o/\o.isCells=false:=
  fun h r e=>⟨by have:=(h r e).1;omega,(h r e).2⟩
 refine⟨w.heap.size+1,[{ target:=.collected w.heap.size,args:=#[] }],W1,{ target:=.fn (.func gf) lb,args:=#[.func (.yield (w.heap.size+1)) #[] #[]] },W1,gf,
  #[.func (.yield (w.heap.size+1)) #[] #[]] ++ lb,W1,?_,?_,fun _ _=>trivial,?_,fun _=>h1,?_⟩
 ·rw [<- hW1];exact run_enterLoop_outer _ _ _ _ _
 ·simp only [resolve,hg];simp [go_sem]
 ·simp [invoke,go_sem,eg]
 refine(hseq (w.heap.size+1) (fun pre W=>I pre W/\Jy W w.heap.size (rc .ready none)) (fun pre W=>∃ c,Ix c pre W/\Jy W w.heap.size (rc .done (some c))) W1 hb1
  (fun s A B row hs hg' hr=>⟨hI s A B row hs.1 hg' (widen hr),hs.2.own hg' (fun k e=>by have:=(hr k e).1;omega)⟩)
  (fun s A B row ⟨c,hc,hk⟩ hg' hr=>⟨c,hIx c s A B row hc hg' (widen hr),hk.own hg' (fun k e=>by have:=(hr k e).1;omega)⟩) (fun s V hs=>hIE s V hs.1) ?_ ⟨hi1,hk1⟩).mono ?_
 ·rintro pre x W ⟨hi,hk⟩ hlen
  have hy:=run_yield (P:=P) (args:=encs x) hk.loop (hps x);refine⟨fn,_,assign,body,hy,roundIn_of_wpIn hfn (hassign _ pre x W _ hi ?_)⟩;clear hy;intro a' V kf kp hi' hax
  have hkV:=hk.from kf
  have hltV:=(Array.getElem?_eq_some_iff.1 hkV.loop).1;refine⟨_,run_beginRound hkV.loop rfl,?_⟩;have hkB:=hkV.put { rc .ready none with state:=.busy };have kpB:Kp V (V.putObj (w.heap.size+1) (.loop { rc .ready none with state:=.busy })):=hKb _ _ _ _ (by omega) hkV.loop rfl rfl;refine wpIn_mono (hbody _ pre x a' _ (by omega) (hI.putObj _ hi' (by omega) hkV.loop rfl) ((hAx x a').putObj (s:=()) _ hax (by omega) hkV.loop rfl) hlen) ?_;rintro e a3 W3 hp
  have kfAll:∀ {W3:World} (_:KeepsFrom w.heap.size (V.putObj (w.heap.size+1) (.loop { rc .ready none with state:=.busy })) W3) (o:Obj),KeepsFrom W1.heap.size W (W3.putObj (w.heap.size+1) o):=fun k3 o =>
   (((Yk kf (by omega)).trans (Xa2 V _ (by omega))).trans (Yk k3 (by omega))).trans (Xa2 _ o (by omega))
  have leave:∀ c,KeepsFrom w.heap.size (V.putObj (w.heap.size+1) (.loop { rc .ready none with state:=.busy })) W3->Ix c (pre ++ [x]) W3 ->
    ∃ v W',(Instr.endRound (w.heap.size+1) (some c)).run P W3=.ok v W'/\v=.bool false/\(∃ c',Ix c' (pre ++ [x]) W'/\Jy W' w.heap.size (rc .done (some c')))/\KeepsFrom W1.heap.size W W':=fun c k3 i3=>by
   have hk3:=hkB.from k3
   exact⟨_,_,run_endRound (P:=P) (some c) hk3.loop,rfl,⟨c,(hIx c).putObj _ i3 (by omega) hk3.loop rfl,hk3.put _⟩,kfAll k3 _⟩
  cases e with
  | normal =>
   obtain⟨k3,kp3,i3⟩:=hp
   have hk3:=hkB.from k3
   exact⟨_,_,run_endRound (P:=P) none hk3.loop,.inl ⟨rfl,⟨hI.putObj _ i3 (by omega) hk3.loop rfl,hk3.put _⟩,hKt kp (hKt (hKt kpB kp3) (hKb _ _ _ _ (by omega) hk3.loop rfl rfl)),kfAll k3 _⟩⟩
  | ret =>
   obtain⟨v,W',hrun,rfl,rest⟩:=leave .ret hp.1 hp.2;exact⟨_,_,hrun,.inr ⟨rfl,rest⟩⟩
  | exit id =>
   obtain⟨v,W',hrun,rfl,rest⟩:=leave (.exit id) hp.1 hp.2;exact⟨_,_,hrun,.inr ⟨rfl,rest⟩⟩
  | goto t =>
   obtain⟨v,W',hrun,rfl,rest⟩:=leave (.goto t) hp.1 hp.2;exact⟨_,_,hrun,.inr ⟨rfl,rest⟩⟩
  | panic ch=>exact hp.elim
  | outgrown=>exact hp.elim
 rintro e W2 ⟨⟨v,rfl⟩,(⟨xs,hS,hi,hk⟩ | ⟨pre,hSp,c,hi,hk⟩)⟩
 ·exact⟨none,_,run_endLoop (P:=P) hk.loop (by simp [rc]),hdone _ xs _ (Nat.le_refl _) hS (hI.putObj _ hi (by omega) hk.loop rfl) ((World.putObj_heap_other (by omega)).trans hk.defd)⟩
 exact⟨some c,_,run_endLoop (P:=P) hk.loop (by simp [rc]),hstop _ c pre _ (Nat.le_refl _) hSp ((hIx c).putObj _ hi (by omega) hk.loop rfl) ((World.putObj_heap_other (by omega)).trans hk.defd)⟩
end
end Go.Proofs
namespace Go.Proofs
open Go.RowKit Go.Sort Go.Shelf
def Y5 (ss:List (Int × Int)):List Value:=ss.flatMap Mk
theorem Xmc (ss:List (Int × Int)) (x:Int × Int):Y5 (ss ++ [x])=Y5 ss ++ [.int .i64 x.1,.int .u64 x.2]:=by simp [Y5,Mk]
theorem Z3 (ss:List (Int × Int)):(Y5 ss).length=ss.length*2:=by
 induction ss with
 | nil=>rfl
 | cons x ss ih=>simp [Y5,Mk] at ih ⊢;omega
theorem Xal:∀(ss:List (Int × Int)) (t:Nat),t<ss.length*2->(Y5 ss)[t]? = some ((Mk (ss[t / 2]!))[t % 2]!)
 | [],t,h=>by simp at h
 | x :: ss,0,_=>by simp [Y5,Mk]
 | x :: ss,1,_=>by simp [Y5,Mk]
 | x :: ss,t+2,h=>by
  have ih:=Xal ss t (by simp at h;omega)
  have e1:(t+2) / 2=t / 2+1:=by omega
  have e2:(t+2) % 2=t % 2:=by omega
  rw [e1,e2]
  simpa [Y5,Mk] using ih
theorem Xde (ss:List (Int × Int)):flatK Mk 2 ss.toArray=(Y5 ss).toArray:=by
 apply Array.ext';apply List.ext_getElem?;intro t
 by_cases h:t<ss.length*2
 ·rw [show ((Y5 ss).toArray.toList)=Y5 ss from rfl,Xal ss t h]
  rw [Array.getElem?_toList,Array.getElem?_eq_getElem (by simpa using h),<- getElem!_pos _ t (by simpa using h),get_flatK Mk 2 ss.toArray t (by simpa using h)];simp
 rw [Array.getElem?_toList,Array.getElem?_eq_none (by simpa using Nat.le_of_not_lt h),List.getElem?_eq_none (by rw [show ((Y5 ss).toArray.toList)=Y5 ss from rfl,Z3];omega)]
theorem Xmo {w:World} {g:Nat} {cur:Array Value} {e:TypeId} {ss:List (Int × Int)} (hb:w.heap[g]? = some (.cells cur e (0,0))) (ht:cur.toList.take (ss.length*2)=Y5 ss):HoldsK Mk 2 w g 0 ss.toArray:=by
 unfold HoldsK;rw [Xde];intro j hj
 have hj':j<ss.length*2:=by simpa [Z3] using hj
 refine⟨?_,by simp [World.frozen?,hb]⟩
 have h1:(cur.toList.take (ss.length*2))[j]? = (Y5 ss)[j]?:=by rw [ht]
 rw [List.getElem?_take_of_lt hj'] at h1
 have hj2:j<(Y5 ss).length:=by rw [Z3];exact hj'
 simp only [World.cell?,hb,Nat.zero_add];simp only [Option.isSome_none,Bool.false_eq_true,if_false];rw [<- Array.getElem?_toList,h1];simp [hj2]
theorem Xil {w:World} {g n:Nat} {os:Array Obj} {cur:Array Value} {e:TypeId} {fr:Nat × Nat} (d:Array (Int × Int)) (hb:w.heap[g]? = some (.cells cur e fr)) :
  (sortWorldK Mk 2 w g 0 n d os).heap[g]? = some (.cells (putCells id 0 (flatK Mk 2 d) cur) e fr):=by
 have hg:g<w.heap.size:=(Array.getElem?_eq_some_iff.1 hb).1;unfold sortWorldK putRowK;rw [heap_grow_old _ _ (by simpa using hg)];simp [putRow,mapBlock,Sort.ahead,Array.getElem?_modify,hb,onCells]
theorem Xdv {w:World} {g n:Nat} {os:Array Obj} (d:Array (Int × Int)):w.grownBy (sortWorldK Mk 2 w g 0 n d os) (some g):=by
 unfold sortWorldK putRowK;refine⟨rfl,rfl,rfl,by simp,fun k hk hne=>?_⟩;rw [heap_grow_old _ _ (by simpa using hk)]
 have:g≠k:=fun e=>hne (by rw [e])
 simp [putRow,mapBlock,Sort.ahead,Array.getElem?_modify,this]
theorem Xfq (cur:Array Value) (ts:List Value) (h:ts.length<=cur.size):(putCells id 0 ts.toArray cur).toList.take ts.length=ts:=by
 apply List.ext_getElem?;intro j
 by_cases hj:j<ts.length
 ·rw [List.getElem?_take_of_lt hj,Array.getElem?_toList]
  simp [putCells,hj,show j<cur.size by omega]
 rw [List.getElem?_take_eq_none (by omega),List.getElem?_eq_none (by omega)]
theorem Xdy {w:World} {base g cap n:Nat} {e:TypeId} {os:Array Obj} {cur:Array Value} {ss ts:List (Int × Int)} (hl:ts.length=ss.length) (hbase:base<=g) (hb:w.heap[g]? = some (.cells cur e (0,0)))
  (h1:ss.length<=cap) (h2:cap<=maxLen) (h3:cur.size=cap*2) :
  (sortWorldK Mk 2 w g 0 n ts.toArray os).ownsRow base e 2 (.slice (some ⟨g,0,none⟩) ss.length cap) ss.length (Y5 ts):=
 ⟨by rw [Z3,hl],.inr ⟨g,cap,_,rfl,hbase,Xil _ hb,h1,h2,by simp [putCells,h3],by
  rw [Xde,<- hl,<- Z3];exact Xfq cur (Y5 ts) (by rw [Z3];omega)⟩⟩
theorem Jj (x y:Int × Int):ltOf cmpN x y=decide (x.1<y.1\/x.1=y.1/\x.2<y.2):=by
 unfold ltOf;exact decide_eq_decide.2 (Xp2 x y)
theorem swoN:SWO (ltOf cmpN) where
 irrefl x:=by rw [Jj];simp
 trans x y z h1 h2:=by rw [Jj] at *;simp at *;omega
 ntrans x y z h1 h2:=by rw [Jj] at *;simp at *;omega
theorem Xgg (x y:Int × Int) (h1:ltOf cmpN x y=false) (h2:ltOf cmpN y x=false):x=y:=by
 rw [Jj] at *;simp at h1 h2;exact Prod.ext (by omega) (by omega)
def J4 (L:List (Int × Int)):Prop:=L.Pairwise (fun x y=>ltOf cmpN x y=true)
theorem Mj {ss L:List (Int × Int)} (hp:ss.Perm L) (hs:J4 L):ss.mergeSort (fun x y=>!ltOf cmpN y x)=L:=by
 have tr:∀ a b c:Int × Int,(!ltOf cmpN b a)=true->(!ltOf cmpN c b)=true->(!ltOf cmpN c a)=true:=fun a b c h1 h2=>by
  simp at *;exact swoN.ntrans c b a h2 h1
 have to:∀ a b:Int × Int,((!ltOf cmpN b a)||(!ltOf cmpN a b))=true:=fun a b=>by
  rw [Jj,Jj];simp;omega
 refine List.Perm.eq_of_pairwise (le:=fun a b=>(!ltOf cmpN b a)=true) (fun a b _ _ h1 h2=>Xgg a b (by simpa using h2) (by simpa using h1)) (List.pairwise_mergeSort tr to ss) ?_ ((List.mergeSort_perm ss _).trans hp)
 refine hs.imp fun {a b} h=>?_
 rw [Jj] at *;simp at *;omega
end Go.Proofs
namespace Go.Proofs
open Go.RowKit Go.Sort Go.Maps Go.WideMaps
theorem Xgo {ks:List ((Int × Int) × Value)} {x:Int × Int} {b:Value} (h:Um ks x=some b):(x,b)∈ks:=by
 unfold Um at h
 cases hf:ks.find? (fun p=>decide (p.1=x)) with
 | none=>simp [hf] at h
 | some p =>
  simp [hf] at h;have h1:=List.mem_of_find?_eq_some hf;have h2:=List.find?_some hf;simp at h2;obtain⟨p1,p2⟩:=p;simp at h h2;subst h h2;exact h1
theorem Xba {ks:List ((Int × Int) × Value)} {x:Int × Int}:Um ks x=none↔∀ p∈ks,p.1≠x:=by
 unfold Um;simp [List.find?_eq_none]
theorem Z0 {ks:List ((Int × Int) × Value)} (hk:Zd ks) {x:Int × Int} {b:Value} (h:(x,b)∈ks):Um ks x=some b:=by
 induction ks with
 | nil=>cases h
 | cons p ks ih =>
  rcases List.mem_cons.1 h with rfl | h'
  ·simp [Um]
  have hne:p.1≠x:=fun e=>hk.fresh _ h' (by simpa using e.symm)
  have:=ih hk.tail h'
  simpa [Um,hne] using this
section
variable {P:Program} {t:TypeId} {ks:List ((Int × Int) × Value)} {x:Int × Int}
theorem X4.Xsc (T:X4 P t) (hk:Zd ks) (hx:Zq x) {b:Value} (hg:Um ks x=some b):Maps.has (mapD ks) (nmL x)=true:=
 (T.Xcj hk hx).2 (List.mem_map.2 ⟨_,Xgo hg,rfl⟩)
theorem X4.Xko (T:X4 P t) (hk:Zd ks) (hx:Zq x) (hg:Um ks x=none):Maps.has (mapD ks) (nmL x)=false:=by
 cases h:Maps.has (mapD ks) (nmL x) with
 | false=>rfl
 | true =>
  obtain⟨p,hp,e⟩:=List.mem_map.1 ((T.Xcj hk hx).1 h);exact absurd e (Xba.1 hg p hp)
section
variable {w:World} {b n:Nat} {tm e:TypeId}
theorem X4.Xck (T:X4 P t) (hk:Zd ks) (hx:Zq x) (hown:w.ownsMap P t Yd b n (mapD ks)) (ht:P.underlying tm=some (.map t e)) {z:Value} (hz:(zeroValue e).run P w=.ok z w) {pv:Value} (hg:Um ks x=some pv) :
  (Instr.lookup tm (.map (some b)) (nmV x) true).run P w=.ok (.tuple #[pv,.bool true]) w:=by
 obtain⟨v,ps,hrun,hv⟩:=hown.look_ok (Keyed.of_law T.law) ht hz (zd:=.held z) (zp:=[]) rfl (T.keyOf hx);have h1:=T.U4 hx (.held z) ks hk;rw [hg] at h1;rw [show Lit.string (nmB x)=nmL x from rfl,h1] at hv;rw [hrun,show Lit.string (nmB x)=nmL x from rfl,T.Xsc hk hx hg,Jz hv]
theorem X4.Xhj (T:X4 P t) (hk:Zd ks) (hx:Zq x) (hown:w.ownsMap P t Yd b n (mapD ks)) (ht:P.underlying tm=some (.map t e)) {z:Value} (hz:(zeroValue e).run P w=.ok z w) (hg:Um ks x=none) :
  (Instr.lookup tm (.map (some b)) (nmV x) true).run P w=.ok (.tuple #[z,.bool false]) w:=by
 obtain⟨v,ps,hrun,hv⟩:=hown.look_ok (Keyed.of_law T.law) ht hz (zd:=.held z) (zp:=[]) rfl (T.keyOf hx);have h1:=T.U4 hx (.held z) ks hk;rw [hg] at h1;rw [show Lit.string (nmB x)=nmL x from rfl,h1] at hv;rw [hrun,show Lit.string (nmB x)=nmL x from rfl,T.Xko hk hx hg,Jz hv]
theorem X4.Xhh (T:X4 P t) (hk:Zd ks) (hx:Zq x) (hown:w.ownsMap P t Yd b n (mapD ks)) (ht:P.underlying tm=some (.map t e)) {z:Value} (hz:(zeroValue e).run P w=.ok z w) {pv:Value} (hg:Um ks x=some pv) :
  (Instr.lookup tm (.map (some b)) (nmV x) false).run P w=.ok pv w:=by
 obtain⟨v,ps,hrun,hv⟩:=hown.lookup (Keyed.of_law T.law) ht hz (zd:=.held z) (zp:=[]) rfl (T.keyOf hx);have h1:=T.U4 hx (.held z) ks hk;rw [hg] at h1;rw [show Lit.string (nmB x)=nmL x from rfl,h1] at hv;rw [hrun,Jz hv]
end
end
def Xdh (bad:TypeId->Bool):Obj->Bool
 | .cells _ t _=>!bad t
 | o=>o.isWalk
structure KeepsT (bad:TypeId->Bool) (W W':World):Prop where
 size:W.heap.size<=W'.heap.size
 same:∀(k:Nat) (o:Obj),W.heap[k]? = some o->Xdh bad o=true->W'.heap[k]? = some o
section
variable {bad:TypeId->Bool} {W W' W'':World}
theorem KeepsT.refl (bad:TypeId->Bool) (W:World):KeepsT bad W W:=⟨Nat.le_refl _,fun _ _ h _=>h⟩
theorem KeepsT.trans (h:KeepsT bad W W') (h':KeepsT bad W' W''):KeepsT bad W W'':=⟨Nat.le_trans h.size h'.size,fun k o hk hs=>h'.same k o (h.same k o hk hs) hs⟩
theorem KeepsT.grown {row:Option Nat} (hg:W.grownBy W' row) (hr:∀ j,row=some j->∀ o,W.heap[j]? = some o->Xdh bad o=false):KeepsT bad W W':=
 ⟨hg.size,fun k o hk hs=>(hg.block k (Array.getElem?_eq_some_iff.1 hk).1 (fun e=>by have:=hr k e.symm o hk;rw [hs] at this;cases this)).trans hk⟩
theorem KeepsT.alloc (W:World) (o:Obj):KeepsT bad W (W.alloc o):=KeepsT.grown (World.grownBy_alloc W o none) (fun _ e=>by cases e)
theorem KeepsT.below (h:Below W.heap.size W W'):KeepsT bad W W':=⟨h.size,fun k _ hk _=>(h.block k (Array.getElem?_eq_some_iff.1 hk).1).trans hk⟩
theorem Js {A B C:World} (h:KeepsT bad A B) (k:KeepsT bad B C):KeepsT bad A C:=h.trans k
theorem Jo {w:World} (W:World) (l:Nat) (o o':Obj) (_:w.heap.size<=l) (h:W.heap[l]? = some o) (h1:o.isCells=false) (h2:o.isWalk=false):KeepsT bad W (W.putObj l o'):=
 KeepsT.grown (grownBy_putObj' W l o') (fun j e o2 ho=>by
  cases e;rw [h] at ho;cases ho
  cases o <;> simp_all [Xdh,Obj.isCells])
theorem KeepsT.box {B:Nat} {t:TypeId} {cs:Array Value} (h:KeepsT bad W W') (hb:BoxN W B t cs) (ht:bad t=false):BoxN W' B t cs:=h.same B _ hb (by simp [Xdh,ht])
theorem KeepsT.map {H:Type} {P:Program} {k:TypeId} {R:Value->Option (DataW H × List MemPlace)} {b n:Nat} {D:DataW H} (h:KeepsT bad W W') (hm:W.ownsMap P k R b n D):W'.ownsMap P k R b n D:=by
 obtain⟨es,clock,hb,F,hs,hD⟩:=hm;exact⟨es,clock,h.same b _ hb rfl,F,hs,hD⟩
theorem KeepsT.row {base:Nat} {e:TypeId} {size:Nat} {v:Value} {k:Nat} {xs:List Value} (h:KeepsT bad W W') (hr:W.ownsRow base e size v k xs) (he:bad e=false):W'.ownsRow base e size v k xs:=by
 refine⟨hr.1,?_⟩
 rcases hr.2 with hn | ⟨g,cap,cur,hv,hbg,hg,rest⟩
 ·exact .inl hn
 exact .inr ⟨g,cap,cur,hv,hbg,h.same g _ hg (by simp [Xdh,he]),rest⟩
end
end Go.Proofs
namespace Go.Proofs
open Go.RowKit Go.Sort
theorem Tryz.Xos (a:Int) (w:World):Calls prog 336 #[.int .i64 a] w fun e w'=>e=.returned (.bool false)/\w'=w:=by
 go_enter func336,ntmps336;go_wp2;go_ret;exact⟨by simp,rfl⟩
theorem Tryz.Xpu (a:Int) (w:World):Calls prog 276 #[.int .u64 a] w fun e w'=>e=.returned (.bool false)/\w'=w:=by
 go_enter func276,ntmps276;go_wp2;go_ret;exact⟨by simp,rfl⟩
theorem Tryz.Xm4 (a b:Int) (w:World):Calls prog 334 #[.int .i64 a,.int .i64 b] w fun e w'=>e=.returned (.int .i64 (cmpI a b))/\w'=w:=by
 go_enter func334,ntmps334
 go_wp2_with (go_at_call 336;refine(Xos _ _).mono ?_;rintro e w' ⟨rfl,rfl⟩)
 all_goals go_ret
 ·exact⟨Yy (Xno ‹_›).symm,rfl⟩
 ·exact⟨Yy (Xnc ‹_›).symm,rfl⟩
 exact⟨Yy (Xnm ‹_› ‹_›).symm,rfl⟩
theorem Tryz.Xlh (a b:Int) (w:World):Calls prog 335 #[.int .u64 a,.int .u64 b] w fun e w'=>e=.returned (.int .i64 (cmpI a b))/\w'=w:=by
 go_enter func335,ntmps335
 go_wp2_with (go_at_call 276;refine(Xpu _ _).mono ?_;rintro e w' ⟨rfl,rfl⟩)
 all_goals go_ret
 ·exact⟨Yy (Xno ‹_›).symm,rfl⟩
 ·exact⟨Yy (Xnc ‹_›).symm,rfl⟩
 exact⟨Yy (Xnm ‹_› ‹_›).symm,rfl⟩
theorem Tryz.cmpOr (a b:Int) (blk:Nat) (w:World) (h0:w.cell? ⟨blk,0,none⟩=some (.int .i64 a)) (h1:w.cell? ⟨blk,1,none⟩=some (.int .i64 b)) :
  Calls prog 333 #[.slice (some ⟨blk,0,none⟩) 2 2] w fun e w'=>e=.returned (.int .i64 (orI a b))/\w'=w:=by
 by_cases ha:a=0
 ·have ha':(a != 0)=false:=by simp [ha]
  have hfin:Hid (orI a b=b):=show orI a b=b by simp [orI,ha]
  clear ha
  by_cases hb:b=0
  ·have hb':(b != 0)=false:=by simp [hb]
   have hfin2:Hid (b=0):=hb;clear hb;go_enter func333,ntmps333;go_wp2;refine wp_loop_rounds 3 ?_;rw [rounds_succ];go_wp2;rw [rounds_succ];go_wp2;rw [rounds_succ];go_wp2;go_ret;exact⟨Yy (show (0:Int)=orI a b by rw [show orI a b=b from hfin,show b=0 from hfin2]),rfl⟩
  have hb':(b != 0)=true:=by simp [hb]
  clear hb;go_enter func333,ntmps333;go_wp2;refine wp_loop_rounds 3 ?_;rw [rounds_succ];go_wp2;rw [rounds_succ];go_wp2;go_ret;exact⟨Yy (show b=orI a b by rw [show orI a b=b from hfin]),rfl⟩
 have ha':(a != 0)=true:=by simp [ha]
 have hfin:Hid (orI a b=a):=show orI a b=a by simp [orI,ha]
 clear ha;go_enter func333,ntmps333;go_wp2;refine wp_loop_rounds 3 ?_;rw [rounds_succ];go_wp2;go_ret;exact⟨Yy (show a=orI a b by rw [show orI a b=a from hfin]),rfl⟩
theorem Tryz.Xdt (x y:Int × Int) (w:World):Calls prog 332 #[.agg #[.int .i64 x.1,.int .u64 x.2],.agg #[.int .i64 y.1,.int .u64 y.2]] w fun e w'=>e=.returned (.int .i64 (cmpN x y))/\Xp w w':=by
 have hN:Hid (cmpN x y=orI (cmpI x.1 y.1) (cmpI x.2 y.2)):=show _=_ from rfl
 have hk:=fun W=>Xm4 x.1 y.1 W
 have hu:=fun W=>Xlh x.2 y.2 W
 generalize cmpI x.1 y.1=a at *;generalize cmpI x.2 y.2=b at *;generalize cmpN x y=r at *;go_enter func332,ntmps332
 go_wp2_with fail
 go_region_held3 (fun W=>W.cell? ⟨w.heap.size,0,none⟩=some (.int .i64 x.1)/\W.cell? ⟨w.heap.size,1,none⟩=some (.int .u64 x.2)/\W.cell? ⟨w.heap.size+1,0,none⟩=some (.int .i64 y.1)/\W.cell? ⟨w.heap.size+1,1,none⟩=some (.int .u64 y.2)) (go_keep) (first
  | (go_at_call 334;refine(hk _).mono ?_;rintro e w' ⟨rfl,rfl⟩)
  | (go_at_call 335;refine(hu _).mono ?_;rintro e w' ⟨rfl,rfl⟩)
  | (go_at_call 333;refine(cmpOr a b _ _ ?_ ?_).mono ?_;go_simp;go_simp;rintro e w' ⟨rfl,rfl⟩))
 go_wp2;go_ret;exact⟨Yy (show orI a b=r from (show r=orI a b from hN).symm),((((Xp.refl w).alloc _).alloc _).alloc _).drew⟩
theorem Tryz.Xfn (a b:Int) (w:World):Sem.run prog (method 517 114 (.agg #[.int .i64 a,.int .u64 b]) "Compare") w=.ok (332,.agg #[.int .i64 a,.int .u64 b]) w:=by kernel_rfl
theorem Tryz.Xp9 (x y:Int × Int) (w:World):Calls prog 171 #[.agg #[.int .i64 x.1,.int .u64 x.2],.agg #[.int .i64 y.1,.int .u64 y.2]] w fun e w'=>e=.returned (.int .i64 (cmpN x y))/\Xp w w':=by
 have hk:=fun W=>Xdt x y W
 have hm:=fun W=>Xfn x.1 x.2 W
 generalize cmpN x y=r at *;go_enter func171,ntmps171
 go_wp2_with (go_at_call 332;refine(hk _).mono ?_;rintro e w' ⟨rfl,hg⟩)
 go_ret;exact⟨rfl,(((Xp.refl w).alloc _).alloc _).trans hg⟩
theorem Tryz.Xqe (x y:Int × Int) (w:World):Calls prog 173 #[.agg #[.int .i64 x.1,.int .u64 x.2],.agg #[.int .i64 y.1,.int .u64 y.2]] w fun e w'=>e=.returned (.int .i64 (cmpN x y))/\Xp w w':=by
 have hk:=fun W=>Xdt x y W
 have hm:=fun W=>Xfn x.1 x.2 W
 generalize cmpN x y=r at *;go_enter func173,ntmps173
 go_wp2_with (go_at_call 332;refine(hk _).mono ?_;rintro e w' ⟨rfl,hg⟩)
 go_ret;exact⟨rfl,(((Xp.refl w).alloc _).alloc _).trans hg⟩
end Go.Proofs
namespace Go.Proofs
open Go.RowKit Go.Maps Go.Sort Go.Shelf
attribute [local go_sem] Oper.semAt_some
theorem Tryz.Xrz:(prog.info? 114).map (fun i=>(i.zero,i.size,i.bytes))=some (some (.agg #[.int .i64 0,.int .u64 0]),2,16):=by kernel_rfl
theorem Tryz.appendSeq_in (n:Nat) (hn:3<=n) (g:Nat) (lb:Array Value) (eg:∀ args w,(callFunc g args).run prog w=.ok (.enter g args) w)
  (S Sp:List (Int × Int)->Prop) (N:Nat) (hN:N<=1000) (w:World) (hseq:SeqStopsK Fence.wide (n-1) prog g lb (fun x=>#[nmV x]) KeepsWalks S Sp N w) :
  CallsIn Fence.wide n prog 224 #[.slice none 0 0,.func (.func g) #[] lb] w fun e w'=>∃(v:Value) (ss:List (Int × Int)),e=.returned v/\S ss/\w'.ownsRow w.heap.size 114 2 v ss.length (Y5 ss)/\(v=.slice none 0 0↔ss = [])/\Below w.heap.size w w':=by
 have h1:1<=n:=by omega
 obtain⟨i0,hi,hz0,hz1,hz2⟩:=info_parts Xrz;refine callsIn_of_wp_marks func224 rfl trivial ?_ rfl;simp only [ntmps224,List.size_toArray,List.length_cons,List.length_nil,Nat.reduceAdd,Nat.reduceSub,Array.replicate_succ,Array.replicate_zero,List.push_toArray,List.append_toArray,List.nil_append,List.cons_append]
 gi_wp2
 have bS:=Boxed.new w 220 (.slice none 0 0);have hB0:Below w.heap.size w (w.alloc (.cells #[.slice none 0 0] 220)):=(Below.refl _ w).alloc (Nat.le_refl _) _
 obtain⟨W0,hW0⟩:∃ W0,w.alloc (.cells #[.slice none 0 0] 220)=W0:=⟨_,rfl⟩
 have hsz:W0.heap.size=w.heap.size+1:=by rw [<- hW0];simp
 rw [hW0] at bS hB0 ⊢;clear hW0
 refine wpIn_rangeFunc_ownH rfl h1 (gf:=g) (lb:=lb) rfl trivial eg (hseq) walksK_t walksK_b hB0 (fun _=>rfl)
  (fun pre W=>(∃ v,Boxed W w.heap.size 220 v/\W.ownsRow w.heap.size 114 2 v pre.length (Y5 pre)/\(v=.slice none 0 0↔pre = []))/\Below w.heap.size w W)
  (fun _ _ _=>False)
  (OwnFrom.and (Own.from (holdsRow_own _ _ _ _ _ (fun pre:List (Int × Int)=>pre.length) (fun pre=>Y5 pre) (fun pre v=>(v=.slice none 0 0↔pre = []))) _) (ownFrom_below (Nat.le_refl _) (by omega)))
  (fun _ _ _ _ _ hs _ _=>hs)
  ⟨⟨_,bS,World.ownsRow_nil _ _ _ _,by simp⟩,hB0⟩
  (fun x a' W=>∃ Bx,w.heap.size<Bx/\BoxN W Bx 114 #[.int .i64 x.1,.int .u64 x.2]/\a' = { tmps:=#[.slice none 0 0,.func (.func g) #[] lb,.pointer (some ⟨w.heap.size,0,none⟩),undef,.slice none 0 0,.pointer (some ⟨Bx,0,none⟩),.func (.func g) #[] lb,.agg #[.int .i64 x.1,.int .u64 x.2],undef,undef,undef,undef,undef],defers:=[] })
  (fun x a' _ X Y row hs hg hr=>by obtain⟨Bx,h1,h2,h3⟩:=hs;exact⟨Bx,h1,Xy Bx 114 (fun(_:Unit)=>#[.int .i64 x.1,.int .u64 x.2]) () X Y row h2 hg (fun r e=>(hr r e).2),h3⟩)
  ?assign ?body ?done ?stop
 case assign =>
  rintro l pre x W K ⟨⟨v,bS1,hr1,hnil⟩,hB1⟩ hK;unfold nmV
  gi_wp2
  exact hK _ _ ((KeepsOthers.alloc _ _).from _) (KeepsWalks.alloc _ _) ⟨⟨v,bS1.alloc _,hr1.alloc _,hnil⟩,hB1.alloc hB1.size _⟩ ⟨W.heap.size,bS1.lt,BoxN.new W 114 _,rfl⟩
 case body =>
  rintro l pre x a' W hl ⟨r,hr⟩ ⟨⟨v,bS1,hr1,hnil⟩,hB1⟩ ⟨Bx,hBx,bX,rfl⟩ hlt;have cS:=bS1.cell;have cX0:=bX.cell 0 (v:=.int .i64 x.1) rfl;have cX1:=bX.cell 1 (v:=.int .u64 x.2) rfl
  gi_wp2_with (gi_at_builtin;refine wpListIn_append_own _ rfl _ _ 220 rfl w.heap.size 114 i0 _ 2 16 underlying220 hi hz0 hz1 hz2 rfl (by decide) _ _ _ rfl (hr1.alloc _) ⟨W.heap.size,0,none⟩ 1 1 [.int .i64 x.1,.int .u64 x.2] rfl rfl (cell_two_new _ _ _ _) (by simp [Value.oneCell']) (by unfold maxLen;omega) (by omega) (by have:=hB1.size;simp;omega) ?_;intro v' w1 hown' hgrow hn';obtain⟨g',cap',rfl⟩:=ownsRow_succ hown';obtain⟨hv1,hv2,hr2,hk2,hb2⟩:=bS1.appended (by decide) hr1 hB1.size (Nat.le_refl _) hown' hgrow;have hc1:=hv1.cell;have hf1:=hv1.frozen)
  exact⟨hk2.from _,hk2.walks,⟨_,hv2,by rw [Xmc,List.length_append];exact hr2,by simp⟩,hB1.trans hb2⟩
 case done =>
  rintro D zs W hD hS ⟨⟨v,bS1,hr1,hnil⟩,hB1⟩ hK;have cS:=bS1.cell
  gi_wp2
  refine⟨by simp,.inl ⟨_,_,rfl,run_takeDeferred hK,?_⟩⟩;exact⟨_,results_tmp rfl _ _ _,v,zs,rfl,hS,ownsRow_putObj hr1 _ hK rfl,hnil,hB1.trans (belowK_b (w:=w) (Nat.le_refl _) W D _ _ (by omega) hK rfl rfl)⟩
 case stop =>
  rintro D c pre W _ _ h _;exact h.elim
theorem Tryz.collect_in (n:Nat) (hn:4<=n) (g:Nat) (lb:Array Value) (eg:∀ args w,(callFunc g args).run prog w=.ok (.enter g args) w)
  (S Sp:List (Int × Int)->Prop) (N:Nat) (hN:N<=1000) (w:World) (hseq:SeqStopsK Fence.wide (n-1-1) prog g lb (fun x=>#[nmV x]) KeepsWalks S Sp N w) :
  CallsIn Fence.wide n prog 200 #[.func (.func g) #[] lb] w fun e w'=>∃(v:Value) (ss:List (Int × Int)),e=.returned v/\S ss/\w'.ownsRow w.heap.size 114 2 v ss.length (Y5 ss)/\(v=.slice none 0 0↔ss = [])/\Below w.heap.size w w':=by
 have h1:1<=n:=by omega
 have hfn:Fence.wide.fn 224:=trivial
 have hA:=fun W hs=>appendSeq_in (n-1) (by omega) g lb eg S Sp N hN W hs
 refine callsIn_of_wp func200 rfl trivial ?_ rfl;simp only [ntmps200,List.size_toArray,List.length_cons,List.length_nil,Nat.reduceAdd,Nat.reduceSub,Array.replicate_succ,Array.replicate_zero,List.push_toArray,List.append_toArray,List.nil_append,List.cons_append]
 gi_wp2_with (gi_at_call 224;refine(hA _ hseq).mono ?_;rintro e w' ⟨v,ss,rfl,hS,hrow,hnil,hb⟩)
 go_ret;exact⟨v,ss,rfl,hS,hrow,hnil,hb⟩
end Go.Proofs
namespace Go.Proofs
open Go.RowKit Go.Sort
def Xnd (ops:Array Oper):Bool:=ops.all fun o=>match o.op with | .defer _=>false | _=>true
theorem Xij {ops:Array Oper} (h:Xnd ops=true) {i:Nat} {o:Oper} (ho:ops[i]? = some o):∀ c,o.op ≠ .defer c:=fun c hc=>by
 obtain⟨hi,he⟩:=Array.getElem?_eq_some_iff.1 ho;have:=(Array.all_eq_true.1 h) i hi;rw [he,hc] at this;cases this
section
variable {n:Nat} {P:Program} {md:Region.Mode} {ops:Array Oper} {Q:Exit->Act->World->Prop}
theorem Xh8 (l:Nat) {o:Oper} (hd:∀ c,o.op ≠ .defer c) {a:Act} {w:World} {K:Act->World->Prop} (h:o.wpIn Fence.wide n P a w K Q):o.wpIn (Fence.wide.inRound l) n P a w K Q:=by
 unfold Oper.wpIn at h ⊢;rw [Oper.semAt_eq _ _ _ hd] at h ⊢;exact h
theorem X2 (l:Nat) (hd:Xnd ops=true):∀(fuel:Nat) (listed:Array Bool) (a:Act) (w:World),wpAnyIn Fence.wide n P md ops Q fuel listed a w->wpAnyIn (Fence.wide.inRound l) n P md ops Q fuel listed a w
 | 0,_,_,_,h=>h
 | fuel+1,listed,a,w,h=>by
  refine⟨h.1,fun i hi=>?_⟩;have hs:=h.2 i hi;unfold wpOpIn at hs ⊢
  cases ho:ops[i]? with
  | none=>rw [ho] at hs;exact X2 l hd fuel _ _ _ hs
  | some o =>
   rw [ho] at hs;simp only at hs ⊢
   split
   ·rename_i hw
    rw [if_pos hw] at hs;exact Xh8 l (Xij hd ho) (Oper.wpIn_mono (fun a w=>X2 l hd fuel _ a w) hs)
   rename_i hw
   rw [if_neg hw] at hs;exact⟨hs.1,X2 l hd fuel _ _ _ hs.2⟩
end
end Go.Proofs
