import Derived.Test.YtjbekgjdempbiaaGreatDoorJRefB
import Derived.Test.YtjbekgjdempbiaaGreatDoorJRounds
set_option maxRecDepth 100000
set_option maxHeartbeats 8000000
namespace Go.Proofs
open Go.RowKit Go.Sort Go.Lib Go.Shelf Go.Maps
attribute [local go_sem] Oper.semAt_some
def infosOf (tm:Int) (tks:List TokE) (lks:List LeaE):List InfoD:=tks.map TokE.info++lks.map (LeaE.info tm)
theorem Tryz.enters136:∀ args w,(callFunc 136 args).run prog w=.ok (.enter 136 args) w:=enters_of func136 (by kernel_rfl) rfl
theorem Tryz.enters139:∀ args w,(callFunc 139 args).run prog w=.ok (.enter 139 args) w:=enters_of func139 (by kernel_rfl) rfl
structure Tryz.Good (bad:TypeId→Bool):Prop where
 name:bad 114=false
 mapT:bad 120=false
 mapL:bad 121=false
 tok:bad 153=false
 lea:bad 131=false
 vault:bad 126=false
 ptr:bad 76=false
 yld:bad 148=false
noncomputable def tokOf {tks:List TokE} (x:{ p // p∈tks.map TokE.key }):TokE:=Classical.choose (List.mem_map.1 x.2)
noncomputable def leaOf {lks:List LeaE} (x:{ p // p∈lks.map LeaE.key }):LeaE:=Classical.choose (List.mem_map.1 x.2)
theorem tokOf_spec {tks:List TokE} (x:{ p // p∈tks.map TokE.key }):tokOf x∈tks∧(tokOf x).key=x.1:=Classical.choose_spec (List.mem_map.1 x.2)
theorem leaOf_spec {lks:List LeaE} (x:{ p // p∈lks.map LeaE.key }):leaOf x∈lks∧(leaOf x).key=x.1:=Classical.choose_spec (List.mem_map.1 x.2)
theorem inc_uniq {α:Type} (f:α→Nat):∀ {l:List α},l.Pairwise (fun a b=>f a<f b)→∀ {a b:α},a∈l→b∈l→f a=f b→a=b
 | [],_,_,_,h,_,_=>by cases h
 | x :: l,hp,a,b,ha,hb,e=>by
  obtain⟨h1,h2⟩:=List.pairwise_cons.1 hp
  rcases List.mem_cons.1 ha with rfl | ha' <;> rcases List.mem_cons.1 hb with rfl | hb'
  ·rfl
  ·have:=h1 b hb';omega
  ·have:=h1 a ha';omega
  ·exact inc_uniq f h2 ha' hb' e
theorem attach_tok {tks:List TokE} (h:tks.Pairwise (fun a b=>a.n<b.n)):(tks.map TokE.key).attach.map tokOf=tks:=by
 apply List.ext_getElem (by simp);intro i h1 h2;rw [List.getElem_map];obtain⟨hm,hk⟩:=tokOf_spec ((tks.map TokE.key).attach[i]'(by simpa using h1));refine inc_uniq TokE.n h hm (List.getElem_mem h2) ?_
 have e:((tks.map TokE.key).attach[i]'(by simpa using h1)).1=tks[i].key:=by simp
 rw [e] at hk;have:=congrArg (fun p=>p.1.2) hk;simp only [TokE.key] at this
 exact_mod_cast this
theorem attach_lea {lks:List LeaE} (h:lks.Pairwise (fun a b=>a.n<b.n)):(lks.map LeaE.key).attach.map leaOf=lks:=by
 apply List.ext_getElem (by simp);intro i h1 h2;rw [List.getElem_map];obtain⟨hm,hk⟩:=leaOf_spec ((lks.map LeaE.key).attach[i]'(by simpa using h1));refine inc_uniq LeaE.n h hm (List.getElem_mem h2) ?_
 have e:((lks.map LeaE.key).attach[i]'(by simpa using h1)).1=lks[i].key:=by simp
 rw [e] at hk;have:=congrArg (fun p=>p.1.2) hk;simp only [LeaE.key] at this
 exact_mod_cast this
structure Tryz.Ctx (l Bv vb mt ml By:Nat) (vx:VX) (tm tn ln:Int) (tks:List TokE) (lks:List LeaE) (V:World):Prop where
 bv:BoxN V Bv 76 #[.pointer (some ⟨vb,0,none⟩)]
 v:BoxN V vb 126 (Tryz.vaultC vx tm mt ml tn ln)
 by_:BoxN V By 148 #[.func (.yield l) #[] #[]]
 held:Tryz.Held V mt ml tks lks
theorem Tryz.Ctx.from {β:Type} {l Bv vb mt ml By:Nat} {vx:VX} {tm tn ln:Int} {tks:List TokE} {lks:List LeaE} {B:Nat} (hmt:mt<B) (hml:ml<B):OwnFrom B (fun(_:β) V=>Ctx l Bv vb mt ml By vx tm tn ln tks lks V):=fun s V V' row h hg hr=>by
 have hr':∀ r,row=some r→∃ o:Obj,V.heap[r]? = some o∧o.isCells=false:=fun r e=>(hr r e).2
 exact⟨boxN_own Bv _ (fun(_:Unit)=>#[.pointer (some ⟨vb,0,none⟩)]) () V V' row h.bv hg hr',boxN_own vb _ (fun(_:Unit)=>(vaultC vx tm mt ml tn ln)) () V V' row h.v hg hr',
  boxN_own By _ (fun(_:Unit)=>#[.func (.yield l) #[] #[]]) () V V' row h.by_ hg hr',Held.from B mt ml tks lks hmt hml s V V' row h.held hg hr⟩
def YieldIn (m:Nat) (P:Program) (l:Nat) (args:Array Value) (W:World) (R:Ending→World→Prop):Prop:=
 ∃ fn tmps assign body,(Instr.yield l args).run P W=.ok (.round l fn tmps assign body) W∧RoundIn Fence.wide m P l fn tmps assign body W R
theorem YieldIn.of {m m':Nat} {P:Program} {l:Nat} {args:Array Value} {W:World} {R R':Ending→World→Prop} (h:YieldAt Fence.wide m' P l args W R) (hr:∀ e w',R e w'→R' e w'):YieldIn m P l args W R':=by
 obtain⟨fn,tmps,assign,body,hy,hR⟩:=h;exact⟨fn,tmps,assign,body,hy,hR.1,fun c cs _=>let ⟨e,w',r,s⟩:=hR.2 c cs (room_wide _);⟨e,w',hr _ _ r,s⟩⟩
theorem keepsFrom_below {V V':World} (B:Nat) (h:Below V.heap.size V V'):KeepsFrom B V V':=⟨h.size,fun k _ _ h1 _=>(h.block k (Array.getElem?_eq_some_iff.1 h1).1).trans h1⟩
theorem own_low {β:Type} {B:Nat} (D:Nat) (o:Obj) (hD:D<B):OwnFrom B (fun(_:β) V=>V.heap[D]? = some o):=fun _ _ _ _ hs hg hr=>(hg.block D (Array.getElem?_eq_some_iff.1 hs).1 (fun e=>by have:=(hr D e.symm).1;omega)).trans hs
end Go.Proofs
