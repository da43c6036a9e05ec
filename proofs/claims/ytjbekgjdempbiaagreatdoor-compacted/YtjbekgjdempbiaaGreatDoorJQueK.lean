import Derived.Test.YtjbekgjdempbiaaGreatDoorJQueH
import Derived.Test.YtjbekgjdempbiaaGreatDoorJCCntA
import Derived.Test.YtjbekgjdempbiaaGreatDoorJRefE
import Derived.Deep.RegionHeldLaw
import Derived.Deep.RegionLaw
import Derived.Deep.AppendLies
import Derived.ScopeJumps
set_option maxRecDepth 100000
set_option maxHeartbeats 8000000
namespace Go.Proofs
open Go.RowKit Go.Sort
theorem Xea (a b:List Xc):Yd (a++b)=Yd a++Yd b:=by simp [Yd]
theorem Xhc (xs:List Xc) (k:Nat):Yd (xs.take k)=(Yd xs).take (k*3):=by
 induction xs generalizing k with
 | nil=>simp [Yd]
 | cons x xs ih =>
  cases k with
  | zero=>simp [Yd]
  | succ k =>
   rw [List.take_succ_cons]
   show x.cells.toList++Yd (xs.take k)=(x.cells.toList++Yd xs).take ((k+1)*3)
   rw [ih,List.take_append,show x.cells.toList.length=3 from rfl,show (k+1)*3-3=k*3 by omega,List.take_of_length_le (l:=x.cells.toList) (by rw [show x.cells.toList.length=3 from rfl];omega)]
theorem Ut {w:World} {g o vb i:Nat} {v:Value} (h:vb≠g):(w.setCell ⟨g,o,none⟩ v).cell? ⟨vb,i,none⟩=w.cell? ⟨vb,i,none⟩:=World.cell?_of_block (Yh _ _ _ _ _ h)
theorem Xna {w:World} {B g n cap:Nat} {e:TypeId} {ys zs:List Value} (h:w.ownsRow B e 3 (.slice (some ⟨g,0,none⟩) (n+1) cap) (n+1) ys) (hz:zs=ys.take (n*3)):w.ownsRow B e 3 (.slice (some ⟨g,0,none⟩) n cap) n zs:=by
 obtain⟨h1,⟨e1,-⟩ | ⟨g',cap',cur,e1,e2,e3,e4,e5,e6,e7⟩⟩:=h
 ·cases e1
 cases e1;refine⟨by rw [hz,List.length_take];omega,.inr ⟨g,cap,cur,rfl,e2,e3,by omega,e5,e6,?_⟩⟩;rw [hz,<- e7,List.take_take,show min (n*3) ((n+1)*3)=n*3 by omega]
theorem Tryz.qCut (B vb g cap n:Nat) (xs:List Xc) (w:World) (c8:w.cell? ⟨vb,8,none⟩=some (.slice (some ⟨g,0,none⟩) (n+1) cap)) (f8:w.frozen? ⟨vb,8,none⟩=false) (hrow:w.ownsRow B 144 3 (.slice (some ⟨g,0,none⟩) (n+1) cap) (n+1) (Yd xs)) (hne:vb≠g) (hcap:n+1<=cap) (hmx:cap<=9223372036854775807) :
  Calls prog 129 #[.pointer (some ⟨vb,8,none⟩),.int .i64 n] w fun e w'=>e=.returned (.tuple #[])/\∃ w1,w1.ownsRow B 144 3 (.slice (some ⟨g,0,none⟩) n cap) n (Yd (xs.take n))/\w.grownBy w1 (some g)/\w'=w1.setCell ⟨vb,8,none⟩ (.slice (some ⟨g,0,none⟩) n cap):=by
 have hn:n+1=xs.length:=by have:=hrow.1;rw [Zg] at this;omega
 obtain⟨t0,t1,t2⟩:=Jc hrow (Zo (show n<xs.length by omega))
 have f0:=fun o=>hrow.frozenAt o
 generalize getT xs n=t at *;obtain⟨x1,x2,x3⟩:=t;simp only at t0 t1 t2
 have n4:n*3+1≠n*3:=by omega
 have n7:n*3+2≠n*3:=by omega
 have n8:n*3+2≠n*3+1:=by omega
 have hcl:(Builtin.clear_ #[122] 0 #[.slice (some ⟨g,n*3,none⟩) 1 (cap-n)]).run prog w=.ok (.tuple #[]) (((w.setCell ⟨g,n*3,none⟩ (.int .u64 0)).setCell ⟨g,n*3+1,none⟩ (.int .i64 0)).setCell ⟨g,n*3+2,none⟩ (.int .u64 0)):=by
  have hz:(Builtin.zeroCells #[Value.int .u64 0,.int .i64 0,.int .u64 0] 1).toList = [.int .u64 0,.int .i64 0,.int .u64 0]:=by kernel_rfl
  simp [Builtin.clear_,run_underlying underlying122,zeroValue144,hz,Value.cells,storeCells,go_sem,Addr.add,t0,t1,t2,f0]
 have HR:=Xb hrow;clear hrow
 have c8':(((w.setCell ⟨g,n*3,none⟩ (.int .u64 0)).setCell ⟨g,n*3+1,none⟩ (.int .i64 0)).setCell ⟨g,n*3+2,none⟩ (.int .u64 0)).cell? ⟨vb,8,none⟩=some (.slice (some ⟨g,0,none⟩) (n+1) cap):=by
  rw [Ut hne,Ut hne,Ut hne];exact c8
 have f8':(((w.setCell ⟨g,n*3,none⟩ (.int .u64 0)).setCell ⟨g,n*3+1,none⟩ (.int .i64 0)).setCell ⟨g,n*3+2,none⟩ (.int .u64 0)).frozen? ⟨vb,8,none⟩=false:=by
  rw [World.frozen?_setCell,World.frozen?_setCell,World.frozen?_setCell];exact f8
 clear hn
 have i0:(0:Int)<=(n:Int):=by omega
 have i1:(n:Int)<=(n:Int)+1:=by omega
 have i2:(n:Int)+1<=(cap:Int):=by omega
 have i3:(n:Int)<=(cap:Int):=by omega
 go_enter func129,ntmps129;go_wp2
 go_end0
 have hrow:=Xa HR;have r1:=hrow.stored (n*3) (.int .u64 0);have r2:=r1.1.stored (n*3+1) (.int .i64 0);have r3:=r2.1.stored (n*3+2) (.int .u64 0);refine⟨rfl,_,Xna r3.1 ?_,?_,rfl⟩
 ·rw [Xhc]
  have hl:=Zg xs;simp only [List.take_set];rw [List.set_eq_of_length_le (by simp [List.length_take];omega),List.set_eq_of_length_le (by simp [List.length_take];omega),List.set_eq_of_length_le (by simp [List.length_take];omega)]
 exact(r1.2.andThen r2.2 (fun j e=>.inr e)).andThen r3.2 (fun j e=>.inr e)
theorem Tryz.Xnl (vb:Nat) (v:Value) (w:World) (hv:v=.slice none 0 0\/∃ g cap,v=.slice (some ⟨g,0,none⟩) 0 cap) (c7:w.cell? ⟨vb,8,none⟩=some v) (f7:w.frozen? ⟨vb,8,none⟩=false) :
  Calls prog 129 #[.pointer (some ⟨vb,8,none⟩),.int .i64 0] w fun e w'=>e=.returned (.tuple #[])/\w'=w.setCell ⟨vb,8,none⟩ v:=by
 rcases hv with rfl | ⟨g,cap,rfl⟩
 ·have hcl:(Builtin.clear_ #[122] 0 #[.slice none 0 0]).run prog w=.ok (.tuple #[]) w:=by simp [Builtin.clear_,run_underlying underlying122,go_sem]
  go_enter func129,ntmps129;go_wp2
  go_end0
  exact⟨rfl,rfl⟩
 have hcl:(Builtin.clear_ #[122] 0 #[.slice (some ⟨g,0,none⟩) 0 cap]).run prog w=.ok (.tuple #[]) w:=by simp [Builtin.clear_,run_underlying underlying122,go_sem]
 go_enter func129,ntmps129;go_wp2
 go_end0
 exact⟨rfl,rfl⟩
theorem Tryz.Xjh (vb:Nat) (v:Value) (w:World) (hv:v=.slice none 0 0\/∃ g cap,v=.slice (some ⟨g,0,none⟩) 0 cap) (c7:w.cell? ⟨vb,8,none⟩=some v) (f7:w.frozen? ⟨vb,8,none⟩=false) :
  Calls prog 74 #[.pointer (some ⟨vb,8,none⟩)] w fun e w'=>e=.returned (.tuple #[])/\w'=w.setCell ⟨vb,8,none⟩ v:=by
 go_enter func74,ntmps74
 go_wp2_with (go_at_call 129;refine(Xnl vb v _ hv c7 f7).mono ?_;rintro e w1 ⟨rfl,rfl⟩)
 go_end0
 exact⟨rfl,rfl⟩
end Go.Proofs
namespace Go.Proofs
open Go.RowKit Go.Sort Go.Lib Go.Shelf
theorem Up {P:Program} {a:Act} {w:World} {Q:Exit->Act->World->Prop} {c rest:Code} (l:Nat) (J:Act->World->Prop) (μ:Act->World->Nat) (hf:findLabel c l=some (Code.skip.seq rest))
  (pass:∀ a w,J a w->rest.wp P (Exit.jump l (fun a' w'=>J a' w'/\μ a' w'<μ a w) Q) a w)
  (first:(∀ a w,J a w->rest.wp P (Exit.jump l J Q) a w)->c.wp P (Exit.jump l J Q) a w):(Code.scope c).wp P Q a w:=
 wp_scope_jumps l J μ hf (first (fun a w h=>wp_mono (pass a w h) (fun e a w hq=>by
  cases e <;> first | exact hq | exact⟨hq.1,hq.2.1⟩))) (fun a w h=>wp_seq (wp_skip (pass a w h)))
theorem Tryz.Xkc:(prog.info? 144).map (fun i=>(i.zero,i.size,i.bytes))=some (some (.agg #[.int .u64 0,.int .i64 0,.int .u64 0]),3,24):=by kernel_rfl
theorem U0 (w:World) (B i:Nat) (v:Value):w.grownBy (w.setCell ⟨B,i,none⟩ v) (some B):=⟨rfl,rfl,rfl,by simp,fun k _ hne=>Yh _ _ _ _ _ (fun e=>hne (by rw [e]))⟩
theorem Spares.Xah {bs:List Nat} {W W':World} {row:Option Nat} (h:W.grownBy W' row) (hb:∀ b,row=some b->b∈bs):Spares bs W W':=⟨h.os,h.tape,h.output,h.size,fun k hk hn=>h.block k hk (fun e=>hn (hb k e.symm))⟩
theorem Spares.Xmt {bs:List Nat} {W W' W'':World} {g:Nat} (h:Spares bs W W') (h':Spares [g] W' W'') (hg:g∈bs\/W.heap.size<=g):Spares bs W W'':=
 ⟨h'.os.trans h.os,h'.tape.trans h.tape,h'.output.trans h.output,Nat.le_trans h.size h'.size,fun k hk hn=>(h'.block k (Nat.lt_of_lt_of_le hk h.size) (fun e=>by
  have e2:=List.mem_singleton.1 e;subst e2
  rcases hg with hg | hg
  ·exact hn hg
  omega)).trans (h.block k hk hn)⟩
structure Tryz.QV (B vb:Nat) (cs:Array Value) (g cap:Nat) (ys:List Xc) (W:World):Prop where
 v:BoxN W vb 126 (cs.setIfInBounds 8 (.slice (some ⟨g,0,none⟩) ys.length cap))
 row:W.ownsRow B 144 3 (.slice (some ⟨g,0,none⟩) ys.length cap) ys.length (Yd ys)
 h8:8<cs.size
theorem Tryz.QV.ne {B vb:Nat} {cs:Array Value} {g cap:Nat} {ys:List Xc} {W:World} (h:QV B vb cs g cap ys W):vb≠g:=by
 obtain⟨h1,⟨e1,-⟩ | ⟨g',cap',cur,e1,e2,e3,-⟩⟩:=h.row
 ·cases e1
 cases e1;exact h.v.ne (cs':=cur) e3 (by decide)
theorem Tryz.QV.cell {B vb:Nat} {cs:Array Value} {g cap:Nat} {ys:List Xc} {W:World} (h:QV B vb cs g cap ys W):W.cell? ⟨vb,8,none⟩=some (.slice (some ⟨g,0,none⟩) ys.length cap):=
 h.v.cell 8 (by rw [Array.getElem?_setIfInBounds_self_of_lt h.h8])
theorem Tryz.QV.qp {B vb:Nat} {cs:Array Value} {g cap:Nat} {ys:List Xc} {W:World} (h:QV B vb cs g cap ys W):QP vb g cap ys W:=⟨h.cell,fun _ _ ht=>Jc h.row ht⟩
theorem Tryz.QV.below {B vb:Nat} {cs:Array Value} {g cap:Nat} {ys:List Xc} {W W':World} (h:QV B vb cs g cap ys W) (hb:Below W.heap.size W W'):QV B vb cs g cap ys W':=⟨h.v.below hb h.v.lt,ownsRow_below h.row hb,h.h8⟩
theorem Tryz.QV.swapped {B vb:Nat} {cs:Array Value} {g cap:Nat} {ys zs:List Xc} {W W':World} (h:QV B vb cs g cap ys W) (hs:Spares [g] W W') (hl:zs.length=ys.length) (hr:W'.ownsRow B 144 3 (.slice (some ⟨g,0,none⟩) ys.length cap) ys.length (Yd zs)):QV B vb cs g cap zs W':=by
 refine⟨?_,?_,h.h8⟩
 ·rw [hl];exact hs.box h.v (by simpa using h.ne)
 rw [hl];exact hr
theorem oneI (W:World) (t:TypeId) (p:Nat):∀ j q:Nat,[p][j]? = some q->(W.alloc (.cells #[.int .i64 (p:Int)] t)).cell? ⟨W.heap.size,j,none⟩=some (.int .i64 (q:Int)):=fun j q hq=>by
 cases j with
 | succ j=>simp at hq
 | zero =>
  obtain rfl:p=q:=by simpa using hq
  exact(BoxN.new W t #[.int .i64 (p:Int)]).cell 0 rfl
def Tryz.RiseJ (B vb:Nat) (cs:Array Value) (w:World) (bs:List Nat) (x1 x2 x3:Int) (zs:List Xc) (gq:Nat->Prop) (act:Act) (W:World):Prop:=
 ∃(a g cap:Nat) (ys:List Xc) (u5 u6 u7 u8 u9 u10 u11 u12 u13 u14 u15 u16 u17 u18 u19 u20 u21 u22 u23 u24 u25 u26 u27 u28 u29 u30 u31 u32 u33 u34 u35 u36:Value),act = { tmps:=#[.pointer (some ⟨vb,8,none⟩),.agg #[.int .u64 x1,.int .i64 x2,.int .u64 x3],undef,.pointer (some ⟨w.heap.size,0,none⟩),.int .i64 (a:Int),u5,u6,u7,u8,u9,u10,u11,u12,u13,u14,u15,u16,u17,u18,u19,u20,u21,u22,u23,u24,u25,u26,u27,u28,u29,u30,u31,u32,u33,u34,u35,u36],defers:=[] }/\RiseH ys a/\ys.Perm zs/\QV B vb cs g cap ys W/\gq g/\Spares bs w W
theorem Tryz.Xn5 (B vb:Nat) (v:Value) (n:Nat) (xs:List Xc) (cs:Array Value) (t:Xc) (w:World) (hV:BoxN w vb 126 cs) (h8:cs[8]? = some v) (hrow:w.ownsRow B 144 3 v n (Yd xs)) (hH:Vh xs) (hB:B<=w.heap.size) (hn:n<=100) :
  Calls prog 131 #[.pointer (some ⟨vb,8,none⟩),.agg t.cells] w fun e w'=>e=.returned (.tuple #[])/\∃ g cap ys,QV B vb cs g cap ys w'/\Vh ys/\ys.Perm (xs ++ [t])/\(v.ownBlock=some g\/w.heap.size<=g)/\Spares (vb :: v.ownBlock.toList) w w':=by
 obtain⟨i0,hi,hz0,hz1,hz2⟩:=info_parts Xkc
 have hnx:n=xs.length:=by have:=hrow.1;rw [Zg] at this;omega
 have Hnx:=Xb hnx;have h8s:8<cs.size:=(Array.getElem?_eq_some_iff.1 h8).1;have hnr:=hV.not_row (e:=144) (by decide) hrow;obtain⟨x1,x2,x3⟩:=t;simp only [Xc.cells];have bV:=hV.alloc (.cells #[.int .u64 x1,.int .i64 x2,.int .u64 x3] 144);have bT:=BoxN.new w 144 #[.int .u64 x1,.int .i64 x2,.int .u64 x3];have hr:=hrow.alloc (.cells #[.int .u64 x1,.int .i64 x2,.int .u64 x3] 144)
 have hs9:(w.alloc (.cells #[.int .u64 x1,.int .i64 x2,.int .u64 x3] 144)).heap.size=w.heap.size+1:=by simp
 have hP9:Spares (vb :: v.ownBlock.toList) w (w.alloc (.cells #[.int .u64 x1,.int .i64 x2,.int .u64 x3] 144)):=(Spares.of_below (Below.refl _ w)).alloc _;have lv:=hV.lt;clear hnx;go_enter func131,ntmps131
 go_wp2_with fail
 refine Up 0 (RiseJ B vb cs w (vb :: v.ownBlock.toList) x1 x2 x3 (xs ++ [⟨x1,x2,x3⟩]) (fun g=>v.ownBlock=some g\/w.heap.size<=g)) (fun a _=>(intOf (a.tmps.getD 4 undef)).toNat) rfl ?pass ?first
 case pass =>
  rintro _ W ⟨a,g,cap,ys,u5,u6,u7,u8,u9,u10,u11,u12,u13,u14,u15,u16,u17,u18,u19,u20,u21,u22,u23,u24,u25,u26,u27,u28,u29,u30,u31,u32,u33,u34,u35,u36,rfl,hR,hp,hq,hg,hS⟩
  have hlen:ys.length<=101:=by have:=hp.length_eq;have:=Xa Hnx;simp at *;omega
  have hal:=hR.lt
  have hpal:par a<ys.length:=by unfold par;omega
  have hB2:Below W.heap.size W (W.alloc (.cells #[.int .i64 (a:Int)] 3)):=(Below.refl _ W).alloc (Nat.le_refl _) _;have hL:=Xmd vb g cap W.heap.size ys (par a) [a] _ (hq.qp.below hB2) (oneI W 3 a) (.inl hpal) (by simp) (by simp;omega)
  have hle:leastT ys (par a) [a]=if ltT (getT ys a) (getT ys (par a)) then a else par a:=by
   simp only [leastT]
   by_cases c:ltT (getT ys a) (getT ys (par a))
   ·rw [if_pos ⟨hal,c⟩,if_pos c]
   rw [if_neg (fun h=>c h.2),if_neg c]
  rw [hle] at hL
  have ha3:(a:Int)<=3000:=by omega
  have ha0:(0:Int)<=(a:Int):=by omega
  by_cases hc:ltT (getT ys a) (getT ys (par a))
  ·have hapos:0<a:=by
    rcases Nat.eq_zero_or_pos a with h0 | h0
    ·subst h0;exact absurd hc (Xiq _)
    exact h0
   have hst:=hR.step hapos hc;have hpm:=(Vw hpal hal).trans hp
   have hSw:=fun W' (hb:Below W.heap.size W W')=>Xl6 B vb g cap ys.length ys (par a) a W' (hq.below hb).cell (hq.below hb).row hpal hal
   have hltp:par a<a:=by unfold par;omega
   have e1:((a:Int)-1) / 2=((par a:Nat):Int):=by unfold par;omega
   rw [if_pos hc] at hL
   have hap:(0:Int)<=(a:Int)-1:=by omega
   generalize par a=p at *
   have hnq:((a:Int) != (p:Int))=true:=by simp;omega
   have Hlt:=Xb hltp;have HR:=Xb hst;clear hR hle hal hpal hc hlen hst hltp
   go_wp2_with (go_at_call 133;refine hL.mono ?_;rintro e w2 ⟨rfl,hb2⟩;have hb3:=hB2.trans (hb2.mono (by simp));have hSw2:=hSw w2 hb3)
   go_wp2_with (go_at_call 132;refine hSw2.mono ?_;rintro e w4 ⟨rfl,hr4,hs4⟩)
   go_step3
   refine⟨rfl,⟨p,g,cap,swapT ys p a,_,_,_,_,_,_,_,_,_,_,_,_,_,_,_,_,_,_,_,_,_,_,_,_,_,_,_,_,_,_,_,_,rfl,Xa HR,hpm,(hq.below hb3).swapped hs4 (Yr _ _ _) hr4,hg,(hS.trans (Spares.of_below hb3)).Xmt hs4 ?_⟩,?_⟩
   ·rcases hg with hg | hg
    ·exact .inl (by simp [hg])
    exact .inr hg
   have:=Xa Hlt;simp [intOf];omega
  have hdn:=hR.done hc;rw [if_neg hc] at hL
  have e1:((a:Int)-1).tdiv 2=((par a:Nat):Int):=by
   unfold par
   by_cases h0:a=0
   ·subst h0;rfl
   rw [Int.tdiv_eq_ediv_of_nonneg (by omega)];omega
  have e2:0<a->((a:Int)-1) / 2=((par a:Nat):Int):=fun h0=>by unfold par;omega
  generalize par a=p at *;clear hR hle hal hpal hc hlen
  by_cases h0:a=0
  focus
   subst h0
   have e3:p=0:=by
    have:=e1;simp at this;omega
   subst e3;clear e1 e2
  rotate_left
  focus
   have e3:=e2 (by omega)
   have hap:(0:Int)<=(a:Int)-1:=by omega
   clear e1 e2 h0
  rotate_left
  all_goals
   go_wp2_with (go_at_call 133;refine hL.mono ?_;rintro e w2 ⟨rfl,hb2⟩)
   have hb3:=hB2.trans (hb2.mono (by simp));simp only [Exit.jump]
   go_end0
   exact⟨rfl,g,cap,ys,hq.below hb3,hdn,hp,hg,hS.trans (Spares.of_below hb3)⟩
 case first =>
  intro hpass;have HP:=Xb hpass;clear hpass
  go_wp2_with fail
  obtain⟨W9,hW9⟩:∃ W9,w.alloc (.cells #[.int .u64 x1,.int .i64 x2,.int .u64 x3] 144)=W9:=⟨_,rfl⟩
  rw [hW9] at bV hr bT hs9 hP9;rw [hW9];clear hW9;have Hs9:=Xb hs9
  have hB9s:B<=W9.heap.size:=by omega
  clear hs9;have v7:=bV.cell 8 h8;have fv7:=bV.frozen 8;have v7a:=(bV.alloc (.cells #[.int .u64 x1,.int .i64 x2,.int .u64 x3] 144)).cell 8 h8;have y0:=bT.cell 0 (v:=.int .u64 x1) rfl;have y1:=bT.cell 1 (v:=.int .i64 x2) rfl;have y2:=bT.cell 2 (v:=.int .u64 x3) rfl
  go_region_law ((refine step_append_lies _ (by rfl) _ _ _ (by rfl) B 144 i0 _ 3 24 underlying122 hi hz0 hz1 hz2 rfl (by decide) v n (Yd xs) (by rfl) (ownsRow_below hr (by first | exact Xz.below ((Xz.refl _).alloc _) | exact Xz.below (((Xz.refl _).drewN _).alloc _))) ⟨W9.heap.size,0,none⟩ 1 1 [.int .u64 x1,.int .i64 x2,.int .u64 x3] (by rfl) rfl (World.news_of_block (heap_alloc_new _ _)) (by simp [Value.oneCell']) (by omega) (by unfold maxLen;omega) (by omega) (by simp;omega) _ rfl ?_;intro g' cap' w3 hown' hgrow hat hlt;have bV3:=(bV.below (B:=vb) (n₀:=W9.heap.size) (by first | exact Xz.below ((Xz.refl W9).alloc _) | exact Xz.below (((Xz.refl W9).drew).alloc _)) bV.lt).kept hgrow hnr;have d0:=bV3.cell 8 h8;have d1:=bV3.frozen 8))
  all_goals
   have hvg:vb≠g':=by
    rcases hat with e | e
    ·exact fun e'=>hnr (by rw [e,e'])
    have:=Xa Hs9
    have e2:g'=W9.heap.size+1:=by simpa using e
    omega
   have hwg:v.ownBlock=some g'\/w.heap.size<=g':=by
    rcases hat with e | e
    ·exact .inl e
    have:=Xa Hs9
    have e2:g'=W9.heap.size+1:=by simpa using e
    exact .inr (by omega)
   have hlq:(xs ++ [(⟨x1,x2,x3⟩:Xc)]).length=n+1:=by simp [Xa Hnx]
   have hown1:w3.ownsRow B 144 3 (.slice (some ⟨g',0,none⟩) (n+1) cap') (n+1) (Yd (xs ++ [⟨x1,x2,x3⟩])):=by rw [Xea];exact hown'
   have hrow4:=hown1.kept (U0 w3 vb 8 (.slice (some ⟨g',0,none⟩) (n+1) cap')) (.inr (by simp [Value.ownBlock];exact fun e=>hvg e.symm));have bV4:=bV3.set 8 (.slice (some ⟨g',0,none⟩) (n+1) cap');have hP4:Spares (vb :: v.ownBlock.toList) w (w3.setCell ⟨vb,8,none⟩ (.slice (some ⟨g',0,none⟩) (n+1) cap')):=(((hP9.alloc _).drew).trans (Spares.Xah hgrow (fun b hb=>by rw [hb];simp))).set (by simp) _ _
   have hqv:QV B vb cs g' cap' (xs ++ [⟨x1,x2,x3⟩]) (w3.setCell ⟨vb,8,none⟩ (.slice (some ⟨g',0,none⟩) (n+1) cap')):=⟨by rw [hlq];exact bV4,by rw [hlq];exact hrow4,h8s⟩
   have c8:=hqv.cell;rw [hlq] at c8;have HF:=Xb (And.intro hqv (And.intro hwg (And.intro hP4 (And.intro (RiseH.start hH ⟨x1,x2,x3⟩) (Xa Hnx)))));clear hown' hgrow hat hlt bV3 d0 d1 hP4 hP9 bV hr bT v7 fv7 v7a y0 y1 y2 hown1 hwg hnr hqv bV4 hrow4 hlq;generalize w3.setCell ⟨vb,8,none⟩ (.slice (some ⟨g',0,none⟩) (n+1) cap')=W4 at *;go_wp2
   go_step3
   simp only [Exit.then]
   apply_assumption
   obtain⟨f1,f2,f3,f4,f5⟩:=Xa HF;rw [<- f5] at f4;exact Xa HP _ _ ⟨n,g',cap',_,_,_,_,_,_,_,_,_,_,_,_,_,_,_,_,_,_,_,_,_,_,_,_,_,_,_,_,_,_,_,_,_,rfl,f4,List.Perm.refl _,f1,f2,f3⟩
theorem Tryz.Xm2 (vb:Nat) (v:Value) (w:World) (hv:v=.slice none 0 0\/∃ g cap,v=.slice (some ⟨g,0,none⟩) 0 cap) (c7:w.cell? ⟨vb,8,none⟩=some v) :
  Calls prog 76 #[.pointer (some ⟨vb,8,none⟩)] w fun e w'=>e=.returned (.tuple #[.agg #[.int .u64 0,.int .i64 0,.int .u64 0],.bool false])/\Below w.heap.size w w':=by
 have lv:vb<w.heap.size:=World.block_lt_of_cell? w _ c7;have hb:Below w.heap.size w ((w.alloc (.cells #[.int .u64 0,.int .i64 0,.int .u64 0] 144)).alloc (.cells #[.int .u64 0,.int .i64 0,.int .u64 0] 144)):=((Below.refl _ w).alloc (Nat.le_refl _) _).alloc (by simp) _
 rcases hv with rfl | ⟨g,cap,rfl⟩
 all_goals
  go_enter func76,ntmps76;go_wp2
  go_step3
  go_wp2;rw [Exit.noGoto_ret];exact bodyPost_ret (v:=.tuple #[.agg #[.int .u64 0,.int .i64 0,.int .u64 0],.bool false]) (by simp [results,results76,go_sem]) rfl ⟨rfl,hb⟩
theorem Xmi (W:World) (t:TypeId) (p q:Nat):∀ j r:Nat,[p,q][j]? = some r->(W.alloc (.cells #[.int .i64 (p:Int),.int .i64 (q:Int)] t)).cell? ⟨W.heap.size,j,none⟩=some (.int .i64 (r:Int)):=fun j r hr=>by
 match j,hr with
 | 0,hr =>
  obtain rfl:p=r:=by simpa using hr
  exact(BoxN.new W t #[.int .i64 (p:Int),.int .i64 (q:Int)]).cell 0 rfl
 | 1,hr =>
  obtain rfl:q=r:=by simpa using hr
  exact(BoxN.new W t #[.int .i64 (p:Int),.int .i64 (q:Int)]).cell 1 rfl
def Tryz.Xpm (B vb:Nat) (cs:Array Value) (w:World) (g m:Nat) (x:Xc) (zs:List Xc) (act:Act) (W:World):Prop:=
 ∃(a cap ib:Nat) (ys:List Xc) (u8 u9 u10 u11 u12 u13 u14 u15 u16 u17 u18 u19 u20 u21 u22 u23 u24 u25 u26 u27 u28 u29 u30 u31 u32 u33 u34 u35 u36 u37 u38 u39 u40 u41 u42 u43 u44 u45 u46 u47 u48 u49 u50 u51 u52 u53:Value),act = { tmps:=#[.pointer (some ⟨vb,8,none⟩),undef,.pointer (some ⟨w.heap.size,0,none⟩),.bool false,undef,.int .i64 (m:Int),.pointer (some ⟨ib,0,none⟩),.int .i64 (a:Int),u8,u9,u10,u11,u12,u13,u14,u15,u16,u17,u18,u19,u20,u21,u22,u23,u24,u25,u26,u27,u28,u29,u30,u31,u32,u33,u34,u35,u36,u37,u38,u39,u40,u41,u42,u43,u44,u45,u46,u47,u48,u49,u50,u51,u52,u53],defers:=[] }/\Md ys a/\(a=0\/a<ys.length)/\ys.Perm zs/\QV B vb cs g cap ys W/\BoxN W w.heap.size 144 #[.int .u64 0,.int .i64 0,.int .u64 0]/\BoxN W ib 144 x.cells/\w.heap.size<ib/\Spares [vb,g] w W
theorem Tryz.qPop (B vb g cap m:Nat) (xs:List Xc) (cs:Array Value) (w:World) (hq:QV B vb cs g cap xs w) (hH:Vh xs) (hm:xs.length=m+1) (hlen:m<=100) :
  Calls prog 76 #[.pointer (some ⟨vb,8,none⟩)] w fun e w'=>e=.returned (.tuple #[.agg (getT xs 0).cells,.bool true])/\∃ cap' ys,QV B vb cs g cap' ys w'/\Vh ys/\(getT xs 0 :: ys).Perm xs/\Spares [vb,g] w w':=by
 have hne:=hq.ne;have lv:=hq.v.lt;have lg:g<w.heap.size:=(hq.row.lt g rfl).2;have hB0:Below w.heap.size w (w.alloc (.cells #[.int .u64 0,.int .i64 0,.int .u64 0] 144)):=(Below.refl _ w).alloc (Nat.le_refl _) _;have b0:=BoxN.new w 144 #[.int .u64 0,.int .i64 0,.int .u64 0];have hq0:=hq.below hB0;have hP:=Vw (xs:=xs) (i:=0) (j:=m) (by omega) (by omega)
 have hmg:getT (swapT xs 0 m) m=getT xs 0:=by rw [Yw (by omega) (by omega),if_pos rfl]
 have hF:=Md.start hH;rw [show xs.length-1=m by omega] at hF
 have hzs:(getT xs 0 :: (swapT xs 0 m).take m).Perm xs:=by
  refine List.Perm.trans ?_ hP
  have hl:(swapT xs 0 m).length=m+1:=by rw [Yr,hm]
  have e:swapT xs 0 m=(swapT xs 0 m).take m ++ [getT xs 0]:=by
   conv=>lhs;rw [<- List.take_of_length_le (l:=swapT xs 0 m) (i:=m+1) (by omega)]
   rw [List.take_add_one,Zo (by omega),hmg];rfl
  conv=>rhs;rw [e]
  exact(List.perm_append_comm (l₁:=[getT xs 0]) (l₂:=(swapT xs 0 m).take m))
 have hSw:=Xl6 B vb g cap xs.length xs 0 m _ hq0.cell hq0.row (by omega) (by omega);generalize hx:getT xs 0=x at *;go_enter func76,ntmps76
 go_wp2_with fail
 refine Up 0 (Xpm B vb cs w g m x ((swapT xs 0 m).take m)) (fun a _=>1000-(intOf (a.tmps.getD 7 undef)).toNat) rfl ?pass ?first
 case pass =>
  rintro _ W ⟨a,cap2,ib,ys,u8,u9,u10,u11,u12,u13,u14,u15,u16,u17,u18,u19,u20,u21,u22,u23,u24,u25,u26,u27,u28,u29,u30,u31,u32,u33,u34,u35,u36,u37,u38,u39,u40,u41,u42,u43,u44,u45,u46,u47,u48,u49,u50,u51,u52,u53,rfl,hFa,hal,hp,hqy,bR,bI,hib,hS⟩
  have hly:ys.length<=100:=by have:=hp.length_eq;rw [List.length_take,Yr] at this;omega
  have hB2:Below W.heap.size W (W.alloc (.cells #[.int .i64 ((2*a+1:Nat):Int),.int .i64 ((2*a+2:Nat):Int)] 3)):=(Below.refl _ W).alloc (Nat.le_refl _) _
  have hL:=Xmd vb g cap2 W.heap.size ys a [2*a+1,2*a+2] _ (hqy.qp.below hB2) (Xmi W 3 (2*a+1) (2*a+2)) (by
   by_cases h:a<ys.length
   ·exact .inl h
   ·refine .inr (fun p hp=>?_)
    simp only [List.mem_cons,List.not_mem_nil,or_false] at hp
    omega) (by simp) (by
   intro p hp;simp only [List.mem_cons,List.not_mem_nil,or_false] at hp
   omega)
  have c1:((2*a+1:Nat):Int)=2*(a:Int)+1:=by omega
  have c2:((2*a+2:Nat):Int)=2*(a:Int)+2:=by omega
  rw [c1,c2] at hB2;simp only [c1,c2] at hL
  have ha3:(a:Int)<=3000:=by omega
  have ha0:(0:Int)<=(a:Int):=by omega
  have lI:=bI.lt;have lR:=bR.lt;have lgW:g<W.heap.size:=(hqy.row.lt g rfl).2;have lvW:=hqy.v.lt
  have hgR:w.heap.size≠g:=by omega
  have hgI:ib≠g:=by omega
  have hvI:vb≠w.heap.size:=by omega
  clear c1 c2;obtain⟨x1,x2,x3⟩:=x;simp only [Xc.cells] at *
  by_cases hc:leastT ys a [2*a+1,2*a+2]=a
  ·have hdn:=hFa.done hc
   rw [hc] at hL;clear hFa
   go_wp2_with (go_at_call 133;refine hL.mono ?_;rintro e w2 ⟨rfl,hb2⟩;have hb3:=hB2.trans (hb2.mono (by simp));have bI2:=bI.below hb3 lI;have bR2:=bR.below hb3 lR;have i0:=bI2.cell 0 (v:=.int .u64 x1) rfl;have i1:=bI2.cell 1 (v:=.int .i64 x2) rfl;have i2:=bI2.cell 2 (v:=.int .u64 x3) rfl;have q0:=bR2.cell 0 (v:=.int .u64 0) rfl;have q1:=bR2.cell 1 (v:=.int .i64 0) rfl;have q2:=bR2.cell 2 (v:=.int .u64 0) rfl;have f0:=bR2.frozen 0;have f1:=bR2.frozen 1;have f2:=bR2.frozen 2)
   simp only [Exit.jump];have b6:BoxN _ w.heap.size 144 #[.int .u64 x1,.int .i64 x2,.int .u64 x3]:=((bR2.set 0 (.int .u64 x1)).set 1 (.int .i64 x2)).set 2 (.int .u64 x3);have hs6:Spares [w.heap.size] w2 (((w2.setCell ⟨w.heap.size,0,none⟩ (.int .u64 x1)).setCell ⟨w.heap.size,1,none⟩ (.int .i64 x2)).setCell ⟨w.heap.size,2,none⟩ (.int .u64 x3)):=(((Spares.of_below (Below.refl _ w2)).set (by simp) _ _).set (by simp) _ _).set (by simp) _ _
   have hq6:QV B vb cs g cap2 ys _:=⟨hs6.box (hqy.below hb3).v (by simpa using hvI),hs6.row (hqy.below hb3).row (by simpa using Ne.symm hgR),hqy.h8⟩
   have hS6:=(hS.trans (Spares.of_below hb3)).Xmt hs6 (.inr (Nat.le_refl _));generalize ((w2.setCell ⟨w.heap.size,0,none⟩ (.int .u64 x1)).setCell ⟨w.heap.size,1,none⟩ (.int .i64 x2)).setCell ⟨w.heap.size,2,none⟩ (.int .u64 x3)=W6 at *;have k0:=b6.cell 0 (v:=.int .u64 x1) rfl;have k1:=b6.cell 1 (v:=.int .i64 x2) rfl;have k2:=b6.cell 2 (v:=.int .u64 x3) rfl;exact bodyPost_ret (v:=.tuple #[.agg #[.int .u64 x1,.int .i64 x2,.int .u64 x3],.bool true]) (by simp [results,results76,go_sem,k0,k1,k2]) rfl ⟨rfl,cap2,ys,hq6,hdn,(List.Perm.cons _ hp).trans hzs,hS6⟩
  obtain⟨hac,hcl,hFc⟩:=hFa.step hc
  have hal2:a<ys.length:=by omega
  have hpm:=(Vw hcl hal2).trans hp
  have hSw2:=fun W' (hb:Below W.heap.size W W')=>Xl6 B vb g cap2 ys.length ys (leastT ys a [2*a+1,2*a+2]) a W' (hqy.below hb).cell (hqy.below hb).row hcl hal2
  generalize leastT ys a [2*a+1,2*a+2]=c at *
  have hnq:((c:Int) != (a:Int))=true:=by simp;omega
  have Hlt:=Xb (And.intro hac hcl);have HF:=Xb hFc;clear hFa hc hFc hac
  go_wp2_with (go_at_call 133;refine hL.mono ?_;rintro e w2 ⟨rfl,hb2⟩;have hb3:=hB2.trans (hb2.mono (by simp));have hSw3:=hSw2 w2 hb3)
  go_wp2_with (go_at_call 132;refine hSw3.mono ?_;rintro e w4 ⟨rfl,hr4,hs4⟩)
  go_step3
  obtain⟨h1,h2⟩:=Xa Hlt;refine⟨rfl,⟨c,cap2,ib,swapT ys c a,_,_,_,_,_,_,_,_,_,_,_,_,_,_,_,_,_,_,_,_,_,_,_,_,_,_,_,_,_,_,_,_,_,_,_,_,_,_,_,_,_,_,_,_,_,_,rfl,Xa HF,.inr (by rw [Yr];exact h2),hpm,(hqy.below hb3).swapped hs4 (Yr _ _ _) hr4,hs4.box (bR.below hb3 lR) (by simpa using hgR),hs4.box (bI.below hb3 lI) (by simpa using hgI),hib,(hS.trans (Spares.of_below hb3)).Xmt hs4 (.inl (by simp))⟩,?_⟩;simp [intOf];omega
 case first =>
  intro hpass;have HP:=Xb hpass;clear hpass;have c8:=hq0.cell;rw [hm] at c8 hSw;rw [show ((0:Nat):Int)=0 from rfl] at hSw
  have hcap:m+1<=cap/\cap<=9223372036854775807:=by
   obtain⟨-,⟨e1,-⟩ | ⟨g',cap',cur,e1,e2,e3,e4,e5,-⟩⟩:=hq.row
   ·cases e1
   cases e1;unfold maxLen at e5;omega
  obtain⟨hcp,hcm⟩:=hcap
  have hsl:(swapT xs 0 m).length=m+1:=by rw [Yr,hm]
  have hxm:(swapT xs 0 m)[m]? = some x:=by rw [Zo (by omega),hmg]
  have HH:=Xb (And.intro hF (And.intro hm (And.intro hsl hxm)));obtain⟨x1,x2,x3⟩:=x;clear hF hH hP hzs hq hmg hx
  have lz:w.heap.size<(w.alloc (.cells #[.int .u64 0,.int .i64 0,.int .u64 0] 144)).heap.size:=by simp
  clear hm hsl hxm
  go_wp2_with (first
   | (go_at_call 132;refine hSw.mono ?_;rintro e w1 ⟨rfl,r1,hs1⟩;have bV1:=hs1.box hq0.v (by simpa using hne);have b1:=hs1.box b0 (by simp;omega);have h81:=hq0.h8;obtain⟨z0,z1,z2⟩:=Jc r1 (Xa HH).2.2.2;have c81:=(Xa HH).2.1 ▸ bV1.cell 8 (v:=.slice (some ⟨g,0,none⟩) xs.length cap) (by rw [Array.getElem?_setIfInBounds_self_of_lt h81]);clear c8)
   | (go_at_call 129;refine(qCut B vb g cap m (swapT xs 0 m) _ (cell_later ((Below.refl _ w1).alloc (Nat.le_refl _) _) c81) ((bV1.alloc _).frozen 8) (r1.alloc _) hne hcp hcm).mono ?_;rintro e w2 ⟨rfl,wx,rx,hgx,rfl⟩))
  go_step3
  simp only [Exit.then]
  apply_assumption
  obtain⟨hF,hm,hsl,-⟩:=Xa HH;have lg1:g<w1.heap.size:=(r1.lt g rfl).2;have lv1:=bV1.lt;have l01:=b1.lt
  have hyl:((swapT xs 0 m).take m).length=m:=by rw [List.length_take,hsl];omega
  have bV2:=((bV1.alloc (.cells #[.int .u64 x1,.int .i64 x2,.int .u64 x3] 144)).kept hgx (by intro e;injection e with e;exact hne e)).set 8 (.slice (some ⟨g,0,none⟩) m cap);rw [Array.setIfInBounds_setIfInBounds] at bV2;have bR2:=((b1.alloc (.cells #[.int .u64 x1,.int .i64 x2,.int .u64 x3] 144)).kept hgx (by intro e;injection e with e;omega)).other (B':=vb) (by omega) 8 (.slice (some ⟨g,0,none⟩) m cap);have bI2:=((BoxN.new w1 144 #[.int .u64 x1,.int .i64 x2,.int .u64 x3]).kept hgx (by intro e;injection e with e;omega)).other (B':=vb) (by omega) 8 (.slice (some ⟨g,0,none⟩) m cap);have r2:=rx.kept (U0 wx vb 8 (.slice (some ⟨g,0,none⟩) m cap)) (.inr (by simp [Value.ownBlock];exact fun e=>hne e.symm))
  have hS2:Spares [vb,g] w (wx.setCell ⟨vb,8,none⟩ (.slice (some ⟨g,0,none⟩) m cap)):=(((((Spares.of_below hB0).trans (hs1.mono (by simp))).alloc _).trans (Spares.X4 hgx (by simp))).set (by simp) _ _)
  exact Xa HP _ _ ⟨0,cap,w1.heap.size,(swapT xs 0 m).take m,_,_,_,_,_,_,_,_,_,_,_,_,_,_,_,_,_,_,_,_,_,_,_,_,_,_,_,_,_,_,_,_,_,_,_,_,_,_,_,_,_,_,_,_,_,_,rfl,hF,.inl rfl,List.Perm.refl _,⟨by rw [hyl];exact bV2,by rw [hyl];exact r2,h81⟩,bR2,bI2,by omega,hS2⟩
end Go.Proofs
