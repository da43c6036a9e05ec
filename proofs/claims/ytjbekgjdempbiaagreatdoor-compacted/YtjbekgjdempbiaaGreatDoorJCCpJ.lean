import Derived.Test.YtjbekgjdempbiaaGreatDoorJSq
import Derived.Test.YtjbekgjdempbiaaGreatDoorJCTkJ
import Derived.OwnWalkIn
import Derived.Deep.AppendLies
set_option maxRecDepth 100000
set_option maxHeartbeats 8000000
namespace Go.Proofs
open Go.RowKit Go.Sort Go.Lib Go.Shelf Go.Maps Go.WideMaps
attribute [local go_sem] Oper.semAt_some
def Jg (tn ln:Nat) (tks:List Xe) (lks:List Xd):List Item:=.use true tn :: .use false ln :: (tks.map Item.tok++lks.map Item.lea)
theorem Mg (w:World) (a b c d e f g h i k:Value) (t:TypeId):∀ j u,[a,b,c,d,e,f,g,h,i,k][j]? = some u->(w.alloc (.cells #[a,b,c,d,e,f,g,h,i,k] t)).cell? ((⟨w.heap.size,0,none⟩:Addr).add j)=some u:=by
 intro j u hj
 match j,hj with
 | 0,hj=>simp at hj;subst hj;simp [Addr.add]
 | 1,hj=>simp at hj;subst hj;simp [Addr.add]
 | 2,hj=>simp at hj;subst hj;simp [Addr.add]
 | 3,hj=>simp at hj;subst hj;simp [Addr.add]
 | 4,hj=>simp at hj;subst hj;simp [Addr.add]
 | 5,hj=>simp at hj;subst hj;simp [Addr.add]
 | 6,hj=>simp at hj;subst hj;simp [Addr.add]
 | 7,hj=>simp at hj;subst hj;simp [Addr.add]
 | 8,hj=>simp at hj;subst hj;simp [Addr.add]
 | 9,hj=>simp at hj;subst hj;simp [Addr.add]
 | (q+10),hj=>simp at hj
theorem Spares.Xdu {W W':World} {row:Option Nat} {bs:List Nat} (hg:W.grownBy W' row) (h:∀ r,row=some r->r∈bs):Spares bs W W':=⟨hg.os,hg.tape,hg.output,hg.size,fun k hk hn=>hg.block k hk (fun e=>hn (h k e.symm))⟩
theorem Vn {F:Fence} {n:Nat} {P:Program} {w w':World} {ops:Array Oper} {o:Oper} {a:Act} {K:Act->World->Prop} {Q:Exit->Act->World->Prop} {E:Prop} (hg:o.guard=none) (s x:Operand) (t:TypeId) (hop:o.op=Op.call { callee:=Callee.builtin Builtin.append,args:=#[s,x],argTypes:=#[t,t] }) {v sv r:Value} (hs:a.eval s=v) (hx:a.eval x=sv) (hrun:(Builtin.append_ #[t,t] o.type #[v,sv]).run P w=.ok r w') (h:K (a.put o.dst r) w'):if Region.wanted o (yielded ops a.tmps)=true then Oper.wpIn F n P o a w K Q else E:=by
 have hw:Region.wanted o (yielded ops a.tmps)=true:=by simp [Region.wanted,hg]
 rw [if_pos hw];unfold Oper.wpIn;refine⟨?_,?_⟩
 ·simp [Oper.about,hop,resolve,Target.leads,Sem.run_pure]
 rw [Oper.semAt_plain F _ _ (by rw [hop];intro c hc';cases hc')];simp [execOp,hop,resolve,invoke,builtin,hs,hx,hrun,Result.andThen];exact h
def Tryz.Xf1 (t:TypeId):Bool:=t==162||t==135
theorem Vv {W:World} {base b:Nat} {t:TypeId} {cs:Array Value} (h:BoxN W b t cs) (hb:base<=b) (hs:cs.size=30):W.ownsRow base t 10 (.slice (some ⟨b,0,none⟩) 3 3) 3 cs.toList:=
 ⟨by simpa using hs,.inr ⟨b,3,cs,rfl,hb,h,Nat.le_refl _,by decide,hs,by rw [List.take_of_length_le (by simp [hs])]⟩⟩
theorem Xc5 {w V1:World} (hB1:Below w.heap.size w V1) {tr ts:TypeId} {cs:Array Value} (hs:cs.size=30):w.heap.size<=V1.heap.size+1/\Boxed ((V1.alloc (.cells cs tr)).alloc (.cells #[.slice (some ⟨V1.heap.size,0,none⟩) 3 3] ts)) (V1.heap.size+1) ts (.slice (some ⟨V1.heap.size,0,none⟩) 3 3)/\((V1.alloc (.cells cs tr)).alloc (.cells #[.slice (some ⟨V1.heap.size,0,none⟩) 3 3] ts)).ownsRow w.heap.size tr 10 (.slice (some ⟨V1.heap.size,0,none⟩) 3 3) 3 cs.toList/\Below w.heap.size w ((V1.alloc (.cells cs tr)).alloc (.cells #[.slice (some ⟨V1.heap.size,0,none⟩) 3 3] ts)):=by
 have hz:=hB1.size;have bS:=(BoxN.new V1 tr cs).alloc (.cells #[.slice (some ⟨V1.heap.size,0,none⟩) 3 3] ts);have bL:=BoxN.new (V1.alloc (.cells cs tr)) ts #[.slice (some ⟨V1.heap.size,0,none⟩) 3 3];rw [World.size_alloc] at bL;exact⟨by omega,bL,Vv bS hz hs,(hB1.alloc hz _).alloc (by simp;omega) _⟩
theorem Xe8 {w V1:World} (hB1:Below w.heap.size w V1) {tr ts:TypeId} {cs:Array Value} (hs:cs.size=30):w.heap.size<=V1.heap.size/\Boxed ((V1.alloc (.cells #[.slice (some ⟨V1.heap.size+1,0,none⟩) 3 3] ts)).alloc (.cells cs tr)) V1.heap.size ts (.slice (some ⟨V1.heap.size+1,0,none⟩) 3 3)/\((V1.alloc (.cells #[.slice (some ⟨V1.heap.size+1,0,none⟩) 3 3] ts)).alloc (.cells cs tr)).ownsRow w.heap.size tr 10 (.slice (some ⟨V1.heap.size+1,0,none⟩) 3 3) 3 cs.toList/\Below w.heap.size w ((V1.alloc (.cells #[.slice (some ⟨V1.heap.size+1,0,none⟩) 3 3] ts)).alloc (.cells cs tr)):=by
 have hz:=hB1.size;have bL:=(BoxN.new V1 ts #[.slice (some ⟨V1.heap.size+1,0,none⟩) 3 3]).alloc (.cells cs tr);have bS:=BoxN.new (V1.alloc (.cells #[.slice (some ⟨V1.heap.size+1,0,none⟩) 3 3] ts)) tr cs;rw [World.size_alloc] at bS;exact⟨hz,bL,Vv bS (by omega) hs,(hB1.alloc hz _).alloc (by simp;omega) _⟩
theorem Xe9 {w V1:World} (hB1:Below w.heap.size w V1) {Lb:Nat} {tr ts:TypeId} {cs:Array Value} {v:Value} (hL:w.heap.size<=Lb) (bL:BoxN V1 Lb ts #[v]) (hs:cs.size=30):w.heap.size<=Lb/\Boxed ((V1.setCell ⟨Lb,0,none⟩ (.slice (some ⟨V1.heap.size,0,none⟩) 3 3)).alloc (.cells cs tr)) Lb ts (.slice (some ⟨V1.heap.size,0,none⟩) 3 3)/\((V1.setCell ⟨Lb,0,none⟩ (.slice (some ⟨V1.heap.size,0,none⟩) 3 3)).alloc (.cells cs tr)).ownsRow w.heap.size tr 10 (.slice (some ⟨V1.heap.size,0,none⟩) 3 3) 3 cs.toList/\Below w.heap.size w ((V1.setCell ⟨Lb,0,none⟩ (.slice (some ⟨V1.heap.size,0,none⟩) 3 3)).alloc (.cells cs tr)):=by
 have hz:=hB1.size;have bL2:BoxN (V1.setCell ⟨Lb,0,none⟩ (.slice (some ⟨V1.heap.size,0,none⟩) 3 3)) Lb ts #[.slice (some ⟨V1.heap.size,0,none⟩) 3 3]:=bL.set 0 _;have bS:=BoxN.new (V1.setCell ⟨Lb,0,none⟩ (.slice (some ⟨V1.heap.size,0,none⟩) 3 3)) tr cs;rw [World.size_setCell] at bS;exact⟨hL,bL2.alloc _,Vv bS hz hs,(hB1.setCell (p:=⟨Lb,0,none⟩) hL _).alloc (by simpa using hz) _⟩
theorem Tryz.Xhz (vb mt ml:Nat) (vx:VX) (tm:Int) (tn ln:Nat) (tks:List Xe) (lks:List Xd) (w:World) (hV:X0 w vb mt ml vx tm tn ln tks lks) :
  CallsIn Fence.wide 9 prog 96 #[.pointer (some ⟨vb,0,none⟩)] w fun e w'=>∃ v,e=.returned v/\w'.ownsRow w.heap.size 135 10 v (tks.length+lks.length+3) (Yk (nowR tm :: (Jg tn ln tks lks).map Item.rec_))/\Below w.heap.size w w':=by
 obtain⟨i0,hi,hz0,hz1,hz2⟩:=info_parts Xdy;have hfw:Fence.wide.fn 79:=trivial;have hfw2:Fence.wide.fn 81:=trivial;have hfn:Fence.wide.fn 121:=trivial;have lv:=hV.v.lt
 have hnow:∀ m X,Below w.heap.size w X->CallsIn Fence.wide m prog 121 #[.pointer (some ⟨vb,0,none⟩)] X fun e X'=>e=.returned (.agg #[.int .i64 0,.int .i64 0,.int .u64 0,.int .i64 0,.int .u64 0,.bool false,.int .u64 tm,.int .i64 0,.int .u64 0,.string ⟨#[]⟩])/\Below X.heap.size X X':=fun m X hb=>callsIn_wide.2 (now vb tm X ((hV.below hb).v.cell 2 rfl))
 have ctn:∀ X,Below w.heap.size w X->X.cell? ⟨vb,5,none⟩=some (.int .u64 (tn:Int)):=fun X hb=>(hV.below hb).v.cell 5 rfl
 have cln:∀ X,Below w.heap.size w X->X.cell? ⟨vb,6,none⟩=some (.int .u64 (ln:Int)):=fun X hb=>(hV.below hb).v.cell 6 rfl
 have hbd:Below w.heap.size w w.drew:=(Below.refl _ w).drew;have hbL:Below w.heap.size w (w.drew.alloc (.cells #[.slice none 0 0] 162)):=hbd.alloc (Nat.le_refl _) _;have bL0:BoxN (w.drew.alloc (.cells #[.slice none 0 0] 162)) w.heap.size 162 #[.slice none 0 0]:=BoxN.new w.drew 162 #[.slice none 0 0];have d1:=ctn _ hbd;have d2:=cln _ hbd;have d3:=ctn _ hbL;have d4:=cln _ hbL;have d5:(w.alloc (.cells #[.slice none 0 0] 162)).drew.cell? ⟨vb,5,none⟩=some (.int .u64 (tn:Int)):=d3;have d6:(w.alloc (.cells #[.slice none 0 0] 162)).drew.cell? ⟨vb,6,none⟩=some (.int .u64 (ln:Int)):=d4;refine callsIn_of_wp_marks func96 rfl trivial ?_ rfl;simp only [ntmps96,List.size_toArray,List.length_cons,List.length_nil,Nat.reduceAdd,Nat.reduceSub,Array.replicate_succ,Array.replicate_zero,List.push_toArray,List.append_toArray,List.nil_append,List.cons_append]
 gi_wp2_with fail
 refine wpIn_mono (Q:=fun e a W=>e=.normal/\∃ Lb sb,a=⟨#[.pointer (some ⟨vb,0,none⟩),undef,.slice none 0 0,.pointer (some ⟨Lb,0,none⟩),undef,undef,undef,undef,.pointer (some ⟨vb,0,none⟩),.agg #[.int .i64 0,.int .i64 0,.int .u64 0,.int .i64 0,.int .u64 0,.bool false,.int .u64 tm,.int .i64 0,.int .u64 0,.string ⟨#[]⟩],.pointer (some ⟨vb,0,none⟩),.pointer (some ⟨vb,0,none⟩),.pointer (some ⟨vb,5,none⟩),.int .u64 (tn:Int),.agg #[.int .i64 1,.int .u64 (tn:Int)],.agg #[.int .i64 3,.int .i64 1,.int .u64 (tn:Int),.int .i64 0,.int .u64 0,.bool false,.int .u64 0,.int .i64 0,.int .u64 0,.string ⟨#[]⟩],.pointer (some ⟨vb,0,none⟩),.pointer (some ⟨vb,0,none⟩),.pointer (some ⟨vb,6,none⟩),.int .u64 (ln:Int),.agg #[.int .i64 2,.int .u64 (ln:Int)],.agg #[.int .i64 3,.int .i64 2,.int .u64 (ln:Int),.int .i64 0,.int .u64 0,.bool false,.int .u64 0,.int .i64 0,.int .u64 0,.string ⟨#[]⟩],.slice (some ⟨sb,0,none⟩) 3 3,undef,undef,undef,undef,undef,undef,undef,undef,undef,undef,undef,undef,undef,undef,undef,undef,undef,undef,undef,undef,undef,undef,undef,undef,undef,undef],[]⟩/\(w.heap.size<=Lb/\Boxed W Lb 162 (.slice (some ⟨sb,0,none⟩) 3 3)/\W.ownsRow w.heap.size 135 10 (.slice (some ⟨sb,0,none⟩) 3 3) 3 [.int .i64 0,.int .i64 0,.int .u64 0,.int .i64 0,.int .u64 0,.bool false,.int .u64 tm,.int .i64 0,.int .u64 0,.string ⟨#[]⟩,.int .i64 3,.int .i64 1,.int .u64 (tn:Int),.int .i64 0,.int .u64 0,.bool false,.int .u64 0,.int .i64 0,.int .u64 0,.string ⟨#[]⟩,.int .i64 3,.int .i64 2,.int .u64 (ln:Int),.int .i64 0,.int .u64 0,.bool false,.int .u64 0,.int .i64 0,.int .u64 0,.string ⟨#[]⟩]/\Below w.heap.size w W)) ?_ ?_
 ·refine wpIn_region_any (by kernel_rfl) ?_
  change wpAnyIn _ _ _ _ _ _ _ _ _ (World.drew _)
  refine wpAnyIn_take (i:=0) (v:=.pointer (some ⟨vb,0,none⟩)) rfl rfl (by kernel_rfl) (by kernel_rfl) (by kernel_rfl) (fun _ _ _ h=>nomatch h.1) ⟨Or.inl ⟨by kernel_rfl,?_⟩,fun _=>rfl⟩ ?_
  ·intro w;go_simp
  refine wpAnyIn_take (i:=2) (v:=.pointer (some ⟨vb,0,none⟩)) rfl rfl (by kernel_rfl) (by kernel_rfl) (by kernel_rfl) (fun _ _ _ h=>nomatch h.1) ⟨Or.inl ⟨by kernel_rfl,?_⟩,fun _=>rfl⟩ ?_
  ·intro w;go_simp
  refine wpAnyIn_take (i:=3) (v:=.pointer (some ⟨vb,0,none⟩)) rfl rfl (by kernel_rfl) (by kernel_rfl) (by kernel_rfl) (fun _ _ _ h=>nomatch h.1) ⟨Or.inl ⟨by kernel_rfl,?_⟩,fun _=>rfl⟩ ?_
  ·intro w;go_simp
  refine wpAnyIn_take (i:=4) (v:=.pointer (some ⟨vb,5,none⟩)) rfl rfl (by kernel_rfl) (by kernel_rfl) (by kernel_rfl) (fun _ _ _ h=>nomatch h.1) ⟨Or.inl ⟨by kernel_rfl,?_⟩,fun _=>rfl⟩ ?_
  ·intro w;go_simp
  refine wpAnyIn_take (i:=8) (v:=.pointer (some ⟨vb,0,none⟩)) rfl rfl (by kernel_rfl) (by kernel_rfl) (by kernel_rfl) (fun _ _ _ h=>nomatch h.1) ⟨Or.inl ⟨by kernel_rfl,?_⟩,fun _=>rfl⟩ ?_
  ·intro w;go_simp
  refine wpAnyIn_take (i:=9) (v:=.pointer (some ⟨vb,0,none⟩)) rfl rfl (by kernel_rfl) (by kernel_rfl) (by kernel_rfl) (fun _ _ _ h=>nomatch h.1) ⟨Or.inl ⟨by kernel_rfl,?_⟩,fun _=>rfl⟩ ?_
  ·intro w;go_simp
  refine wpAnyIn_take (i:=10) (v:=.pointer (some ⟨vb,6,none⟩)) rfl rfl (by kernel_rfl) (by kernel_rfl) (by kernel_rfl) (fun _ _ _ h=>nomatch h.1) ⟨Or.inl ⟨by kernel_rfl,?_⟩,fun _=>rfl⟩ ?_
  ·intro w;go_simp
  refine wpAnyIn_ready (rs:=[1,5,11,15]) (by kernel_rfl) (by simp) ?_;refine AllReadyIn.cons rfl (fun K hK=>?_) (AllReadyIn.cons rfl (fun K hK=>?_) (AllReadyIn.cons rfl (fun K hK=>?_) (AllReadyIn.cons rfl (fun K hK=>?_) (AllReadyIn.nil))))
  ·go_simp
   refine(hnow _ w.drew hbd).mono ?_;rintro e V1 ⟨rfl,hb1⟩;have hB1:Below w.heap.size w V1:=hbd.trans (hb1.mono hbd.size);have q1:=ctn _ hB1;have q2:=cln _ hB1;have hz1:=hb1.size;have hB1L:=hB1.alloc hB1.size (.cells #[.slice none 0 0] 162);have q3:=ctn _ hB1L;have q4:=cln _ hB1L;refine hK _ _ ?_;clear hK K;refine wpAnyIn_ready (rs:=[5,11,15]) (by kernel_rfl) (by simp) ?_;refine AllReadyIn.cons rfl (fun K hK=>?_) (AllReadyIn.cons rfl (fun K hK=>?_) (AllReadyIn.cons rfl (fun K hK=>?_) (AllReadyIn.nil)))
   focus
    go_simp;refine hK _ _ ?_;clear hK K;refine wpAnyIn_take (i:=6) (v:=.agg #[.int .i64 1,.int .u64 (tn:Int)]) rfl rfl (by kernel_rfl) (by kernel_rfl) (by kernel_rfl) (fun _ _ _ h=>nomatch h.1) ⟨Or.inl ⟨by kernel_rfl,?_⟩,fun _=>rfl⟩ ?_
    ·intro w;go_simp
    refine wpAnyIn_take (i:=7) (v:=.agg #[.int .i64 3,.int .i64 1,.int .u64 (tn:Int),.int .i64 0,.int .u64 0,.bool false,.int .u64 0,.int .i64 0,.int .u64 0,.string ⟨#[]⟩]) rfl rfl (by kernel_rfl) (by kernel_rfl) (by kernel_rfl) (fun _ _ _ h=>nomatch h.1) ⟨Or.inl ⟨by kernel_rfl,?_⟩,fun _=>rfl⟩ ?_
    ·intro w;go_simp
    refine Xs 11 15 rfl rfl (fun K hK=>?_) fun K hK=>?_
    focus
     go_simp;refine hK _ _ ?_;clear hK K;refine wpAnyIn_take (i:=12) (v:=.agg #[.int .i64 2,.int .u64 (ln:Int)]) rfl rfl (by kernel_rfl) (by kernel_rfl) (by kernel_rfl) (fun _ _ _ h=>nomatch h.1) ⟨Or.inl ⟨by kernel_rfl,?_⟩,fun _=>rfl⟩ ?_
     ·intro w;go_simp
     refine wpAnyIn_take (i:=13) (v:=.agg #[.int .i64 3,.int .i64 2,.int .u64 (ln:Int),.int .i64 0,.int .u64 0,.bool false,.int .u64 0,.int .i64 0,.int .u64 0,.string ⟨#[]⟩]) rfl rfl (by kernel_rfl) (by kernel_rfl) (by kernel_rfl) (fun _ _ _ h=>nomatch h.1) ⟨Or.inl ⟨by kernel_rfl,?_⟩,fun _=>rfl⟩ ?_
     ·intro w;go_simp
     refine Xs 14 15 rfl rfl (fun K hK=>?_) fun K hK=>?_
     ·go_simp
      refine hK _ _ ?_;clear hK K;refine Xr 15 rfl fun K hK=>?_;go_simp;refine hK _ _ ?_;clear hK K;refine Xr 16 rfl fun K hK=>?_;go_simp;refine hK _ _ ?_;clear hK K;refine wpAnyIn_done (by kernel_rfl) ?_ _;exact⟨rfl,_,_,rfl,Xc5 hB1 rfl⟩
     go_simp;refine hK _ _ ?_;clear hK K
    rotate_left
    focus
     go_simp;refine hK _ _ ?_;clear hK K;refine Xr 11 rfl fun K hK=>?_;go_simp;refine hK _ _ ?_;clear hK K;refine wpAnyIn_take (i:=12) (v:=.agg #[.int .i64 2,.int .u64 (ln:Int)]) rfl rfl (by kernel_rfl) (by kernel_rfl) (by kernel_rfl) (fun _ _ _ h=>nomatch h.1) ⟨Or.inl ⟨by kernel_rfl,?_⟩,fun _=>rfl⟩ ?_
     ·intro w;go_simp
     refine wpAnyIn_take (i:=13) (v:=.agg #[.int .i64 3,.int .i64 2,.int .u64 (ln:Int),.int .i64 0,.int .u64 0,.bool false,.int .u64 0,.int .i64 0,.int .u64 0,.string ⟨#[]⟩]) rfl rfl (by kernel_rfl) (by kernel_rfl) (by kernel_rfl) (fun _ _ _ h=>nomatch h.1) ⟨Or.inl ⟨by kernel_rfl,?_⟩,fun _=>rfl⟩ ?_
     ·intro w;go_simp
    rotate_left
   rotate_left 2
   focus
    go_simp;refine hK _ _ ?_;clear hK K;refine wpAnyIn_take (i:=12) (v:=.agg #[.int .i64 2,.int .u64 (ln:Int)]) rfl rfl (by kernel_rfl) (by kernel_rfl) (by kernel_rfl) (fun _ _ _ h=>nomatch h.1) ⟨Or.inl ⟨by kernel_rfl,?_⟩,fun _=>rfl⟩ ?_
    ·intro w;go_simp
    refine wpAnyIn_take (i:=13) (v:=.agg #[.int .i64 3,.int .i64 2,.int .u64 (ln:Int),.int .i64 0,.int .u64 0,.bool false,.int .u64 0,.int .i64 0,.int .u64 0,.string ⟨#[]⟩]) rfl rfl (by kernel_rfl) (by kernel_rfl) (by kernel_rfl) (fun _ _ _ h=>nomatch h.1) ⟨Or.inl ⟨by kernel_rfl,?_⟩,fun _=>rfl⟩ ?_
    ·intro w;go_simp
    refine Xs 5 15 rfl rfl (fun K hK=>?_) fun K hK=>?_
    focus
     go_simp;refine hK _ _ ?_;clear hK K;refine wpAnyIn_take (i:=6) (v:=.agg #[.int .i64 1,.int .u64 (tn:Int)]) rfl rfl (by kernel_rfl) (by kernel_rfl) (by kernel_rfl) (fun _ _ _ h=>nomatch h.1) ⟨Or.inl ⟨by kernel_rfl,?_⟩,fun _=>rfl⟩ ?_
     ·intro w;go_simp
     refine wpAnyIn_take (i:=7) (v:=.agg #[.int .i64 3,.int .i64 1,.int .u64 (tn:Int),.int .i64 0,.int .u64 0,.bool false,.int .u64 0,.int .i64 0,.int .u64 0,.string ⟨#[]⟩]) rfl rfl (by kernel_rfl) (by kernel_rfl) (by kernel_rfl) (fun _ _ _ h=>nomatch h.1) ⟨Or.inl ⟨by kernel_rfl,?_⟩,fun _=>rfl⟩ ?_
     ·intro w;go_simp
     refine Xs 14 15 rfl rfl (fun K hK=>?_) fun K hK=>?_
     ·go_simp
      refine hK _ _ ?_;clear hK K;refine Xr 15 rfl fun K hK=>?_;go_simp;refine hK _ _ ?_;clear hK K;refine Xr 16 rfl fun K hK=>?_;go_simp;refine hK _ _ ?_;clear hK K;refine wpAnyIn_done (by kernel_rfl) ?_ _;exact⟨rfl,_,_,rfl,Xc5 hB1 rfl⟩
     go_simp;refine hK _ _ ?_;clear hK K
    rotate_left
    focus
     go_simp;refine hK _ _ ?_;clear hK K;refine Xr 5 rfl fun K hK=>?_;go_simp;refine hK _ _ ?_;clear hK K;refine wpAnyIn_take (i:=6) (v:=.agg #[.int .i64 1,.int .u64 (tn:Int)]) rfl rfl (by kernel_rfl) (by kernel_rfl) (by kernel_rfl) (fun _ _ _ h=>nomatch h.1) ⟨Or.inl ⟨by kernel_rfl,?_⟩,fun _=>rfl⟩ ?_
     ·intro w;go_simp
     refine wpAnyIn_take (i:=7) (v:=.agg #[.int .i64 3,.int .i64 1,.int .u64 (tn:Int),.int .i64 0,.int .u64 0,.bool false,.int .u64 0,.int .i64 0,.int .u64 0,.string ⟨#[]⟩]) rfl rfl (by kernel_rfl) (by kernel_rfl) (by kernel_rfl) (fun _ _ _ h=>nomatch h.1) ⟨Or.inl ⟨by kernel_rfl,?_⟩,fun _=>rfl⟩ ?_
     ·intro w;go_simp
    rotate_left
   rotate_left 2
   focus
    go_simp;refine hK _ _ ?_;clear hK K;refine Xs 5 11 rfl rfl (fun K hK=>?_) fun K hK=>?_
    focus
     go_simp;refine hK _ _ ?_;clear hK K;refine wpAnyIn_take (i:=6) (v:=.agg #[.int .i64 1,.int .u64 (tn:Int)]) rfl rfl (by kernel_rfl) (by kernel_rfl) (by kernel_rfl) (fun _ _ _ h=>nomatch h.1) ⟨Or.inl ⟨by kernel_rfl,?_⟩,fun _=>rfl⟩ ?_
     ·intro w;go_simp
     refine wpAnyIn_take (i:=7) (v:=.agg #[.int .i64 3,.int .i64 1,.int .u64 (tn:Int),.int .i64 0,.int .u64 0,.bool false,.int .u64 0,.int .i64 0,.int .u64 0,.string ⟨#[]⟩]) rfl rfl (by kernel_rfl) (by kernel_rfl) (by kernel_rfl) (fun _ _ _ h=>nomatch h.1) ⟨Or.inl ⟨by kernel_rfl,?_⟩,fun _=>rfl⟩ ?_
     ·intro w;go_simp
     refine Xr 11 rfl fun K hK=>?_;go_simp;refine hK _ _ ?_;clear hK K;refine wpAnyIn_take (i:=12) (v:=.agg #[.int .i64 2,.int .u64 (ln:Int)]) rfl rfl (by kernel_rfl) (by kernel_rfl) (by kernel_rfl) (fun _ _ _ h=>nomatch h.1) ⟨Or.inl ⟨by kernel_rfl,?_⟩,fun _=>rfl⟩ ?_
     ·intro w;go_simp
     refine wpAnyIn_take (i:=13) (v:=.agg #[.int .i64 3,.int .i64 2,.int .u64 (ln:Int),.int .i64 0,.int .u64 0,.bool false,.int .u64 0,.int .i64 0,.int .u64 0,.string ⟨#[]⟩]) rfl rfl (by kernel_rfl) (by kernel_rfl) (by kernel_rfl) (fun _ _ _ h=>nomatch h.1) ⟨Or.inl ⟨by kernel_rfl,?_⟩,fun _=>rfl⟩ ?_
     ·intro w;go_simp
    rotate_left
    focus
     go_simp;refine hK _ _ ?_;clear hK K;refine wpAnyIn_take (i:=12) (v:=.agg #[.int .i64 2,.int .u64 (ln:Int)]) rfl rfl (by kernel_rfl) (by kernel_rfl) (by kernel_rfl) (fun _ _ _ h=>nomatch h.1) ⟨Or.inl ⟨by kernel_rfl,?_⟩,fun _=>rfl⟩ ?_
     ·intro w;go_simp
     refine wpAnyIn_take (i:=13) (v:=.agg #[.int .i64 3,.int .i64 2,.int .u64 (ln:Int),.int .i64 0,.int .u64 0,.bool false,.int .u64 0,.int .i64 0,.int .u64 0,.string ⟨#[]⟩]) rfl rfl (by kernel_rfl) (by kernel_rfl) (by kernel_rfl) (fun _ _ _ h=>nomatch h.1) ⟨Or.inl ⟨by kernel_rfl,?_⟩,fun _=>rfl⟩ ?_
     ·intro w;go_simp
     refine Xr 5 rfl fun K hK=>?_;go_simp;refine hK _ _ ?_;clear hK K;refine wpAnyIn_take (i:=6) (v:=.agg #[.int .i64 1,.int .u64 (tn:Int)]) rfl rfl (by kernel_rfl) (by kernel_rfl) (by kernel_rfl) (fun _ _ _ h=>nomatch h.1) ⟨Or.inl ⟨by kernel_rfl,?_⟩,fun _=>rfl⟩ ?_
     ·intro w;go_simp
     refine wpAnyIn_take (i:=7) (v:=.agg #[.int .i64 3,.int .i64 1,.int .u64 (tn:Int),.int .i64 0,.int .u64 0,.bool false,.int .u64 0,.int .i64 0,.int .u64 0,.string ⟨#[]⟩]) rfl rfl (by kernel_rfl) (by kernel_rfl) (by kernel_rfl) (fun _ _ _ h=>nomatch h.1) ⟨Or.inl ⟨by kernel_rfl,?_⟩,fun _=>rfl⟩ ?_
     ·intro w;go_simp
    rotate_left
   rotate_left 2
   all_goals
    refine Xr 14 rfl fun K hK=>?_;go_simp;refine hK _ _ ?_;clear hK K;refine Xr 16 rfl fun K hK=>?_;go_simp;refine hK _ _ ?_;clear hK K;refine wpAnyIn_done (by kernel_rfl) ?_ _;exact⟨rfl,_,_,rfl,Xe8 hB1 rfl⟩
  ·go_simp
   refine hK _ _ ?_;clear hK K;refine wpAnyIn_take (i:=6) (v:=.agg #[.int .i64 1,.int .u64 (tn:Int)]) rfl rfl (by kernel_rfl) (by kernel_rfl) (by kernel_rfl) (fun _ _ _ h=>nomatch h.1) ⟨Or.inl ⟨by kernel_rfl,?_⟩,fun _=>rfl⟩ ?_
   ·intro w;go_simp
   refine wpAnyIn_take (i:=7) (v:=.agg #[.int .i64 3,.int .i64 1,.int .u64 (tn:Int),.int .i64 0,.int .u64 0,.bool false,.int .u64 0,.int .i64 0,.int .u64 0,.string ⟨#[]⟩]) rfl rfl (by kernel_rfl) (by kernel_rfl) (by kernel_rfl) (fun _ _ _ h=>nomatch h.1) ⟨Or.inl ⟨by kernel_rfl,?_⟩,fun _=>rfl⟩ ?_
   ·intro w;go_simp
   refine wpAnyIn_ready (rs:=[1,11,15]) (by kernel_rfl) (by simp) ?_;refine AllReadyIn.cons rfl (fun K hK=>?_) (AllReadyIn.cons rfl (fun K hK=>?_) (AllReadyIn.cons rfl (fun K hK=>?_) (AllReadyIn.nil)))
   ·go_simp
    refine(hnow _ w.drew hbd).mono ?_;rintro e V1 ⟨rfl,hb1⟩;have hB1:Below w.heap.size w V1:=hbd.trans (hb1.mono hbd.size);have q1:=ctn _ hB1;have q2:=cln _ hB1;have hz1:=hb1.size;have hB1L:=hB1.alloc hB1.size (.cells #[.slice none 0 0] 162);have q3:=ctn _ hB1L;have q4:=cln _ hB1L;refine hK _ _ ?_;clear hK K;refine Xs 11 15 rfl rfl (fun K hK=>?_) fun K hK=>?_
    focus
     go_simp;refine hK _ _ ?_;clear hK K;refine wpAnyIn_take (i:=12) (v:=.agg #[.int .i64 2,.int .u64 (ln:Int)]) rfl rfl (by kernel_rfl) (by kernel_rfl) (by kernel_rfl) (fun _ _ _ h=>nomatch h.1) ⟨Or.inl ⟨by kernel_rfl,?_⟩,fun _=>rfl⟩ ?_
     ·intro w;go_simp
     refine wpAnyIn_take (i:=13) (v:=.agg #[.int .i64 3,.int .i64 2,.int .u64 (ln:Int),.int .i64 0,.int .u64 0,.bool false,.int .u64 0,.int .i64 0,.int .u64 0,.string ⟨#[]⟩]) rfl rfl (by kernel_rfl) (by kernel_rfl) (by kernel_rfl) (fun _ _ _ h=>nomatch h.1) ⟨Or.inl ⟨by kernel_rfl,?_⟩,fun _=>rfl⟩ ?_
     ·intro w;go_simp
     refine Xs 14 15 rfl rfl (fun K hK=>?_) fun K hK=>?_
     ·go_simp
      refine hK _ _ ?_;clear hK K;refine Xr 15 rfl fun K hK=>?_;go_simp;refine hK _ _ ?_;clear hK K;refine Xr 16 rfl fun K hK=>?_;go_simp;refine hK _ _ ?_;clear hK K;refine wpAnyIn_done (by kernel_rfl) ?_ _;exact⟨rfl,_,_,rfl,Xc5 hB1 rfl⟩
     go_simp;refine hK _ _ ?_;clear hK K
    rotate_left
    focus
     go_simp;refine hK _ _ ?_;clear hK K;refine Xr 11 rfl fun K hK=>?_;go_simp;refine hK _ _ ?_;clear hK K;refine wpAnyIn_take (i:=12) (v:=.agg #[.int .i64 2,.int .u64 (ln:Int)]) rfl rfl (by kernel_rfl) (by kernel_rfl) (by kernel_rfl) (fun _ _ _ h=>nomatch h.1) ⟨Or.inl ⟨by kernel_rfl,?_⟩,fun _=>rfl⟩ ?_
     ·intro w;go_simp
     refine wpAnyIn_take (i:=13) (v:=.agg #[.int .i64 3,.int .i64 2,.int .u64 (ln:Int),.int .i64 0,.int .u64 0,.bool false,.int .u64 0,.int .i64 0,.int .u64 0,.string ⟨#[]⟩]) rfl rfl (by kernel_rfl) (by kernel_rfl) (by kernel_rfl) (fun _ _ _ h=>nomatch h.1) ⟨Or.inl ⟨by kernel_rfl,?_⟩,fun _=>rfl⟩ ?_
     ·intro w;go_simp
    rotate_left
    all_goals
     refine Xr 14 rfl fun K hK=>?_;go_simp;refine hK _ _ ?_;clear hK K;refine Xr 16 rfl fun K hK=>?_;go_simp;refine hK _ _ ?_;clear hK K;refine wpAnyIn_done (by kernel_rfl) ?_ _;exact⟨rfl,_,_,rfl,Xe8 hB1 rfl⟩
   ·go_simp
    refine hK _ _ ?_;clear hK K;refine wpAnyIn_take (i:=12) (v:=.agg #[.int .i64 2,.int .u64 (ln:Int)]) rfl rfl (by kernel_rfl) (by kernel_rfl) (by kernel_rfl) (fun _ _ _ h=>nomatch h.1) ⟨Or.inl ⟨by kernel_rfl,?_⟩,fun _=>rfl⟩ ?_
    ·intro w;go_simp
    refine wpAnyIn_take (i:=13) (v:=.agg #[.int .i64 3,.int .i64 2,.int .u64 (ln:Int),.int .i64 0,.int .u64 0,.bool false,.int .u64 0,.int .i64 0,.int .u64 0,.string ⟨#[]⟩]) rfl rfl (by kernel_rfl) (by kernel_rfl) (by kernel_rfl) (fun _ _ _ h=>nomatch h.1) ⟨Or.inl ⟨by kernel_rfl,?_⟩,fun _=>rfl⟩ ?_
    ·intro w;go_simp
    refine Xs 1 15 rfl rfl (fun K hK=>?_) fun K hK=>?_
    ·go_simp
     refine(hnow _ w.drew hbd).mono ?_;rintro e V1 ⟨rfl,hb1⟩;have hB1:Below w.heap.size w V1:=hbd.trans (hb1.mono hbd.size);have q1:=ctn _ hB1;have q2:=cln _ hB1;have hz1:=hb1.size;have hB1L:=hB1.alloc hB1.size (.cells #[.slice none 0 0] 162);have q3:=ctn _ hB1L;have q4:=cln _ hB1L;refine hK _ _ ?_;clear hK K;refine Xs 14 15 rfl rfl (fun K hK=>?_) fun K hK=>?_
     ·go_simp
      refine hK _ _ ?_;clear hK K;refine Xr 15 rfl fun K hK=>?_;go_simp;refine hK _ _ ?_;clear hK K;refine Xr 16 rfl fun K hK=>?_;go_simp;refine hK _ _ ?_;clear hK K;refine wpAnyIn_done (by kernel_rfl) ?_ _;exact⟨rfl,_,_,rfl,Xc5 hB1 rfl⟩
     go_simp;refine hK _ _ ?_;clear hK K;refine Xr 14 rfl fun K hK=>?_;go_simp;refine hK _ _ ?_;clear hK K;refine Xr 16 rfl fun K hK=>?_;go_simp;refine hK _ _ ?_;clear hK K;refine wpAnyIn_done (by kernel_rfl) ?_ _;exact⟨rfl,_,_,rfl,Xe8 hB1 rfl⟩
    go_simp;refine hK _ _ ?_;clear hK K;refine Xr 1 rfl fun K hK=>?_;go_simp;refine(hnow _ (w.drew.alloc (.cells #[.slice none 0 0] 162)) hbL).mono ?_;rintro e V1 ⟨rfl,hb1⟩;have hB1:Below w.heap.size w V1:=hbL.trans (hb1.mono hbL.size);have q1:=ctn _ hB1;have q2:=cln _ hB1;have hz1:=hb1.size;have bL1:=bL0.below hb1 bL0.lt;have k1:=bL1.cell 0 (v:=.slice none 0 0) rfl;have k1f:=bL1.frozen 0;have lL1:=bL1.lt;have bL2:=bL1.alloc (.cells #[.int .i64 0,.int .i64 0,.int .u64 0,.int .i64 0,.int .u64 0,.bool false,.int .u64 tm,.int .i64 0,.int .u64 0,.string ⟨#[]⟩,.int .i64 3,.int .i64 1,.int .u64 (tn:Int),.int .i64 0,.int .u64 0,.bool false,.int .u64 0,.int .i64 0,.int .u64 0,.string ⟨#[]⟩,.int .i64 3,.int .i64 2,.int .u64 (ln:Int),.int .i64 0,.int .u64 0,.bool false,.int .u64 0,.int .i64 0,.int .u64 0,.string ⟨#[]⟩] 135);have k2:=bL2.cell 0 (v:=.slice none 0 0) rfl;have k2f:=bL2.frozen 0;refine hK _ _ ?_;clear hK K;refine Xr 14 rfl fun K hK=>?_;go_simp;refine hK _ _ ?_;clear hK K;refine Xr 16 rfl fun K hK=>?_;go_simp;refine hK _ _ ?_;clear hK K;refine wpAnyIn_done (by kernel_rfl) ?_ _;exact⟨rfl,_,_,rfl,Xe9 hB1 (Nat.le_refl _) bL1 rfl⟩
   go_simp;refine hK _ _ ?_;clear hK K;refine Xs 1 11 rfl rfl (fun K hK=>?_) fun K hK=>?_
   focus
    go_simp;refine(hnow _ (w.drew.alloc (.cells #[.slice none 0 0] 162)) hbL).mono ?_;rintro e V1 ⟨rfl,hb1⟩;have hB1:Below w.heap.size w V1:=hbL.trans (hb1.mono hbL.size);have q1:=ctn _ hB1;have q2:=cln _ hB1;have hz1:=hb1.size;have bL1:=bL0.below hb1 bL0.lt;have k1:=bL1.cell 0 (v:=.slice none 0 0) rfl;have k1f:=bL1.frozen 0;have lL1:=bL1.lt;have bL2:=bL1.alloc (.cells #[.int .i64 0,.int .i64 0,.int .u64 0,.int .i64 0,.int .u64 0,.bool false,.int .u64 tm,.int .i64 0,.int .u64 0,.string ⟨#[]⟩,.int .i64 3,.int .i64 1,.int .u64 (tn:Int),.int .i64 0,.int .u64 0,.bool false,.int .u64 0,.int .i64 0,.int .u64 0,.string ⟨#[]⟩,.int .i64 3,.int .i64 2,.int .u64 (ln:Int),.int .i64 0,.int .u64 0,.bool false,.int .u64 0,.int .i64 0,.int .u64 0,.string ⟨#[]⟩] 135);have k2:=bL2.cell 0 (v:=.slice none 0 0) rfl;have k2f:=bL2.frozen 0;refine hK _ _ ?_;clear hK K;refine Xr 11 rfl fun K hK=>?_;go_simp;refine hK _ _ ?_;clear hK K;refine wpAnyIn_take (i:=12) (v:=.agg #[.int .i64 2,.int .u64 (ln:Int)]) rfl rfl (by kernel_rfl) (by kernel_rfl) (by kernel_rfl) (fun _ _ _ h=>nomatch h.1) ⟨Or.inl ⟨by kernel_rfl,?_⟩,fun _=>rfl⟩ ?_
    ·intro w;go_simp
    refine wpAnyIn_take (i:=13) (v:=.agg #[.int .i64 3,.int .i64 2,.int .u64 (ln:Int),.int .i64 0,.int .u64 0,.bool false,.int .u64 0,.int .i64 0,.int .u64 0,.string ⟨#[]⟩]) rfl rfl (by kernel_rfl) (by kernel_rfl) (by kernel_rfl) (fun _ _ _ h=>nomatch h.1) ⟨Or.inl ⟨by kernel_rfl,?_⟩,fun _=>rfl⟩ ?_
    ·intro w;go_simp
   rotate_left
   focus
    go_simp;refine hK _ _ ?_;clear hK K;refine wpAnyIn_take (i:=12) (v:=.agg #[.int .i64 2,.int .u64 (ln:Int)]) rfl rfl (by kernel_rfl) (by kernel_rfl) (by kernel_rfl) (fun _ _ _ h=>nomatch h.1) ⟨Or.inl ⟨by kernel_rfl,?_⟩,fun _=>rfl⟩ ?_
    ·intro w;go_simp
    refine wpAnyIn_take (i:=13) (v:=.agg #[.int .i64 3,.int .i64 2,.int .u64 (ln:Int),.int .i64 0,.int .u64 0,.bool false,.int .u64 0,.int .i64 0,.int .u64 0,.string ⟨#[]⟩]) rfl rfl (by kernel_rfl) (by kernel_rfl) (by kernel_rfl) (fun _ _ _ h=>nomatch h.1) ⟨Or.inl ⟨by kernel_rfl,?_⟩,fun _=>rfl⟩ ?_
    ·intro w;go_simp
    refine Xr 1 rfl fun K hK=>?_;go_simp;refine(hnow _ (w.drew.alloc (.cells #[.slice none 0 0] 162)) hbL).mono ?_;rintro e V1 ⟨rfl,hb1⟩;have hB1:Below w.heap.size w V1:=hbL.trans (hb1.mono hbL.size);have q1:=ctn _ hB1;have q2:=cln _ hB1;have hz1:=hb1.size;have bL1:=bL0.below hb1 bL0.lt;have k1:=bL1.cell 0 (v:=.slice none 0 0) rfl;have k1f:=bL1.frozen 0;have lL1:=bL1.lt;have bL2:=bL1.alloc (.cells #[.int .i64 0,.int .i64 0,.int .u64 0,.int .i64 0,.int .u64 0,.bool false,.int .u64 tm,.int .i64 0,.int .u64 0,.string ⟨#[]⟩,.int .i64 3,.int .i64 1,.int .u64 (tn:Int),.int .i64 0,.int .u64 0,.bool false,.int .u64 0,.int .i64 0,.int .u64 0,.string ⟨#[]⟩,.int .i64 3,.int .i64 2,.int .u64 (ln:Int),.int .i64 0,.int .u64 0,.bool false,.int .u64 0,.int .i64 0,.int .u64 0,.string ⟨#[]⟩] 135);have k2:=bL2.cell 0 (v:=.slice none 0 0) rfl;have k2f:=bL2.frozen 0;refine hK _ _ ?_;clear hK K
   rotate_left
   all_goals
    refine Xr 14 rfl fun K hK=>?_;go_simp;refine hK _ _ ?_;clear hK K;refine Xr 16 rfl fun K hK=>?_;go_simp;refine hK _ _ ?_;clear hK K;refine wpAnyIn_done (by kernel_rfl) ?_ _;exact⟨rfl,_,_,rfl,Xe9 hB1 (Nat.le_refl _) bL1 rfl⟩
  ·go_simp
   refine hK _ _ ?_;clear hK K;refine wpAnyIn_take (i:=12) (v:=.agg #[.int .i64 2,.int .u64 (ln:Int)]) rfl rfl (by kernel_rfl) (by kernel_rfl) (by kernel_rfl) (fun _ _ _ h=>nomatch h.1) ⟨Or.inl ⟨by kernel_rfl,?_⟩,fun _=>rfl⟩ ?_
   ·intro w;go_simp
   refine wpAnyIn_take (i:=13) (v:=.agg #[.int .i64 3,.int .i64 2,.int .u64 (ln:Int),.int .i64 0,.int .u64 0,.bool false,.int .u64 0,.int .i64 0,.int .u64 0,.string ⟨#[]⟩]) rfl rfl (by kernel_rfl) (by kernel_rfl) (by kernel_rfl) (fun _ _ _ h=>nomatch h.1) ⟨Or.inl ⟨by kernel_rfl,?_⟩,fun _=>rfl⟩ ?_
   ·intro w;go_simp
   refine wpAnyIn_ready (rs:=[1,5,15]) (by kernel_rfl) (by simp) ?_;refine AllReadyIn.cons rfl (fun K hK=>?_) (AllReadyIn.cons rfl (fun K hK=>?_) (AllReadyIn.cons rfl (fun K hK=>?_) (AllReadyIn.nil)))
   ·go_simp
    refine(hnow _ w.drew hbd).mono ?_;rintro e V1 ⟨rfl,hb1⟩;have hB1:Below w.heap.size w V1:=hbd.trans (hb1.mono hbd.size);have q1:=ctn _ hB1;have q2:=cln _ hB1;have hz1:=hb1.size;have hB1L:=hB1.alloc hB1.size (.cells #[.slice none 0 0] 162);have q3:=ctn _ hB1L;have q4:=cln _ hB1L;refine hK _ _ ?_;clear hK K;refine Xs 5 15 rfl rfl (fun K hK=>?_) fun K hK=>?_
    focus
     go_simp;refine hK _ _ ?_;clear hK K;refine wpAnyIn_take (i:=6) (v:=.agg #[.int .i64 1,.int .u64 (tn:Int)]) rfl rfl (by kernel_rfl) (by kernel_rfl) (by kernel_rfl) (fun _ _ _ h=>nomatch h.1) ⟨Or.inl ⟨by kernel_rfl,?_⟩,fun _=>rfl⟩ ?_
     ·intro w;go_simp
     refine wpAnyIn_take (i:=7) (v:=.agg #[.int .i64 3,.int .i64 1,.int .u64 (tn:Int),.int .i64 0,.int .u64 0,.bool false,.int .u64 0,.int .i64 0,.int .u64 0,.string ⟨#[]⟩]) rfl rfl (by kernel_rfl) (by kernel_rfl) (by kernel_rfl) (fun _ _ _ h=>nomatch h.1) ⟨Or.inl ⟨by kernel_rfl,?_⟩,fun _=>rfl⟩ ?_
     ·intro w;go_simp
     refine Xs 14 15 rfl rfl (fun K hK=>?_) fun K hK=>?_
     ·go_simp
      refine hK _ _ ?_;clear hK K;refine Xr 15 rfl fun K hK=>?_;go_simp;refine hK _ _ ?_;clear hK K;refine Xr 16 rfl fun K hK=>?_;go_simp;refine hK _ _ ?_;clear hK K;refine wpAnyIn_done (by kernel_rfl) ?_ _;exact⟨rfl,_,_,rfl,Xc5 hB1 rfl⟩
     go_simp;refine hK _ _ ?_;clear hK K
    rotate_left
    focus
     go_simp;refine hK _ _ ?_;clear hK K;refine Xr 5 rfl fun K hK=>?_;go_simp;refine hK _ _ ?_;clear hK K;refine wpAnyIn_take (i:=6) (v:=.agg #[.int .i64 1,.int .u64 (tn:Int)]) rfl rfl (by kernel_rfl) (by kernel_rfl) (by kernel_rfl) (fun _ _ _ h=>nomatch h.1) ⟨Or.inl ⟨by kernel_rfl,?_⟩,fun _=>rfl⟩ ?_
     ·intro w;go_simp
     refine wpAnyIn_take (i:=7) (v:=.agg #[.int .i64 3,.int .i64 1,.int .u64 (tn:Int),.int .i64 0,.int .u64 0,.bool false,.int .u64 0,.int .i64 0,.int .u64 0,.string ⟨#[]⟩]) rfl rfl (by kernel_rfl) (by kernel_rfl) (by kernel_rfl) (fun _ _ _ h=>nomatch h.1) ⟨Or.inl ⟨by kernel_rfl,?_⟩,fun _=>rfl⟩ ?_
     ·intro w;go_simp
    rotate_left
    all_goals
     refine Xr 14 rfl fun K hK=>?_;go_simp;refine hK _ _ ?_;clear hK K;refine Xr 16 rfl fun K hK=>?_;go_simp;refine hK _ _ ?_;clear hK K;refine wpAnyIn_done (by kernel_rfl) ?_ _;exact⟨rfl,_,_,rfl,Xe8 hB1 rfl⟩
   ·go_simp
    refine hK _ _ ?_;clear hK K;refine wpAnyIn_take (i:=6) (v:=.agg #[.int .i64 1,.int .u64 (tn:Int)]) rfl rfl (by kernel_rfl) (by kernel_rfl) (by kernel_rfl) (fun _ _ _ h=>nomatch h.1) ⟨Or.inl ⟨by kernel_rfl,?_⟩,fun _=>rfl⟩ ?_
    ·intro w;go_simp
    refine wpAnyIn_take (i:=7) (v:=.agg #[.int .i64 3,.int .i64 1,.int .u64 (tn:Int),.int .i64 0,.int .u64 0,.bool false,.int .u64 0,.int .i64 0,.int .u64 0,.string ⟨#[]⟩]) rfl rfl (by kernel_rfl) (by kernel_rfl) (by kernel_rfl) (fun _ _ _ h=>nomatch h.1) ⟨Or.inl ⟨by kernel_rfl,?_⟩,fun _=>rfl⟩ ?_
    ·intro w;go_simp
    refine Xs 1 15 rfl rfl (fun K hK=>?_) fun K hK=>?_
    ·go_simp
     refine(hnow _ w.drew hbd).mono ?_;rintro e V1 ⟨rfl,hb1⟩;have hB1:Below w.heap.size w V1:=hbd.trans (hb1.mono hbd.size);have q1:=ctn _ hB1;have q2:=cln _ hB1;have hz1:=hb1.size;have hB1L:=hB1.alloc hB1.size (.cells #[.slice none 0 0] 162);have q3:=ctn _ hB1L;have q4:=cln _ hB1L;refine hK _ _ ?_;clear hK K;refine Xs 14 15 rfl rfl (fun K hK=>?_) fun K hK=>?_
     ·go_simp
      refine hK _ _ ?_;clear hK K;refine Xr 15 rfl fun K hK=>?_;go_simp;refine hK _ _ ?_;clear hK K;refine Xr 16 rfl fun K hK=>?_;go_simp;refine hK _ _ ?_;clear hK K;refine wpAnyIn_done (by kernel_rfl) ?_ _;exact⟨rfl,_,_,rfl,Xc5 hB1 rfl⟩
     go_simp;refine hK _ _ ?_;clear hK K;refine Xr 14 rfl fun K hK=>?_;go_simp;refine hK _ _ ?_;clear hK K;refine Xr 16 rfl fun K hK=>?_;go_simp;refine hK _ _ ?_;clear hK K;refine wpAnyIn_done (by kernel_rfl) ?_ _;exact⟨rfl,_,_,rfl,Xe8 hB1 rfl⟩
    go_simp;refine hK _ _ ?_;clear hK K;refine Xr 1 rfl fun K hK=>?_;go_simp;refine(hnow _ (w.drew.alloc (.cells #[.slice none 0 0] 162)) hbL).mono ?_;rintro e V1 ⟨rfl,hb1⟩;have hB1:Below w.heap.size w V1:=hbL.trans (hb1.mono hbL.size);have q1:=ctn _ hB1;have q2:=cln _ hB1;have hz1:=hb1.size;have bL1:=bL0.below hb1 bL0.lt;have k1:=bL1.cell 0 (v:=.slice none 0 0) rfl;have k1f:=bL1.frozen 0;have lL1:=bL1.lt;have bL2:=bL1.alloc (.cells #[.int .i64 0,.int .i64 0,.int .u64 0,.int .i64 0,.int .u64 0,.bool false,.int .u64 tm,.int .i64 0,.int .u64 0,.string ⟨#[]⟩,.int .i64 3,.int .i64 1,.int .u64 (tn:Int),.int .i64 0,.int .u64 0,.bool false,.int .u64 0,.int .i64 0,.int .u64 0,.string ⟨#[]⟩,.int .i64 3,.int .i64 2,.int .u64 (ln:Int),.int .i64 0,.int .u64 0,.bool false,.int .u64 0,.int .i64 0,.int .u64 0,.string ⟨#[]⟩] 135);have k2:=bL2.cell 0 (v:=.slice none 0 0) rfl;have k2f:=bL2.frozen 0;refine hK _ _ ?_;clear hK K;refine Xr 14 rfl fun K hK=>?_;go_simp;refine hK _ _ ?_;clear hK K;refine Xr 16 rfl fun K hK=>?_;go_simp;refine hK _ _ ?_;clear hK K;refine wpAnyIn_done (by kernel_rfl) ?_ _;exact⟨rfl,_,_,rfl,Xe9 hB1 (Nat.le_refl _) bL1 rfl⟩
   go_simp;refine hK _ _ ?_;clear hK K;refine Xs 1 5 rfl rfl (fun K hK=>?_) fun K hK=>?_
   focus
    go_simp;refine(hnow _ (w.drew.alloc (.cells #[.slice none 0 0] 162)) hbL).mono ?_;rintro e V1 ⟨rfl,hb1⟩;have hB1:Below w.heap.size w V1:=hbL.trans (hb1.mono hbL.size);have q1:=ctn _ hB1;have q2:=cln _ hB1;have hz1:=hb1.size;have bL1:=bL0.below hb1 bL0.lt;have k1:=bL1.cell 0 (v:=.slice none 0 0) rfl;have k1f:=bL1.frozen 0;have lL1:=bL1.lt;have bL2:=bL1.alloc (.cells #[.int .i64 0,.int .i64 0,.int .u64 0,.int .i64 0,.int .u64 0,.bool false,.int .u64 tm,.int .i64 0,.int .u64 0,.string ⟨#[]⟩,.int .i64 3,.int .i64 1,.int .u64 (tn:Int),.int .i64 0,.int .u64 0,.bool false,.int .u64 0,.int .i64 0,.int .u64 0,.string ⟨#[]⟩,.int .i64 3,.int .i64 2,.int .u64 (ln:Int),.int .i64 0,.int .u64 0,.bool false,.int .u64 0,.int .i64 0,.int .u64 0,.string ⟨#[]⟩] 135);have k2:=bL2.cell 0 (v:=.slice none 0 0) rfl;have k2f:=bL2.frozen 0;refine hK _ _ ?_;clear hK K;refine Xr 5 rfl fun K hK=>?_;go_simp;refine hK _ _ ?_;clear hK K;refine wpAnyIn_take (i:=6) (v:=.agg #[.int .i64 1,.int .u64 (tn:Int)]) rfl rfl (by kernel_rfl) (by kernel_rfl) (by kernel_rfl) (fun _ _ _ h=>nomatch h.1) ⟨Or.inl ⟨by kernel_rfl,?_⟩,fun _=>rfl⟩ ?_
    ·intro w;go_simp
    refine wpAnyIn_take (i:=7) (v:=.agg #[.int .i64 3,.int .i64 1,.int .u64 (tn:Int),.int .i64 0,.int .u64 0,.bool false,.int .u64 0,.int .i64 0,.int .u64 0,.string ⟨#[]⟩]) rfl rfl (by kernel_rfl) (by kernel_rfl) (by kernel_rfl) (fun _ _ _ h=>nomatch h.1) ⟨Or.inl ⟨by kernel_rfl,?_⟩,fun _=>rfl⟩ ?_
    ·intro w;go_simp
   rotate_left
   focus
    go_simp;refine hK _ _ ?_;clear hK K;refine wpAnyIn_take (i:=6) (v:=.agg #[.int .i64 1,.int .u64 (tn:Int)]) rfl rfl (by kernel_rfl) (by kernel_rfl) (by kernel_rfl) (fun _ _ _ h=>nomatch h.1) ⟨Or.inl ⟨by kernel_rfl,?_⟩,fun _=>rfl⟩ ?_
    ·intro w;go_simp
    refine wpAnyIn_take (i:=7) (v:=.agg #[.int .i64 3,.int .i64 1,.int .u64 (tn:Int),.int .i64 0,.int .u64 0,.bool false,.int .u64 0,.int .i64 0,.int .u64 0,.string ⟨#[]⟩]) rfl rfl (by kernel_rfl) (by kernel_rfl) (by kernel_rfl) (fun _ _ _ h=>nomatch h.1) ⟨Or.inl ⟨by kernel_rfl,?_⟩,fun _=>rfl⟩ ?_
    ·intro w;go_simp
    refine Xr 1 rfl fun K hK=>?_;go_simp;refine(hnow _ (w.drew.alloc (.cells #[.slice none 0 0] 162)) hbL).mono ?_;rintro e V1 ⟨rfl,hb1⟩;have hB1:Below w.heap.size w V1:=hbL.trans (hb1.mono hbL.size);have q1:=ctn _ hB1;have q2:=cln _ hB1;have hz1:=hb1.size;have bL1:=bL0.below hb1 bL0.lt;have k1:=bL1.cell 0 (v:=.slice none 0 0) rfl;have k1f:=bL1.frozen 0;have lL1:=bL1.lt;have bL2:=bL1.alloc (.cells #[.int .i64 0,.int .i64 0,.int .u64 0,.int .i64 0,.int .u64 0,.bool false,.int .u64 tm,.int .i64 0,.int .u64 0,.string ⟨#[]⟩,.int .i64 3,.int .i64 1,.int .u64 (tn:Int),.int .i64 0,.int .u64 0,.bool false,.int .u64 0,.int .i64 0,.int .u64 0,.string ⟨#[]⟩,.int .i64 3,.int .i64 2,.int .u64 (ln:Int),.int .i64 0,.int .u64 0,.bool false,.int .u64 0,.int .i64 0,.int .u64 0,.string ⟨#[]⟩] 135);have k2:=bL2.cell 0 (v:=.slice none 0 0) rfl;have k2f:=bL2.frozen 0;refine hK _ _ ?_;clear hK K
   rotate_left
   all_goals
    refine Xr 14 rfl fun K hK=>?_;go_simp;refine hK _ _ ?_;clear hK K;refine Xr 16 rfl fun K hK=>?_;go_simp;refine hK _ _ ?_;clear hK K;refine wpAnyIn_done (by kernel_rfl) ?_ _;exact⟨rfl,_,_,rfl,Xe9 hB1 (Nat.le_refl _) bL1 rfl⟩
  go_simp;refine hK _ _ ?_;clear hK K;refine wpAnyIn_ready (rs:=[1,5,11]) (by kernel_rfl) (by simp) ?_;refine AllReadyIn.cons rfl (fun K hK=>?_) (AllReadyIn.cons rfl (fun K hK=>?_) (AllReadyIn.cons rfl (fun K hK=>?_) (AllReadyIn.nil)))
  focus
   go_simp;refine(hnow _ (w.drew.alloc (.cells #[.slice none 0 0] 162)) hbL).mono ?_;rintro e V1 ⟨rfl,hb1⟩;have hB1:Below w.heap.size w V1:=hbL.trans (hb1.mono hbL.size);have q1:=ctn _ hB1;have q2:=cln _ hB1;have hz1:=hb1.size;have bL1:=bL0.below hb1 bL0.lt;have k1:=bL1.cell 0 (v:=.slice none 0 0) rfl;have k1f:=bL1.frozen 0;have lL1:=bL1.lt;have bL2:=bL1.alloc (.cells #[.int .i64 0,.int .i64 0,.int .u64 0,.int .i64 0,.int .u64 0,.bool false,.int .u64 tm,.int .i64 0,.int .u64 0,.string ⟨#[]⟩,.int .i64 3,.int .i64 1,.int .u64 (tn:Int),.int .i64 0,.int .u64 0,.bool false,.int .u64 0,.int .i64 0,.int .u64 0,.string ⟨#[]⟩,.int .i64 3,.int .i64 2,.int .u64 (ln:Int),.int .i64 0,.int .u64 0,.bool false,.int .u64 0,.int .i64 0,.int .u64 0,.string ⟨#[]⟩] 135);have k2:=bL2.cell 0 (v:=.slice none 0 0) rfl;have k2f:=bL2.frozen 0;refine hK _ _ ?_;clear hK K;refine Xs 5 11 rfl rfl (fun K hK=>?_) fun K hK=>?_
   focus
    go_simp;refine hK _ _ ?_;clear hK K;refine wpAnyIn_take (i:=6) (v:=.agg #[.int .i64 1,.int .u64 (tn:Int)]) rfl rfl (by kernel_rfl) (by kernel_rfl) (by kernel_rfl) (fun _ _ _ h=>nomatch h.1) ⟨Or.inl ⟨by kernel_rfl,?_⟩,fun _=>rfl⟩ ?_
    ·intro w;go_simp
    refine wpAnyIn_take (i:=7) (v:=.agg #[.int .i64 3,.int .i64 1,.int .u64 (tn:Int),.int .i64 0,.int .u64 0,.bool false,.int .u64 0,.int .i64 0,.int .u64 0,.string ⟨#[]⟩]) rfl rfl (by kernel_rfl) (by kernel_rfl) (by kernel_rfl) (fun _ _ _ h=>nomatch h.1) ⟨Or.inl ⟨by kernel_rfl,?_⟩,fun _=>rfl⟩ ?_
    ·intro w;go_simp
    refine Xr 11 rfl fun K hK=>?_;go_simp;refine hK _ _ ?_;clear hK K;refine wpAnyIn_take (i:=12) (v:=.agg #[.int .i64 2,.int .u64 (ln:Int)]) rfl rfl (by kernel_rfl) (by kernel_rfl) (by kernel_rfl) (fun _ _ _ h=>nomatch h.1) ⟨Or.inl ⟨by kernel_rfl,?_⟩,fun _=>rfl⟩ ?_
    ·intro w;go_simp
    refine wpAnyIn_take (i:=13) (v:=.agg #[.int .i64 3,.int .i64 2,.int .u64 (ln:Int),.int .i64 0,.int .u64 0,.bool false,.int .u64 0,.int .i64 0,.int .u64 0,.string ⟨#[]⟩]) rfl rfl (by kernel_rfl) (by kernel_rfl) (by kernel_rfl) (fun _ _ _ h=>nomatch h.1) ⟨Or.inl ⟨by kernel_rfl,?_⟩,fun _=>rfl⟩ ?_
    ·intro w;go_simp
   rotate_left
   focus
    go_simp;refine hK _ _ ?_;clear hK K;refine wpAnyIn_take (i:=12) (v:=.agg #[.int .i64 2,.int .u64 (ln:Int)]) rfl rfl (by kernel_rfl) (by kernel_rfl) (by kernel_rfl) (fun _ _ _ h=>nomatch h.1) ⟨Or.inl ⟨by kernel_rfl,?_⟩,fun _=>rfl⟩ ?_
    ·intro w;go_simp
    refine wpAnyIn_take (i:=13) (v:=.agg #[.int .i64 3,.int .i64 2,.int .u64 (ln:Int),.int .i64 0,.int .u64 0,.bool false,.int .u64 0,.int .i64 0,.int .u64 0,.string ⟨#[]⟩]) rfl rfl (by kernel_rfl) (by kernel_rfl) (by kernel_rfl) (fun _ _ _ h=>nomatch h.1) ⟨Or.inl ⟨by kernel_rfl,?_⟩,fun _=>rfl⟩ ?_
    ·intro w;go_simp
    refine Xr 5 rfl fun K hK=>?_;go_simp;refine hK _ _ ?_;clear hK K;refine wpAnyIn_take (i:=6) (v:=.agg #[.int .i64 1,.int .u64 (tn:Int)]) rfl rfl (by kernel_rfl) (by kernel_rfl) (by kernel_rfl) (fun _ _ _ h=>nomatch h.1) ⟨Or.inl ⟨by kernel_rfl,?_⟩,fun _=>rfl⟩ ?_
    ·intro w;go_simp
    refine wpAnyIn_take (i:=7) (v:=.agg #[.int .i64 3,.int .i64 1,.int .u64 (tn:Int),.int .i64 0,.int .u64 0,.bool false,.int .u64 0,.int .i64 0,.int .u64 0,.string ⟨#[]⟩]) rfl rfl (by kernel_rfl) (by kernel_rfl) (by kernel_rfl) (fun _ _ _ h=>nomatch h.1) ⟨Or.inl ⟨by kernel_rfl,?_⟩,fun _=>rfl⟩ ?_
    ·intro w;go_simp
   rotate_left
  rotate_left 2
  focus
   go_simp;refine hK _ _ ?_;clear hK K;refine wpAnyIn_take (i:=6) (v:=.agg #[.int .i64 1,.int .u64 (tn:Int)]) rfl rfl (by kernel_rfl) (by kernel_rfl) (by kernel_rfl) (fun _ _ _ h=>nomatch h.1) ⟨Or.inl ⟨by kernel_rfl,?_⟩,fun _=>rfl⟩ ?_
   ·intro w;go_simp
   refine wpAnyIn_take (i:=7) (v:=.agg #[.int .i64 3,.int .i64 1,.int .u64 (tn:Int),.int .i64 0,.int .u64 0,.bool false,.int .u64 0,.int .i64 0,.int .u64 0,.string ⟨#[]⟩]) rfl rfl (by kernel_rfl) (by kernel_rfl) (by kernel_rfl) (fun _ _ _ h=>nomatch h.1) ⟨Or.inl ⟨by kernel_rfl,?_⟩,fun _=>rfl⟩ ?_
   ·intro w;go_simp
   refine Xs 1 11 rfl rfl (fun K hK=>?_) fun K hK=>?_
   focus
    go_simp;refine(hnow _ (w.drew.alloc (.cells #[.slice none 0 0] 162)) hbL).mono ?_;rintro e V1 ⟨rfl,hb1⟩;have hB1:Below w.heap.size w V1:=hbL.trans (hb1.mono hbL.size);have q1:=ctn _ hB1;have q2:=cln _ hB1;have hz1:=hb1.size;have bL1:=bL0.below hb1 bL0.lt;have k1:=bL1.cell 0 (v:=.slice none 0 0) rfl;have k1f:=bL1.frozen 0;have lL1:=bL1.lt;have bL2:=bL1.alloc (.cells #[.int .i64 0,.int .i64 0,.int .u64 0,.int .i64 0,.int .u64 0,.bool false,.int .u64 tm,.int .i64 0,.int .u64 0,.string ⟨#[]⟩,.int .i64 3,.int .i64 1,.int .u64 (tn:Int),.int .i64 0,.int .u64 0,.bool false,.int .u64 0,.int .i64 0,.int .u64 0,.string ⟨#[]⟩,.int .i64 3,.int .i64 2,.int .u64 (ln:Int),.int .i64 0,.int .u64 0,.bool false,.int .u64 0,.int .i64 0,.int .u64 0,.string ⟨#[]⟩] 135);have k2:=bL2.cell 0 (v:=.slice none 0 0) rfl;have k2f:=bL2.frozen 0;refine hK _ _ ?_;clear hK K;refine Xr 11 rfl fun K hK=>?_;go_simp;refine hK _ _ ?_;clear hK K;refine wpAnyIn_take (i:=12) (v:=.agg #[.int .i64 2,.int .u64 (ln:Int)]) rfl rfl (by kernel_rfl) (by kernel_rfl) (by kernel_rfl) (fun _ _ _ h=>nomatch h.1) ⟨Or.inl ⟨by kernel_rfl,?_⟩,fun _=>rfl⟩ ?_
    ·intro w;go_simp
    refine wpAnyIn_take (i:=13) (v:=.agg #[.int .i64 3,.int .i64 2,.int .u64 (ln:Int),.int .i64 0,.int .u64 0,.bool false,.int .u64 0,.int .i64 0,.int .u64 0,.string ⟨#[]⟩]) rfl rfl (by kernel_rfl) (by kernel_rfl) (by kernel_rfl) (fun _ _ _ h=>nomatch h.1) ⟨Or.inl ⟨by kernel_rfl,?_⟩,fun _=>rfl⟩ ?_
    ·intro w;go_simp
   rotate_left
   focus
    go_simp;refine hK _ _ ?_;clear hK K;refine wpAnyIn_take (i:=12) (v:=.agg #[.int .i64 2,.int .u64 (ln:Int)]) rfl rfl (by kernel_rfl) (by kernel_rfl) (by kernel_rfl) (fun _ _ _ h=>nomatch h.1) ⟨Or.inl ⟨by kernel_rfl,?_⟩,fun _=>rfl⟩ ?_
    ·intro w;go_simp
    refine wpAnyIn_take (i:=13) (v:=.agg #[.int .i64 3,.int .i64 2,.int .u64 (ln:Int),.int .i64 0,.int .u64 0,.bool false,.int .u64 0,.int .i64 0,.int .u64 0,.string ⟨#[]⟩]) rfl rfl (by kernel_rfl) (by kernel_rfl) (by kernel_rfl) (fun _ _ _ h=>nomatch h.1) ⟨Or.inl ⟨by kernel_rfl,?_⟩,fun _=>rfl⟩ ?_
    ·intro w;go_simp
    refine Xr 1 rfl fun K hK=>?_;go_simp;refine(hnow _ (w.drew.alloc (.cells #[.slice none 0 0] 162)) hbL).mono ?_;rintro e V1 ⟨rfl,hb1⟩;have hB1:Below w.heap.size w V1:=hbL.trans (hb1.mono hbL.size);have q1:=ctn _ hB1;have q2:=cln _ hB1;have hz1:=hb1.size;have bL1:=bL0.below hb1 bL0.lt;have k1:=bL1.cell 0 (v:=.slice none 0 0) rfl;have k1f:=bL1.frozen 0;have lL1:=bL1.lt;have bL2:=bL1.alloc (.cells #[.int .i64 0,.int .i64 0,.int .u64 0,.int .i64 0,.int .u64 0,.bool false,.int .u64 tm,.int .i64 0,.int .u64 0,.string ⟨#[]⟩,.int .i64 3,.int .i64 1,.int .u64 (tn:Int),.int .i64 0,.int .u64 0,.bool false,.int .u64 0,.int .i64 0,.int .u64 0,.string ⟨#[]⟩,.int .i64 3,.int .i64 2,.int .u64 (ln:Int),.int .i64 0,.int .u64 0,.bool false,.int .u64 0,.int .i64 0,.int .u64 0,.string ⟨#[]⟩] 135);have k2:=bL2.cell 0 (v:=.slice none 0 0) rfl;have k2f:=bL2.frozen 0;refine hK _ _ ?_;clear hK K
   rotate_left
  rotate_left 2
  focus
   go_simp;refine hK _ _ ?_;clear hK K;refine wpAnyIn_take (i:=12) (v:=.agg #[.int .i64 2,.int .u64 (ln:Int)]) rfl rfl (by kernel_rfl) (by kernel_rfl) (by kernel_rfl) (fun _ _ _ h=>nomatch h.1) ⟨Or.inl ⟨by kernel_rfl,?_⟩,fun _=>rfl⟩ ?_
   ·intro w;go_simp
   refine wpAnyIn_take (i:=13) (v:=.agg #[.int .i64 3,.int .i64 2,.int .u64 (ln:Int),.int .i64 0,.int .u64 0,.bool false,.int .u64 0,.int .i64 0,.int .u64 0,.string ⟨#[]⟩]) rfl rfl (by kernel_rfl) (by kernel_rfl) (by kernel_rfl) (fun _ _ _ h=>nomatch h.1) ⟨Or.inl ⟨by kernel_rfl,?_⟩,fun _=>rfl⟩ ?_
   ·intro w;go_simp
   refine Xs 1 5 rfl rfl (fun K hK=>?_) fun K hK=>?_
   focus
    go_simp;refine(hnow _ (w.drew.alloc (.cells #[.slice none 0 0] 162)) hbL).mono ?_;rintro e V1 ⟨rfl,hb1⟩;have hB1:Below w.heap.size w V1:=hbL.trans (hb1.mono hbL.size);have q1:=ctn _ hB1;have q2:=cln _ hB1;have hz1:=hb1.size;have bL1:=bL0.below hb1 bL0.lt;have k1:=bL1.cell 0 (v:=.slice none 0 0) rfl;have k1f:=bL1.frozen 0;have lL1:=bL1.lt;have bL2:=bL1.alloc (.cells #[.int .i64 0,.int .i64 0,.int .u64 0,.int .i64 0,.int .u64 0,.bool false,.int .u64 tm,.int .i64 0,.int .u64 0,.string ⟨#[]⟩,.int .i64 3,.int .i64 1,.int .u64 (tn:Int),.int .i64 0,.int .u64 0,.bool false,.int .u64 0,.int .i64 0,.int .u64 0,.string ⟨#[]⟩,.int .i64 3,.int .i64 2,.int .u64 (ln:Int),.int .i64 0,.int .u64 0,.bool false,.int .u64 0,.int .i64 0,.int .u64 0,.string ⟨#[]⟩] 135);have k2:=bL2.cell 0 (v:=.slice none 0 0) rfl;have k2f:=bL2.frozen 0;refine hK _ _ ?_;clear hK K;refine Xr 5 rfl fun K hK=>?_;go_simp;refine hK _ _ ?_;clear hK K;refine wpAnyIn_take (i:=6) (v:=.agg #[.int .i64 1,.int .u64 (tn:Int)]) rfl rfl (by kernel_rfl) (by kernel_rfl) (by kernel_rfl) (fun _ _ _ h=>nomatch h.1) ⟨Or.inl ⟨by kernel_rfl,?_⟩,fun _=>rfl⟩ ?_
    ·intro w;go_simp
    refine wpAnyIn_take (i:=7) (v:=.agg #[.int .i64 3,.int .i64 1,.int .u64 (tn:Int),.int .i64 0,.int .u64 0,.bool false,.int .u64 0,.int .i64 0,.int .u64 0,.string ⟨#[]⟩]) rfl rfl (by kernel_rfl) (by kernel_rfl) (by kernel_rfl) (fun _ _ _ h=>nomatch h.1) ⟨Or.inl ⟨by kernel_rfl,?_⟩,fun _=>rfl⟩ ?_
    ·intro w;go_simp
   rotate_left
   focus
    go_simp;refine hK _ _ ?_;clear hK K;refine wpAnyIn_take (i:=6) (v:=.agg #[.int .i64 1,.int .u64 (tn:Int)]) rfl rfl (by kernel_rfl) (by kernel_rfl) (by kernel_rfl) (fun _ _ _ h=>nomatch h.1) ⟨Or.inl ⟨by kernel_rfl,?_⟩,fun _=>rfl⟩ ?_
    ·intro w;go_simp
    refine wpAnyIn_take (i:=7) (v:=.agg #[.int .i64 3,.int .i64 1,.int .u64 (tn:Int),.int .i64 0,.int .u64 0,.bool false,.int .u64 0,.int .i64 0,.int .u64 0,.string ⟨#[]⟩]) rfl rfl (by kernel_rfl) (by kernel_rfl) (by kernel_rfl) (fun _ _ _ h=>nomatch h.1) ⟨Or.inl ⟨by kernel_rfl,?_⟩,fun _=>rfl⟩ ?_
    ·intro w;go_simp
    refine Xr 1 rfl fun K hK=>?_;go_simp;refine(hnow _ (w.drew.alloc (.cells #[.slice none 0 0] 162)) hbL).mono ?_;rintro e V1 ⟨rfl,hb1⟩;have hB1:Below w.heap.size w V1:=hbL.trans (hb1.mono hbL.size);have q1:=ctn _ hB1;have q2:=cln _ hB1;have hz1:=hb1.size;have bL1:=bL0.below hb1 bL0.lt;have k1:=bL1.cell 0 (v:=.slice none 0 0) rfl;have k1f:=bL1.frozen 0;have lL1:=bL1.lt;have bL2:=bL1.alloc (.cells #[.int .i64 0,.int .i64 0,.int .u64 0,.int .i64 0,.int .u64 0,.bool false,.int .u64 tm,.int .i64 0,.int .u64 0,.string ⟨#[]⟩,.int .i64 3,.int .i64 1,.int .u64 (tn:Int),.int .i64 0,.int .u64 0,.bool false,.int .u64 0,.int .i64 0,.int .u64 0,.string ⟨#[]⟩,.int .i64 3,.int .i64 2,.int .u64 (ln:Int),.int .i64 0,.int .u64 0,.bool false,.int .u64 0,.int .i64 0,.int .u64 0,.string ⟨#[]⟩] 135);have k2:=bL2.cell 0 (v:=.slice none 0 0) rfl;have k2f:=bL2.frozen 0;refine hK _ _ ?_;clear hK K
   rotate_left
  rotate_left 2
  all_goals
   refine Xr 14 rfl fun K hK=>?_;go_simp;refine hK _ _ ?_;clear hK K;refine Xr 16 rfl fun K hK=>?_;go_simp;refine hK _ _ ?_;clear hK K;refine wpAnyIn_done (by kernel_rfl) ?_ _;exact⟨rfl,_,_,rfl,Xe9 hB1 (Nat.le_refl _) bL1 rfl⟩
 rintro e a W ⟨rfl,Lb,sb,rfl,hLb,bL,hrow,hBW⟩;have hVW:=hV.below hBW;have v1:=hVW.v.cell 3 (v:=.map (some mt)) rfl;have lvW:vb<W.heap.size:=hVW.v.lt;have hok:=hV.ok
 obtain⟨R0,hR0⟩:∃ R0:List X7,R0 = [nowR tm,(Item.use true tn).rec_,(Item.use false ln).rec_]:=⟨_,rfl⟩
 have hrow0:W.ownsRow w.heap.size 135 10 (.slice (some ⟨sb,0,none⟩) 3 3) (R0++(List.map X3 ([]:List { p // p∈tks.map Xe.key })).map Xe.rec_).length (Yk (R0++(List.map X3 ([]:List { p // p∈tks.map Xe.key })).map Xe.rec_)):=by rw [hR0];exact hrow
 have hR3:R0.length=3:=by rw [hR0];rfl
 have hBWs:=hBW.size;clear hnow ctn cln hbd hbL bL0 d1 d2 d3 d4 d5 d6 hrow
 gi_wp2_with (gi_at_call 79;refine(callsIn_wide.2 (Xd0 (some mt) _)).mono ?_;rintro e w' ⟨rfl,rfl⟩)
 clear v1;obtain⟨kT,sT⟩:=hVW.ok.ksT;obtain⟨nT,hnT,mT⟩:=hVW.held.mapT;have bM:=BoxN.new W 120 #[.map (some mt)];have hB1:=hBW.alloc hBWs (.cells #[.map (some mt)] 120);have hB1':Below W.heap.size W (W.alloc (.cells #[.map (some mt)] 120)):=(Below.refl _ W).alloc (Nat.le_refl _) _;have mT1:=(KeepsT.below (bad:=Xf1) hB1').map mT;have bL1:=bL.alloc (.cells #[.map (some mt)] 120);have hrow1:=hrow0.alloc (.cells #[.map (some mt)] 120)
 have hsz1:(W.alloc (.cells #[.map (some mt)] 120)).heap.size=W.heap.size+1:=by simp
 have lLb:=bL.lt;generalize W.alloc (.cells #[.map (some mt)] 120)=W1 at *;clear hrow0 bL hB1' mT hVW
 refine wpIn_rangeFunc_ownH rfl (by omega) (gf:=136) (lb:=#[.pointer (some ⟨W.heap.size,0,none⟩)]) rfl trivial M4
  (Jt 8 (by omega) Xf1 (by decide) (by decide) W.heap.size mt nT (tks.map Xe.key) kT sT (by have:=hok.lenT;simp;omega) (Xe.sh tks) W1 bM mT1) Jl Jk (Below.refl _ _) (fun _=>rfl)
  (fun pre V=>(∃ v,Boxed V Lb 162 v/\V.ownsRow w.heap.size 135 10 v (R0++(pre.map X3).map Xe.rec_).length (Yk (R0++(pre.map X3).map Xe.rec_))/\True)/\Below w.heap.size w V)
  (fun _ _ _=>False)
  (OwnFrom.and (Own.from (holdsRow_own _ _ _ _ _ (fun pre:List { x // x∈tks.map Xe.key }=>(R0++(pre.map X3).map Xe.rec_).length) (fun pre=>Yk (R0++(pre.map X3).map Xe.rec_)) (fun _ _=>True)) _) (ownFrom_below (Nat.le_refl _) (by omega)))
  (fun _ _ _ _ _ hs _ _=>hs)
  ⟨⟨_,bL1,hrow1,trivial⟩,hB1⟩
  (fun x a' V=>∃ Bx Bt,BoxN V Bx 114 #[.int .i64 x.1.1.1,.int .u64 x.1.1.2]/\BoxN V Bt 153 (X3 x).cells/\a' = { tmps:=#[.pointer (some ⟨vb,0,none⟩),undef,.slice none 0 0,.pointer (some ⟨Lb,0,none⟩),.pointer (some ⟨Bx,0,none⟩),.pointer (some ⟨Bt,0,none⟩),undef,undef,.pointer (some ⟨vb,0,none⟩),.agg #[.int .i64 0,.int .i64 0,.int .u64 0,.int .i64 0,.int .u64 0,.bool false,.int .u64 tm,.int .i64 0,.int .u64 0,.string ⟨#[]⟩],.pointer (some ⟨vb,0,none⟩),.pointer (some ⟨vb,0,none⟩),.pointer (some ⟨vb,5,none⟩),.int .u64 (tn:Int),.agg #[.int .i64 1,.int .u64 (tn:Int)],.agg #[.int .i64 3,.int .i64 1,.int .u64 (tn:Int),.int .i64 0,.int .u64 0,.bool false,.int .u64 0,.int .i64 0,.int .u64 0,.string ⟨#[]⟩],.pointer (some ⟨vb,0,none⟩),.pointer (some ⟨vb,0,none⟩),.pointer (some ⟨vb,6,none⟩),.int .u64 (ln:Int),.agg #[.int .i64 2,.int .u64 (ln:Int)],.agg #[.int .i64 3,.int .i64 2,.int .u64 (ln:Int),.int .i64 0,.int .u64 0,.bool false,.int .u64 0,.int .i64 0,.int .u64 0,.string ⟨#[]⟩],.slice (some ⟨sb,0,none⟩) 3 3,.pointer (some ⟨vb,0,none⟩),.pointer (some ⟨vb,0,none⟩),.pointer (some ⟨vb,3,none⟩),.map (some mt),.func (.func 136) #[] #[.pointer (some ⟨W.heap.size,0,none⟩)],.agg #[.int .i64 x.1.1.1,.int .u64 x.1.1.2],.agg (X3 x).cells,undef,undef,undef,undef,undef,undef,undef,undef,undef,undef,undef,undef,undef,undef,undef,undef,undef,undef,undef],defers:=[] })
  (fun x a' _ X Y row hs hgr hr=>by obtain⟨Bx,Bt,h4,h5,h6⟩:=hs;exact⟨Bx,Bt,X6 Bx 114 (fun(_:Unit)=>#[.int .i64 x.1.1.1,.int .u64 x.1.1.2]) () X Y row h4 hgr (fun r e=>(hr r e).2),X6 Bt 153 (fun(_:Unit)=>(X3 x).cells) () X Y row h5 hgr (fun r e=>(hr r e).2),h6⟩)
  ?assign ?body ?done ?stop
 case assign =>
  rintro ll pre x X K ⟨⟨v,b1,hr1,-⟩,hBX⟩ hK
  have e2:x.1.2=.agg (X3 x).cells:=by rw [<- (Zk x).2];rfl
  rw [e2];unfold nmV;simp only [Xe.cells] at hK ⊢
  gi_wp2
  have hBB:Below X.heap.size X ((X.alloc (.cells #[.int .i64 x.1.1.1,.int .u64 x.1.1.2] 114)).alloc (.cells (X3 x).cells 153)):=((Below.refl _ X).alloc (Nat.le_refl _) _).alloc (by simp) _;refine hK _ _ (((KeepsOthers.alloc _ _).from _).trans ((KeepsOthers.alloc _ _).from _)) ((KeepsT.alloc _ _).trans (KeepsT.alloc _ _)) ⟨⟨v,(b1.alloc _).alloc _,(hr1.alloc _).alloc _,trivial⟩,hBX.trans (hBB.mono hBX.size)⟩ ⟨X.heap.size,X.heap.size+1,(BoxN.new X 114 _).alloc _,?_,?_⟩
  ·have:=BoxN.new (X.alloc (.cells #[.int .i64 x.1.1.1,.int .u64 x.1.1.2] 114)) 153 (X3 x).cells
   rwa [World.size_alloc] at this
  simp
 case body =>
  rintro ll pre x a' V hl ⟨r,hr⟩ ⟨⟨v,b1,hr1,-⟩,hBV⟩ ⟨Bx,Bt,bX,bT,rfl⟩ hlt';obtain⟨ht,hkx⟩:=Zk x
  have hsn:R0++((pre ++ [x]).map X3).map Xe.rec_=(R0++(pre.map X3).map Xe.rec_) ++ [(X3 x).rec_]:=by simp
  obtain⟨tk,htk⟩:∃ tk,X3 x=tk:=⟨_,rfl⟩
  rw [htk] at ht hkx bT hsn ⊢;obtain⟨x,hxm⟩:=x;simp only at hkx;subst hkx
  obtain⟨RS,hRS⟩:∃ RS,R0++(pre.map X3).map Xe.rec_=RS:=⟨_,rfl⟩
  have hlr:RS.length<=2000:=by
   have:=hok.lenT;have:=hok.lenL;rw [<- hRS];simp at hlt';simp only [List.length_append,List.length_map];omega
  rw [hRS] at hr1 hsn;have bL5:BoxN V Lb 162 #[v]:=b1
  have hend:∀ V' v',KeepsFrom W1.heap.size V V'->KeepsT Xf1 V V'->Boxed V' Lb 162 v'->V'.ownsRow w.heap.size 135 10 v' (RS ++ [tk.rec_]).length (Yk (RS ++ [tk.rec_]))->Below w.heap.size w V'->KeepsFrom W1.heap.size V V'/\KeepsT Xf1 V V'/\((∃ v,Boxed V' Lb 162 v/\V'.ownsRow w.heap.size 135 10 v (R0++((pre ++ [(⟨tk.key,hxm⟩:{ p // p∈tks.map Xe.key })]).map X3).map Xe.rec_).length (Yk (R0++((pre ++ [(⟨tk.key,hxm⟩:{ p // p∈tks.map Xe.key })]).map X3).map Xe.rec_))/\True)/\Below w.heap.size w V'):=fun V' v' h1 h2 h3 h4 h5=>⟨h1,h2,⟨v',h3,by rw [hsn];exact h4,trivial⟩,h5⟩
  have hBVs:=hBV.size;have HE:=Xb hend
  have hfin:∀(V5 w8:World) (g8 cap8:Nat),Below V.heap.size V V5->(V5.alloc (.cells #[.int .i64 1,.int .i64 1,.int .u64 (tk.n:Int),.int .i64 tk.ak,.int .u64 (tk.au:Int),.bool tk.pd,.int .u64 tk.at_,.int .i64 tk.tr,.int .u64 0,.string ⟨#[]⟩] 135)).grownBy w8 v.ownBlock->w8.ownsRow w.heap.size 135 10 (.slice (some ⟨g8,0,none⟩) (RS.length+1) cap8) (RS.length+1) (Yk RS ++ [.int .i64 1,.int .i64 1,.int .u64 (tk.n:Int),.int .i64 tk.ak,.int .u64 (tk.au:Int),.bool tk.pd,.int .u64 tk.at_,.int .i64 tk.tr,.int .u64 0,.string ⟨#[]⟩])->BoxN w8 Lb 162 #[v]->_:=fun V5 w8 g8 cap8 hw5 h83 h82 bL8=>by
   have hS8:Spares (v.ownBlock.toList ++ [Lb]) V w8:=((Spares.of_below hw5).alloc _).trans (Spares.Xdu h83 (fun r hr=>List.mem_append_left _ (by simpa using hr)));have hS9:Spares [Lb] w8 (w8.setCell ⟨Lb,0,none⟩ (.slice (some ⟨g8,0,none⟩) (RS.length+1) cap8)):=(Spares.of_below (Below.refl _ w8)).set (by simp) _ _;have hS:=hS8.trans (hS9.mono (fun b hb=>List.mem_append_right _ hb))
   have hbx:∀ b∈v.ownBlock.toList ++ [Lb],∃ t cs,BoxN V b t cs/\(t=135\/t=162)/\w.heap.size<=b:=fun b hb=>by
    rcases List.mem_append.1 hb with hb | hb
    ·obtain⟨hlo,cs,hB⟩:=Xn hr1 (g:=b) (by simpa using hb)
     exact⟨_,_,hB,.inl rfl,hlo⟩
    rw [List.mem_singleton.1 hb];exact⟨_,_,bL5,.inr rfl,hLb⟩
   have hrow9:=hS9.Jv h82 (fun g hg hm=>by
    obtain⟨-,cs,hB⟩:=Xn h82 hg
    exact hB.ne bL8 (by decide) (List.mem_singleton.1 hm))
   have kfw:=hS.Vf (fun b hb=>by obtain⟨t,cs,hB,-,-⟩:=hbx b hb;exact⟨t,cs,hB⟩) 0;exact(Xa HE) _ (.slice (some ⟨g8,0,none⟩) (RS.length+1) cap8) (Ys kfw (Nat.zero_le _)) (hS.Xes (fun b hb=>by obtain⟨t,cs,hB,ht,-⟩:=hbx b hb;exact⟨t,cs,hB,by rcases ht with rfl | rfl <;> decide⟩)) (bL8.set 0 (.slice (some ⟨g8,0,none⟩) (RS.length+1) cap8)) (by simpa [Yk,Xe.rec_,X7.cells,Xi] using hrow9) (hBV.trans (hS.below hBVs (fun b hb=>by obtain⟨t,cs,hB,-,hlo⟩:=hbx b hb;exact hlo)))
  have HFI:=Xb hfin
  have hrec:∀ m X,Below V.heap.size V X->CallsIn Fence.wide m prog 84 #[.pointer (some ⟨Bt,0,none⟩),.agg #[.int .i64 1,.int .u64 (tk.n:Int)]] X fun e X'=>e=.returned (.agg #[.int .i64 1,.int .i64 1,.int .u64 (tk.n:Int),.int .i64 tk.ak,.int .u64 (tk.au:Int),.bool tk.pd,.int .u64 tk.at_,.int .i64 tk.tr,.int .u64 0,.string ⟨#[]⟩])/\Below X.heap.size X X':=fun m X hbX=>by
   have bTX:=bT.below hbX bT.lt;exact callsIn_wide.2 (M8 Bt 1 (tk.n:Int) tk.ak (tk.au:Int) tk.at_ tk.tr tk.pd X (bTX.cell 0 rfl) (bTX.cell 1 rfl) (bTX.cell 2 rfl) (bTX.cell 3 rfl) (bTX.cell 4 rfl))
  have hfq:Fence.wide.fn 84:=trivial;have y0:=bX.cell 0 (v:=.int .i64 1) rfl;have y1:=bX.cell 1 (v:=.int .u64 (tk.n:Int)) rfl;have yL:=bL5.cell 0 (v:=v) rfl;have fL:=bL5.frozen 0;have lT:=bT.lt;have HR:=Xb hr1;simp only [Xe.key] at HE HFI ⊢;clear hend hfin hsn hr1 b1 hBV
  gi_wp2_with fail
  refine wpIn_region_any (by kernel_rfl) (Xx ll (by kernel_rfl) _ _ _ _ ?_)
  change wpAnyIn _ _ _ _ _ _ _ _ _ (World.drew _)
  refine Xv 1 (.pointer (some ⟨Bt,0,none⟩)) rfl ?_
  refine Xs 0 2 rfl rfl (fun K hK=>?_) fun K hK=>?_
  focus
   go_simp;refine hK _ _ ?_;clear hK K;refine Xr 2 rfl fun K hK=>?_;go_simp;refine hK _ _ ?_;clear hK K;refine Xr 3 rfl fun K hK=>?_;go_simp;refine(hrec _ V.drew (Below.refl _ _).drew).mono ?_;rintro e V5 ⟨rfl,hb5⟩;have hw5:Below V.heap.size V V5:=(Below.refl _ V).drew.trans hb5;have bL6:=bL5.below hw5 bL5.lt;have yL6:=bL6.cell 0 (v:=v) rfl;have bL7:=bL6.alloc (.cells #[.int .i64 1,.int .i64 1,.int .u64 (tk.n:Int),.int .i64 tk.ak,.int .u64 (tk.au:Int),.bool tk.pd,.int .u64 tk.at_,.int .i64 tk.tr,.int .u64 0,.string ⟨#[]⟩] 135);have yL7:=bL7.cell 0 (v:=v) rfl;have lL6:=bL6.lt;refine hK _ _ ?_;clear hK K;refine wpAnyIn_ready (rs:=[4]) (by kernel_rfl) (by simp) ?_
  rotate_left
  focus
   go_simp;refine hK _ _ ?_;clear hK K;refine Xs 0 3 rfl rfl (fun K hK=>?_) fun K hK=>?_
   focus
    go_simp;refine hK _ _ ?_;clear hK K;refine Xr 3 rfl fun K hK=>?_;go_simp;refine(hrec _ V.drew (Below.refl _ _).drew).mono ?_;rintro e V5 ⟨rfl,hb5⟩;have hw5:Below V.heap.size V V5:=(Below.refl _ V).drew.trans hb5;have bL6:=bL5.below hw5 bL5.lt;have yL6:=bL6.cell 0 (v:=v) rfl;have bL7:=bL6.alloc (.cells #[.int .i64 1,.int .i64 1,.int .u64 (tk.n:Int),.int .i64 tk.ak,.int .u64 (tk.au:Int),.bool tk.pd,.int .u64 tk.at_,.int .i64 tk.tr,.int .u64 0,.string ⟨#[]⟩] 135);have yL7:=bL7.cell 0 (v:=v) rfl;have lL6:=bL6.lt;refine hK _ _ ?_;clear hK K;refine wpAnyIn_ready (rs:=[4]) (by kernel_rfl) (by simp) ?_
   rotate_left
   focus
    go_simp;refine(hrec _ V.drew (Below.refl _ _).drew).mono ?_;rintro e V5 ⟨rfl,hb5⟩;have hw5:Below V.heap.size V V5:=(Below.refl _ V).drew.trans hb5;have bL6:=bL5.below hw5 bL5.lt;have yL6:=bL6.cell 0 (v:=v) rfl;have bL7:=bL6.alloc (.cells #[.int .i64 1,.int .i64 1,.int .u64 (tk.n:Int),.int .i64 tk.ak,.int .u64 (tk.au:Int),.bool tk.pd,.int .u64 tk.at_,.int .i64 tk.tr,.int .u64 0,.string ⟨#[]⟩] 135);have yL7:=bL7.cell 0 (v:=v) rfl;have lL6:=bL6.lt;refine hK _ _ ?_;clear hK K;refine Xs 0 4 rfl rfl (fun K hK=>?_) fun K hK=>?_
    focus
     go_simp;refine hK _ _ ?_;clear hK K;refine wpAnyIn_ready (rs:=[4]) (by kernel_rfl) (by simp) ?_
    rotate_left
    focus
     go_simp;refine hK _ _ ?_;clear hK K;refine wpAnyIn_ready (rs:=[0]) (by kernel_rfl) (by simp) ?_
    rotate_left
   rotate_left 2
  rotate_left 3
  all_goals
   refine AllReadyIn.cons rfl (fun K hK=>?_) (AllReadyIn.nil);go_simp;refine hK _ _ ?_;clear hK K;refine Xr 5 rfl fun K hK=>?_;have hr7:=(ownsRow_below (Xa HR) hw5).alloc (.cells #[.int .i64 1,.int .i64 1,.int .u64 (tk.n:Int),.int .i64 tk.ak,.int .u64 (tk.au:Int),.bool tk.pd,.int .u64 tk.at_,.int .i64 tk.tr,.int .u64 0,.string ⟨#[]⟩] 135);have hsz7:=hw5.size;obtain⟨g8,cap8,w8,hrun,h82,h83,h84,-⟩:=run_append_lies (P:=prog) (V5.alloc (.cells #[.int .i64 1,.int .i64 1,.int .u64 (tk.n:Int),.int .i64 tk.ak,.int .u64 (tk.au:Int),.bool tk.pd,.int .u64 tk.at_,.int .i64 tk.tr,.int .u64 0,.string ⟨#[]⟩] 135)) 162 162 w.heap.size 135 i0 _ 10 88 underlying162 hi hz0 hz1 hz2 rfl (by decide) v _ _ hr7 ⟨V5.heap.size,0,none⟩ 1 1 [.int .i64 1,.int .i64 1,.int .u64 (tk.n:Int),.int .i64 tk.ak,.int .u64 (tk.au:Int),.bool tk.pd,.int .u64 tk.at_,.int .i64 tk.tr,.int .u64 0,.string ⟨#[]⟩] rfl (Mg _ _ _ _ _ _ _ _ _ _ _ _) (by simp [Value.oneCell']) (by omega) (by unfold maxLen;omega) (by omega) (by simp;omega) _ rfl;have bL8:=bL7.kept h83 (BoxN.not_row bL7 (by decide) hr7);have yL8:=bL8.cell 0 (v:=v) rfl;have fL8:=bL8.frozen 0;refine Vn rfl _ _ _ rfl rfl rfl hrun ?_;refine hK _ _ ?_;clear hK K;refine Xr 6 rfl fun K hK=>?_;go_simp;refine hK _ _ ?_;clear hK K;refine wpAnyIn_done (by kernel_rfl) ?_ _
   gi_wp2
   exact(Xa HFI) _ _ _ _ hw5 h83 h82 bL8
 case done =>
  rintro D1 zs V hD hzs ⟨⟨v,b1,hr1,-⟩,hBV⟩ hD1;have hD1lt:=(Array.getElem?_eq_some_iff.1 hD1).1
  have hzs':zs.map X3=tks:=by rw [hzs];exact Ua hok.incT
  rw [hzs'] at hr1;clear hzs hzs';have hVV:=hV.below hBV;have v2:=hVV.v.cell 4 (v:=.map (some ml)) rfl;have lvV:=hVV.v.lt;have hBVs:=hBV.size
  obtain⟨RA,hRA⟩:∃ RA,R0++tks.map Xe.rec_=RA:=⟨_,rfl⟩
  have hRl:RA.length=3+tks.length:=by rw [<- hRA];simp [hR3]
  rw [hRA] at hr1
  have hr0:V.ownsRow w.heap.size 135 10 v (RA++(List.map Xy ([]:List { p // p∈lks.map Xd.key })).map Xd.rec_).length (Yk (RA++(List.map Xy ([]:List { p // p∈lks.map Xd.key })).map Xd.rec_)):=by simpa using hr1
  clear hr1
  gi_wp2_with (gi_at_call 81;refine(callsIn_wide.2 (Xd4 (some ml) _)).mono ?_;rintro e w' ⟨rfl,rfl⟩)
  clear v2;obtain⟨kL,sL⟩:=hVV.ok.ksL;obtain⟨nL,hnL,mL⟩:=hVV.held.mapL;have bM2:=BoxN.new V 121 #[.map (some ml)];have hB2:=hBV.alloc hBVs (.cells #[.map (some ml)] 121);have hB2':Below V.heap.size V (V.alloc (.cells #[.map (some ml)] 121)):=(Below.refl _ V).alloc (Nat.le_refl _) _;have mL1:=(KeepsT.below (bad:=Xf1) hB2').map mL;have b2:=b1.alloc (.cells #[.map (some ml)] 121);have hr2:=hr0.alloc (.cells #[.map (some ml)] 121);have hD2:(V.alloc (.cells #[.map (some ml)] 121)).heap[D1]? = some (.deferred (some [])):=(hB2'.block D1 hD1lt).trans hD1
  have hs2:(V.alloc (.cells #[.map (some ml)] 121)).heap.size=V.heap.size+1:=by simp
  obtain⟨V1,hVe⟩:∃ V1,V.alloc (.cells #[.map (some ml)] 121)=V1:=⟨_,rfl⟩
  rw [hVe] at bM2 hB2 mL1 b2 hr2 hD2 hs2 ⊢;clear hVe hB2' hr0 b1 hVV mL bM mT1 kT sT bL1 hrow1 hB1 hD1
  refine wpIn_rangeFunc_ownH rfl (by omega) (gf:=139) (lb:=#[.pointer (some ⟨V.heap.size,0,none⟩)]) rfl trivial Mv
   (Ju 8 (by omega) Xf1 (by decide) (by decide) V.heap.size ml nL (lks.map Xd.key) kL sL (by have:=hok.lenL;simp;omega) (Xd.sh lks) V1 bM2 mL1) Jl Jk (Below.refl _ _) (fun _=>rfl)
   (fun pre X=>((∃ v,Boxed X Lb 162 v/\X.ownsRow w.heap.size 135 10 v (RA++(pre.map Xy).map Xd.rec_).length (Yk (RA++(pre.map Xy).map Xd.rec_))/\True)/\Below w.heap.size w X)/\X.heap[D1]? = some (.deferred (some [])))
   (fun _ _ _=>False)
   (OwnFrom.and (OwnFrom.and (Own.from (holdsRow_own _ _ _ _ _ (fun pre:List { x // x∈lks.map Xd.key }=>(RA++(pre.map Xy).map Xd.rec_).length) (fun pre=>Yk (RA++(pre.map Xy).map Xd.rec_)) (fun _ _=>True)) _) (ownFrom_below (Nat.le_refl _) (by omega))) (Xa7 D1 _ (by omega)))
   (fun _ _ _ _ _ hs _ _=>hs)
   ⟨⟨⟨_,b2,hr2,trivial⟩,hB2⟩,hD2⟩
   (fun x a' X=>∃ Bx Bt,BoxN X Bx 114 #[.int .i64 x.1.1.1,.int .u64 x.1.1.2]/\BoxN X Bt 131 (Xy x).cells/\a' = { tmps:=#[.pointer (some ⟨vb,0,none⟩),undef,.slice none 0 0,.pointer (some ⟨Lb,0,none⟩),undef,undef,.pointer (some ⟨Bx,0,none⟩),.pointer (some ⟨Bt,0,none⟩),.pointer (some ⟨vb,0,none⟩),.agg #[.int .i64 0,.int .i64 0,.int .u64 0,.int .i64 0,.int .u64 0,.bool false,.int .u64 tm,.int .i64 0,.int .u64 0,.string ⟨#[]⟩],.pointer (some ⟨vb,0,none⟩),.pointer (some ⟨vb,0,none⟩),.pointer (some ⟨vb,5,none⟩),.int .u64 (tn:Int),.agg #[.int .i64 1,.int .u64 (tn:Int)],.agg #[.int .i64 3,.int .i64 1,.int .u64 (tn:Int),.int .i64 0,.int .u64 0,.bool false,.int .u64 0,.int .i64 0,.int .u64 0,.string ⟨#[]⟩],.pointer (some ⟨vb,0,none⟩),.pointer (some ⟨vb,0,none⟩),.pointer (some ⟨vb,6,none⟩),.int .u64 (ln:Int),.agg #[.int .i64 2,.int .u64 (ln:Int)],.agg #[.int .i64 3,.int .i64 2,.int .u64 (ln:Int),.int .i64 0,.int .u64 0,.bool false,.int .u64 0,.int .i64 0,.int .u64 0,.string ⟨#[]⟩],.slice (some ⟨sb,0,none⟩) 3 3,.pointer (some ⟨vb,0,none⟩),.pointer (some ⟨vb,0,none⟩),.pointer (some ⟨vb,3,none⟩),.map (some mt),.func (.func 136) #[] #[.pointer (some ⟨W.heap.size,0,none⟩)],undef,undef,undef,undef,undef,undef,undef,undef,.pointer (some ⟨vb,0,none⟩),.pointer (some ⟨vb,0,none⟩),.pointer (some ⟨vb,4,none⟩),.map (some ml),.func (.func 139) #[] #[.pointer (some ⟨V.heap.size,0,none⟩)],.agg #[.int .i64 x.1.1.1,.int .u64 x.1.1.2],.agg (Xy x).cells,undef,undef,undef,undef,undef,undef],defers:=[] })
   (fun x a' _ X Y row hs hgr hr=>by obtain⟨Bx,Bt,h4,h5,h6⟩:=hs;exact⟨Bx,Bt,X6 Bx 114 (fun(_:Unit)=>#[.int .i64 x.1.1.1,.int .u64 x.1.1.2]) () X Y row h4 hgr (fun r e=>(hr r e).2),X6 Bt 131 (fun(_:Unit)=>(Xy x).cells) () X Y row h5 hgr (fun r e=>(hr r e).2),h6⟩)
   ?assign2 ?body2 ?done2 ?stop2
  case assign2 =>
   rintro ll pre x X K ⟨⟨⟨v,b1,hr1,-⟩,hBX⟩,hDX⟩ hK
   have e2:x.1.2=.agg (Xy x).cells:=by rw [<- (Zl x).2];rfl
   rw [e2];unfold nmV;simp only [Xd.cells] at hK ⊢
   gi_wp2
   have hBB:Below X.heap.size X ((X.alloc (.cells #[.int .i64 x.1.1.1,.int .u64 x.1.1.2] 114)).alloc (.cells (Xy x).cells 131)):=((Below.refl _ X).alloc (Nat.le_refl _) _).alloc (by simp) _;refine hK _ _ (((KeepsOthers.alloc _ _).from _).trans ((KeepsOthers.alloc _ _).from _)) ((KeepsT.alloc _ _).trans (KeepsT.alloc _ _)) ⟨⟨⟨v,(b1.alloc _).alloc _,(hr1.alloc _).alloc _,trivial⟩,hBX.trans (hBB.mono hBX.size)⟩,(hBB.block D1 (Array.getElem?_eq_some_iff.1 hDX).1).trans hDX⟩ ⟨X.heap.size,X.heap.size+1,(BoxN.new X 114 _).alloc _,?_,?_⟩
   ·have:=BoxN.new (X.alloc (.cells #[.int .i64 x.1.1.1,.int .u64 x.1.1.2] 114)) 131 (Xy x).cells
    rwa [World.size_alloc] at this
   simp
  case body2 =>
   rintro ll pre x a' V hl ⟨r,hr⟩ ⟨⟨⟨v,b1,hr1,-⟩,hBV⟩,hDX⟩ ⟨Bx,Bt,bX,bT,rfl⟩ hlt';obtain⟨ht,hkx⟩:=Zl x
   have hsn:RA++((pre ++ [x]).map Xy).map Xd.rec_=(RA++(pre.map Xy).map Xd.rec_) ++ [(Xy x).rec_]:=by simp
   obtain⟨tk,htk⟩:∃ tk,Xy x=tk:=⟨_,rfl⟩
   rw [htk] at ht hkx bT hsn ⊢;obtain⟨x,hxm⟩:=x;simp only at hkx;subst hkx
   obtain⟨RS,hRS⟩:∃ RS,RA++(pre.map Xy).map Xd.rec_=RS:=⟨_,rfl⟩
   have hlr:RS.length<=2000:=by
    have:=hok.lenT;have:=hok.lenL;rw [<- hRS];simp at hlt';simp only [List.length_append,List.length_map];omega
   rw [hRS] at hr1 hsn;have bL5:BoxN V Lb 162 #[v]:=b1
   have hend:∀ V' v',KeepsFrom V1.heap.size V V'->KeepsT Xf1 V V'->Boxed V' Lb 162 v'->V'.ownsRow w.heap.size 135 10 v' (RS ++ [tk.rec_]).length (Yk (RS ++ [tk.rec_]))->Below w.heap.size w V'->V'.heap[D1]? = some (.deferred (some []))->KeepsFrom V1.heap.size V V'/\KeepsT Xf1 V V'/\(((∃ v,Boxed V' Lb 162 v/\V'.ownsRow w.heap.size 135 10 v (RA++((pre ++ [(⟨tk.key,hxm⟩:{ p // p∈lks.map Xd.key })]).map Xy).map Xd.rec_).length (Yk (RA++((pre ++ [(⟨tk.key,hxm⟩:{ p // p∈lks.map Xd.key })]).map Xy).map Xd.rec_))/\True)/\Below w.heap.size w V')/\V'.heap[D1]? = some (.deferred (some []))):=fun V' v' h1 h2 h3 h4 h5 h6=>⟨h1,h2,⟨⟨v',h3,by rw [hsn];exact h4,trivial⟩,h5⟩,h6⟩
   have hBVs:=hBV.size;have HE:=Xb hend
   have hfin:∀(V5 w8:World) (g8 cap8:Nat),Below V.heap.size V V5->(V5.alloc (.cells #[.int .i64 1,.int .i64 2,.int .u64 (tk.n:Int),.int .i64 tk.ak,.int .u64 (tk.au:Int),.bool tk.pd,.int .u64 tk.at_,.int .i64 tk.tr,.int .u64 tk.last,.string ⟨tk.pth.toArray⟩] 135)).grownBy w8 v.ownBlock->w8.ownsRow w.heap.size 135 10 (.slice (some ⟨g8,0,none⟩) (RS.length+1) cap8) (RS.length+1) (Yk RS ++ [.int .i64 1,.int .i64 2,.int .u64 (tk.n:Int),.int .i64 tk.ak,.int .u64 (tk.au:Int),.bool tk.pd,.int .u64 tk.at_,.int .i64 tk.tr,.int .u64 tk.last,.string ⟨tk.pth.toArray⟩])->BoxN w8 Lb 162 #[v]->_:=fun V5 w8 g8 cap8 hw5 h83 h82 bL8=>by
    have hS8:Spares (v.ownBlock.toList ++ [Lb]) V w8:=((Spares.of_below hw5).alloc _).trans (Spares.Xdu h83 (fun r hr=>List.mem_append_left _ (by simpa using hr)));have hS9:Spares [Lb] w8 (w8.setCell ⟨Lb,0,none⟩ (.slice (some ⟨g8,0,none⟩) (RS.length+1) cap8)):=(Spares.of_below (Below.refl _ w8)).set (by simp) _ _;have hS:=hS8.trans (hS9.mono (fun b hb=>List.mem_append_right _ hb))
    have hbx:∀ b∈v.ownBlock.toList ++ [Lb],∃ t cs,BoxN V b t cs/\(t=135\/t=162)/\w.heap.size<=b:=fun b hb=>by
     rcases List.mem_append.1 hb with hb | hb
     ·obtain⟨hlo,cs,hB⟩:=Xn hr1 (g:=b) (by simpa using hb)
      exact⟨_,_,hB,.inl rfl,hlo⟩
     rw [List.mem_singleton.1 hb];exact⟨_,_,bL5,.inr rfl,hLb⟩
    have hrow9:=hS9.Jv h82 (fun g hg hm=>by
     obtain⟨-,cs,hB⟩:=Xn h82 hg
     exact hB.ne bL8 (by decide) (List.mem_singleton.1 hm))
    have kfw:=hS.Vf (fun b hb=>by obtain⟨t,cs,hB,-,-⟩:=hbx b hb;exact⟨t,cs,hB⟩) 0;exact(Xa HE) _ (.slice (some ⟨g8,0,none⟩) (RS.length+1) cap8) (Ys kfw (Nat.zero_le _)) (hS.Xes (fun b hb=>by obtain⟨t,cs,hB,ht,-⟩:=hbx b hb;exact⟨t,cs,hB,by rcases ht with rfl | rfl <;> decide⟩)) (bL8.set 0 (.slice (some ⟨g8,0,none⟩) (RS.length+1) cap8)) (by simpa [Yk,Xd.rec_,X7.cells,Xi] using hrow9) (hBV.trans (hS.below hBVs (fun b hb=>by obtain⟨t,cs,hB,-,hlo⟩:=hbx b hb;exact hlo))) (kfw.same D1 _ (Nat.zero_le _) hDX rfl)
   have HFI:=Xb hfin
   have hrec:∀ m X,Below V.heap.size V X->CallsIn Fence.wide m prog 67 #[.pointer (some ⟨Bt,0,none⟩),.agg #[.int .i64 2,.int .u64 (tk.n:Int)]] X fun e X'=>e=.returned (.agg #[.int .i64 1,.int .i64 2,.int .u64 (tk.n:Int),.int .i64 tk.ak,.int .u64 (tk.au:Int),.bool tk.pd,.int .u64 tk.at_,.int .i64 tk.tr,.int .u64 tk.last,.string ⟨tk.pth.toArray⟩])/\Below X.heap.size X X':=fun m X hbX=>by
    have bTX:=bT.below hbX bT.lt;exact callsIn_wide.2 (Jw Bt 2 (tk.n:Int) tk.ak (tk.au:Int) tk.at_ tk.tr tk.pd tk.pth tk.last X (bTX.cell 0 rfl) (bTX.cell 1 rfl) (bTX.cell 2 rfl) (bTX.cell 3 rfl) (bTX.cell 4 rfl) (bTX.cell 5 rfl) (bTX.cell 6 rfl))
   have hfq:Fence.wide.fn 67:=trivial;have y0:=bX.cell 0 (v:=.int .i64 2) rfl;have y1:=bX.cell 1 (v:=.int .u64 (tk.n:Int)) rfl;have yL:=bL5.cell 0 (v:=v) rfl;have fL:=bL5.frozen 0;have lT:=bT.lt;have HR:=Xb hr1;simp only [Xd.key] at HE HFI ⊢;clear hend hfin hsn hr1 b1 hBV
   gi_wp2_with fail
   refine wpIn_region_any (by kernel_rfl) (Xx ll (by kernel_rfl) _ _ _ _ ?_)
   change wpAnyIn _ _ _ _ _ _ _ _ _ (World.drew _)
   refine Xs 0 1 rfl rfl (fun K hK=>?_) fun K hK=>?_
   focus
    go_simp;refine hK _ _ ?_;clear hK K;refine Xr 1 rfl fun K hK=>?_;go_simp;refine hK _ _ ?_;clear hK K;refine Xr 2 rfl fun K hK=>?_;go_simp;refine(hrec _ V.drew (Below.refl _ _).drew).mono ?_;rintro e V5 ⟨rfl,hb5⟩;have hw5:Below V.heap.size V V5:=(Below.refl _ V).drew.trans hb5;have bL6:=bL5.below hw5 bL5.lt;have yL6:=bL6.cell 0 (v:=v) rfl;have bL7:=bL6.alloc (.cells #[.int .i64 1,.int .i64 2,.int .u64 (tk.n:Int),.int .i64 tk.ak,.int .u64 (tk.au:Int),.bool tk.pd,.int .u64 tk.at_,.int .i64 tk.tr,.int .u64 tk.last,.string ⟨tk.pth.toArray⟩] 135);have yL7:=bL7.cell 0 (v:=v) rfl;have lL6:=bL6.lt;refine hK _ _ ?_;clear hK K;refine wpAnyIn_ready (rs:=[3]) (by kernel_rfl) (by simp) ?_
   rotate_left
   focus
    go_simp;refine hK _ _ ?_;clear hK K;refine Xs 0 2 rfl rfl (fun K hK=>?_) fun K hK=>?_
    focus
     go_simp;refine hK _ _ ?_;clear hK K;refine Xr 2 rfl fun K hK=>?_;go_simp;refine(hrec _ V.drew (Below.refl _ _).drew).mono ?_;rintro e V5 ⟨rfl,hb5⟩;have hw5:Below V.heap.size V V5:=(Below.refl _ V).drew.trans hb5;have bL6:=bL5.below hw5 bL5.lt;have yL6:=bL6.cell 0 (v:=v) rfl;have bL7:=bL6.alloc (.cells #[.int .i64 1,.int .i64 2,.int .u64 (tk.n:Int),.int .i64 tk.ak,.int .u64 (tk.au:Int),.bool tk.pd,.int .u64 tk.at_,.int .i64 tk.tr,.int .u64 tk.last,.string ⟨tk.pth.toArray⟩] 135);have yL7:=bL7.cell 0 (v:=v) rfl;have lL6:=bL6.lt;refine hK _ _ ?_;clear hK K;refine wpAnyIn_ready (rs:=[3]) (by kernel_rfl) (by simp) ?_
    rotate_left
    focus
     go_simp;refine(hrec _ V.drew (Below.refl _ _).drew).mono ?_;rintro e V5 ⟨rfl,hb5⟩;have hw5:Below V.heap.size V V5:=(Below.refl _ V).drew.trans hb5;have bL6:=bL5.below hw5 bL5.lt;have yL6:=bL6.cell 0 (v:=v) rfl;have bL7:=bL6.alloc (.cells #[.int .i64 1,.int .i64 2,.int .u64 (tk.n:Int),.int .i64 tk.ak,.int .u64 (tk.au:Int),.bool tk.pd,.int .u64 tk.at_,.int .i64 tk.tr,.int .u64 tk.last,.string ⟨tk.pth.toArray⟩] 135);have yL7:=bL7.cell 0 (v:=v) rfl;have lL6:=bL6.lt;refine hK _ _ ?_;clear hK K;refine Xs 0 3 rfl rfl (fun K hK=>?_) fun K hK=>?_
     focus
      go_simp;refine hK _ _ ?_;clear hK K;refine wpAnyIn_ready (rs:=[3]) (by kernel_rfl) (by simp) ?_
     rotate_left
     focus
      go_simp;refine hK _ _ ?_;clear hK K;refine wpAnyIn_ready (rs:=[0]) (by kernel_rfl) (by simp) ?_
     rotate_left
    rotate_left 2
   rotate_left 3
   all_goals
    refine AllReadyIn.cons rfl (fun K hK=>?_) (AllReadyIn.nil);go_simp;refine hK _ _ ?_;clear hK K;refine Xr 4 rfl fun K hK=>?_;have hr7:=(ownsRow_below (Xa HR) hw5).alloc (.cells #[.int .i64 1,.int .i64 2,.int .u64 (tk.n:Int),.int .i64 tk.ak,.int .u64 (tk.au:Int),.bool tk.pd,.int .u64 tk.at_,.int .i64 tk.tr,.int .u64 tk.last,.string ⟨tk.pth.toArray⟩] 135);have hsz7:=hw5.size;obtain⟨g8,cap8,w8,hrun,h82,h83,h84,-⟩:=run_append_lies (P:=prog) (V5.alloc (.cells #[.int .i64 1,.int .i64 2,.int .u64 (tk.n:Int),.int .i64 tk.ak,.int .u64 (tk.au:Int),.bool tk.pd,.int .u64 tk.at_,.int .i64 tk.tr,.int .u64 tk.last,.string ⟨tk.pth.toArray⟩] 135)) 162 162 w.heap.size 135 i0 _ 10 88 underlying162 hi hz0 hz1 hz2 rfl (by decide) v _ _ hr7 ⟨V5.heap.size,0,none⟩ 1 1 [.int .i64 1,.int .i64 2,.int .u64 (tk.n:Int),.int .i64 tk.ak,.int .u64 (tk.au:Int),.bool tk.pd,.int .u64 tk.at_,.int .i64 tk.tr,.int .u64 tk.last,.string ⟨tk.pth.toArray⟩] rfl (Mg _ _ _ _ _ _ _ _ _ _ _ _) (by simp [Value.oneCell']) (by omega) (by unfold maxLen;omega) (by omega) (by simp;omega) _ rfl;have bL8:=bL7.kept h83 (BoxN.not_row bL7 (by decide) hr7);have yL8:=bL8.cell 0 (v:=v) rfl;have fL8:=bL8.frozen 0;refine Vn rfl _ _ _ rfl rfl rfl hrun ?_;refine hK _ _ ?_;clear hK K;refine Xr 5 rfl fun K hK=>?_;go_simp;refine hK _ _ ?_;clear hK K;refine wpAnyIn_done (by kernel_rfl) ?_ _
    gi_wp2
    exact(Xa HFI) _ _ _ _ hw5 h83 h82 bL8
  case done2 =>
   rintro D2 ys X hD2' hys ⟨⟨⟨v,b1,hr1,-⟩,hBX⟩,hDX⟩ hK
   have hys':ys.map Xy=lks:=by rw [hys];exact Uf hok.incL
   rw [hys'] at hr1
   have eR:RA++lks.map Xd.rec_=nowR tm :: (Jg tn ln tks lks).map Item.rec_:=by
    rw [<- hRA,hR0];simp [Jg,List.map_map,Function.comp_def,Item.rec_]
   have eL:(RA++lks.map Xd.rec_).length=tks.length+lks.length+3:=by simp [hRl];omega
   rw [eL,eR] at hr1;have cS:=b1.cell
   gi_wp2
   have hKd:(X.putObj D2 (.deferred none)).heap[D1]? = some (.deferred (some [])):=(World.putObj_heap_other (by omega)).trans hDX;refine⟨by simp,.inl ⟨_,_,rfl,run_takeDeferred hK,⟨by simp,.inl ⟨_,_,rfl,run_takeDeferred hKd,?_⟩⟩⟩⟩;exact⟨_,results_tmp rfl _ _ _,v,rfl,ownsRow_putObj (ownsRow_putObj hr1 _ hK rfl) _ hKd rfl,(hBX.trans (belowK_b (w:=w) (Nat.le_refl _) X D2 _ _ (by omega) hK rfl rfl)).trans (belowK_b (w:=w) (Nat.le_refl _) _ D1 _ _ (by omega) hKd rfl rfl)⟩
  case stop2 =>
   rintro D c pre X _ _ h _;exact h.elim
 case stop =>
  rintro D c pre V _ _ h _;exact h.elim
end Go.Proofs
