import Derived.Test.YtjbekgjdempbiaaGreatDoorJSq
import Derived.Test.YtjbekgjdempbiaaGreatDoorJTkC
import Derived.Test.YtjbekgjdempbiaaGreatDoorJInv
set_option maxRecDepth 100000
set_option maxHeartbeats 8000000
namespace Go.Proofs
open Go.RowKit Go.Sort Go.Lib Go.Shelf Go.Maps
inductive Vk (tks:List Xd) (top:Int × Int) (b:Bool):Nat->Int × Int->Prop where
 | here (hb:b=true) {x:Int × Int} (hx:x=top):Vk tks top b 0 x
 | off (hb:b=false) {x:Int × Int} (hx:x≠top) (hw:Zr x) (hn:∀ t∈tks,x≠(1,(t.n:Int))):Vk tks top b 0 x
 | up {m:Nat} {x:Int × Int} (t:Xd) (ht:t∈tks) (hx:x≠top) (he:x=(1,(t.n:Int))) (h:Vk tks top b m (t.ak,(t.au:Int))):Vk tks top b (m+1) x
def Tryz.WiR (tks:List Xd) (top:Int × Int) (b:Bool) (w wr:World) (m:Nat):Prop:=∃ y,Vk tks top b m y/\BoxN wr w.heap.size 114 #[.int .i64 y.1,.int .u64 y.2]/\BoxN wr (w.heap.size+1) 114 #[.int .i64 top.1,.int .u64 top.2]/\Below w.heap.size w wr
theorem Tryz.Xkj (vb mt ml:Nat) (vx:VX) (tm tn ln:Int) (tks:List Xd) (lks:List Xc) (w:World) (hV:Xq w vb mt ml vx tm tn ln tks lks) (x top:Int × Int) (n:Nat) (b:Bool) (hC:Vk tks top b n x) :
  Calls prog 88 #[.pointer (some ⟨vb,0,none⟩),nmV x,nmV top] w fun e w'=>e=.returned (.bool b)/\Below w.heap.size w w':=by
 obtain⟨p1,p2⟩:=top;have bN:=(BoxN.new w 114 #[.int .i64 x.1,.int .u64 x.2]).alloc (.cells #[.int .i64 p1,.int .u64 p2] 114);have bT:=BoxN.new (w.alloc (.cells #[.int .i64 x.1,.int .u64 x.2] 114)) 114 #[.int .i64 p1,.int .u64 p2];rw [World.size_alloc] at bT;have hB0:Below w.heap.size w ((w.alloc (.cells #[.int .i64 x.1,.int .u64 x.2] 114)).alloc (.cells #[.int .i64 p1,.int .u64 p2] 114)):=((Below.refl _ w).alloc (Nat.le_refl _) _).alloc (by simp) _;have lv:=hV.v.lt
 have hst:∃ m,WiR tks (p1,p2) b w ((w.alloc (.cells #[.int .i64 x.1,.int .u64 x.2] 114)).alloc (.cells #[.int .i64 p1,.int .u64 p2] 114)) m:=⟨n,x,hC,bN,bT,hB0⟩
 clear bN bT hB0 hC;unfold nmV;go_enter func88,ntmps88
 go_wp2_with fail
 generalize (w.alloc (.cells #[.int .i64 x.1,.int .u64 x.2] 114)).alloc (.cells #[.int .i64 p1,.int .u64 p2] 114)=W0 at *
 go_loopw [] (fun wr=>∃ m,WiR tks (p1,p2) b w wr m) (fun wr=>leastOf (WiR tks (p1,p2) b w wr))
 case atStart=>exact hst
 case round =>
  clear hst;have hm:=leastOf_spec hrel;clear hrel
  obtain⟨m,hme⟩:∃ m,leastOf (WiR tks (p1,p2) b w wr)=m:=⟨_,rfl⟩
  rw [hme] at hm;have HM:=Xb hme;clear hme;obtain⟨⟨y1,y2⟩,hC,bN,bT,hB⟩:=hm;simp only at bN
  obtain⟨W1,hW1⟩:∃ W1,W1=wr:=⟨_,rfl⟩
  subst hW1
  obtain⟨N,hs0⟩:∃ N,W1.heap.size=N:=⟨_,rfl⟩
  have lT:=bT.lt;have lN:=bN.lt;have hzw:=hB.size;have n0:=bN.cell 0 (v:=.int .i64 y1) rfl;have n1:=bN.cell 1 (v:=.int .u64 y2) rfl;have t0:=bT.cell 0 (v:=.int .i64 p1) rfl;have t1:=bT.cell 1 (v:=.int .u64 p2) rfl;have hb1:Below N W1 W1.drew:=(Below.refl _ _).drew
  cases hC with
  | here hb hx =>
   subst hb;obtain⟨rfl,rfl⟩:=Prod.mk.inj hx;go_wp2;go_ret;exact⟨rfl,hB⟩
  | off hb hx hw hn =>
   subst hb
   have hS:∀ W,Below N W1 W->LkP vb 3 mt w.heap.size 120 y1 y2 (.tuple #[.agg #[.int .i64 0,.int .u64 0,.int .u64 0,.int .i64 0,.bool false],.bool false]) W:=fun W hb=>by
    have bN':=bN.below hb (by omega);have hV':=hV.below (hB.trans (hb.mono (by omega)));exact⟨hV'.v.cell 3 rfl,bN'.cell 0 rfl,bN'.cell 1 rfl,hV'.Xaa hw hn⟩
   by_cases h1:y1=p1
   focus
    have h2:y2≠p2:=fun e=>hx (Prod.ext h1 e)
    subst h1
    go_wp2_with fail
    refine wp_region_held_drew (S:=(LkP vb 3 mt w.heap.size 120 y1 y2 (.tuple #[.agg #[.int .i64 0,.int .u64 0,.int .u64 0,.int .i64 0,.bool false],.bool false]))) (by kernel_rfl) (hS _ hb1) (fun hS0=>?_);refine Xt 0 ?v0a rfl ?y0a hS0 ?_
    case y0a=>(rintro w ⟨q0,q1,q2,q3⟩;go_simp;try with_reducible rfl)
    refine Xt 1 ?v1a rfl ?y1a hS0 ?_
    case y1a=>(rintro w ⟨q0,q1,q2,q3⟩;go_simp;try with_reducible rfl)
    refine Xt 2 ?v2a rfl ?y2a hS0 ?_
    case y2a=>(rintro w ⟨q0,q1,q2,q3⟩;go_simp;try with_reducible rfl)
    refine Xt 3 ?v3a rfl ?y3a hS0 ?_
    case y3a=>(rintro w ⟨q0,q1,q2,q3⟩;go_simp;try with_reducible rfl)
    refine Xt 4 ?v4a rfl ?y4a hS0 ?_
    case y4a=>(rintro w ⟨q0,q1,q2,q3⟩;go_simp;try with_reducible rfl)
    refine Xt 5 ?v5a rfl ?y5a hS0 ?_
    case y5a=>(rintro w ⟨q0,q1,q2,q3⟩;go_simp;try with_reducible rfl)
    refine Xt 6 ?v6a rfl ?y6a hS0 ?_
    case y6a=>(rintro w ⟨q0,q1,q2,q3⟩;go_simp;try with_reducible rfl)
    refine Xt 7 ?v7a rfl ?y7a hS0 ?_
    case y7a=>(rintro w ⟨q0,q1,q2,q3⟩;go_simp;try with_reducible rfl)
    refine Xt 8 ?v8a rfl ?y8a hS0 ?_
    case y8a=>(rintro w ⟨q0,q1,q2,q3⟩;go_simp;try with_reducible rfl)
   rotate_left
   focus
    go_wp2_with fail
    refine wp_region_held_drew (S:=(LkP vb 3 mt w.heap.size 120 y1 y2 (.tuple #[.agg #[.int .i64 0,.int .u64 0,.int .u64 0,.int .i64 0,.bool false],.bool false]))) (by kernel_rfl) (hS _ hb1) (fun hS0=>?_);refine Xt 0 ?v0b rfl ?y0b hS0 ?_
    case y0b=>(rintro w ⟨q0,q1,q2,q3⟩;go_simp;try with_reducible rfl)
    refine Xt 1 ?v1b rfl ?y1b hS0 ?_
    case y1b=>(rintro w ⟨q0,q1,q2,q3⟩;go_simp;try with_reducible rfl)
    refine Xt 2 ?v2b rfl ?y2b hS0 ?_
    case y2b=>(rintro w ⟨q0,q1,q2,q3⟩;go_simp;try with_reducible rfl)
    refine Xt 3 ?v3b rfl ?y3b hS0 ?_
    case y3b=>(rintro w ⟨q0,q1,q2,q3⟩;go_simp;try with_reducible rfl)
    refine Xt 4 ?v4b rfl ?y4b hS0 ?_
    case y4b=>(rintro w ⟨q0,q1,q2,q3⟩;go_simp;try with_reducible rfl)
    refine Xt 5 ?v5b rfl ?y5b hS0 ?_
    case y5b=>(rintro w ⟨q0,q1,q2,q3⟩;go_simp;try with_reducible rfl)
    refine Xt 6 ?v6b rfl ?y6b hS0 ?_
    case y6b=>(rintro w ⟨q0,q1,q2,q3⟩;go_simp;try with_reducible rfl)
    refine Xt 7 ?v7b rfl ?y7b hS0 ?_
    case y7b=>(rintro w ⟨q0,q1,q2,q3⟩;go_simp;try with_reducible rfl)
    refine Xt 8 ?v8b rfl ?y8b hS0 ?_
    case y8b=>(rintro w ⟨q0,q1,q2,q3⟩;go_simp;try with_reducible rfl)
   rotate_left
   all_goals
    refine Xh 9 rfl fun K hK=>?_;go_simp;refine hK.out _ _ (hS _ (hb1.alloc (by simp [hs0]) _)) (fun hS1=>?_);clear hK K;refine Xh 10 rfl fun K hK=>?_;go_simp;have hb2:Below N W1 (W1.alloc (.cells #[.int .i64 0,.int .u64 0,.int .u64 0,.int .i64 0,.bool false] 153)).drew:=((Below.refl _ _).alloc (by omega) _).drew;refine hK.out _ _ (hS _ hb2) (fun hS2=>?_);clear hK K;refine Xh 11 rfl fun K hK=>?_;go_simp;refine hK.out _ _ hS2 (fun _=>?_);clear hK K hS0 hS1 hS2;refine wpAnyH_done (by kernel_rfl) ?_ _;go_wp2;go_ret;exact⟨rfl,hB.trans (hb2.mono (by omega))⟩
  | @up m' _ t ht hx he h =>
   have hS:∀ W,Below N W1 W->LkP vb 3 mt w.heap.size 120 y1 y2 (.tuple #[.agg #[.int .i64 t.ak,.int .u64 t.au,.int .u64 t.at_,.int .i64 t.tr,.bool t.pd],.bool true]) W:=fun W hb=>by
    have bN':=bN.below hb (by omega);have hV':=hV.below (hB.trans (hb.mono (by omega)));have hl:=hV'.Xhi ht;rw [<- he] at hl;exact⟨hV'.v.cell 3 rfl,bN'.cell 0 rfl,bN'.cell 1 rfl,hl⟩
   have hBt:BoxN (W1.alloc (.cells #[.int .i64 t.ak,.int .u64 t.au,.int .u64 t.at_,.int .i64 t.tr,.bool t.pd] 153)).drew N 153 #[.int .i64 t.ak,.int .u64 t.au,.int .u64 t.at_,.int .i64 t.tr,.bool t.pd]:=by
    have h:=BoxN.new W1 153 #[.int .i64 t.ak,.int .u64 t.au,.int .u64 t.at_,.int .i64 t.tr,.bool t.pd];rw [hs0] at h;exact h
   have hfin:∀ W2,Below N W1 W2->WiR tks (p1,p2) b w ((W2.setCell ⟨w.heap.size,0,none⟩ (.int .i64 t.ak)).setCell ⟨w.heap.size,1,none⟩ (.int .u64 t.au)) m':=fun W2 hb2=>⟨(t.ak,(t.au:Int)),h,((bN.below hb2 (by omega)).set 0 (.int .i64 t.ak)).set 1 (.int .u64 t.au),((bT.below hb2 (by omega)).other (by omega) 0 _).other (by omega) 1 _,((hB.trans (hb2.mono (by omega))).setCell (p:=⟨w.heap.size,0,none⟩) (Nat.le_refl _) _).setCell (p:=⟨w.heap.size,1,none⟩) (Nat.le_refl _) _⟩
   have HF:=Xb hfin;clear hfin h
   by_cases h1:y1=p1
   focus
    have h2:y2≠p2:=fun e=>hx (Prod.ext h1 e)
    subst h1
    go_wp2_with fail
    refine wp_region_held_drew (S:=(LkP vb 3 mt w.heap.size 120 y1 y2 (.tuple #[.agg #[.int .i64 t.ak,.int .u64 t.au,.int .u64 t.at_,.int .i64 t.tr,.bool t.pd],.bool true]))) (by kernel_rfl) (hS _ hb1) (fun hS0=>?_);refine Xt 0 ?v0c rfl ?y0c hS0 ?_
    case y0c=>(rintro w ⟨q0,q1,q2,q3⟩;go_simp;try with_reducible rfl)
    refine Xt 1 ?v1c rfl ?y1c hS0 ?_
    case y1c=>(rintro w ⟨q0,q1,q2,q3⟩;go_simp;try with_reducible rfl)
    refine Xt 2 ?v2c rfl ?y2c hS0 ?_
    case y2c=>(rintro w ⟨q0,q1,q2,q3⟩;go_simp;try with_reducible rfl)
    refine Xt 3 ?v3c rfl ?y3c hS0 ?_
    case y3c=>(rintro w ⟨q0,q1,q2,q3⟩;go_simp;try with_reducible rfl)
    refine Xt 4 ?v4c rfl ?y4c hS0 ?_
    case y4c=>(rintro w ⟨q0,q1,q2,q3⟩;go_simp;try with_reducible rfl)
    refine Xt 5 ?v5c rfl ?y5c hS0 ?_
    case y5c=>(rintro w ⟨q0,q1,q2,q3⟩;go_simp;try with_reducible rfl)
    refine Xt 6 ?v6c rfl ?y6c hS0 ?_
    case y6c=>(rintro w ⟨q0,q1,q2,q3⟩;go_simp;try with_reducible rfl)
    refine Xt 7 ?v7c rfl ?y7c hS0 ?_
    case y7c=>(rintro w ⟨q0,q1,q2,q3⟩;go_simp;try with_reducible rfl)
    refine Xt 8 ?v8c rfl ?y8c hS0 ?_
    case y8c=>(rintro w ⟨q0,q1,q2,q3⟩;go_simp;try with_reducible rfl)
   rotate_left
   focus
    go_wp2_with fail
    refine wp_region_held_drew (S:=(LkP vb 3 mt w.heap.size 120 y1 y2 (.tuple #[.agg #[.int .i64 t.ak,.int .u64 t.au,.int .u64 t.at_,.int .i64 t.tr,.bool t.pd],.bool true]))) (by kernel_rfl) (hS _ hb1) (fun hS0=>?_);refine Xt 0 ?v0d rfl ?y0d hS0 ?_
    case y0d=>(rintro w ⟨q0,q1,q2,q3⟩;go_simp;try with_reducible rfl)
    refine Xt 1 ?v1d rfl ?y1d hS0 ?_
    case y1d=>(rintro w ⟨q0,q1,q2,q3⟩;go_simp;try with_reducible rfl)
    refine Xt 2 ?v2d rfl ?y2d hS0 ?_
    case y2d=>(rintro w ⟨q0,q1,q2,q3⟩;go_simp;try with_reducible rfl)
    refine Xt 3 ?v3d rfl ?y3d hS0 ?_
    case y3d=>(rintro w ⟨q0,q1,q2,q3⟩;go_simp;try with_reducible rfl)
    refine Xt 4 ?v4d rfl ?y4d hS0 ?_
    case y4d=>(rintro w ⟨q0,q1,q2,q3⟩;go_simp;try with_reducible rfl)
    refine Xt 5 ?v5d rfl ?y5d hS0 ?_
    case y5d=>(rintro w ⟨q0,q1,q2,q3⟩;go_simp;try with_reducible rfl)
    refine Xt 6 ?v6d rfl ?y6d hS0 ?_
    case y6d=>(rintro w ⟨q0,q1,q2,q3⟩;go_simp;try with_reducible rfl)
    refine Xt 7 ?v7d rfl ?y7d hS0 ?_
    case y7d=>(rintro w ⟨q0,q1,q2,q3⟩;go_simp;try with_reducible rfl)
    refine Xt 8 ?v8d rfl ?y8d hS0 ?_
    case y8d=>(rintro w ⟨q0,q1,q2,q3⟩;go_simp;try with_reducible rfl)
   rotate_left
   all_goals
    refine Xh 9 rfl fun K hK=>?_;go_simp;refine hK.out _ _ (hS _ (hb1.alloc (by simp [hs0]) _)) (fun hS1=>?_);clear hK K;refine Xh 10 rfl fun K hK=>?_;go_simp;have hb2:Below N W1 (W1.alloc (.cells #[.int .i64 t.ak,.int .u64 t.au,.int .u64 t.at_,.int .i64 t.tr,.bool t.pd] 153)).drew:=((Below.refl _ _).alloc (by omega) _).drew;refine hK.out _ _ (hS _ hb2) (fun hS2=>?_);clear hK K;refine Xh 11 rfl fun K hK=>?_;go_simp;refine hK.out _ _ hS2 (fun _=>?_);clear hK K hS0 hS1 hS2;refine wpAnyH_done (by kernel_rfl) ?_ _;have bN2:=bN.below hb2 (by omega);have r:=(Xa HF) _ hb2;generalize (W1.alloc (.cells #[.int .i64 t.ak,.int .u64 t.au,.int .u64 t.at_,.int .i64 t.tr,.bool t.pd] 153)).drew=W2 at *;have u0:=hBt.cell 0 (v:=.int .i64 t.ak) rfl;have u1:=hBt.cell 1 (v:=.int .u64 t.au) rfl;have z0:=bN2.cell 0 (v:=.int .i64 y1) rfl;have z1:=bN2.cell 1 (v:=.int .u64 y2) rfl;have f0:=bN2.frozen 0;have f1:=bN2.frozen 1;clear hS n0 n1 t0 t1;go_wp2;exact⟨⟨_,r⟩,by rw [Xa HM];exact Nat.lt_succ_of_le (Xey r)⟩
end Go.Proofs
namespace Go.Proofs
open Go.RowKit Go.Sort Go.Lib Go.Shelf
theorem Tryz.Xdc (B:Nat) (vb g cap:Nat) (L:List ThingD) (tm tn ln:Int) (id:List UInt8) (w:World) (h:Xk B w vb g cap L tm tn ln) (hB:B<=w.heap.size) (hne:vb≠g) (i:Nat) (t:ThingD) (ht:L[i]? = some t) (hfi:Ud id L=i) (htk:t.token=false) :
  Calls prog 114 #[.pointer (some ⟨vb,0,none⟩),.string ⟨id.toArray⟩] w fun e w'=>e=.returned (.int .i64 0)/\Xk B w' vb g cap (L.set i (Y2 tm t)) tm tn ln/\Below B w w'/\Spares [vb,g] w w':=by
 have hF:=Xj4 B vb g cap L tm tn ln id w h;rw [hfi] at hF;have hD:=Xb (fun W (hb:Below w.heap.size w W)=>Xpv B vb g cap L tm tn ln W (h.below hb) (Nat.le_trans hB hb.size) hne i t ht);have hlim:=h.lim;have hil:i<L.length:=(List.getElem?_eq_some_iff.1 ht).1
 have hc:=fun W (hb:Below w.heap.size w W)=>((h.below hb).cells ht).1
 rw [htk] at hc
 have hv:=fun W (hb:Below w.heap.size w W)=>(h.below hb).v.cell 0 (v:=.slice (some ⟨g,0,none⟩) L.length cap) rfl
 obtain⟨len,hlen⟩:∃ len,L.length=len:=⟨_,rfl⟩
 rw [hlen] at hil hlim;simp only [hlen] at hv;clear hlen hfi htk
 have hnn:¬ (i:Int)<0:=by omega
 go_enter func114,ntmps114
 go_wp2_with (first
  | (go_at_call 157;refine hF.mono ?_;rintro e w1 ⟨rfl,hb1⟩;have x0:=hc w1 hb1;have v0:=hv w1 hb1)
  | (go_at_call 158;refine(Xa hD _ hb1).mono ?_;rintro e w2 ⟨rfl,hr2,hb2,hs2⟩))
 exact bodyPost_ret (v:=.int .i64 0) (by simp [results,results114,go_sem]) rfl ⟨rfl,hr2,(hb1.mono hB).trans hb2,(Spares.of_below hb1).trans hs2⟩
theorem Tryz.Xb8 (B:Nat) (vb g cap:Nat) (L:List ThingD) (tm tn ln:Int) (id:List UInt8) (w:World) (h:Xk B w vb g cap L tm tn ln) (hm:Ud id L = -1\/∃(i:Nat) (t:ThingD),L[i]? = some t/\Ud id L=i/\t.token=true) :
  Calls prog 114 #[.pointer (some ⟨vb,0,none⟩),.string ⟨id.toArray⟩] w fun e w'=>e=.returned (.int .i64 5)/\Below w.heap.size w w':=by
 have hF:=Xj4 B vb g cap L tm tn ln id w h
 rcases hm with hm | ⟨i,t,ht,hfi,htk⟩
 ·rw [hm] at hF
  clear hm;go_enter func114,ntmps114
  go_wp2_with (go_at_call 157;refine hF.mono ?_;rintro e w1 ⟨rfl,hb1⟩)
  exact bodyPost_ret (v:=.int .i64 5) (by simp [results,results114,go_sem]) rfl ⟨rfl,hb1⟩
 rw [hfi] at hF;have hlim:=h.lim;have hil:i<L.length:=(List.getElem?_eq_some_iff.1 ht).1
 have hc:=fun W (hb:Below w.heap.size w W)=>((h.below hb).cells ht).1
 rw [htk] at hc
 have hv:=fun W (hb:Below w.heap.size w W)=>(h.below hb).v.cell 0 (v:=.slice (some ⟨g,0,none⟩) L.length cap) rfl
 obtain⟨len,hlen⟩:∃ len,L.length=len:=⟨_,rfl⟩
 rw [hlen] at hil hlim;simp only [hlen] at hv;clear hlen hfi htk
 have hnn:¬ (i:Int)<0:=by omega
 go_enter func114,ntmps114
 go_wp2_with (go_at_call 157;refine hF.mono ?_;rintro e w1 ⟨rfl,hb1⟩;have x0:=hc w1 hb1;have v0:=hv w1 hb1)
 exact bodyPost_ret (v:=.int .i64 5) (by simp [results,results114,go_sem]) rfl ⟨rfl,hb1⟩
theorem Xfq (l:List UInt8) (n:Nat):(⟨l.toArray⟩:ByteArray).extract 0 n=⟨(l.take n).toArray⟩:=by
 apply ByteArray.ext;rw [ByteArray.data_extract];simp
def beginsB (p pre:List UInt8):Bool:=pre.isEmpty||p==pre||(decide (pre.length<p.length)&&p.take pre.length==pre&&p[pre.length]? == some 47)
theorem Tryz.Xth (p pre:List UInt8) (hq:pre.length<=1000000) (w:World) :
  Calls prog 159 #[.string ⟨p.toArray⟩,.string ⟨pre.toArray⟩] w fun e w'=>e=.returned (.bool (beginsB p pre))/\w'=w:=by
 have hr:Hid (beginsB p pre=(pre.isEmpty||p==pre||(decide (pre.length<p.length)&&p.take pre.length==pre&&p[pre.length]? == some 47))):=Xb rfl;generalize beginsB p pre=res at *;have hx:=Xfq p pre.length
 by_cases h0:pre.length=0
 ·obtain rfl:pre = []:=List.length_eq_zero_iff.1 h0
  go_enter func159,ntmps159;go_wp2;go_ret;exact⟨by rw [Xa hr];rfl,rfl⟩
 have he:Hid (pre.isEmpty=false):=Xb (by cases pre <;> simp at h0 ⊢)
 have h0':((pre.length:Int)==0)=false:=by simpa using h0
 by_cases h1:p=pre
 ·have h1':(p==pre)=true:=by simpa using h1
  go_enter func159,ntmps159;go_wp2;go_ret;exact⟨by rw [Xa hr,h1'];simp,rfl⟩
 have h1':(p==pre)=false:=by simpa using h1
 by_cases h2:pre.length<p.length
 ·obtain⟨c,hc⟩:∃ c,p[pre.length]? = some c:=⟨p[pre.length],by simp [h2]⟩
  have hck:∀ hp,((⟨p.toArray⟩:ByteArray)[pre.length]'hp)=c:=fun hp=>by
   have h1:p[pre.length]'h2=c:=by simpa [h2] using hc
   rw [<- h1];rfl
  have hr':Hid (res=(p.take pre.length==pre&&c==47)):=Xb (by rw [Xa hr,Xa he,h1',hc];simp [h2]);clear hr hc h1
  by_cases h3:p.take pre.length=pre
  ·have h3':(p.take pre.length==pre)=true:=by simpa using h3
   rw [h3'] at hr';rw [h3] at hx
   by_cases h4:c=47
   ·subst h4
    go_enter func159,ntmps159;go_wp2
    all_goals simp only [hck] at *
    go_ret;exact⟨by rw [Xa hr'];rfl,rfl⟩
   have h4':(c==47)=false:=by simpa using h4
   have h5:((c.toNat:Int)==47)=false:=by
    rw [beq_eq_false_iff_ne];intro e;exact h4 (by apply UInt8.toNat_inj.1;simpa using Int.ofNat_inj.1 e)
   rw [h4'] at hr';go_enter func159,ntmps159;go_wp2
   all_goals simp only [hck] at *
   go_ret;exact⟨by rw [Xa hr'];simp,rfl⟩
  have h3':(p.take pre.length==pre)=false:=by simpa using h3
  rw [h3'] at hr';go_enter func159,ntmps159;go_wp2;go_ret;exact⟨by rw [Xa hr'];rfl,rfl⟩
 have hr':Hid (res=false):=Xb (by rw [Xa hr,Xa he,h1'];simp [h2]);clear hr;go_enter func159,ntmps159;go_wp2;go_ret;exact⟨by rw [Xa hr'];rfl,rfl⟩
def Uy {α:Type} (f:α->α) (k:Nat) (L:List α):List α:=(L.take k).map f++L.drop k
theorem Xg8 {α:Type} (f:α->α) (L:List α):Uy f 0 L=L:=by simp [Uy]
theorem Xjm {α:Type} (f:α->α) (L:List α) {k:Nat} (h:L.length<=k):Uy f k L=L.map f:=by simp [Uy,List.take_of_length_le h,List.drop_of_length_le h]
theorem M4 {α:Type} (f:α->α) (k:Nat) (L:List α):(Uy f k L).length=L.length:=by simp [Uy];omega
theorem Xjy {α:Type} (f:α->α) {k:Nat} {L:List α} {t:α} (h:L[k]? = some t):(Uy f k L)[k]? = some t:=by
 obtain⟨hlt,he⟩:=List.getElem?_eq_some_iff.1 h;rw [Uy,List.getElem?_append_right (by simp;omega)];simp [Nat.min_eq_left (Nat.le_of_lt hlt),hlt,he]
theorem Xgc {α:Type} (f:α->α) {k:Nat} {L:List α} {t:α} (h:L[k]? = some t):Uy f (k+1) L=(Uy f k L).set k (f t):=by
 obtain⟨hlt,he⟩:=List.getElem?_eq_some_iff.1 h;rw [Uy,Uy,List.set_append_right _ _ (by simp;omega),Zs h];simp [Nat.min_eq_left (Nat.le_of_lt hlt)];rw [List.drop_eq_getElem_cons hlt];rfl
end Go.Proofs
namespace Go.Proofs
open Go.RowKit Go.Sort Go.Lib Go.Shelf Go.Maps
theorem Xlb (p:List UInt8) (n:Nat):(⟨p.toArray⟩:ByteArray).extract n p.length=⟨(p.drop n).toArray⟩:=by
 apply ByteArray.ext;rw [ByteArray.data_extract];simp;exact List.take_of_length_le (by simp)
theorem Tryz.Xqb (p pre:List UInt8) (w:World) :
  Calls prog 204 #[.string ⟨p.toArray⟩,.string ⟨pre.toArray⟩] w fun e w'=>e=.returned (.bool (p.take pre.length==pre))/\w'=w:=by
 have hx:=Xfq p pre.length
 by_cases h2:pre.length<=p.length
 ·have h2':(pre.length:Int)<=(p.length:Int):=by omega
  by_cases h3:p.take pre.length=pre
  ·have h3':(p.take pre.length==pre)=true:=by simpa using h3
   rw [h3'];rw [h3] at hx;go_enter func204,ntmps204;go_wp2;go_ret;exact⟨rfl,rfl⟩
  have h3':(p.take pre.length==pre)=false:=by simpa using h3
  rw [h3'];go_enter func204,ntmps204;go_wp2;go_ret;exact⟨rfl,rfl⟩
 have h2':¬ (pre.length:Int)<=(p.length:Int):=by omega
 have h3':(p.take pre.length==pre)=false:=by
  rw [beq_eq_false_iff_ne];intro e;have:=congrArg List.length e;simp at this;omega
 rw [h3'];go_enter func204,ntmps204;go_wp2;go_ret;exact⟨rfl,rfl⟩
theorem Tryz.Xtu (p pre:List UInt8) (w:World) :
  Calls prog 174 #[.string ⟨p.toArray⟩,.string ⟨pre.toArray⟩] w fun e w'=>e=.returned (.tuple (if p.take pre.length==pre then #[.string ⟨(p.drop pre.length).toArray⟩,.bool true] else #[.string ⟨p.toArray⟩,.bool false]))/\w'=w:=by
 have hH:=Xqb p pre w;have hx:=Xlb p pre.length
 by_cases h3:(p.take pre.length==pre)=true
 ·have hle:pre.length<=p.length:=by
   have h:=congrArg List.length (eq_of_beq h3);simp at h;omega
  have hle':(pre.length:Int)<=(p.length:Int):=by omega
  rw [h3] at hH;rw [if_pos h3];go_enter func174,ntmps174
  go_wp2_with (go_at_call 204;refine hH.mono ?_;rintro e w1 ⟨rfl,rfl⟩)
  exact bodyPost_ret (v:=.tuple #[.string ⟨(p.drop pre.length).toArray⟩,.bool true]) (by simp [results,results174,go_sem]) rfl ⟨rfl,rfl⟩
 rw [Bool.not_eq_true] at h3;rw [h3] at hH;rw [if_neg (by simp [h3])];go_enter func174,ntmps174
 go_wp2_with (go_at_call 204;refine hH.mono ?_;rintro e w1 ⟨rfl,rfl⟩)
 exact bodyPost_ret (v:=.tuple #[.string ⟨p.toArray⟩,.bool false]) (by simp [results,results174,go_sem]) rfl ⟨rfl,rfl⟩
theorem Tryz.Xvt (p pre:List UInt8) (w:World) :
  Calls prog 142 #[.string ⟨p.toArray⟩,.string ⟨pre.toArray⟩] w fun e w'=>e=.returned (.tuple (if p.take pre.length==pre then #[.string ⟨(p.drop pre.length).toArray⟩,.bool true] else #[.string ⟨p.toArray⟩,.bool false]))/\w'=w:=by
 have hH:=Xtu p pre w
 by_cases h3:(p.take pre.length==pre)=true
 ·rw [if_pos h3] at hH ⊢
  go_enter func142,ntmps142
  go_wp2_with (go_at_call 174;refine hH.mono ?_;rintro e w1 ⟨rfl,rfl⟩)
  exact bodyPost_ret (v:=.tuple #[.string ⟨(p.drop pre.length).toArray⟩,.bool true]) (by simp [results,results142,go_sem]) rfl ⟨rfl,rfl⟩
 rw [if_neg h3] at hH ⊢;go_enter func142,ntmps142
 go_wp2_with (go_at_call 174;refine hH.mono ?_;rintro e w1 ⟨rfl,rfl⟩)
 exact bodyPost_ret (v:=.tuple #[.string ⟨p.toArray⟩,.bool false]) (by simp [results,results142,go_sem]) rfl ⟨rfl,rfl⟩
theorem Tryz.within (p pre:List UInt8) (w:World) :
  Calls prog 94 #[.string ⟨p.toArray⟩,.string ⟨pre.toArray⟩] w fun e w'=>e=.returned (.bool (beginsB p pre))/\w'=w:=by
 have hH:=Xvt p pre w
 by_cases h3:(p.take pre.length==pre)=true
 ·rw [if_pos h3] at hH
  have hle:pre.length<=p.length:=by
   have h:=congrArg List.length (eq_of_beq h3);simp at h;omega
  by_cases h0:pre = []
  ·subst h0
   rw [show beginsB p []=true from rfl];go_enter func94,ntmps94
   go_wp2_with (go_at_call 142;refine hH.mono ?_;rintro e w1 ⟨rfl,rfl⟩)
   go_ret;exact⟨rfl,rfl⟩
  have h0':(pre == [])=false:=by simpa using h0
  have hl0:((pre.length:Int)==0)=false:=by
   rw [beq_eq_false_iff_ne];intro e;exact h0 (List.length_eq_zero_iff.1 (by omega))
  by_cases h1:p=pre
  ·subst h1
   have hb:beginsB p p=true:=by simp [beginsB]
   have hd:p.drop p.length = []:=by simp
   rw [hb];rw [hd] at hH;go_enter func94,ntmps94
   go_wp2_with (go_at_call 142;refine hH.mono ?_;rintro e w1 ⟨rfl,rfl⟩)
   go_ret;exact⟨rfl,rfl⟩
  have hlt:pre.length<p.length:=by
   rcases Nat.lt_or_ge pre.length p.length with h | h
   ·exact h
   exact absurd (by rw [<- eq_of_beq h3,List.take_of_length_le h]) h1
  obtain⟨c,r,hcr⟩:∃ c r,p.drop pre.length=c :: r:=by
   cases hd:p.drop pre.length with
   | nil=>have:=congrArg List.length hd;simp at this;omega
   | cons c r=>exact⟨c,r,rfl⟩
  have hpc:p[pre.length]? = some c:=by
   have:(p.drop pre.length)[0]? = some c:=by rw [hcr];rfl
   simpa using this
  have hb:beginsB p pre=(c==47):=by
   unfold beginsB;rw [hpc,h3];simp [h0,h1,hlt]
  have hck:∀ hp,((⟨(c :: r).toArray⟩:ByteArray)[0]'hp)=c:=fun hp=>rfl
  rw [hcr] at hH
  by_cases h4:c=47
  focus
   subst h4;rw [hb]
  rotate_left
  focus
   have h4':(c==47)=false:=by simpa using h4
   have h5:((c.toNat:Int)==47)=false:=by
    rw [beq_eq_false_iff_ne];intro e;exact h4 (by apply UInt8.toNat_inj.1;simpa using Int.ofNat_inj.1 e)
   rw [hb,h4']
  rotate_left
  all_goals
   go_enter func94,ntmps94
   go_wp2_with (go_at_call 142;refine hH.mono ?_;rintro e w1 ⟨rfl,rfl⟩)
   all_goals try simp only [hck] at *
   go_ret;exact⟨rfl,rfl⟩
 rw [if_neg h3] at hH
 have hb:beginsB p pre=false:=by
  rw [Bool.not_eq_true] at h3;unfold beginsB;rw [h3]
  have h0:pre ≠ []:=fun e=>by rw [e] at h3;simp at h3
  have h1:p≠pre:=fun e=>by rw [e] at h3;simp at h3
  simp [h0,h1]
 rw [hb];go_enter func94,ntmps94
 go_wp2_with (go_at_call 142;refine hH.mono ?_;rintro e w1 ⟨rfl,rfl⟩)
 go_ret;exact⟨rfl,rfl⟩
theorem Tryz.Xq1 (pb:Nat) (pre:List UInt8) (l:Xc) (w:World) (hP:BoxN w pb 9 #[.string ⟨pre.toArray⟩]) :
  Calls prog 93 #[.agg l.cells,.pointer (some ⟨pb,0,none⟩)] w fun e w'=>e=.returned (.bool (beginsB l.pth pre))/\Below w.heap.size w w':=by
 have hB0:Below w.heap.size w (w.alloc (.cells l.cells 131)):=(Below.refl _ w).alloc (Nat.le_refl _) _;have p0:=(hP.alloc (.cells l.cells 131)).cell 0 (v:=.string ⟨pre.toArray⟩) rfl
 have hW:=fun W=>within l.pth pre W
 obtain⟨n,ak,au,at_,tr,pd,pth,la⟩:=l;simp only [Xc.cells] at *;go_enter func93,ntmps93
 go_wp2_with (go_at_call 94;refine(hW _).mono ?_;rintro e w1 ⟨rfl,rfl⟩)
 go_ret;exact⟨rfl,hB0⟩
theorem Tryz.Xra (vb mt ml:Nat) (vx:VX) (tm tn ln:Int) (tks:List Xd) (lks:List Xc) (bv tb:Nat) (top:Int × Int) (l:Xc) (w:World) (hV:Xq w vb mt ml vx tm tn ln tks lks) (hv:BoxN w bv 76 #[.pointer (some ⟨vb,0,none⟩)]) (ht:BoxN w tb 114 #[.int .i64 top.1,.int .u64 top.2]) (b:Bool) (n:Nat) (hC:Vk tks top b n (l.ak,(l.au:Int))) :
  Calls prog 87 #[.agg l.cells,.pointer (some ⟨bv,0,none⟩),.pointer (some ⟨tb,0,none⟩)] w fun e w'=>e=.returned (.bool b)/\Below w.heap.size w w':=by
 have hB0:Below w.heap.size w (w.alloc (.cells l.cells 131)):=(Below.refl _ w).alloc (Nat.le_refl _) _;have p0:=(hv.alloc (.cells l.cells 131)).cell 0 (v:=.pointer (some ⟨vb,0,none⟩)) rfl;have q0:=(ht.alloc (.cells l.cells 131)).cell 0 (v:=.int .i64 top.1) rfl;have q1:=(ht.alloc (.cells l.cells 131)).cell 1 (v:=.int .u64 top.2) rfl;have hW:=Xkj vb mt ml vx tm tn ln tks lks _ (hV.below hB0) (l.ak,(l.au:Int)) top n b hC;obtain⟨ln',ak,au,at_,tr,pd,pth,la⟩:=l;simp only [Xc.cells,nmV] at *;go_enter func87,ntmps87
 go_wp2_with (go_at_call 88;refine hW.mono ?_;rintro e w1 ⟨rfl,hb1⟩)
 go_ret;exact⟨rfl,hB0.trans (hb1.mono hB0.size)⟩
end Go.Proofs
