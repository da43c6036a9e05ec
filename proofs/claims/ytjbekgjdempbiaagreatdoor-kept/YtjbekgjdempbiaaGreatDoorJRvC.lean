import Derived.Test.YtjbekgjdempbiaaGreatDoorJSq
import Derived.Test.YtjbekgjdempbiaaGreatDoorJTkE
import Derived.Test.YtjbekgjdempbiaaGreatDoorJTkO
import Derived.Test.YtjbekgjdempbiaaGreatDoorJFndA
set_option maxRecDepth 100000
set_option maxHeartbeats 8000000
namespace Go.Proofs
open Go.RowKit Go.Sort Go.Lib Go.Shelf Go.Maps
inductive Vm (tks:List Xd) (top:Int × Int) (b:Bool):Nat->Int × Int->Prop where
 | here (hb:b=true) {x:Int × Int} (hx:x=top):Vm tks top b 0 x
 | off (hb:b=false) {x:Int × Int} (hx:x≠top) (hw:Zq x) (hn:∀ t∈tks,x≠(1,(t.n:Int))):Vm tks top b 0 x
 | up {m:Nat} {x:Int × Int} (t:Xd) (ht:t∈tks) (hx:x≠top) (he:x=(1,(t.n:Int))) (h:Vm tks top b m (t.ak,(t.au:Int))):Vm tks top b (m+1) x
def Tryz.WiR (tks:List Xd) (top:Int × Int) (b:Bool) (w wr:World) (m:Nat):Prop:=∃ y,Vm tks top b m y/\BoxN wr w.heap.size 114 #[.int .i64 y.1,.int .u64 y.2]/\BoxN wr (w.heap.size+1) 114 #[.int .i64 top.1,.int .u64 top.2]/\Below w.heap.size w wr
theorem Tryz.Xj8 (vb mt ml:Nat) (vx:VX) (tm tn ln:Int) (tks:List Xd) (lks:List Xc) (w:World) (hV:Xq w vb mt ml vx tm tn ln tks lks) (x top:Int × Int) (n:Nat) (b:Bool) (hC:Vm tks top b n x) :
  Calls prog 88 #[.pointer (some ⟨vb,0,none⟩),nmV x,nmV top] w fun e w'=>e=.returned (.bool b)/\Below w.heap.size w w':=by
 obtain⟨p1,p2⟩:=top;have bN:=(BoxN.new w 114 #[.int .i64 x.1,.int .u64 x.2]).alloc (.cells #[.int .i64 p1,.int .u64 p2] 114);have bT:=BoxN.new (w.alloc (.cells #[.int .i64 x.1,.int .u64 x.2] 114)) 114 #[.int .i64 p1,.int .u64 p2];rw [World.size_alloc] at bT;have hB0:Below w.heap.size w ((w.alloc (.cells #[.int .i64 x.1,.int .u64 x.2] 114)).alloc (.cells #[.int .i64 p1,.int .u64 p2] 114)):=((Below.refl _ w).alloc (Nat.le_refl _) _).alloc (by simp) _;have lv:=hV.v.lt
 have hst:∃ m,WiR tks (p1,p2) b w ((w.alloc (.cells #[.int .i64 x.1,.int .u64 x.2] 114)).alloc (.cells #[.int .i64 p1,.int .u64 p2] 114)) m:=⟨n,x,hC,bN,bT,hB0⟩
 clear bN bT hB0 hC;unfold nmV;go_enter func88,ntmps88
 go_wp2_with fail
 generalize (w.alloc (.cells #[.int .i64 x.1,.int .u64 x.2] 114)).alloc (.cells #[.int .i64 p1,.int .u64 p2] 114)=W0 at *
 go_loopw [] (fun wr=>∃ m,WiR tks (p1,p2) b w wr m) (fun wr=>leastOf (WiR tks (p1,p2) b w wr))
 case atStart=>exact hst
 case round =>
  clear hst;have hm:=leastOf_spec hrel;clear hrel
  obtain⟨m,hme⟩:∃ m,leastOf (WiR tks (p1,p2) b w wr)=m:=⟨_,rfl⟩
  rw [hme] at hm;have HM:=Xb hme;clear hme;obtain⟨⟨y1,y2⟩,hC,bN,bT,hB⟩:=hm;simp only at bN
  obtain⟨W1,hW1⟩:∃ W1,W1=wr:=⟨_,rfl⟩
  subst hW1
  obtain⟨N,hs0⟩:∃ N,W1.heap.size=N:=⟨_,rfl⟩
  have lT:=bT.lt;have lN:=bN.lt;have hzw:=hB.size;have n0:=bN.cell 0 (v:=.int .i64 y1) rfl;have n1:=bN.cell 1 (v:=.int .u64 y2) rfl;have t0:=bT.cell 0 (v:=.int .i64 p1) rfl;have t1:=bT.cell 1 (v:=.int .u64 p2) rfl;have hb1:Below N W1 W1.drew:=(Below.refl _ _).drew
  cases hC with
  | here hb hx =>
   subst hb;obtain⟨rfl,rfl⟩:=Prod.mk.inj hx;go_wp2;go_ret;exact⟨rfl,hB⟩
  | off hb hx hw hn =>
   subst hb
   have hS:∀ W,Below N W1 W->LkP vb 3 mt w.heap.size 120 y1 y2 (.tuple #[.agg #[.int .i64 0,.int .u64 0,.int .u64 0,.int .i64 0,.bool false],.bool false]) W:=fun W hb=>by
    have bN':=bN.below hb (by omega);have hV':=hV.below (hB.trans (hb.mono (by omega)));exact⟨hV'.v.cell 3 rfl,bN'.cell 0 rfl,bN'.cell 1 rfl,hV'.Xaa hw hn⟩
   by_cases h1:y1=p1
   focus
    have h2:y2≠p2:=fun e=>hx (Prod.ext h1 e)
    subst h1
    go_wp2_with fail
    refine wp_region_held_drew (S:=(LkP vb 3 mt w.heap.size 120 y1 y2 (.tuple #[.agg #[.int .i64 0,.int .u64 0,.int .u64 0,.int .i64 0,.bool false],.bool false]))) (by kernel_rfl) (hS _ hb1) (fun hS0=>?_);refine Xt 0 ?v0a rfl ?y0a hS0 ?_
    case y0a=>(rintro w ⟨q0,q1,q2,q3⟩;go_simp;try with_reducible rfl)
    refine Xt 1 ?v1a rfl ?y1a hS0 ?_
    case y1a=>(rintro w ⟨q0,q1,q2,q3⟩;go_simp;try with_reducible rfl)
    refine Xt 2 ?v2a rfl ?y2a hS0 ?_
    case y2a=>(rintro w ⟨q0,q1,q2,q3⟩;go_simp;try with_reducible rfl)
    refine Xt 3 ?v3a rfl ?y3a hS0 ?_
    case y3a=>(rintro w ⟨q0,q1,q2,q3⟩;go_simp;try with_reducible rfl)
    refine Xt 4 ?v4a rfl ?y4a hS0 ?_
    case y4a=>(rintro w ⟨q0,q1,q2,q3⟩;go_simp;try with_reducible rfl)
    refine Xt 5 ?v5a rfl ?y5a hS0 ?_
    case y5a=>(rintro w ⟨q0,q1,q2,q3⟩;go_simp;try with_reducible rfl)
    refine Xt 6 ?v6a rfl ?y6a hS0 ?_
    case y6a=>(rintro w ⟨q0,q1,q2,q3⟩;go_simp;try with_reducible rfl)
    refine Xt 7 ?v7a rfl ?y7a hS0 ?_
    case y7a=>(rintro w ⟨q0,q1,q2,q3⟩;go_simp;try with_reducible rfl)
    refine Xt 8 ?v8a rfl ?y8a hS0 ?_
    case y8a=>(rintro w ⟨q0,q1,q2,q3⟩;go_simp;try with_reducible rfl)
   rotate_left
   focus
    go_wp2_with fail
    refine wp_region_held_drew (S:=(LkP vb 3 mt w.heap.size 120 y1 y2 (.tuple #[.agg #[.int .i64 0,.int .u64 0,.int .u64 0,.int .i64 0,.bool false],.bool false]))) (by kernel_rfl) (hS _ hb1) (fun hS0=>?_);refine Xt 0 ?v0b rfl ?y0b hS0 ?_
    case y0b=>(rintro w ⟨q0,q1,q2,q3⟩;go_simp;try with_reducible rfl)
    refine Xt 1 ?v1b rfl ?y1b hS0 ?_
    case y1b=>(rintro w ⟨q0,q1,q2,q3⟩;go_simp;try with_reducible rfl)
    refine Xt 2 ?v2b rfl ?y2b hS0 ?_
    case y2b=>(rintro w ⟨q0,q1,q2,q3⟩;go_simp;try with_reducible rfl)
    refine Xt 3 ?v3b rfl ?y3b hS0 ?_
    case y3b=>(rintro w ⟨q0,q1,q2,q3⟩;go_simp;try with_reducible rfl)
    refine Xt 4 ?v4b rfl ?y4b hS0 ?_
    case y4b=>(rintro w ⟨q0,q1,q2,q3⟩;go_simp;try with_reducible rfl)
    refine Xt 5 ?v5b rfl ?y5b hS0 ?_
    case y5b=>(rintro w ⟨q0,q1,q2,q3⟩;go_simp;try with_reducible rfl)
    refine Xt 6 ?v6b rfl ?y6b hS0 ?_
    case y6b=>(rintro w ⟨q0,q1,q2,q3⟩;go_simp;try with_reducible rfl)
    refine Xt 7 ?v7b rfl ?y7b hS0 ?_
    case y7b=>(rintro w ⟨q0,q1,q2,q3⟩;go_simp;try with_reducible rfl)
    refine Xt 8 ?v8b rfl ?y8b hS0 ?_
    case y8b=>(rintro w ⟨q0,q1,q2,q3⟩;go_simp;try with_reducible rfl)
   rotate_left
   all_goals
    refine Xh 9 rfl fun K hK=>?_;go_simp;refine hK.out _ _ (hS _ (hb1.alloc (by simp [hs0]) _)) (fun hS1=>?_);clear hK K;refine Xh 10 rfl fun K hK=>?_;go_simp;have hb2:Below N W1 (W1.alloc (.cells #[.int .i64 0,.int .u64 0,.int .u64 0,.int .i64 0,.bool false] 153)).drew:=((Below.refl _ _).alloc (by omega) _).drew;refine hK.out _ _ (hS _ hb2) (fun hS2=>?_);clear hK K;refine Xh 11 rfl fun K hK=>?_;go_simp;refine hK.out _ _ hS2 (fun _=>?_);clear hK K hS0 hS1 hS2;refine wpAnyH_done (by kernel_rfl) ?_ _;go_wp2;go_ret;exact⟨rfl,hB.trans (hb2.mono (by omega))⟩
  | @up m' _ t ht hx he h =>
   have hS:∀ W,Below N W1 W->LkP vb 3 mt w.heap.size 120 y1 y2 (.tuple #[.agg #[.int .i64 t.ak,.int .u64 t.au,.int .u64 t.at_,.int .i64 t.tr,.bool t.pd],.bool true]) W:=fun W hb=>by
    have bN':=bN.below hb (by omega);have hV':=hV.below (hB.trans (hb.mono (by omega)));have hl:=hV'.Xhi ht;rw [<- he] at hl;exact⟨hV'.v.cell 3 rfl,bN'.cell 0 rfl,bN'.cell 1 rfl,hl⟩
   have hBt:BoxN (W1.alloc (.cells #[.int .i64 t.ak,.int .u64 t.au,.int .u64 t.at_,.int .i64 t.tr,.bool t.pd] 153)).drew N 153 #[.int .i64 t.ak,.int .u64 t.au,.int .u64 t.at_,.int .i64 t.tr,.bool t.pd]:=by
    have h:=BoxN.new W1 153 #[.int .i64 t.ak,.int .u64 t.au,.int .u64 t.at_,.int .i64 t.tr,.bool t.pd];rw [hs0] at h;exact h
   have hfin:∀ W2,Below N W1 W2->WiR tks (p1,p2) b w ((W2.setCell ⟨w.heap.size,0,none⟩ (.int .i64 t.ak)).setCell ⟨w.heap.size,1,none⟩ (.int .u64 t.au)) m':=fun W2 hb2=>⟨(t.ak,(t.au:Int)),h,((bN.below hb2 (by omega)).set 0 (.int .i64 t.ak)).set 1 (.int .u64 t.au),((bT.below hb2 (by omega)).other (by omega) 0 _).other (by omega) 1 _,((hB.trans (hb2.mono (by omega))).setCell (p:=⟨w.heap.size,0,none⟩) (Nat.le_refl _) _).setCell (p:=⟨w.heap.size,1,none⟩) (Nat.le_refl _) _⟩
   have HF:=Xb hfin;clear hfin h
   by_cases h1:y1=p1
   focus
    have h2:y2≠p2:=fun e=>hx (Prod.ext h1 e)
    subst h1
    go_wp2_with fail
    refine wp_region_held_drew (S:=(LkP vb 3 mt w.heap.size 120 y1 y2 (.tuple #[.agg #[.int .i64 t.ak,.int .u64 t.au,.int .u64 t.at_,.int .i64 t.tr,.bool t.pd],.bool true]))) (by kernel_rfl) (hS _ hb1) (fun hS0=>?_);refine Xt 0 ?v0c rfl ?y0c hS0 ?_
    case y0c=>(rintro w ⟨q0,q1,q2,q3⟩;go_simp;try with_reducible rfl)
    refine Xt 1 ?v1c rfl ?y1c hS0 ?_
    case y1c=>(rintro w ⟨q0,q1,q2,q3⟩;go_simp;try with_reducible rfl)
    refine Xt 2 ?v2c rfl ?y2c hS0 ?_
    case y2c=>(rintro w ⟨q0,q1,q2,q3⟩;go_simp;try with_reducible rfl)
    refine Xt 3 ?v3c rfl ?y3c hS0 ?_
    case y3c=>(rintro w ⟨q0,q1,q2,q3⟩;go_simp;try with_reducible rfl)
    refine Xt 4 ?v4c rfl ?y4c hS0 ?_
    case y4c=>(rintro w ⟨q0,q1,q2,q3⟩;go_simp;try with_reducible rfl)
    refine Xt 5 ?v5c rfl ?y5c hS0 ?_
    case y5c=>(rintro w ⟨q0,q1,q2,q3⟩;go_simp;try with_reducible rfl)
    refine Xt 6 ?v6c rfl ?y6c hS0 ?_
    case y6c=>(rintro w ⟨q0,q1,q2,q3⟩;go_simp;try with_reducible rfl)
    refine Xt 7 ?v7c rfl ?y7c hS0 ?_
    case y7c=>(rintro w ⟨q0,q1,q2,q3⟩;go_simp;try with_reducible rfl)
    refine Xt 8 ?v8c rfl ?y8c hS0 ?_
    case y8c=>(rintro w ⟨q0,q1,q2,q3⟩;go_simp;try with_reducible rfl)
   rotate_left
   focus
    go_wp2_with fail
    refine wp_region_held_drew (S:=(LkP vb 3 mt w.heap.size 120 y1 y2 (.tuple #[.agg #[.int .i64 t.ak,.int .u64 t.au,.int .u64 t.at_,.int .i64 t.tr,.bool t.pd],.bool true]))) (by kernel_rfl) (hS _ hb1) (fun hS0=>?_);refine Xt 0 ?v0d rfl ?y0d hS0 ?_
    case y0d=>(rintro w ⟨q0,q1,q2,q3⟩;go_simp;try with_reducible rfl)
    refine Xt 1 ?v1d rfl ?y1d hS0 ?_
    case y1d=>(rintro w ⟨q0,q1,q2,q3⟩;go_simp;try with_reducible rfl)
    refine Xt 2 ?v2d rfl ?y2d hS0 ?_
    case y2d=>(rintro w ⟨q0,q1,q2,q3⟩;go_simp;try with_reducible rfl)
    refine Xt 3 ?v3d rfl ?y3d hS0 ?_
    case y3d=>(rintro w ⟨q0,q1,q2,q3⟩;go_simp;try with_reducible rfl)
    refine Xt 4 ?v4d rfl ?y4d hS0 ?_
    case y4d=>(rintro w ⟨q0,q1,q2,q3⟩;go_simp;try with_reducible rfl)
    refine Xt 5 ?v5d rfl ?y5d hS0 ?_
    case y5d=>(rintro w ⟨q0,q1,q2,q3⟩;go_simp;try with_reducible rfl)
    refine Xt 6 ?v6d rfl ?y6d hS0 ?_
    case y6d=>(rintro w ⟨q0,q1,q2,q3⟩;go_simp;try with_reducible rfl)
    refine Xt 7 ?v7d rfl ?y7d hS0 ?_
    case y7d=>(rintro w ⟨q0,q1,q2,q3⟩;go_simp;try with_reducible rfl)
    refine Xt 8 ?v8d rfl ?y8d hS0 ?_
    case y8d=>(rintro w ⟨q0,q1,q2,q3⟩;go_simp;try with_reducible rfl)
   rotate_left
   all_goals
    refine Xh 9 rfl fun K hK=>?_;go_simp;refine hK.out _ _ (hS _ (hb1.alloc (by simp [hs0]) _)) (fun hS1=>?_);clear hK K;refine Xh 10 rfl fun K hK=>?_;go_simp;have hb2:Below N W1 (W1.alloc (.cells #[.int .i64 t.ak,.int .u64 t.au,.int .u64 t.at_,.int .i64 t.tr,.bool t.pd] 153)).drew:=((Below.refl _ _).alloc (by omega) _).drew;refine hK.out _ _ (hS _ hb2) (fun hS2=>?_);clear hK K;refine Xh 11 rfl fun K hK=>?_;go_simp;refine hK.out _ _ hS2 (fun _=>?_);clear hK K hS0 hS1 hS2;refine wpAnyH_done (by kernel_rfl) ?_ _;have bN2:=bN.below hb2 (by omega);have r:=(Xa HF) _ hb2;generalize (W1.alloc (.cells #[.int .i64 t.ak,.int .u64 t.au,.int .u64 t.at_,.int .i64 t.tr,.bool t.pd] 153)).drew=W2 at *;have u0:=hBt.cell 0 (v:=.int .i64 t.ak) rfl;have u1:=hBt.cell 1 (v:=.int .u64 t.au) rfl;have z0:=bN2.cell 0 (v:=.int .i64 y1) rfl;have z1:=bN2.cell 1 (v:=.int .u64 y2) rfl;have f0:=bN2.frozen 0;have f1:=bN2.frozen 1;clear hS n0 n1 t0 t1;go_wp2;exact⟨⟨_,r⟩,by rw [Xa HM];exact Nat.lt_succ_of_le (Xd8 r)⟩
theorem Tryz.Xpj (pb:Nat) (pre:List UInt8) (l:Xc) (w:World) (hP:BoxN w pb 9 #[.string ⟨pre.toArray⟩]) :
  Calls prog 93 #[.agg l.cells,.pointer (some ⟨pb,0,none⟩)] w fun e w'=>e=.returned (.bool (beginsB l.pth pre))/\Below w.heap.size w w':=by
 have hB0:Below w.heap.size w (w.alloc (.cells l.cells 131)):=(Below.refl _ w).alloc (Nat.le_refl _) _;have p0:=(hP.alloc (.cells l.cells 131)).cell 0 (v:=.string ⟨pre.toArray⟩) rfl
 have hW:=fun W=>within l.pth pre W
 obtain⟨n,ak,au,at_,tr,pd,pth,la⟩:=l;simp only [Xc.cells] at *;go_enter func93,ntmps93
 go_wp2_with (go_at_call 94;refine(hW _).mono ?_;rintro e w1 ⟨rfl,rfl⟩)
 go_ret;exact⟨rfl,hB0⟩
theorem Tryz.Xp8 (vb mt ml:Nat) (vx:VX) (tm tn ln:Int) (tks:List Xd) (lks:List Xc) (bv tb:Nat) (top:Int × Int) (l:Xc) (w:World) (hV:Xq w vb mt ml vx tm tn ln tks lks) (hv:BoxN w bv 76 #[.pointer (some ⟨vb,0,none⟩)]) (ht:BoxN w tb 114 #[.int .i64 top.1,.int .u64 top.2]) (b:Bool) (n:Nat) (hC:Vm tks top b n (l.ak,(l.au:Int))) :
  Calls prog 87 #[.agg l.cells,.pointer (some ⟨bv,0,none⟩),.pointer (some ⟨tb,0,none⟩)] w fun e w'=>e=.returned (.bool b)/\Below w.heap.size w w':=by
 have hB0:Below w.heap.size w (w.alloc (.cells l.cells 131)):=(Below.refl _ w).alloc (Nat.le_refl _) _;have p0:=(hv.alloc (.cells l.cells 131)).cell 0 (v:=.pointer (some ⟨vb,0,none⟩)) rfl;have q0:=(ht.alloc (.cells l.cells 131)).cell 0 (v:=.int .i64 top.1) rfl;have q1:=(ht.alloc (.cells l.cells 131)).cell 1 (v:=.int .u64 top.2) rfl;have hW:=Xj8 vb mt ml vx tm tn ln tks lks _ (hV.below hB0) (l.ak,(l.au:Int)) top n b hC;obtain⟨ln',ak,au,at_,tr,pd,pth,la⟩:=l;simp only [Xc.cells,nmV] at *;go_enter func87,ntmps87
 go_wp2_with (go_at_call 88;refine hW.mono ?_;rintro e w1 ⟨rfl,hb1⟩)
 go_ret;exact⟨rfl,hB0.trans (hb1.mono hB0.size)⟩
end Go.Proofs
