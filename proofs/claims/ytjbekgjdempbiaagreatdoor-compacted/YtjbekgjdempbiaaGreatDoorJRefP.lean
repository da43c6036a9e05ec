import Derived.Test.YtjbekgjdempbiaaGreatDoorJSq
import Derived.Test.YtjbekgjdempbiaaGreatDoorJCCntA
import Derived.Test.YtjbekgjdempbiaaGreatDoorJRefH
set_option maxRecDepth 100000
set_option maxHeartbeats 8000000
namespace Go.Proofs
open Go.RowKit Go.Sort Go.Lib Go.Shelf Go.Maps
structure Tryz.LvP (vb lb:Nat) (tm ak au at_ tr:Int) (pd:Bool) (pth:List UInt8) (la:Int) (W:World):Prop where
 t:W.cell? ⟨vb,2,none⟩=some (.int .u64 tm)
 c0:W.cell? ⟨lb,0,none⟩=some (.int .i64 ak)
 c1:W.cell? ⟨lb,1,none⟩=some (.int .u64 au)
 c2:W.cell? ⟨lb,2,none⟩=some (.int .u64 at_)
 c3:W.cell? ⟨lb,3,none⟩=some (.int .i64 tr)
 c4:W.cell? ⟨lb,4,none⟩=some (.bool pd)
 c5:W.cell? ⟨lb,5,none⟩=some (.string ⟨pth.toArray⟩)
 c6:W.cell? ⟨lb,6,none⟩=some (.int .u64 la)
theorem Tryz.LvP.drew {vb lb:Nat} {tm ak au at_ tr:Int} {pd:Bool} {pth:List UInt8} {la:Int} {W:World} (h:LvP vb lb tm ak au at_ tr pd pth la W):LvP vb lb tm ak au at_ tr pd pth la W.drew:=⟨h.t,h.c0,h.c1,h.c2,h.c3,h.c4,h.c5,h.c6⟩
theorem Tryz.Xco (vb ml:Nat) (x:Int × Int) (tm ak au at_ tr:Int) (pd:Bool) (pth:List UInt8) (la:Int) (b:Bool) (w:World) (hvb:vb<w.heap.size) (hP:∀ W,Below w.heap.size w W->W.cell? ⟨vb,4,none⟩=some (.map (some ml))/\W.cell? ⟨vb,2,none⟩=some (.int .u64 tm)/\(Instr.lookup 121 (.map (some ml)) (nmV x) true).run prog W=.ok (.tuple #[.agg #[.int .i64 ak,.int .u64 au,.int .u64 at_,.int .i64 tr,.bool pd,.string ⟨pth.toArray⟩,.int .u64 la],.bool b]) W) :
  Calls prog 71 #[.pointer (some ⟨vb,0,none⟩),nmV x] w fun e w'=>e=.returned (.tuple #[.agg #[.int .i64 ak,.int .u64 au,.int .u64 at_,.int .i64 tr,.bool pd,.string ⟨pth.toArray⟩,.int .u64 la],.bool (b&&(!pd&&decide (tm<at_)))])/\Below w.heap.size w w':=by
 have hB0:Below w.heap.size w ((w.alloc (.cells #[.int .i64 x.1,.int .u64 x.2] 114)).alloc (.cells #[.int .i64 0,.int .u64 0,.int .u64 0,.int .i64 0,.bool false,.string ⟨#[]⟩,.int .u64 0] 131)):=((Below.refl _ w).alloc (Nat.le_refl _) _).alloc (by simp) _;have bN:=(BoxN.new w 114 #[.int .i64 x.1,.int .u64 x.2]).alloc (.cells #[.int .i64 0,.int .u64 0,.int .u64 0,.int .i64 0,.bool false,.string ⟨#[]⟩,.int .u64 0] 131);have bR:=BoxN.new (w.alloc (.cells #[.int .i64 x.1,.int .u64 x.2] 114)) 131 #[.int .i64 0,.int .u64 0,.int .u64 0,.int .i64 0,.bool false,.string ⟨#[]⟩,.int .u64 0];rw [World.size_alloc] at bR
 have hS:∀ W,Below (w.heap.size+2) ((w.alloc (.cells #[.int .i64 x.1,.int .u64 x.2] 114)).alloc (.cells #[.int .i64 0,.int .u64 0,.int .u64 0,.int .i64 0,.bool false,.string ⟨#[]⟩,.int .u64 0] 131)) W->LkP vb 4 ml w.heap.size 121 x.1 x.2 (.tuple #[.agg #[.int .i64 ak,.int .u64 au,.int .u64 at_,.int .i64 tr,.bool pd,.string ⟨pth.toArray⟩,.int .u64 la],.bool b]) W:=fun W hb=>by
  have bN':=bN.below hb (by omega);obtain⟨h1,h2,h3⟩:=hP W (hB0.trans (hb.mono (by omega)));exact⟨h1,bN'.cell 0 rfl,bN'.cell 1 rfl,h3⟩
 have hs0:((w.alloc (.cells #[.int .i64 x.1,.int .u64 x.2] 114)).alloc (.cells #[.int .i64 0,.int .u64 0,.int .u64 0,.int .i64 0,.bool false,.string ⟨#[]⟩,.int .u64 0] 131)).heap.size=w.heap.size+2:=by simp
 unfold nmV;go_enter func71,ntmps71
 go_wp2_with fail
 generalize ((w.alloc (.cells #[.int .i64 x.1,.int .u64 x.2] 114)).alloc (.cells #[.int .i64 0,.int .u64 0,.int .u64 0,.int .i64 0,.bool false,.string ⟨#[]⟩,.int .u64 0] 131))=W1 at *;have hb1:Below (w.heap.size+2) W1 W1.drew:=(Below.refl _ _).drew;refine wp_region_held_drew (S:=LkP vb 4 ml w.heap.size 121 x.1 x.2 (.tuple #[.agg #[.int .i64 ak,.int .u64 au,.int .u64 at_,.int .i64 tr,.bool pd,.string ⟨pth.toArray⟩,.int .u64 la],.bool b])) (by kernel_rfl) (hS _ hb1) (fun hS0=>?_);refine Xt 0 ?v0 rfl ?y0 hS0 ?_
 case y0=>(rintro w ⟨q0,q1,q2,q3⟩;go_simp;try with_reducible rfl)
 refine Xt 1 ?v1 rfl ?y1 hS0 ?_
 case y1=>(rintro w ⟨q0,q1,q2,q3⟩;go_simp;try with_reducible rfl)
 refine Xt 2 ?v2 rfl ?y2 hS0 ?_
 case y2=>(rintro w ⟨q0,q1,q2,q3⟩;go_simp;try with_reducible rfl)
 refine Xt 3 ?v3 rfl ?y3 hS0 ?_
 case y3=>(rintro w ⟨q0,q1,q2,q3⟩;go_simp;try with_reducible rfl)
 refine Xt 4 ?v4 rfl ?y4 hS0 ?_
 case y4=>(rintro w ⟨q0,q1,q2,q3⟩;go_simp;try with_reducible rfl)
 refine Xt 5 ?v5 rfl ?y5 hS0 ?_
 case y5=>(rintro w ⟨q0,q1,q2,q3⟩;go_simp;try with_reducible rfl)
 refine Xt 6 ?v6 rfl ?y6 hS0 ?_
 case y6=>(rintro w ⟨q0,q1,q2,q3⟩;go_simp;try with_reducible rfl)
 refine Xt 7 ?v7 rfl ?y7 hS0 ?_
 case y7=>(rintro w ⟨q0,q1,q2,q3⟩;go_simp;try with_reducible rfl)
 refine Xt 8 ?v8 rfl ?y8 hS0 ?_
 case y8=>(rintro w ⟨q0,q1,q2,q3⟩;go_simp;try with_reducible rfl)
 refine Xh 9 rfl fun K hK=>?_;go_simp;refine hK.out _ _ (hS _ (hb1.alloc (by simp [hs0]) _)) (fun hS1=>?_);clear hK K;refine Xh 10 rfl fun K hK=>?_;go_simp;have hb2:Below (w.heap.size+2) W1 (W1.alloc (.cells #[.int .i64 ak,.int .u64 au,.int .u64 at_,.int .i64 tr,.bool pd,.string ⟨pth.toArray⟩,.int .u64 la] 131)).drew:=((Below.refl _ _).alloc (by omega) _).drew
 have bT:BoxN (W1.alloc (.cells #[.int .i64 ak,.int .u64 au,.int .u64 at_,.int .i64 tr,.bool pd,.string ⟨pth.toArray⟩,.int .u64 la] 131)).drew (w.heap.size+2) 131 #[.int .i64 ak,.int .u64 au,.int .u64 at_,.int .i64 tr,.bool pd,.string ⟨pth.toArray⟩,.int .u64 la]:=by
  have h:=BoxN.new W1 131 #[.int .i64 ak,.int .u64 au,.int .u64 at_,.int .i64 tr,.bool pd,.string ⟨pth.toArray⟩,.int .u64 la];rw [hs0] at h;exact h
 refine hK.out _ _ (hS _ hb2) (fun hS2=>?_);clear hK K;refine Xh 11 rfl fun K hK=>?_;go_simp;refine hK.out _ _ hS2 (fun _=>?_);clear hK K;refine wpAnyH_done (by kernel_rfl) ?_ _;have hBf:Below w.heap.size w (W1.alloc (.cells #[.int .i64 ak,.int .u64 au,.int .u64 at_,.int .i64 tr,.bool pd,.string ⟨pth.toArray⟩,.int .u64 la] 131)).drew:=hB0.trans (hb2.mono (by omega));have bR2:=bR.below hb2 (by omega);obtain⟨-,ct,-⟩:=hP _ hBf;clear hS hP hS0 hS1 hS2 hb1 hb2 hB0 bN bR hs0;generalize (W1.alloc (.cells #[.int .i64 ak,.int .u64 au,.int .u64 at_,.int .i64 tr,.bool pd,.string ⟨pth.toArray⟩,.int .u64 la] 131)).drew=W2 at *
 have hP2:LvP vb (w.heap.size+2) tm ak au at_ tr pd pth la W2:=⟨ct,bT.cell 0 rfl,bT.cell 1 rfl,bT.cell 2 rfl,bT.cell 3 rfl,bT.cell 4 rfl,bT.cell 5 rfl,bT.cell 6 rfl⟩
 have hP2d:LvP vb (w.heap.size+2) tm ak au at_ tr pd pth la W2.drew:=⟨ct,bT.cell 0 rfl,bT.cell 1 rfl,bT.cell 2 rfl,bT.cell 3 rfl,bT.cell 4 rfl,bT.cell 5 rfl,bT.cell 6 rfl⟩
 have hL:=Xaa (w.heap.size+2) pd at_ tm W2.drew (bT.cell 4 rfl) (bT.cell 2 rfl)
 go_wp2_with fail
 refine wp_region_held_drew (S:=LvP vb (w.heap.size+2) tm ak au at_ tr pd pth la) (by kernel_rfl) hP2d (fun hS0=>?_);have z0:=bR2.cell 0 (v:=.int .i64 0) rfl;have z1:=bR2.cell 1 (v:=.int .u64 0) rfl;have z2:=bR2.cell 2 (v:=.int .u64 0) rfl;have z3:=bR2.cell 3 (v:=.int .i64 0) rfl;have z4:=bR2.cell 4 (v:=.bool false) rfl;have z5:=bR2.cell 5 (v:=.string ⟨#[]⟩) rfl;have z6:=bR2.cell 6 (v:=.int .u64 0) rfl;have f0:=bR2.frozen 0;have f1:=bR2.frozen 1;have f2:=bR2.frozen 2;have f3:=bR2.frozen 3;have f4:=bR2.frozen 4;have f5:=bR2.frozen 5;have f6:=bR2.frozen 6;have lvb:vb<w.heap.size:=hvb;have e0:BoxN (W2.setCell ⟨w.heap.size+1,0,none⟩ (.int .i64 ak)) (w.heap.size+1) 131 #[.int .i64 ak,.int .u64 0,.int .u64 0,.int .i64 0,.bool false,.string ⟨#[]⟩,.int .u64 0]:=bR2.set 0 (.int .i64 ak);have e1:BoxN ((W2.setCell ⟨w.heap.size+1,0,none⟩ (.int .i64 ak)).setCell ⟨w.heap.size+1,1,none⟩ (.int .u64 au)) (w.heap.size+1) 131 #[.int .i64 ak,.int .u64 au,.int .u64 0,.int .i64 0,.bool false,.string ⟨#[]⟩,.int .u64 0]:=e0.set 1 (.int .u64 au);have e2:BoxN (((W2.setCell ⟨w.heap.size+1,0,none⟩ (.int .i64 ak)).setCell ⟨w.heap.size+1,1,none⟩ (.int .u64 au)).setCell ⟨w.heap.size+1,2,none⟩ (.int .u64 at_)) (w.heap.size+1) 131 #[.int .i64 ak,.int .u64 au,.int .u64 at_,.int .i64 0,.bool false,.string ⟨#[]⟩,.int .u64 0]:=e1.set 2 (.int .u64 at_);have e3:BoxN ((((W2.setCell ⟨w.heap.size+1,0,none⟩ (.int .i64 ak)).setCell ⟨w.heap.size+1,1,none⟩ (.int .u64 au)).setCell ⟨w.heap.size+1,2,none⟩ (.int .u64 at_)).setCell ⟨w.heap.size+1,3,none⟩ (.int .i64 tr)) (w.heap.size+1) 131 #[.int .i64 ak,.int .u64 au,.int .u64 at_,.int .i64 tr,.bool false,.string ⟨#[]⟩,.int .u64 0]:=e2.set 3 (.int .i64 tr);have e4:BoxN (((((W2.setCell ⟨w.heap.size+1,0,none⟩ (.int .i64 ak)).setCell ⟨w.heap.size+1,1,none⟩ (.int .u64 au)).setCell ⟨w.heap.size+1,2,none⟩ (.int .u64 at_)).setCell ⟨w.heap.size+1,3,none⟩ (.int .i64 tr)).setCell ⟨w.heap.size+1,4,none⟩ (.bool pd)) (w.heap.size+1) 131 #[.int .i64 ak,.int .u64 au,.int .u64 at_,.int .i64 tr,.bool pd,.string ⟨#[]⟩,.int .u64 0]:=e3.set 4 (.bool pd);have e5:BoxN ((((((W2.setCell ⟨w.heap.size+1,0,none⟩ (.int .i64 ak)).setCell ⟨w.heap.size+1,1,none⟩ (.int .u64 au)).setCell ⟨w.heap.size+1,2,none⟩ (.int .u64 at_)).setCell ⟨w.heap.size+1,3,none⟩ (.int .i64 tr)).setCell ⟨w.heap.size+1,4,none⟩ (.bool pd)).setCell ⟨w.heap.size+1,5,none⟩ (.string ⟨pth.toArray⟩)) (w.heap.size+1) 131 #[.int .i64 ak,.int .u64 au,.int .u64 at_,.int .i64 tr,.bool pd,.string ⟨pth.toArray⟩,.int .u64 0]:=e4.set 5 (.string ⟨pth.toArray⟩);have bR3:BoxN (((((((W2.setCell ⟨w.heap.size+1,0,none⟩ (.int .i64 ak)).setCell ⟨w.heap.size+1,1,none⟩ (.int .u64 au)).setCell ⟨w.heap.size+1,2,none⟩ (.int .u64 at_)).setCell ⟨w.heap.size+1,3,none⟩ (.int .i64 tr)).setCell ⟨w.heap.size+1,4,none⟩ (.bool pd)).setCell ⟨w.heap.size+1,5,none⟩ (.string ⟨pth.toArray⟩)).setCell ⟨w.heap.size+1,6,none⟩ (.int .u64 la)) (w.heap.size+1) 131 #[.int .i64 ak,.int .u64 au,.int .u64 at_,.int .i64 tr,.bool pd,.string ⟨pth.toArray⟩,.int .u64 la]:=e5.set 6 (.int .u64 la);clear e0 e1 e2 e3 e4 e5;have hB3:Below (w.heap.size+1) W2 (((((((W2.setCell ⟨w.heap.size+1,0,none⟩ (.int .i64 ak)).setCell ⟨w.heap.size+1,1,none⟩ (.int .u64 au)).setCell ⟨w.heap.size+1,2,none⟩ (.int .u64 at_)).setCell ⟨w.heap.size+1,3,none⟩ (.int .i64 tr)).setCell ⟨w.heap.size+1,4,none⟩ (.bool pd)).setCell ⟨w.heap.size+1,5,none⟩ (.string ⟨pth.toArray⟩)).setCell ⟨w.heap.size+1,6,none⟩ (.int .u64 la)):=(((((((Below.refl _ W2).setCell (p:=⟨w.heap.size+1,0,none⟩) (Nat.le_refl _) _).setCell (p:=⟨w.heap.size+1,1,none⟩) (Nat.le_refl _) _).setCell (p:=⟨w.heap.size+1,2,none⟩) (Nat.le_refl _) _).setCell (p:=⟨w.heap.size+1,3,none⟩) (Nat.le_refl _) _).setCell (p:=⟨w.heap.size+1,4,none⟩) (Nat.le_refl _) _).setCell (p:=⟨w.heap.size+1,5,none⟩) (Nat.le_refl _) _).setCell (p:=⟨w.heap.size+1,6,none⟩) (Nat.le_refl _) _
 have hS3:LvP vb (w.heap.size+2) tm ak au at_ tr pd pth la (((((((W2.setCell ⟨w.heap.size+1,0,none⟩ (.int .i64 ak)).setCell ⟨w.heap.size+1,1,none⟩ (.int .u64 au)).setCell ⟨w.heap.size+1,2,none⟩ (.int .u64 at_)).setCell ⟨w.heap.size+1,3,none⟩ (.int .i64 tr)).setCell ⟨w.heap.size+1,4,none⟩ (.bool pd)).setCell ⟨w.heap.size+1,5,none⟩ (.string ⟨pth.toArray⟩)).setCell ⟨w.heap.size+1,6,none⟩ (.int .u64 la)).drew:=by
  have hne:vb≠w.heap.size+1:=by omega
  have bT3:BoxN (((((((W2.setCell ⟨w.heap.size+1,0,none⟩ (.int .i64 ak)).setCell ⟨w.heap.size+1,1,none⟩ (.int .u64 au)).setCell ⟨w.heap.size+1,2,none⟩ (.int .u64 at_)).setCell ⟨w.heap.size+1,3,none⟩ (.int .i64 tr)).setCell ⟨w.heap.size+1,4,none⟩ (.bool pd)).setCell ⟨w.heap.size+1,5,none⟩ (.string ⟨pth.toArray⟩)).setCell ⟨w.heap.size+1,6,none⟩ (.int .u64 la)) (w.heap.size+2) 131 #[.int .i64 ak,.int .u64 au,.int .u64 at_,.int .i64 tr,.bool pd,.string ⟨pth.toArray⟩,.int .u64 la]:=(((((((bT.other (B':=w.heap.size+1) (by omega) 0 (.int .i64 ak)).other (B':=w.heap.size+1) (by omega) 1 (.int .u64 au)).other (B':=w.heap.size+1) (by omega) 2 (.int .u64 at_)).other (B':=w.heap.size+1) (by omega) 3 (.int .i64 tr)).other (B':=w.heap.size+1) (by omega) 4 (.bool pd)).other (B':=w.heap.size+1) (by omega) 5 (.string ⟨pth.toArray⟩)).other (B':=w.heap.size+1) (by omega) 6 (.int .u64 la))
  have ct3:(((((((W2.setCell ⟨w.heap.size+1,0,none⟩ (.int .i64 ak)).setCell ⟨w.heap.size+1,1,none⟩ (.int .u64 au)).setCell ⟨w.heap.size+1,2,none⟩ (.int .u64 at_)).setCell ⟨w.heap.size+1,3,none⟩ (.int .i64 tr)).setCell ⟨w.heap.size+1,4,none⟩ (.bool pd)).setCell ⟨w.heap.size+1,5,none⟩ (.string ⟨pth.toArray⟩)).setCell ⟨w.heap.size+1,6,none⟩ (.int .u64 la)).cell? ⟨vb,2,none⟩=some (.int .u64 tm):=by
   rw [World.cell?_setCell_far _ _ _ _ (fun e=>hne e.symm),World.cell?_setCell_far _ _ _ _ (fun e=>hne e.symm),World.cell?_setCell_far _ _ _ _ (fun e=>hne e.symm),World.cell?_setCell_far _ _ _ _ (fun e=>hne e.symm),World.cell?_setCell_far _ _ _ _ (fun e=>hne e.symm),World.cell?_setCell_far _ _ _ _ (fun e=>hne e.symm),World.cell?_setCell_far _ _ _ _ (fun e=>hne e.symm)];exact ct
  exact LvP.drew ⟨ct3,bT3.cell 0 rfl,bT3.cell 1 rfl,bT3.cell 2 rfl,bT3.cell 3 rfl,bT3.cell 4 rfl,bT3.cell 5 rfl,bT3.cell 6 rfl⟩
 cases b
 ·refine Xt 0 ?va0 rfl ?ya0 hS0 ?_
  case ya0=>(rintro w ⟨q0,q1,q2,q3,q4,q5,q6,q7⟩;go_simp;try with_reducible rfl)
  refine Xt 1 ?va1 rfl ?ya1 hS0 ?_
  case ya1=>(rintro w ⟨q0,q1,q2,q3,q4,q5,q6,q7⟩;go_simp;try with_reducible rfl)
  refine Xt 2 ?va2 rfl ?ya2 hS0 ?_
  case ya2=>(rintro w ⟨q0,q1,q2,q3,q4,q5,q6,q7⟩;go_simp;try with_reducible rfl)
  refine Xu 3 rfl hS0 ?_;refine Xu 4 rfl hS0 ?_;refine Xu 5 rfl hS0 ?_;refine Xu 6 rfl hS0 ?_;refine Xu 7 rfl hS0 ?_;refine Xt 8 ?va8 rfl ?ya8 hS0 ?_
  case ya8=>(rintro w ⟨q0,q1,q2,q3,q4,q5,q6,q7⟩;go_simp;try with_reducible rfl)
  refine Xh 9 rfl fun K hK=>?_;go_simp;refine hK.out _ _ hS3 (fun hS4=>?_);clear hK K;refine Xh 10 rfl fun K hK=>?_;go_simp;refine hK.out _ _ hS4 (fun _=>?_);clear hK K;refine wpAnyH_done (by kernel_rfl) ?_ _;clear hS4 hS3 hS0 hP2 hP2d;generalize (((((((W2.setCell ⟨w.heap.size+1,0,none⟩ (.int .i64 ak)).setCell ⟨w.heap.size+1,1,none⟩ (.int .u64 au)).setCell ⟨w.heap.size+1,2,none⟩ (.int .u64 at_)).setCell ⟨w.heap.size+1,3,none⟩ (.int .i64 tr)).setCell ⟨w.heap.size+1,4,none⟩ (.bool pd)).setCell ⟨w.heap.size+1,5,none⟩ (.string ⟨pth.toArray⟩)).setCell ⟨w.heap.size+1,6,none⟩ (.int .u64 la))=W3 at *;have r0:=bR3.cell 0 (v:=.int .i64 ak) rfl;have r1:=bR3.cell 1 (v:=.int .u64 au) rfl;have r2:=bR3.cell 2 (v:=.int .u64 at_) rfl;have r3:=bR3.cell 3 (v:=.int .i64 tr) rfl;have r4:=bR3.cell 4 (v:=.bool pd) rfl;have r5:=bR3.cell 5 (v:=.string ⟨pth.toArray⟩) rfl;have r6:=bR3.cell 6 (v:=.int .u64 la) rfl;go_wp2;exact bodyPost_ret (v:=.tuple #[.agg #[.int .i64 ak,.int .u64 au,.int .u64 at_,.int .i64 tr,.bool pd,.string ⟨pth.toArray⟩,.int .u64 la],.bool false]) (by simp [results,results71,go_sem,r0,r1,r2,r3,r4,r5,r6]) rfl ⟨by simp,(hBf.trans (hB3.mono (by omega))).drew⟩
 refine Xt 0 ?vb0 rfl ?yb0 hS0 ?_
 case yb0=>(rintro w ⟨q0,q1,q2,q3,q4,q5,q6,q7⟩;go_simp;try with_reducible rfl)
 refine Xt 1 ?vb1 rfl ?yb1 hS0 ?_
 case yb1=>(rintro w ⟨q0,q1,q2,q3,q4,q5,q6,q7⟩;go_simp;try with_reducible rfl)
 refine Xt 2 ?vb2 rfl ?yb2 hS0 ?_
 case yb2=>(rintro w ⟨q0,q1,q2,q3,q4,q5,q6,q7⟩;go_simp;try with_reducible rfl)
 refine Xt 3 ?vb3 rfl ?yb3 hS0 ?_
 case yb3=>(rintro w ⟨q0,q1,q2,q3,q4,q5,q6,q7⟩;go_simp;try with_reducible rfl)
 refine Xt 4 ?vb4 rfl ?yb4 hS0 ?_
 case yb4=>(rintro w ⟨q0,q1,q2,q3,q4,q5,q6,q7⟩;go_simp;try with_reducible rfl)
 refine Xt 5 ?vb5 rfl ?yb5 hS0 ?_
 case yb5=>(rintro w ⟨q0,q1,q2,q3,q4,q5,q6,q7⟩;go_simp;try with_reducible rfl)
 refine Xt 6 ?vb6 rfl ?yb6 hS0 ?_
 case yb6=>(rintro w ⟨q0,q1,q2,q3,q4,q5,q6,q7⟩;go_simp;try with_reducible rfl)
 refine Xh 7 rfl fun K hK=>?_;go_simp;refine hL.mono ?_;rintro e w5 ⟨rfl,rfl⟩;refine hK.out _ _ hP2d (fun _=>?_);clear hK K;refine Xt 8 ?vb8 rfl ?yb8 hS0 ?_
 case yb8=>(rintro w ⟨q0,q1,q2,q3,q4,q5,q6,q7⟩;go_simp;try with_reducible rfl)
 refine Xh 9 rfl fun K hK=>?_;go_simp;refine hK.out _ _ hS3 (fun hS4=>?_);clear hK K;refine Xh 10 rfl fun K hK=>?_;go_simp;refine hK.out _ _ hS4 (fun _=>?_);clear hK K;refine wpAnyH_done (by kernel_rfl) ?_ _;clear hS4 hS3 hS0 hP2 hP2d;generalize (((((((W2.setCell ⟨w.heap.size+1,0,none⟩ (.int .i64 ak)).setCell ⟨w.heap.size+1,1,none⟩ (.int .u64 au)).setCell ⟨w.heap.size+1,2,none⟩ (.int .u64 at_)).setCell ⟨w.heap.size+1,3,none⟩ (.int .i64 tr)).setCell ⟨w.heap.size+1,4,none⟩ (.bool pd)).setCell ⟨w.heap.size+1,5,none⟩ (.string ⟨pth.toArray⟩)).setCell ⟨w.heap.size+1,6,none⟩ (.int .u64 la))=W3 at *;have r0:=bR3.cell 0 (v:=.int .i64 ak) rfl;have r1:=bR3.cell 1 (v:=.int .u64 au) rfl;have r2:=bR3.cell 2 (v:=.int .u64 at_) rfl;have r3:=bR3.cell 3 (v:=.int .i64 tr) rfl;have r4:=bR3.cell 4 (v:=.bool pd) rfl;have r5:=bR3.cell 5 (v:=.string ⟨pth.toArray⟩) rfl;have r6:=bR3.cell 6 (v:=.int .u64 la) rfl;go_wp2;exact bodyPost_ret (v:=.tuple #[.agg #[.int .i64 ak,.int .u64 au,.int .u64 at_,.int .i64 tr,.bool pd,.string ⟨pth.toArray⟩,.int .u64 la],.bool (!pd&&decide (tm<at_))]) (by simp [results,results71,go_sem,r0,r1,r2,r3,r4,r5,r6]) rfl ⟨by simp,(hBf.trans (hB3.mono (by omega))).drew⟩
theorem Tryz.Vm (vb mt ml:Nat) (vx:VX) (tm tn ln:Int) (tks:List Xe) (lks:List Xd) (w:World) (hV:X0 w vb mt ml vx tm tn ln tks lks) (l:Xd) (hl:l∈lks) :
  Calls prog 71 #[.pointer (some ⟨vb,0,none⟩),nmV (2,(l.n:Int))] w fun e w'=>e=.returned (.tuple #[.agg l.cells,.bool (!l.pd&&decide (tm<l.at_))])/\Below w.heap.size w w':=by
 have h:=Xco vb ml (2,(l.n:Int)) tm l.ak l.au l.at_ l.tr l.pd l.pth l.last true w hV.v.lt (fun W hb=>⟨(hV.below hb).v.cell 4 rfl,(hV.below hb).v.cell 2 rfl,(hV.below hb).Xod hl⟩);simp only [Bool.true_and] at h;exact h
theorem Tryz.Xjr (vb:Nat) (w:World) (id pth:List UInt8) (x:Int × Int) (ak au at_ tr:Int) (pd:Bool) (lp:List UInt8) (la:Int) (b:Bool) (hp:Calls prog 63 #[.string ⟨id.toArray⟩] w fun e w'=>e=.returned (nmV x)/\Below w.heap.size w w')
  (hF:∀ W,Below w.heap.size w W->Calls prog 71 #[.pointer (some ⟨vb,0,none⟩),nmV x] W fun e w'=>e=.returned (.tuple #[.agg #[.int .i64 ak,.int .u64 au,.int .u64 at_,.int .i64 tr,.bool pd,.string ⟨lp.toArray⟩,.int .u64 la],.bool b])/\Below W.heap.size W w') :
  Calls prog 47 #[.pointer (some ⟨vb,0,none⟩),.string ⟨id.toArray⟩,.string ⟨pth.toArray⟩] w fun e w'=>e=.returned (.bool (b&&(lp==pth)))/\Below w.heap.size w w':=by
 unfold nmV at hp hF;cases b
 all_goals
  go_enter func47,ntmps47
  go_wp2_with (first
   | (go_at_call 63;refine hp.mono ?_;rintro e w1 ⟨rfl,hb1⟩)
   | (go_at_call 71;refine(hF _ hb1).mono ?_;rintro e w2 ⟨rfl,hb2⟩))
  have hb:=hb1.trans (hb2.mono hb1.size);go_ret;exact⟨by simp,hb.alloc hb.size _⟩
end Go.Proofs
namespace Go.Proofs
open Go.RowKit Go.Sort Go.Lib Go.Shelf
def doomAt (tm:Int) (t:Xm):Xm:=if t.state tm=1 then { t with doomed:=true,at_:=tm } else t
abbrev DoomP (g vb i:Nat) (s:Value) (tm:Int) (W:World):Prop:=W.cell? ⟨vb,0,none⟩=some s/\W.cell? ⟨vb,1,none⟩=some (.int .u64 tm)/\W.cell? ⟨g,i*8+4,none⟩=some (Xq W ⟨g,i*8+4,none⟩)/\W.frozen? ⟨g,i*8+4,none⟩=false
def freeI (n:Int) (L:List Xm):Bool:=L.all (fun t=>!(t.of_==n))
def waitN:Nat->Int
 | 0=>2
 | 1=>4
 | 2=>8
 | 3=>16
 | _=>32
theorem Xfj {k:Nat} (h:k<4):waitN k<32/\0<waitN k/\waitN k*2=waitN (k+1):=by
 match k,h with
 | 0,_=>decide
 | 1,_=>decide
 | 2,_=>decide
 | 3,_=>decide
theorem M9 {k:Nat} (h:4<=k):waitN k=32:=by
 match k,h with
 | k+4,_=>rfl
theorem Xbi (k:Nat):0<waitN k/\waitN k<=32:=by
 by_cases h:k<4
 ·have:=Xfj h;omega
 rw [M9 (by omega)];omega
def failAt (tm:Int) (t:Xm):Xm:={ t with tries:=t.tries+1,doomed:=true,at_:=plusI tm (waitN t.tries.toNat) }
end Go.Proofs
