import Derived.Test.YtjbekgjdempbiaaGreatDoorJSq
import Derived.Test.YtjbekgjdempbiaaGreatDoorJTkB
import Derived.Test.YtjbekgjdempbiaaGreatDoorJTkA
set_option maxRecDepth 100000
set_option maxHeartbeats 8000000
namespace Go.Proofs
open Go.RowKit Go.Sort Go.Lib Go.Shelf Go.Maps
structure Tryz.Xtk (vb c m nb:Nat) (tm:TypeId) (k u:Int) (r:Value) (W:World):Prop where
 mp:W.cell? ⟨vb,c,none⟩=some (.map (some m))
 n0:W.cell? ⟨nb,0,none⟩=some (.int .i64 k)
 n1:W.cell? ⟨nb,1,none⟩=some (.int .u64 u)
 lk:(Instr.lookup tm (.map (some m)) (.agg #[.int .i64 k,.int .u64 u]) false).run Tryz.prog W=.ok r W
theorem Tryz.Xjh (vb mt:Nat) (x:Int × Int) (ak au at_ tr:Int) (pd:Bool) (w:World) (hP:∀ W,Below w.heap.size w W->W.cell? ⟨vb,3,none⟩=some (.map (some mt))/\(Instr.lookup 120 (.map (some mt)) (nmV x) true).run prog W=.ok (.tuple #[.agg #[.int .i64 ak,.int .u64 au,.int .u64 at_,.int .i64 tr,.bool pd],.bool true]) W) :
  Calls prog 134 #[.pointer (some ⟨vb,0,none⟩),nmV x] w fun e w'=>e=.returned (nmV (ak,au))/\Below w.heap.size w w':=by
 have hB0:Below w.heap.size w ((w.alloc (.cells #[.int .i64 x.1,.int .u64 x.2] 114)).alloc (.cells #[.int .i64 0,.int .u64 0] 114)):=((Below.refl _ w).alloc (Nat.le_refl _) _).alloc (by simp) _;have bN:=(BoxN.new w 114 #[.int .i64 x.1,.int .u64 x.2]).alloc (.cells #[.int .i64 0,.int .u64 0] 114);have bR:=BoxN.new (w.alloc (.cells #[.int .i64 x.1,.int .u64 x.2] 114)) 114 #[.int .i64 0,.int .u64 0];rw [World.size_alloc] at bR
 have hs0:((w.alloc (.cells #[.int .i64 x.1,.int .u64 x.2] 114)).alloc (.cells #[.int .i64 0,.int .u64 0] 114)).heap.size=w.heap.size+2:=by simp
 unfold nmV;go_enter func134,ntmps134
 go_wp2_with fail
 generalize (w.alloc (.cells #[.int .i64 x.1,.int .u64 x.2] 114)).alloc (.cells #[.int .i64 0,.int .u64 0] 114)=W1 at *
 have hS:∀ W,Below (w.heap.size+2) W1 W->LkP vb 3 mt w.heap.size 120 x.1 x.2 (.tuple #[.agg #[.int .i64 ak,.int .u64 au,.int .u64 at_,.int .i64 tr,.bool pd],.bool true]) W:=fun W hb=>by
  have bN':=bN.below hb (by omega);obtain⟨h1,h2⟩:=hP W (hB0.trans (hb.mono (by omega)));exact⟨h1,bN'.cell 0 rfl,bN'.cell 1 rfl,h2⟩
 have hb1:Below (w.heap.size+2) W1 W1.drew:=(Below.refl _ _).drew;refine wp_region_held_drew (S:=(LkP vb 3 mt w.heap.size 120 x.1 x.2 (.tuple #[.agg #[.int .i64 ak,.int .u64 au,.int .u64 at_,.int .i64 tr,.bool pd],.bool true]))) (by kernel_rfl) (hS _ hb1) (fun hS0=>?_);refine Xt 0 ?v0 rfl ?y0 hS0 ?_
 case y0=>(rintro w ⟨q0,q1,q2,q3⟩;go_simp;try with_reducible rfl)
 refine Xt 1 ?v1 rfl ?y1 hS0 ?_
 case y1=>(rintro w ⟨q0,q1,q2,q3⟩;go_simp;try with_reducible rfl)
 refine Xt 2 ?v2 rfl ?y2 hS0 ?_
 case y2=>(rintro w ⟨q0,q1,q2,q3⟩;go_simp;try with_reducible rfl)
 refine Xt 3 ?v3 rfl ?y3 hS0 ?_
 case y3=>(rintro w ⟨q0,q1,q2,q3⟩;go_simp;try with_reducible rfl)
 refine Xt 4 ?v4 rfl ?y4 hS0 ?_
 case y4=>(rintro w ⟨q0,q1,q2,q3⟩;go_simp;try with_reducible rfl)
 refine Xt 5 ?v5 rfl ?y5 hS0 ?_
 case y5=>(rintro w ⟨q0,q1,q2,q3⟩;go_simp;try with_reducible rfl)
 refine Xt 6 ?v6 rfl ?y6 hS0 ?_
 case y6=>(rintro w ⟨q0,q1,q2,q3⟩;go_simp;try with_reducible rfl)
 refine Xt 7 ?v7 rfl ?y7 hS0 ?_
 case y7=>(rintro w ⟨q0,q1,q2,q3⟩;go_simp;try with_reducible rfl)
 refine Xt 8 ?v8 rfl ?y8 hS0 ?_
 case y8=>(rintro w ⟨q0,q1,q2,q3⟩;go_simp;try with_reducible rfl)
 refine Xh 9 rfl fun K hK=>?_;go_simp;refine hK.out _ _ (hS _ (hb1.alloc (by simp [hs0]) _)) (fun hS1=>?_);clear hK K;refine Xh 10 rfl fun K hK=>?_;go_simp;have hb2:Below (w.heap.size+2) W1 (W1.alloc (.cells #[.int .i64 ak,.int .u64 au,.int .u64 at_,.int .i64 tr,.bool pd] 153)).drew:=((Below.refl _ _).alloc (by omega) _).drew;refine hK.out _ _ (hS _ hb2) (fun hS2=>?_);clear hK K;refine Xh 11 rfl fun K hK=>?_;go_simp;refine hK.out _ _ hS2 (fun _=>?_);clear hK K hS0 hS1 hS2;refine wpAnyH_done (by kernel_rfl) ?_ _
 have bT:BoxN (W1.alloc (.cells #[.int .i64 ak,.int .u64 au,.int .u64 at_,.int .i64 tr,.bool pd] 153)).drew (w.heap.size+2) 153 #[.int .i64 ak,.int .u64 au,.int .u64 at_,.int .i64 tr,.bool pd]:=by
  have h:=BoxN.new W1 153 #[.int .i64 ak,.int .u64 au,.int .u64 at_,.int .i64 tr,.bool pd];rw [hs0] at h;exact h
 have bR2:=bR.below hb2 (by omega);have hBf:=hB0.trans (hb2.mono (by omega));clear hS hP hb1 hb2 hB0 bN bR;generalize (W1.alloc (.cells #[.int .i64 ak,.int .u64 au,.int .u64 at_,.int .i64 tr,.bool pd] 153)).drew=W2 at *;have y0:=bT.cell 0 (v:=.int .i64 ak) rfl;have y1:=bT.cell 1 (v:=.int .u64 au) rfl;have z0:=bR2.cell 0 (v:=.int .i64 0) rfl;have z1:=bR2.cell 1 (v:=.int .u64 0) rfl;have f0:=bR2.frozen 0;have f1:=bR2.frozen 1;have hfin:=(bR2.set 0 (.int .i64 ak)).set 1 (.int .u64 au);have r0:=hfin.cell 0 (v:=.int .i64 ak) (by simp);have r1:=hfin.cell 1 (v:=.int .u64 au) (by simp);go_wp2;exact bodyPost_ret (v:=.agg #[.int .i64 ak,.int .u64 au]) (by simp [results,results134,go_sem,r0,r1]) rfl ⟨rfl,(hBf.setCell (p:=⟨w.heap.size+1,0,none⟩) (by show w.heap.size<=w.heap.size+1;omega) _).setCell (p:=⟨w.heap.size+1,1,none⟩) (by show w.heap.size<=w.heap.size+1;omega) _⟩
theorem Tryz.Xvr (ak au at_ tr:Int) (pd:Bool) (pth:ByteArray) (la:Int) (w:World):Sem.run prog (Instr.field 131 (.agg #[.int .i64 ak,.int .u64 au,.int .u64 at_,.int .i64 tr,.bool pd,.string pth,.int .u64 la]) 0) w=.ok (.agg #[.int .i64 ak,.int .u64 au,.int .u64 at_,.int .i64 tr,.bool pd]) w:=by kernel_rfl
theorem Tryz.Xvm (ak au at_ tr:Int) (pd:Bool) (w:World):Sem.run prog (Instr.field 129 (.agg #[.int .i64 ak,.int .u64 au,.int .u64 at_,.int .i64 tr,.bool pd]) 0) w=.ok (.agg #[.int .i64 ak,.int .u64 au]) w:=by kernel_rfl
theorem Tryz.Xkm (vb mt ml:Nat) (x:Int × Int) (ak au at_ tr:Int) (pd:Bool) (pth:List UInt8) (la:Int) (w:World) (hP:∀ W,Below w.heap.size w W->W.cell? ⟨vb,3,none⟩=some (.map (some mt))/\(Instr.lookup 120 (.map (some mt)) (nmV x) true).run prog W=.ok (.tuple #[.agg #[.int .i64 0,.int .u64 0,.int .u64 0,.int .i64 0,.bool false],.bool false]) W)
  (hP2:∀ W,Below w.heap.size w W->W.cell? ⟨vb,4,none⟩=some (.map (some ml))/\(Instr.lookup 121 (.map (some ml)) (nmV x) false).run prog W=.ok (.agg #[.int .i64 ak,.int .u64 au,.int .u64 at_,.int .i64 tr,.bool pd,.string ⟨pth.toArray⟩,.int .u64 la]) W) :
  Calls prog 134 #[.pointer (some ⟨vb,0,none⟩),nmV x] w fun e w'=>e=.returned (nmV (ak,au))/\Below w.heap.size w w':=by
 have hB0:Below w.heap.size w ((w.alloc (.cells #[.int .i64 x.1,.int .u64 x.2] 114)).alloc (.cells #[.int .i64 0,.int .u64 0] 114)):=((Below.refl _ w).alloc (Nat.le_refl _) _).alloc (by simp) _;have bN:=(BoxN.new w 114 #[.int .i64 x.1,.int .u64 x.2]).alloc (.cells #[.int .i64 0,.int .u64 0] 114);have bR:=BoxN.new (w.alloc (.cells #[.int .i64 x.1,.int .u64 x.2] 114)) 114 #[.int .i64 0,.int .u64 0];rw [World.size_alloc] at bR
 have hs0:((w.alloc (.cells #[.int .i64 x.1,.int .u64 x.2] 114)).alloc (.cells #[.int .i64 0,.int .u64 0] 114)).heap.size=w.heap.size+2:=by simp
 unfold nmV at hP hP2 ⊢;go_enter func134,ntmps134
 go_wp2_with fail
 generalize (w.alloc (.cells #[.int .i64 x.1,.int .u64 x.2] 114)).alloc (.cells #[.int .i64 0,.int .u64 0] 114)=W1 at *
 have hS:∀ W,Below (w.heap.size+2) W1 W->LkP vb 3 mt w.heap.size 120 x.1 x.2 (.tuple #[.agg #[.int .i64 0,.int .u64 0,.int .u64 0,.int .i64 0,.bool false],.bool false]) W:=fun W hb=>by
  have bN':=bN.below hb (by omega);obtain⟨h1,h2⟩:=hP W (hB0.trans (hb.mono (by omega)));exact⟨h1,bN'.cell 0 rfl,bN'.cell 1 rfl,h2⟩
 have hb1:Below (w.heap.size+2) W1 W1.drew:=(Below.refl _ _).drew;refine wp_region_held_drew (S:=(LkP vb 3 mt w.heap.size 120 x.1 x.2 (.tuple #[.agg #[.int .i64 0,.int .u64 0,.int .u64 0,.int .i64 0,.bool false],.bool false]))) (by kernel_rfl) (hS _ hb1) (fun hS0=>?_);refine Xt 0 ?v0 rfl ?y0 hS0 ?_
 case y0=>(rintro w ⟨q0,q1,q2,q3⟩;go_simp;try with_reducible rfl)
 refine Xt 1 ?v1 rfl ?y1 hS0 ?_
 case y1=>(rintro w ⟨q0,q1,q2,q3⟩;go_simp;try with_reducible rfl)
 refine Xt 2 ?v2 rfl ?y2 hS0 ?_
 case y2=>(rintro w ⟨q0,q1,q2,q3⟩;go_simp;try with_reducible rfl)
 refine Xt 3 ?v3 rfl ?y3 hS0 ?_
 case y3=>(rintro w ⟨q0,q1,q2,q3⟩;go_simp;try with_reducible rfl)
 refine Xt 4 ?v4 rfl ?y4 hS0 ?_
 case y4=>(rintro w ⟨q0,q1,q2,q3⟩;go_simp;try with_reducible rfl)
 refine Xt 5 ?v5 rfl ?y5 hS0 ?_
 case y5=>(rintro w ⟨q0,q1,q2,q3⟩;go_simp;try with_reducible rfl)
 refine Xt 6 ?v6 rfl ?y6 hS0 ?_
 case y6=>(rintro w ⟨q0,q1,q2,q3⟩;go_simp;try with_reducible rfl)
 refine Xt 7 ?v7 rfl ?y7 hS0 ?_
 case y7=>(rintro w ⟨q0,q1,q2,q3⟩;go_simp;try with_reducible rfl)
 refine Xt 8 ?v8 rfl ?y8 hS0 ?_
 case y8=>(rintro w ⟨q0,q1,q2,q3⟩;go_simp;try with_reducible rfl)
 refine Xh 9 rfl fun K hK=>?_;go_simp;refine hK.out _ _ (hS _ (hb1.alloc (by simp [hs0]) _)) (fun hS1=>?_);clear hK K;refine Xh 10 rfl fun K hK=>?_;go_simp;have hb2:Below (w.heap.size+2) W1 (W1.alloc (.cells #[.int .i64 0,.int .u64 0,.int .u64 0,.int .i64 0,.bool false] 153)).drew:=((Below.refl _ _).alloc (by omega) _).drew;refine hK.out _ _ (hS _ hb2) (fun hS2=>?_);clear hK K;refine Xh 11 rfl fun K hK=>?_;go_simp;refine hK.out _ _ hS2 (fun _=>?_);clear hK K hS0 hS1 hS2;refine wpAnyH_done (by kernel_rfl) ?_ _;have bR2:=bR.below hb2 (by omega);have bN2:=bN.below hb2 (by omega);have hBf:=hB0.trans (hb2.mono (by omega));obtain⟨hc4,hl4⟩:=hP2 _ hBf.drew;clear hS hP hP2 hb1 hb2 hB0 bN bR;generalize (W1.alloc (.cells #[.int .i64 0,.int .u64 0,.int .u64 0,.int .i64 0,.bool false] 153)).drew=W2 at *;have hc5:W2.cell? ⟨vb,4,none⟩=some (.map (some ml)):=hc4;have y0:=bN2.cell 0 (v:=.int .i64 x.1) rfl;have y1:=bN2.cell 1 (v:=.int .u64 x.2) rfl;have z0:=bR2.cell 0 (v:=.int .i64 0) rfl;have z1:=bR2.cell 1 (v:=.int .u64 0) rfl;have f0:=bR2.frozen 0;have f1:=bR2.frozen 1;have hfin:=(bR2.set 0 (.int .i64 ak)).set 1 (.int .u64 au);have r0:=hfin.cell 0 (v:=.int .i64 ak) (by simp);have r1:=hfin.cell 1 (v:=.int .u64 au) (by simp);have e1:=Xvr ak au at_ tr pd ⟨pth.toArray⟩ la;have e2:=Xvm ak au at_ tr pd
 go_wp2_with fail
 go_region
 go_wp2;exact bodyPost_ret (v:=.agg #[.int .i64 ak,.int .u64 au]) (by simp [results,results134,go_sem,r0,r1]) rfl ⟨rfl,((hBf.setCell (p:=⟨w.heap.size+1,0,none⟩) (by show w.heap.size<=w.heap.size+1;omega) _).setCell (p:=⟨w.heap.size+1,1,none⟩) (by show w.heap.size<=w.heap.size+1;omega) _).drew⟩
theorem Tryz.Xkw (vb mt:Nat) (x:Int × Int) (tm ak au at_ tr:Int) (pd:Bool) (w:World) (hP:∀ W,Below w.heap.size w W->W.cell? ⟨vb,3,none⟩=some (.map (some mt))/\W.cell? ⟨vb,2,none⟩=some (.int .u64 tm)/\(Instr.lookup 120 (.map (some mt)) (nmV x) true).run prog W=.ok (.tuple #[.agg #[.int .i64 ak,.int .u64 au,.int .u64 at_,.int .i64 tr,.bool pd],.bool true]) W) (h0:0<=tr) (h1:tr<9223372036854775807) (t0:0<=tm) (t1:tm<=18446744073709551615) :
  Calls prog 135 #[.pointer (some ⟨vb,0,none⟩),nmV x] w fun e w'=>e=.returned (.agg (Xi 1 x.1 x.2 ak au true (plusI tm (waitN tr.toNat)) (tr+1) 0 []))/\Below w.heap.size w w':=by
 have hB0:Below w.heap.size w ((w.alloc (.cells #[.int .i64 x.1,.int .u64 x.2] 114)).alloc (.cells #[.int .i64 0,.int .i64 0,.int .u64 0,.int .i64 0,.int .u64 0,.bool false,.int .u64 0,.int .i64 0,.int .u64 0,.string ⟨#[]⟩] 135)):=((Below.refl _ w).alloc (Nat.le_refl _) _).alloc (by simp) _;have bN:=(BoxN.new w 114 #[.int .i64 x.1,.int .u64 x.2]).alloc (.cells #[.int .i64 0,.int .i64 0,.int .u64 0,.int .i64 0,.int .u64 0,.bool false,.int .u64 0,.int .i64 0,.int .u64 0,.string ⟨#[]⟩] 135);have bR:=BoxN.new (w.alloc (.cells #[.int .i64 x.1,.int .u64 x.2] 114)) 135 #[.int .i64 0,.int .i64 0,.int .u64 0,.int .i64 0,.int .u64 0,.bool false,.int .u64 0,.int .i64 0,.int .u64 0,.string ⟨#[]⟩];rw [World.size_alloc] at bR
 have hs0:((w.alloc (.cells #[.int .i64 x.1,.int .u64 x.2] 114)).alloc (.cells #[.int .i64 0,.int .i64 0,.int .u64 0,.int .i64 0,.int .u64 0,.bool false,.int .u64 0,.int .i64 0,.int .u64 0,.string ⟨#[]⟩] 135)).heap.size=w.heap.size+2:=by simp
 unfold nmV Xi at *
 obtain⟨at2,hat2⟩:∃ at2,plusI tm (waitN tr.toNat)=at2:=⟨_,rfl⟩
 rw [hat2];have HA:=Xb hat2;clear hat2;go_enter func135,ntmps135
 go_wp2_with fail
 generalize ((w.alloc (.cells #[.int .i64 x.1,.int .u64 x.2] 114)).alloc (.cells #[.int .i64 0,.int .i64 0,.int .u64 0,.int .i64 0,.int .u64 0,.bool false,.int .u64 0,.int .i64 0,.int .u64 0,.string ⟨#[]⟩] 135))=W1 at *
 have hS:∀ W,Below (w.heap.size+2) W1 W->LkP vb 3 mt w.heap.size 120 x.1 x.2 (.tuple #[.agg #[.int .i64 ak,.int .u64 au,.int .u64 at_,.int .i64 tr,.bool pd],.bool true]) W:=fun W hb=>by
  have bN':=bN.below hb (by omega);obtain⟨h1,h2,h3⟩:=hP W (hB0.trans (hb.mono (by omega)));exact⟨h1,bN'.cell 0 rfl,bN'.cell 1 rfl,h3⟩
 have hb1:Below (w.heap.size+2) W1 W1.drew:=(Below.refl _ _).drew;refine wp_region_held_drew (S:=(LkP vb 3 mt w.heap.size 120 x.1 x.2 (.tuple #[.agg #[.int .i64 ak,.int .u64 au,.int .u64 at_,.int .i64 tr,.bool pd],.bool true]))) (by kernel_rfl) (hS _ hb1) (fun hS0=>?_);refine Xt 0 ?v0 rfl ?y0 hS0 ?_
 case y0=>(rintro w ⟨q0,q1,q2,q3⟩;go_simp;try with_reducible rfl)
 refine Xt 1 ?v1 rfl ?y1 hS0 ?_
 case y1=>(rintro w ⟨q0,q1,q2,q3⟩;go_simp;try with_reducible rfl)
 refine Xt 2 ?v2 rfl ?y2 hS0 ?_
 case y2=>(rintro w ⟨q0,q1,q2,q3⟩;go_simp;try with_reducible rfl)
 refine Xt 3 ?v3 rfl ?y3 hS0 ?_
 case y3=>(rintro w ⟨q0,q1,q2,q3⟩;go_simp;try with_reducible rfl)
 refine Xt 4 ?v4 rfl ?y4 hS0 ?_
 case y4=>(rintro w ⟨q0,q1,q2,q3⟩;go_simp;try with_reducible rfl)
 refine Xt 5 ?v5 rfl ?y5 hS0 ?_
 case y5=>(rintro w ⟨q0,q1,q2,q3⟩;go_simp;try with_reducible rfl)
 refine Xt 6 ?v6 rfl ?y6 hS0 ?_
 case y6=>(rintro w ⟨q0,q1,q2,q3⟩;go_simp;try with_reducible rfl)
 refine Xt 7 ?v7 rfl ?y7 hS0 ?_
 case y7=>(rintro w ⟨q0,q1,q2,q3⟩;go_simp;try with_reducible rfl)
 refine Xt 8 ?v8 rfl ?y8 hS0 ?_
 case y8=>(rintro w ⟨q0,q1,q2,q3⟩;go_simp;try with_reducible rfl)
 refine Xh 9 rfl fun K hK=>?_;go_simp;refine hK.out _ _ (hS _ (hb1.alloc (by simp [hs0]) _)) (fun hS1=>?_);clear hK K;refine Xh 10 rfl fun K hK=>?_;go_simp;have hb2:Below (w.heap.size+2) W1 (W1.alloc (.cells #[.int .i64 ak,.int .u64 au,.int .u64 at_,.int .i64 tr,.bool pd] 153)).drew:=((Below.refl _ _).alloc (by omega) _).drew;refine hK.out _ _ (hS _ hb2) (fun hS2=>?_);clear hK K;refine Xh 11 rfl fun K hK=>?_;go_simp;refine hK.out _ _ hS2 (fun _=>?_);clear hK K hS0 hS1 hS2;refine wpAnyH_done (by kernel_rfl) ?_ _
 have bT:BoxN (W1.alloc (.cells #[.int .i64 ak,.int .u64 au,.int .u64 at_,.int .i64 tr,.bool pd] 153)).drew (w.heap.size+2) 153 #[.int .i64 ak,.int .u64 au,.int .u64 at_,.int .i64 tr,.bool pd]:=by
  have h:=BoxN.new W1 153 #[.int .i64 ak,.int .u64 au,.int .u64 at_,.int .i64 tr,.bool pd];rw [hs0] at h;exact h
 have hsz2:(W1.alloc (.cells #[.int .i64 ak,.int .u64 au,.int .u64 at_,.int .i64 tr,.bool pd] 153)).drew.heap.size=w.heap.size+3:=by simp [hs0]
 have bR2:=bR.below hb2 (by omega);have bN2:=bN.below hb2 (by omega);have hBf:=hB0.trans (hb2.mono (by omega));obtain⟨-,ct,-⟩:=hP _ hBf;clear hS hP hb1 hb2 hB0 bN bR hs0;generalize (W1.alloc (.cells #[.int .i64 ak,.int .u64 au,.int .u64 at_,.int .i64 tr,.bool pd] 153)).drew=W2 at *;have hF:=Xuh (w.heap.size+2) 153 ak au at_ tr tm pd [] W2 (by simpa using bT) h0 h1 t0 t1;rw [Xa HA] at hF;clear HA bT
 go_wp2_with (first
  | (go_at_call 168;refine hF.mono ?_;rintro e w3 ⟨rfl,bT3,hS3⟩;have hB3:Below w.heap.size w w3:=⟨hS3.os.trans hBf.os,hS3.tape.trans hBf.tape,hS3.output.trans hBf.output,Nat.le_trans hBf.size hS3.size,fun k hk=>(hS3.block k (Nat.lt_of_lt_of_le hk hBf.size) (by simp;omega)).trans (hBf.block k hk)⟩;have bR3:=hS3.box bR2 (by simp);have bN3:=hS3.box bN2 (by simp);have n0:=bN3.cell 0 (v:=.int .i64 x.1) rfl;have n1:=bN3.cell 1 (v:=.int .u64 x.2) rfl;have hE:=Xac (w.heap.size+2) x.1 x.2 ak au at2 (tr+1) true w3 (bT3.cell 0 (by simp)) (bT3.cell 1 (by simp)) (bT3.cell 2 (by simp)) (bT3.cell 3 (by simp)) (bT3.cell 4 (by simp));unfold Xi at hE)
  | (go_at_call 84;refine hE.mono ?_;rintro e w4 ⟨rfl,hb4⟩;have hB4:=hB3.trans (hb4.mono hB3.size);have bR4:=bR3.below hb4 bR3.lt;have z0:=bR4.cell 0 (v:=.int .i64 0) rfl;have f0:=bR4.frozen 0;have z1:=bR4.cell 1 (v:=.int .i64 0) rfl;have f1:=bR4.frozen 1;have z2:=bR4.cell 2 (v:=.int .u64 0) rfl;have f2:=bR4.frozen 2;have z3:=bR4.cell 3 (v:=.int .i64 0) rfl;have f3:=bR4.frozen 3;have z4:=bR4.cell 4 (v:=.int .u64 0) rfl;have f4:=bR4.frozen 4;have z5:=bR4.cell 5 (v:=.bool false) rfl;have f5:=bR4.frozen 5;have z6:=bR4.cell 6 (v:=.int .u64 0) rfl;have f6:=bR4.frozen 6;have z7:=bR4.cell 7 (v:=.int .i64 0) rfl;have f7:=bR4.frozen 7;have z8:=bR4.cell 8 (v:=.int .u64 0) rfl;have f8:=bR4.frozen 8;have z9:=bR4.cell 9 (v:=.string ⟨#[]⟩) rfl;have f9:=bR4.frozen 9))
 have z0:=bR4.cell 0 (v:=.int .i64 0) rfl;have f0:=bR4.frozen 0;have z1:=bR4.cell 1 (v:=.int .i64 0) rfl;have f1:=bR4.frozen 1;have z2:=bR4.cell 2 (v:=.int .u64 0) rfl;have f2:=bR4.frozen 2;have z3:=bR4.cell 3 (v:=.int .i64 0) rfl;have f3:=bR4.frozen 3;have z4:=bR4.cell 4 (v:=.int .u64 0) rfl;have f4:=bR4.frozen 4;have z5:=bR4.cell 5 (v:=.bool false) rfl;have f5:=bR4.frozen 5;have z6:=bR4.cell 6 (v:=.int .u64 0) rfl;have f6:=bR4.frozen 6;have z7:=bR4.cell 7 (v:=.int .i64 0) rfl;have f7:=bR4.frozen 7;have z8:=bR4.cell 8 (v:=.int .u64 0) rfl;have f8:=bR4.frozen 8;have z9:=bR4.cell 9 (v:=.string ⟨#[]⟩) rfl;have f9:=bR4.frozen 9
 have hfin:=((((((((((bR4.set 0 (.int .i64 1)).set 1 (.int .i64 x.1)).set 2 (.int .u64 x.2)).set 3 (.int .i64 ak)).set 4 (.int .u64 au)).set 5 (.bool true)).set 6 (.int .u64 at2)).set 7 (.int .i64 (tr+1))).set 8 (.int .u64 0)).set 9 (.string ⟨#[]⟩))
 have r0:=hfin.cell 0 (v:=.int .i64 1) (by simp);have r1:=hfin.cell 1 (v:=.int .i64 x.1) (by simp);have r2:=hfin.cell 2 (v:=.int .u64 x.2) (by simp);have r3:=hfin.cell 3 (v:=.int .i64 ak) (by simp);have r4:=hfin.cell 4 (v:=.int .u64 au) (by simp);have r5:=hfin.cell 5 (v:=.bool true) (by simp);have r6:=hfin.cell 6 (v:=.int .u64 at2) (by simp);have r7:=hfin.cell 7 (v:=.int .i64 (tr+1)) (by simp);have r8:=hfin.cell 8 (v:=.int .u64 0) (by simp);have r9:=hfin.cell 9 (v:=.string ⟨#[]⟩) (by simp);have hBw:=Xb ((((((((((hB4.setCell (p:=⟨w.heap.size+1,0,none⟩) (by show w.heap.size<=w.heap.size+1;omega) (.int .i64 1)).setCell (p:=⟨w.heap.size+1,1,none⟩) (by show w.heap.size<=w.heap.size+1;omega) (.int .i64 x.1)).setCell (p:=⟨w.heap.size+1,2,none⟩) (by show w.heap.size<=w.heap.size+1;omega) (.int .u64 x.2)).setCell (p:=⟨w.heap.size+1,3,none⟩) (by show w.heap.size<=w.heap.size+1;omega) (.int .i64 ak)).setCell (p:=⟨w.heap.size+1,4,none⟩) (by show w.heap.size<=w.heap.size+1;omega) (.int .u64 au)).setCell (p:=⟨w.heap.size+1,5,none⟩) (by show w.heap.size<=w.heap.size+1;omega) (.bool true)).setCell (p:=⟨w.heap.size+1,6,none⟩) (by show w.heap.size<=w.heap.size+1;omega) (.int .u64 at2)).setCell (p:=⟨w.heap.size+1,7,none⟩) (by show w.heap.size<=w.heap.size+1;omega) (.int .i64 (tr+1))).setCell (p:=⟨w.heap.size+1,8,none⟩) (by show w.heap.size<=w.heap.size+1;omega) (.int .u64 0)).setCell (p:=⟨w.heap.size+1,9,none⟩) (by show w.heap.size<=w.heap.size+1;omega) (.string ⟨#[]⟩));clear hfin;exact bodyPost_ret (v:=.agg #[.int .i64 1,.int .i64 x.1,.int .u64 x.2,.int .i64 ak,.int .u64 au,.bool true,.int .u64 at2,.int .i64 (tr+1),.int .u64 0,.string ⟨#[]⟩]) (by simp [results,results135,go_sem,r0,r1,r2,r3,r4,r5,r6,r7,r8,r9]) rfl ⟨rfl,Xa hBw⟩
theorem Tryz.Xme (vb mt ml:Nat) (x:Int × Int) (tm ak au at_ tr:Int) (pd:Bool) (pth:List UInt8) (la:Int) (w:World) (hvb:vb<w.heap.size) (hP:∀ W,Below w.heap.size w W->W.cell? ⟨vb,3,none⟩=some (.map (some mt))/\W.cell? ⟨vb,2,none⟩=some (.int .u64 tm)/\(Instr.lookup 120 (.map (some mt)) (nmV x) true).run prog W=.ok (.tuple #[.agg #[.int .i64 0,.int .u64 0,.int .u64 0,.int .i64 0,.bool false],.bool false]) W)
  (hP2:∀ W,Below w.heap.size w W->W.cell? ⟨vb,4,none⟩=some (.map (some ml))/\(Instr.lookup 121 (.map (some ml)) (nmV x) false).run prog W=.ok (.agg #[.int .i64 ak,.int .u64 au,.int .u64 at_,.int .i64 tr,.bool pd,.string ⟨pth.toArray⟩,.int .u64 la]) W) (h0:0<=tr) (h1:tr<9223372036854775807) (t0:0<=tm) (t1:tm<=18446744073709551615) :
  Calls prog 135 #[.pointer (some ⟨vb,0,none⟩),nmV x] w fun e w'=>e=.returned (.agg (Xi 1 x.1 x.2 ak au true (plusI tm (waitN tr.toNat)) (tr+1) la pth))/\Below w.heap.size w w':=by
 have hB0:Below w.heap.size w ((w.alloc (.cells #[.int .i64 x.1,.int .u64 x.2] 114)).alloc (.cells #[.int .i64 0,.int .i64 0,.int .u64 0,.int .i64 0,.int .u64 0,.bool false,.int .u64 0,.int .i64 0,.int .u64 0,.string ⟨#[]⟩] 135)):=((Below.refl _ w).alloc (Nat.le_refl _) _).alloc (by simp) _;have bN:=(BoxN.new w 114 #[.int .i64 x.1,.int .u64 x.2]).alloc (.cells #[.int .i64 0,.int .i64 0,.int .u64 0,.int .i64 0,.int .u64 0,.bool false,.int .u64 0,.int .i64 0,.int .u64 0,.string ⟨#[]⟩] 135);have bR:=BoxN.new (w.alloc (.cells #[.int .i64 x.1,.int .u64 x.2] 114)) 135 #[.int .i64 0,.int .i64 0,.int .u64 0,.int .i64 0,.int .u64 0,.bool false,.int .u64 0,.int .i64 0,.int .u64 0,.string ⟨#[]⟩];rw [World.size_alloc] at bR
 have hs0:((w.alloc (.cells #[.int .i64 x.1,.int .u64 x.2] 114)).alloc (.cells #[.int .i64 0,.int .i64 0,.int .u64 0,.int .i64 0,.int .u64 0,.bool false,.int .u64 0,.int .i64 0,.int .u64 0,.string ⟨#[]⟩] 135)).heap.size=w.heap.size+2:=by simp
 unfold nmV Xi at *
 obtain⟨at2,hat2⟩:∃ at2,plusI tm (waitN tr.toNat)=at2:=⟨_,rfl⟩
 rw [hat2];have HA:=Xb hat2;clear hat2;go_enter func135,ntmps135
 go_wp2_with fail
 generalize ((w.alloc (.cells #[.int .i64 x.1,.int .u64 x.2] 114)).alloc (.cells #[.int .i64 0,.int .i64 0,.int .u64 0,.int .i64 0,.int .u64 0,.bool false,.int .u64 0,.int .i64 0,.int .u64 0,.string ⟨#[]⟩] 135))=W1 at *
 have hS:∀ W,Below (w.heap.size+2) W1 W->LkP vb 3 mt w.heap.size 120 x.1 x.2 (.tuple #[.agg #[.int .i64 0,.int .u64 0,.int .u64 0,.int .i64 0,.bool false],.bool false]) W:=fun W hb=>by
  have bN':=bN.below hb (by omega);obtain⟨h1,h2,h3⟩:=hP W (hB0.trans (hb.mono (by omega)));exact⟨h1,bN'.cell 0 rfl,bN'.cell 1 rfl,h3⟩
 have hb1:Below (w.heap.size+2) W1 W1.drew:=(Below.refl _ _).drew;refine wp_region_held_drew (S:=(LkP vb 3 mt w.heap.size 120 x.1 x.2 (.tuple #[.agg #[.int .i64 0,.int .u64 0,.int .u64 0,.int .i64 0,.bool false],.bool false]))) (by kernel_rfl) (hS _ hb1) (fun hS0=>?_);refine Xt 0 ?v0 rfl ?y0 hS0 ?_
 case y0=>(rintro w ⟨q0,q1,q2,q3⟩;go_simp;try with_reducible rfl)
 refine Xt 1 ?v1 rfl ?y1 hS0 ?_
 case y1=>(rintro w ⟨q0,q1,q2,q3⟩;go_simp;try with_reducible rfl)
 refine Xt 2 ?v2 rfl ?y2 hS0 ?_
 case y2=>(rintro w ⟨q0,q1,q2,q3⟩;go_simp;try with_reducible rfl)
 refine Xt 3 ?v3 rfl ?y3 hS0 ?_
 case y3=>(rintro w ⟨q0,q1,q2,q3⟩;go_simp;try with_reducible rfl)
 refine Xt 4 ?v4 rfl ?y4 hS0 ?_
 case y4=>(rintro w ⟨q0,q1,q2,q3⟩;go_simp;try with_reducible rfl)
 refine Xt 5 ?v5 rfl ?y5 hS0 ?_
 case y5=>(rintro w ⟨q0,q1,q2,q3⟩;go_simp;try with_reducible rfl)
 refine Xt 6 ?v6 rfl ?y6 hS0 ?_
 case y6=>(rintro w ⟨q0,q1,q2,q3⟩;go_simp;try with_reducible rfl)
 refine Xt 7 ?v7 rfl ?y7 hS0 ?_
 case y7=>(rintro w ⟨q0,q1,q2,q3⟩;go_simp;try with_reducible rfl)
 refine Xt 8 ?v8 rfl ?y8 hS0 ?_
 case y8=>(rintro w ⟨q0,q1,q2,q3⟩;go_simp;try with_reducible rfl)
 refine Xh 9 rfl fun K hK=>?_;go_simp;refine hK.out _ _ (hS _ (hb1.alloc (by simp [hs0]) _)) (fun hS1=>?_);clear hK K;refine Xh 10 rfl fun K hK=>?_;go_simp;have hb2:Below (w.heap.size+2) W1 (W1.alloc (.cells #[.int .i64 0,.int .u64 0,.int .u64 0,.int .i64 0,.bool false] 153)).drew:=((Below.refl _ _).alloc (by omega) _).drew;refine hK.out _ _ (hS _ hb2) (fun hS2=>?_);clear hK K;refine Xh 11 rfl fun K hK=>?_;go_simp;refine hK.out _ _ hS2 (fun _=>?_);clear hK K hS0 hS1 hS2;refine wpAnyH_done (by kernel_rfl) ?_ _
 have bT:BoxN (W1.alloc (.cells #[.int .i64 0,.int .u64 0,.int .u64 0,.int .i64 0,.bool false] 153)).drew (w.heap.size+2) 153 #[.int .i64 0,.int .u64 0,.int .u64 0,.int .i64 0,.bool false]:=by
  have h:=BoxN.new W1 153 #[.int .i64 0,.int .u64 0,.int .u64 0,.int .i64 0,.bool false];rw [hs0] at h;exact h
 have hsz2:(W1.alloc (.cells #[.int .i64 0,.int .u64 0,.int .u64 0,.int .i64 0,.bool false] 153)).drew.heap.size=w.heap.size+3:=by simp [hs0]
 have bR2:=bR.below hb2 (by omega);have bN2:=bN.below hb2 (by omega);have hBf:=hB0.trans (hb2.mono (by omega));clear bT;obtain⟨-,ct,-⟩:=hP _ hBf;clear hS hP hb1 hb2 hB0 bN bR hs0;generalize (W1.alloc (.cells #[.int .i64 0,.int .u64 0,.int .u64 0,.int .i64 0,.bool false] 153)).drew=W2 at *
 go_wp2_with fail
 clear W1;generalize W2=W1 at *;have hs0:=hsz2
 have hS:∀ W,Below (w.heap.size+3) W1 W->Xtk vb 4 ml w.heap.size 121 x.1 x.2 (.agg #[.int .i64 ak,.int .u64 au,.int .u64 at_,.int .i64 tr,.bool pd,.string ⟨pth.toArray⟩,.int .u64 la]) W:=fun W hb=>by
  have bN':=bN2.below hb (by omega);obtain⟨h1,h2⟩:=hP2 W (hBf.trans (hb.mono (by omega)));exact⟨h1,bN'.cell 0 rfl,bN'.cell 1 rfl,h2⟩
 have hb1:Below (w.heap.size+3) W1 W1.drew:=(Below.refl _ _).drew;refine wp_region_held_drew (S:=(Xtk vb 4 ml w.heap.size 121 x.1 x.2 (.agg #[.int .i64 ak,.int .u64 au,.int .u64 at_,.int .i64 tr,.bool pd,.string ⟨pth.toArray⟩,.int .u64 la]))) (by kernel_rfl) (hS _ hb1) (fun hS0=>?_);refine Xt 0 ?vk0 rfl ?yk0 hS0 ?_
 case yk0=>(rintro w ⟨q0,q1,q2,q3⟩;go_simp;try with_reducible rfl)
 refine Xt 1 ?vk1 rfl ?yk1 hS0 ?_
 case yk1=>(rintro w ⟨q0,q1,q2,q3⟩;go_simp;try with_reducible rfl)
 refine Xt 2 ?vk2 rfl ?yk2 hS0 ?_
 case yk2=>(rintro w ⟨q0,q1,q2,q3⟩;go_simp;try with_reducible rfl)
 refine Xt 3 ?vk3 rfl ?yk3 hS0 ?_
 case yk3=>(rintro w ⟨q0,q1,q2,q3⟩;go_simp;try with_reducible rfl)
 refine Xt 4 ?vk4 rfl ?yk4 hS0 ?_
 case yk4=>(rintro w ⟨q0,q1,q2,q3⟩;go_simp;try with_reducible rfl)
 refine Xt 5 ?vk5 rfl ?yk5 hS0 ?_
 case yk5=>(rintro w ⟨q0,q1,q2,q3⟩;go_simp;try with_reducible rfl)
 refine Xh 6 rfl fun K hK=>?_;go_simp;refine hK.out _ _ (hS _ (hb1.alloc (by simp [hs0]) _)) (fun hS1=>?_);clear hK K;refine Xh 7 rfl fun K hK=>?_;go_simp;have hb2:Below (w.heap.size+3) W1 (W1.alloc (.cells #[.int .i64 ak,.int .u64 au,.int .u64 at_,.int .i64 tr,.bool pd,.string ⟨pth.toArray⟩,.int .u64 la] 131)).drew:=((Below.refl _ _).alloc (by omega) _).drew;refine hK.out _ _ (hS _ hb2) (fun hS2=>?_);clear hK K hS0 hS1 hS2;refine wpAnyH_done (by kernel_rfl) ?_ _
 have bL8:BoxN (W1.alloc (.cells #[.int .i64 ak,.int .u64 au,.int .u64 at_,.int .i64 tr,.bool pd,.string ⟨pth.toArray⟩,.int .u64 la] 131)).drew (w.heap.size+3) 131 #[.int .i64 ak,.int .u64 au,.int .u64 at_,.int .i64 tr,.bool pd,.string ⟨pth.toArray⟩,.int .u64 la]:=by
  have h:=BoxN.new W1 131 #[.int .i64 ak,.int .u64 au,.int .u64 at_,.int .i64 tr,.bool pd,.string ⟨pth.toArray⟩,.int .u64 la];rw [hs0] at h;exact h
 have bR8:=bR2.below hb2 (by omega);have bN8:=bN2.below hb2 (by omega);have hB7':=hBf.trans (hb2.mono (by omega));have ct8:(W1.alloc (.cells #[.int .i64 ak,.int .u64 au,.int .u64 at_,.int .i64 tr,.bool pd,.string ⟨pth.toArray⟩,.int .u64 la] 131)).drew.cell? ⟨vb,2,none⟩=some (.int .u64 tm):=(cell_of_block (hb2.block vb (by omega)) _).1.trans ct;clear hS hP2 hb1 hb2 hBf ct bN2 bR2 hs0 hsz2;generalize (W1.alloc (.cells #[.int .i64 ak,.int .u64 au,.int .u64 at_,.int .i64 tr,.bool pd,.string ⟨pth.toArray⟩,.int .u64 la] 131)).drew=W8 at *;have hF:=Xuh (w.heap.size+3) 131 ak au at_ tr tm pd [.string ⟨pth.toArray⟩,.int .u64 la] W8 (by simpa using bL8) h0 h1 t0 t1;rw [Xa HA] at hF;clear HA bL8
 go_wp2_with (first
  | (go_at_call 168;refine hF.mono ?_;rintro e w3 ⟨rfl,bT3,hS3⟩;have hB3:Below w.heap.size w w3:=⟨hS3.os.trans hB7'.os,hS3.tape.trans hB7'.tape,hS3.output.trans hB7'.output,Nat.le_trans hB7'.size hS3.size,fun k hk=>(hS3.block k (Nat.lt_of_lt_of_le hk hB7'.size) (by simp;omega)).trans (hB7'.block k hk)⟩;have bR3:=hS3.box bR8 (by simp);have bN3:=hS3.box bN8 (by simp);have n0:=bN3.cell 0 (v:=.int .i64 x.1) rfl;have n1:=bN3.cell 1 (v:=.int .u64 x.2) rfl;have hE:=Uq (w.heap.size+3) x.1 x.2 ak au at2 (tr+1) true pth la w3 (bT3.cell 0 (by simp)) (bT3.cell 1 (by simp)) (bT3.cell 2 (by simp)) (bT3.cell 3 (by simp)) (bT3.cell 4 (by simp)) (bT3.cell 5 (by simp)) (bT3.cell 6 (by simp));unfold Xi at hE)
  | (go_at_call 67;refine hE.mono ?_;rintro e w4 ⟨rfl,hb4⟩;have hB4:=hB3.trans (hb4.mono hB3.size);have bR4:=bR3.below hb4 bR3.lt;have z0:=bR4.cell 0 (v:=.int .i64 0) rfl;have f0:=bR4.frozen 0;have z1:=bR4.cell 1 (v:=.int .i64 0) rfl;have f1:=bR4.frozen 1;have z2:=bR4.cell 2 (v:=.int .u64 0) rfl;have f2:=bR4.frozen 2;have z3:=bR4.cell 3 (v:=.int .i64 0) rfl;have f3:=bR4.frozen 3;have z4:=bR4.cell 4 (v:=.int .u64 0) rfl;have f4:=bR4.frozen 4;have z5:=bR4.cell 5 (v:=.bool false) rfl;have f5:=bR4.frozen 5;have z6:=bR4.cell 6 (v:=.int .u64 0) rfl;have f6:=bR4.frozen 6;have z7:=bR4.cell 7 (v:=.int .i64 0) rfl;have f7:=bR4.frozen 7;have z8:=bR4.cell 8 (v:=.int .u64 0) rfl;have f8:=bR4.frozen 8;have z9:=bR4.cell 9 (v:=.string ⟨#[]⟩) rfl;have f9:=bR4.frozen 9))
 have z0:=bR4.cell 0 (v:=.int .i64 0) rfl;have f0:=bR4.frozen 0;have z1:=bR4.cell 1 (v:=.int .i64 0) rfl;have f1:=bR4.frozen 1;have z2:=bR4.cell 2 (v:=.int .u64 0) rfl;have f2:=bR4.frozen 2;have z3:=bR4.cell 3 (v:=.int .i64 0) rfl;have f3:=bR4.frozen 3;have z4:=bR4.cell 4 (v:=.int .u64 0) rfl;have f4:=bR4.frozen 4;have z5:=bR4.cell 5 (v:=.bool false) rfl;have f5:=bR4.frozen 5;have z6:=bR4.cell 6 (v:=.int .u64 0) rfl;have f6:=bR4.frozen 6;have z7:=bR4.cell 7 (v:=.int .i64 0) rfl;have f7:=bR4.frozen 7;have z8:=bR4.cell 8 (v:=.int .u64 0) rfl;have f8:=bR4.frozen 8;have z9:=bR4.cell 9 (v:=.string ⟨#[]⟩) rfl;have f9:=bR4.frozen 9
 have hfin:=((((((((((bR4.set 0 (.int .i64 1)).set 1 (.int .i64 x.1)).set 2 (.int .u64 x.2)).set 3 (.int .i64 ak)).set 4 (.int .u64 au)).set 5 (.bool true)).set 6 (.int .u64 at2)).set 7 (.int .i64 (tr+1))).set 8 (.int .u64 la)).set 9 (.string ⟨pth.toArray⟩))
 have r0:=hfin.cell 0 (v:=.int .i64 1) (by simp);have r1:=hfin.cell 1 (v:=.int .i64 x.1) (by simp);have r2:=hfin.cell 2 (v:=.int .u64 x.2) (by simp);have r3:=hfin.cell 3 (v:=.int .i64 ak) (by simp);have r4:=hfin.cell 4 (v:=.int .u64 au) (by simp);have r5:=hfin.cell 5 (v:=.bool true) (by simp);have r6:=hfin.cell 6 (v:=.int .u64 at2) (by simp);have r7:=hfin.cell 7 (v:=.int .i64 (tr+1)) (by simp);have r8:=hfin.cell 8 (v:=.int .u64 la) (by simp);have r9:=hfin.cell 9 (v:=.string ⟨pth.toArray⟩) (by simp);have hBw:=Xb ((((((((((hB4.setCell (p:=⟨w.heap.size+1,0,none⟩) (by show w.heap.size<=w.heap.size+1;omega) (.int .i64 1)).setCell (p:=⟨w.heap.size+1,1,none⟩) (by show w.heap.size<=w.heap.size+1;omega) (.int .i64 x.1)).setCell (p:=⟨w.heap.size+1,2,none⟩) (by show w.heap.size<=w.heap.size+1;omega) (.int .u64 x.2)).setCell (p:=⟨w.heap.size+1,3,none⟩) (by show w.heap.size<=w.heap.size+1;omega) (.int .i64 ak)).setCell (p:=⟨w.heap.size+1,4,none⟩) (by show w.heap.size<=w.heap.size+1;omega) (.int .u64 au)).setCell (p:=⟨w.heap.size+1,5,none⟩) (by show w.heap.size<=w.heap.size+1;omega) (.bool true)).setCell (p:=⟨w.heap.size+1,6,none⟩) (by show w.heap.size<=w.heap.size+1;omega) (.int .u64 at2)).setCell (p:=⟨w.heap.size+1,7,none⟩) (by show w.heap.size<=w.heap.size+1;omega) (.int .i64 (tr+1))).setCell (p:=⟨w.heap.size+1,8,none⟩) (by show w.heap.size<=w.heap.size+1;omega) (.int .u64 la)).setCell (p:=⟨w.heap.size+1,9,none⟩) (by show w.heap.size<=w.heap.size+1;omega) (.string ⟨pth.toArray⟩));clear hfin;exact bodyPost_ret (v:=.agg #[.int .i64 1,.int .i64 x.1,.int .u64 x.2,.int .i64 ak,.int .u64 au,.bool true,.int .u64 at2,.int .i64 (tr+1),.int .u64 la,.string ⟨pth.toArray⟩]) (by simp [results,results135,go_sem,r0,r1,r2,r3,r4,r5,r6,r7,r8,r9]) rfl ⟨rfl,Xa hBw⟩
theorem Xdq {P:Program} {t:TypeId} (T:X4 P t) {ks:List ((Int × Int) × Value)} (hk:Zd ks) {x:Int × Int} {kl:Lit} {c:Value} {y:DataW Value × List MemPlace} (hkey:keyOf P t (nmV x)=some kl) (hv:Yd c=some y) (hat:∀ zd,(mapD ks).atKey kl zd=y.1):Zq x/\kl=nmL x/\(x,c)∈ks:=by
 obtain⟨x',hw,ex,rfl⟩:=T.inv hkey
 obtain rfl:x=x':=by
  simp only [nmV,Value.agg.injEq] at ex;simp at ex;exact Prod.ext ex.1 ex.2
 refine⟨hw,rfl,?_⟩;have hh:=has_true_of_atKey hat
 cases hg:Um ks x with
 | none=>exact absurd ((T.Xko hk hw hg).symm.trans hh) (by decide)
 | some pv =>
  have h1:=T.U4 hw (.held c) ks hk;rw [hg] at h1;have h2:DataW.held pv=y.1:=h1.symm.trans (hat (.held c))
  have h3:Yd c=some (.held pv,y.2):=by rw [hv,h2]
  rw [<- Jz h3] at hg;exact Xgo hg
theorem Z5 {α:Type} {f:α->Nat} {l:List α} (h:l.Pairwise (fun a b=>f a<f b)) {a b:α} (ha:a∈l) (hb:b∈l) (e:f a=f b):a=b:=by
 induction l with
 | nil=>cases ha
 | cons c l ih =>
  obtain⟨h1,h2⟩:=List.pairwise_cons.1 h
  rcases List.mem_cons.1 ha with e1 | h3
  ·rcases List.mem_cons.1 hb with e2 | h4
   ·exact e1.trans e2.symm
   have:=h1 b h4;rw [e1] at e;omega
  rcases List.mem_cons.1 hb with e2 | h4
  ·have:=h1 a h3;rw [e2] at e;omega
  exact ih h2 h3 h4
theorem Tryz.Xqr (vb mt ml:Nat) (vx:VX) (tm tn ln:Int) (tks:List Xd) (lks:List Xc) (w:World) (hV:Xq w vb mt ml vx tm tn ln tks lks) (k u:Int) :
  Calls prog 167 #[.pointer (some ⟨vb,0,none⟩),nmV (k,u)] w fun e w'=>e=.returned (.bool (tks.any (fun t=>t.ak==k&&(t.au:Int)==u)||lks.any (fun t=>t.ak==k&&(t.au:Int)==u)))/\Below w.heap.size w w':=by
 obtain⟨rs,hrs⟩:∃ rs,(tks.any (fun t=>t.ak==k&&(t.au:Int)==u)||lks.any (fun t=>t.ak==k&&(t.au:Int)==u))=rs:=⟨_,rfl⟩
 rw [hrs];have HR:=Xb hrs;clear hrs;have hB0:Below w.heap.size w (w.alloc (.cells #[.int .i64 k,.int .u64 u] 114)):=(Below.refl _ w).alloc (Nat.le_refl _) _;have bN:=BoxN.new w 114 #[.int .i64 k,.int .u64 u];have hV1:=hV.below hB0
 have hs0:(w.alloc (.cells #[.int .i64 k,.int .u64 u] 114)).heap.size=w.heap.size+1:=by simp
 have lv:=hV.v.lt;unfold nmV;go_enter func167,ntmps167;obtain⟨kT,-⟩:=hV1.ok.ksT;obtain⟨nT,hnT,mT⟩:=hV1.held.mapT;have v3:=hV1.v.cell 3 (v:=.map (some mt)) rfl
 go_wp2_with (first
  | (at_range;refine wpList_range_own _ rfl _ 120 rfl 114 153 Y1 underlying120 _ mt nT _ rfl mT ?_;intro w0 hrg0 hg0 hs0')
  | go_in)
 have hB1:Below w.heap.size w w0:=hB0.trans ⟨hg0.os,hg0.tape,hg0.output,by have:=hg0.size;omega,fun j hj=>hg0.block j (by omega) (by simp)⟩;have bN1:=bN.kept hg0 (by simp);rw [hs0] at hrg0 hs0';rw [hs0];clear v3 mT hV1 hs0 hg0 hB0 bN
 go_frame
 go_loopw [4] (fun v wr=>∃(left:Lit->Bool) (cnt:Nat) (ss:List (Int × Int)),wr.ranges prog 114 Yd mt (w.heap.size+1) nT (mapD (tks.map Xd.key).reverse) left cnt/\U0 (tks.map Xd.key).reverse left ss/\(∀ t∈tks,(1,(t.n:Int))∈ss->(t.ak==k&&(t.au:Int)==u)=false)/\Below w.heap.size w wr/\BoxN wr w.heap.size 114 #[.int .i64 k,.int .u64 u]/\v=.bool false)
  (fun _ wr=>wr.rangeLeft mt (w.heap.size+1))
 case atStart =>
  exact⟨_,_,[],hrg0,U0.start Xz kT,by simp,hB1,bN1,rfl⟩
 case round =>
  clear hrg0 hB1 bN1 hs0';obtain⟨left,cnt,ss,hrg,hC,hno,hB,bNr,rfl⟩:=hrel
  go_wp2_with (first
   | (at_next;refine wpList_next_ranges _ rfl _ rfl 114 Y1 Yd nmV (fun v:Value=>v) (fun key kl hk=>by obtain⟨x,_,hx,_⟩:=Xz.inv hk;exact⟨x,hx⟩) (fun v _ _=>⟨v,rfl⟩) mt (w.heap.size+1) nT _ _ _ rfl hrg ?_ ?_)
   | go_in)
  ·intro hc0 hl0
   have hnone:tks.any (fun t=>t.ak==k&&(t.au:Int)==u)=false:=by
    rw [List.any_eq_false];intro t ht;have hp:=(hC.perm kT hl0).mem_iff (a:=(1,(t.n:Int)));have:=hno t ht (hp.2 (List.mem_map.2 ⟨t.key,List.mem_reverse.2 (List.mem_map.2 ⟨t,ht,rfl⟩),rfl⟩))
    simpa using this
   have HR2:=Xb (Xa HR);rw [hnone,Bool.false_or] at HR2;clear HR hnone hno hC hrg kT;have hV2:=hV.below hB;obtain⟨kL,-⟩:=hV2.ok.ksL;obtain⟨nL,hnL,mL⟩:=hV2.held.mapL;have v4:=hV2.v.cell 4 (v:=.map (some ml)) rfl
   go_wp2_with (first
    | (at_range;refine wpList_range_own _ rfl _ 121 rfl 114 131 Y1 underlying121 _ ml nL _ rfl mL ?_;intro w1 hrg1 hg1 hs1)
    | go_in)
   have hB1:Below w.heap.size w w1:=hB.trans ⟨hg1.os,hg1.tape,hg1.output,by have:=hg1.size;have:=hB.size;omega,fun j hj=>hg1.block j (by have:=hB.size;omega) (by simp)⟩;have bN1:=bNr.kept hg1 (by simp);have hzr:=hB.size;have hlr:=bNr.lt;clear v4 mL hV2 hg1 hB bNr hs1
   obtain⟨r,hr⟩:∃ r,wr.heap.size=r:=⟨_,rfl⟩
   rw [hr] at hrg1 hzr hlr;rw [hr];clear hr
   go_frame
   go_loopw [4] (fun v wr=>∃(left:Lit->Bool) (cnt:Nat) (ss:List (Int × Int)),wr.ranges prog 114 Yd ml r nL (mapD (lks.map Xc.key).reverse) left cnt/\U0 (lks.map Xc.key).reverse left ss/\(∀ t∈lks,(2,(t.n:Int))∈ss->(t.ak==k&&(t.au:Int)==u)=false)/\Below w.heap.size w wr/\BoxN wr w.heap.size 114 #[.int .i64 k,.int .u64 u]/\v=.bool false)
    (fun _ wr=>wr.rangeLeft ml r)
   case atStart =>
    exact⟨_,_,[],hrg1,U0.start Xz kL,by simp,hB1,bN1,rfl⟩
   case round =>
    clear hrg1 hB1 bN1;obtain⟨left,cnt,ss,hrg,hC,hno,hB,bNr,rfl⟩:=hrel
    go_wp2_with (first
     | (at_next;refine wpList_next_ranges _ rfl _ rfl 114 Y1 Yd nmV (fun v:Value=>v) (fun key kl hk=>by obtain⟨x,_,hx,_⟩:=Xz.inv hk;exact⟨x,hx⟩) (fun v _ _=>⟨v,rfl⟩) ml r nL _ _ _ rfl hrg ?_ ?_)
     | go_in)
    ·intro hc0 hl0
     have hnone:lks.any (fun t=>t.ak==k&&(t.au:Int)==u)=false:=by
      rw [List.any_eq_false];intro t ht;have hp:=(hC.perm kL hl0).mem_iff (a:=(2,(t.n:Int)));have:=hno t ht (hp.2 (List.mem_map.2 ⟨t.key,List.mem_reverse.2 (List.mem_map.2 ⟨t,ht,rfl⟩),rfl⟩))
      simpa using this
     have hfin:=Xb ((Xa HR2).symm.trans hnone);clear HR2 hnone hno hC hrg kL;go_wp2;go_ret;exact⟨by have:=Xa hfin;subst this;rfl,hB⟩
    intro a1 a2 c kl yd yp w2 cnt2 hkey hlk hv hat hrg2 hlt hg2 hs2 hen
    obtain⟨x,hx⟩:∃ x:Int × Int,x=(a1,a2):=⟨_,rfl⟩
    rw [<- hx] at hkey hen ⊢;clear hx a1 a2;obtain⟨hw,rfl,hin⟩:=Xdq Xz kL hkey hv hat;obtain⟨t,ht,hte⟩:=List.mem_map.1 (List.mem_reverse.1 hin)
    obtain⟨rfl,rfl⟩:(2,(t.n:Int))=x /\ .agg t.cells=c:=⟨congrArg Prod.fst hte,congrArg Prod.snd hte⟩
    have hC2:=hC.step Xz hw hlk (List.mem_map.2 ⟨_,hin,rfl⟩);have bN2:=bNr.kept hg2 (by intro e;injection e with e;omega);have hB2:Below w.heap.size w w2:=hB.trans ⟨hg2.os,hg2.tape,hg2.output,by have:=hg2.size;have:=hB.size;omega,fun j hj=>hg2.block j (by have:=hB.size;omega) (by intro e;injection e with e;omega)⟩;unfold Xc.cells at hen ⊢;unfold nmV at hen ⊢;have hB3:=hB2.alloc hB2.size (.cells #[.int .i64 t.ak,.int .u64 t.au,.int .u64 t.at_,.int .i64 t.tr,.bool t.pd,.string ⟨t.pth.toArray⟩,.int .u64 t.last] 131);have bN3:=bN2.alloc (.cells #[.int .i64 t.ak,.int .u64 t.au,.int .u64 t.at_,.int .i64 t.tr,.bool t.pd,.string ⟨t.pth.toArray⟩,.int .u64 t.last] 131);have n0:=bN3.cell 0 (v:=.int .i64 k) rfl;have n1:=bN3.cell 1 (v:=.int .u64 u) rfl;have hrg3:=hrg2.of_walks (KeepsWalks.alloc _ (.cells #[.int .i64 t.ak,.int .u64 t.au,.int .u64 t.at_,.int .i64 t.tr,.bool t.pd,.string ⟨t.pth.toArray⟩,.int .u64 t.last] 131));have Hrg:=Xb hrg;clear hkey hv hat hs2 hte hin hC hrg hg2 bNr hB
    by_cases hab:(t.ak==k&&(t.au:Int)==u)=true
    ·have hfin:=Xb (show rs=true by rw [<- Xa HR2,List.any_eq_true.2 ⟨t,ht,hab⟩])
     obtain⟨rfl,rfl⟩:t.ak=k/\(t.au:Int)=u:=by simpa using hab
     clear hno hC2 hab HR2;go_wp2;go_ret;exact⟨by have:=Xa hfin;subst this;rfl,hB3⟩
    have hno2:∀ t'∈lks,(2,(t'.n:Int))∈ss ++ [(2,(t.n:Int))]->(t'.ak==k&&(t'.au:Int)==u)=false:=fun t' ht' hm=>by
     rcases List.mem_append.1 hm with hm | hm
     ·exact hno t' ht' hm
     have e:t'.n=t.n:=by
      have:=(Prod.mk.inj (List.mem_singleton.1 hm)).2;omega
     have:t'=t:=Z5 (f:=Xc.n) hV.ok.incL ht' ht e;subst this
     simpa using hab
    have hF:=Xb (And.intro hrg3 (And.intro hC2 (And.intro hno2 (And.intro hB3 bN3))));have hM:Hid ((w2.alloc (.cells #[.int .i64 t.ak,.int .u64 t.au,.int .u64 t.at_,.int .i64 t.tr,.bool t.pd,.string ⟨t.pth.toArray⟩,.int .u64 t.last] 131)).rangeLeft ml r<wr.rangeLeft ml r):=Xb (by rw [hrg3.left_eq,(Xa Hrg).left_eq];exact hlt);clear hno hno2 hC2 HR2 hrg3 hB3 bN3 hrg2 hlt Hrg
    by_cases hk1:t.ak=k
    focus
     have hu1:(t.au:Int)≠u:=fun e=>hab (by simp [hk1,e])
     clear hab;subst hk1
    rotate_left
    focus
     clear hab
    rotate_left
    all_goals
     go_wp2;exact⟨⟨_,_,_,(Xa hF).1,(Xa hF).2.1,(Xa hF).2.2.1,(Xa hF).2.2.2.1,(Xa hF).2.2.2.2,rfl⟩,Xa hM⟩
  intro a1 a2 c kl yd yp w2 cnt2 hkey hlk hv hat hrg2 hlt hg2 hs2 hen
  obtain⟨x,hx⟩:∃ x:Int × Int,x=(a1,a2):=⟨_,rfl⟩
  rw [<- hx] at hkey hen ⊢;clear hx a1 a2;obtain⟨hw,rfl,hin⟩:=Xdq Xz kT hkey hv hat;obtain⟨t,ht,hte⟩:=List.mem_map.1 (List.mem_reverse.1 hin)
  obtain⟨rfl,rfl⟩:(1,(t.n:Int))=x /\ .agg t.cells=c:=⟨congrArg Prod.fst hte,congrArg Prod.snd hte⟩
  have hC2:=hC.step Xz hw hlk (List.mem_map.2 ⟨_,hin,rfl⟩);have bN2:=bNr.kept hg2 (by intro e;injection e with e;omega);have hB2:Below w.heap.size w w2:=hB.trans ⟨hg2.os,hg2.tape,hg2.output,by have:=hg2.size;have:=hB.size;omega,fun j hj=>hg2.block j (by have:=hB.size;omega) (by intro e;injection e with e;omega)⟩;unfold Xd.cells at hen ⊢;unfold nmV at hen ⊢;have hB3:=hB2.alloc hB2.size (.cells #[.int .i64 t.ak,.int .u64 t.au,.int .u64 t.at_,.int .i64 t.tr,.bool t.pd] 153);have bN3:=bN2.alloc (.cells #[.int .i64 t.ak,.int .u64 t.au,.int .u64 t.at_,.int .i64 t.tr,.bool t.pd] 153);have n0:=bN3.cell 0 (v:=.int .i64 k) rfl;have n1:=bN3.cell 1 (v:=.int .u64 u) rfl;have hrg3:=hrg2.of_walks (KeepsWalks.alloc _ (.cells #[.int .i64 t.ak,.int .u64 t.au,.int .u64 t.at_,.int .i64 t.tr,.bool t.pd] 153));have Hrg:=Xb hrg;clear hkey hv hat hs2 hte hin hC hrg hg2 bNr hB
  by_cases hab:(t.ak==k&&(t.au:Int)==u)=true
  ·have hfin:=Xb (show rs=true by rw [<- Xa HR,List.any_eq_true.2 ⟨t,ht,hab⟩];rfl)
   obtain⟨rfl,rfl⟩:t.ak=k/\(t.au:Int)=u:=by simpa using hab
   clear hno hC2 hab HR;go_wp2;go_ret;exact⟨by have:=Xa hfin;subst this;rfl,hB3⟩
  have hno2:∀ t'∈tks,(1,(t'.n:Int))∈ss ++ [(1,(t.n:Int))]->(t'.ak==k&&(t'.au:Int)==u)=false:=fun t' ht' hm=>by
   rcases List.mem_append.1 hm with hm | hm
   ·exact hno t' ht' hm
   have e:t'.n=t.n:=by
    have:=(Prod.mk.inj (List.mem_singleton.1 hm)).2;omega
   have:t'=t:=Z5 (f:=Xd.n) hV.ok.incT ht' ht e;subst this
   simpa using hab
  have hF:=Xb (And.intro hrg3 (And.intro hC2 (And.intro hno2 (And.intro hB3 bN3))));have hM:Hid ((w2.alloc (.cells #[.int .i64 t.ak,.int .u64 t.au,.int .u64 t.at_,.int .i64 t.tr,.bool t.pd] 153)).rangeLeft mt (w.heap.size+1)<wr.rangeLeft mt (w.heap.size+1)):=Xb (by rw [hrg3.left_eq,(Xa Hrg).left_eq];exact hlt);clear hno hno2 hC2 HR hrg3 hB3 bN3 hrg2 hlt Hrg
  by_cases hk1:t.ak=k
  focus
   have hu1:(t.au:Int)≠u:=fun e=>hab (by simp [hk1,e])
   clear hab;subst hk1
  rotate_left
  focus
   clear hab
  rotate_left
  all_goals
   go_wp2;exact⟨⟨_,_,_,(Xa hF).1,(Xa hF).2.1,(Xa hF).2.2.1,(Xa hF).2.2.2.1,(Xa hF).2.2.2.2,rfl⟩,Xa hM⟩
end Go.Proofs
