import Derived.Test.YtjbekgjdempbiaaGreatDoorJSq
import Derived.Test.YtjbekgjdempbiaaGreatDoorJCTkC
set_option maxRecDepth 100000
set_option maxHeartbeats 8000000
namespace Go.Proofs
open Go.RowKit Go.Sort Go.Lib Go.Shelf Go.Maps
theorem Tryz.Xhx (vb mt:Nat) (x:Int × Int) (tm ak au at_ tr:Int) (pd:Bool) (w:World) (hP:∀ W,Below w.heap.size w W->W.cell? ⟨vb,3,none⟩=some (.map (some mt))/\W.cell? ⟨vb,2,none⟩=some (.int .u64 tm)/\(Instr.lookup 120 (.map (some mt)) (nmV x) true).run prog W=.ok (.tuple #[.agg #[.int .i64 ak,.int .u64 au,.int .u64 at_,.int .i64 tr,.bool pd],.bool true]) W) (h0:0<=tr) (h1:tr<9223372036854775807) (t0:0<=tm) (t1:tm<=18446744073709551615) :
  Calls prog 135 #[.pointer (some ⟨vb,0,none⟩),nmV x] w fun e w'=>e=.returned (.agg (Xi 1 x.1 x.2 ak au true (plusI tm (waitN tr.toNat)) (tr+1) 0 []))/\Below w.heap.size w w':=by
 have hB0:Below w.heap.size w ((w.alloc (.cells #[.int .i64 x.1,.int .u64 x.2] 114)).alloc (.cells #[.int .i64 0,.int .i64 0,.int .u64 0,.int .i64 0,.int .u64 0,.bool false,.int .u64 0,.int .i64 0,.int .u64 0,.string ⟨#[]⟩] 135)):=((Below.refl _ w).alloc (Nat.le_refl _) _).alloc (by simp) _;have bN:=(BoxN.new w 114 #[.int .i64 x.1,.int .u64 x.2]).alloc (.cells #[.int .i64 0,.int .i64 0,.int .u64 0,.int .i64 0,.int .u64 0,.bool false,.int .u64 0,.int .i64 0,.int .u64 0,.string ⟨#[]⟩] 135);have bR:=BoxN.new (w.alloc (.cells #[.int .i64 x.1,.int .u64 x.2] 114)) 135 #[.int .i64 0,.int .i64 0,.int .u64 0,.int .i64 0,.int .u64 0,.bool false,.int .u64 0,.int .i64 0,.int .u64 0,.string ⟨#[]⟩];rw [World.size_alloc] at bR
 have hs0:((w.alloc (.cells #[.int .i64 x.1,.int .u64 x.2] 114)).alloc (.cells #[.int .i64 0,.int .i64 0,.int .u64 0,.int .i64 0,.int .u64 0,.bool false,.int .u64 0,.int .i64 0,.int .u64 0,.string ⟨#[]⟩] 135)).heap.size=w.heap.size+2:=by simp
 unfold nmV Xi at *
 obtain⟨at2,hat2⟩:∃ at2,plusI tm (waitN tr.toNat)=at2:=⟨_,rfl⟩
 rw [hat2];have HA:=Xb hat2;clear hat2;go_enter func135,ntmps135
 go_wp2_with fail
 generalize ((w.alloc (.cells #[.int .i64 x.1,.int .u64 x.2] 114)).alloc (.cells #[.int .i64 0,.int .i64 0,.int .u64 0,.int .i64 0,.int .u64 0,.bool false,.int .u64 0,.int .i64 0,.int .u64 0,.string ⟨#[]⟩] 135))=W1 at *
 have hS:∀ W,Below (w.heap.size+2) W1 W->LkP vb 3 mt w.heap.size 120 x.1 x.2 (.tuple #[.agg #[.int .i64 ak,.int .u64 au,.int .u64 at_,.int .i64 tr,.bool pd],.bool true]) W:=fun W hb=>by
  have bN':=bN.below hb (by omega);obtain⟨h1,h2,h3⟩:=hP W (hB0.trans (hb.mono (by omega)));exact⟨h1,bN'.cell 0 rfl,bN'.cell 1 rfl,h3⟩
 have hb1:Below (w.heap.size+2) W1 W1.drew:=(Below.refl _ _).drew;refine wp_region_held_drew (S:=(LkP vb 3 mt w.heap.size 120 x.1 x.2 (.tuple #[.agg #[.int .i64 ak,.int .u64 au,.int .u64 at_,.int .i64 tr,.bool pd],.bool true]))) (by kernel_rfl) (hS _ hb1) (fun hS0=>?_);refine Xt 0 ?v0 rfl ?y0 hS0 ?_
 case y0=>(rintro w ⟨q0,q1,q2,q3⟩;go_simp;try with_reducible rfl)
 refine Xt 1 ?v1 rfl ?y1 hS0 ?_
 case y1=>(rintro w ⟨q0,q1,q2,q3⟩;go_simp;try with_reducible rfl)
 refine Xt 2 ?v2 rfl ?y2 hS0 ?_
 case y2=>(rintro w ⟨q0,q1,q2,q3⟩;go_simp;try with_reducible rfl)
 refine Xt 3 ?v3 rfl ?y3 hS0 ?_
 case y3=>(rintro w ⟨q0,q1,q2,q3⟩;go_simp;try with_reducible rfl)
 refine Xt 4 ?v4 rfl ?y4 hS0 ?_
 case y4=>(rintro w ⟨q0,q1,q2,q3⟩;go_simp;try with_reducible rfl)
 refine Xt 5 ?v5 rfl ?y5 hS0 ?_
 case y5=>(rintro w ⟨q0,q1,q2,q3⟩;go_simp;try with_reducible rfl)
 refine Xt 6 ?v6 rfl ?y6 hS0 ?_
 case y6=>(rintro w ⟨q0,q1,q2,q3⟩;go_simp;try with_reducible rfl)
 refine Xt 7 ?v7 rfl ?y7 hS0 ?_
 case y7=>(rintro w ⟨q0,q1,q2,q3⟩;go_simp;try with_reducible rfl)
 refine Xt 8 ?v8 rfl ?y8 hS0 ?_
 case y8=>(rintro w ⟨q0,q1,q2,q3⟩;go_simp;try with_reducible rfl)
 refine Xh 9 rfl fun K hK=>?_;go_simp;refine hK.out _ _ (hS _ (hb1.alloc (by simp [hs0]) _)) (fun hS1=>?_);clear hK K;refine Xh 10 rfl fun K hK=>?_;go_simp;have hb2:Below (w.heap.size+2) W1 (W1.alloc (.cells #[.int .i64 ak,.int .u64 au,.int .u64 at_,.int .i64 tr,.bool pd] 153)).drew:=((Below.refl _ _).alloc (by omega) _).drew;refine hK.out _ _ (hS _ hb2) (fun hS2=>?_);clear hK K;refine Xh 11 rfl fun K hK=>?_;go_simp;refine hK.out _ _ hS2 (fun _=>?_);clear hK K hS0 hS1 hS2;refine wpAnyH_done (by kernel_rfl) ?_ _
 have bT:BoxN (W1.alloc (.cells #[.int .i64 ak,.int .u64 au,.int .u64 at_,.int .i64 tr,.bool pd] 153)).drew (w.heap.size+2) 153 #[.int .i64 ak,.int .u64 au,.int .u64 at_,.int .i64 tr,.bool pd]:=by
  have h:=BoxN.new W1 153 #[.int .i64 ak,.int .u64 au,.int .u64 at_,.int .i64 tr,.bool pd];rw [hs0] at h;exact h
 have hsz2:(W1.alloc (.cells #[.int .i64 ak,.int .u64 au,.int .u64 at_,.int .i64 tr,.bool pd] 153)).drew.heap.size=w.heap.size+3:=by simp [hs0]
 have bR2:=bR.below hb2 (by omega);have bN2:=bN.below hb2 (by omega);have hBf:=hB0.trans (hb2.mono (by omega));obtain⟨-,ct,-⟩:=hP _ hBf;clear hS hP hb1 hb2 hB0 bN bR hs0;generalize (W1.alloc (.cells #[.int .i64 ak,.int .u64 au,.int .u64 at_,.int .i64 tr,.bool pd] 153)).drew=W2 at *;have hF:=Xoa (w.heap.size+2) 153 ak au at_ tr tm pd [] W2 (by simpa using bT) h0 h1 t0 t1;rw [Xa HA] at hF;clear HA bT
 go_wp2_with (first
  | (go_at_call 168;refine hF.mono ?_;rintro e w3 ⟨rfl,bT3,hS3⟩;have hB3:Below w.heap.size w w3:=⟨hS3.os.trans hBf.os,hS3.tape.trans hBf.tape,hS3.output.trans hBf.output,Nat.le_trans hBf.size hS3.size,fun k hk=>(hS3.block k (Nat.lt_of_lt_of_le hk hBf.size) (by simp;omega)).trans (hBf.block k hk)⟩;have bR3:=hS3.box bR2 (by simp);have bN3:=hS3.box bN2 (by simp);have n0:=bN3.cell 0 (v:=.int .i64 x.1) rfl;have n1:=bN3.cell 1 (v:=.int .u64 x.2) rfl;have hE:=M8 (w.heap.size+2) x.1 x.2 ak au at2 (tr+1) true w3 (bT3.cell 0 (by simp)) (bT3.cell 1 (by simp)) (bT3.cell 2 (by simp)) (bT3.cell 3 (by simp)) (bT3.cell 4 (by simp));unfold Xi at hE)
  | (go_at_call 84;refine hE.mono ?_;rintro e w4 ⟨rfl,hb4⟩;have hB4:=hB3.trans (hb4.mono hB3.size);have bR4:=bR3.below hb4 bR3.lt;have z0:=bR4.cell 0 (v:=.int .i64 0) rfl;have f0:=bR4.frozen 0;have z1:=bR4.cell 1 (v:=.int .i64 0) rfl;have f1:=bR4.frozen 1;have z2:=bR4.cell 2 (v:=.int .u64 0) rfl;have f2:=bR4.frozen 2;have z3:=bR4.cell 3 (v:=.int .i64 0) rfl;have f3:=bR4.frozen 3;have z4:=bR4.cell 4 (v:=.int .u64 0) rfl;have f4:=bR4.frozen 4;have z5:=bR4.cell 5 (v:=.bool false) rfl;have f5:=bR4.frozen 5;have z6:=bR4.cell 6 (v:=.int .u64 0) rfl;have f6:=bR4.frozen 6;have z7:=bR4.cell 7 (v:=.int .i64 0) rfl;have f7:=bR4.frozen 7;have z8:=bR4.cell 8 (v:=.int .u64 0) rfl;have f8:=bR4.frozen 8;have z9:=bR4.cell 9 (v:=.string ⟨#[]⟩) rfl;have f9:=bR4.frozen 9))
 have z0:=bR4.cell 0 (v:=.int .i64 0) rfl;have f0:=bR4.frozen 0;have z1:=bR4.cell 1 (v:=.int .i64 0) rfl;have f1:=bR4.frozen 1;have z2:=bR4.cell 2 (v:=.int .u64 0) rfl;have f2:=bR4.frozen 2;have z3:=bR4.cell 3 (v:=.int .i64 0) rfl;have f3:=bR4.frozen 3;have z4:=bR4.cell 4 (v:=.int .u64 0) rfl;have f4:=bR4.frozen 4;have z5:=bR4.cell 5 (v:=.bool false) rfl;have f5:=bR4.frozen 5;have z6:=bR4.cell 6 (v:=.int .u64 0) rfl;have f6:=bR4.frozen 6;have z7:=bR4.cell 7 (v:=.int .i64 0) rfl;have f7:=bR4.frozen 7;have z8:=bR4.cell 8 (v:=.int .u64 0) rfl;have f8:=bR4.frozen 8;have z9:=bR4.cell 9 (v:=.string ⟨#[]⟩) rfl;have f9:=bR4.frozen 9
 have hfin:=((((((((((bR4.set 0 (.int .i64 1)).set 1 (.int .i64 x.1)).set 2 (.int .u64 x.2)).set 3 (.int .i64 ak)).set 4 (.int .u64 au)).set 5 (.bool true)).set 6 (.int .u64 at2)).set 7 (.int .i64 (tr+1))).set 8 (.int .u64 0)).set 9 (.string ⟨#[]⟩))
 have r0:=hfin.cell 0 (v:=.int .i64 1) (by simp);have r1:=hfin.cell 1 (v:=.int .i64 x.1) (by simp);have r2:=hfin.cell 2 (v:=.int .u64 x.2) (by simp);have r3:=hfin.cell 3 (v:=.int .i64 ak) (by simp);have r4:=hfin.cell 4 (v:=.int .u64 au) (by simp);have r5:=hfin.cell 5 (v:=.bool true) (by simp);have r6:=hfin.cell 6 (v:=.int .u64 at2) (by simp);have r7:=hfin.cell 7 (v:=.int .i64 (tr+1)) (by simp);have r8:=hfin.cell 8 (v:=.int .u64 0) (by simp);have r9:=hfin.cell 9 (v:=.string ⟨#[]⟩) (by simp);have hBw:=Xb ((((((((((hB4.setCell (p:=⟨w.heap.size+1,0,none⟩) (by show w.heap.size<=w.heap.size+1;omega) (.int .i64 1)).setCell (p:=⟨w.heap.size+1,1,none⟩) (by show w.heap.size<=w.heap.size+1;omega) (.int .i64 x.1)).setCell (p:=⟨w.heap.size+1,2,none⟩) (by show w.heap.size<=w.heap.size+1;omega) (.int .u64 x.2)).setCell (p:=⟨w.heap.size+1,3,none⟩) (by show w.heap.size<=w.heap.size+1;omega) (.int .i64 ak)).setCell (p:=⟨w.heap.size+1,4,none⟩) (by show w.heap.size<=w.heap.size+1;omega) (.int .u64 au)).setCell (p:=⟨w.heap.size+1,5,none⟩) (by show w.heap.size<=w.heap.size+1;omega) (.bool true)).setCell (p:=⟨w.heap.size+1,6,none⟩) (by show w.heap.size<=w.heap.size+1;omega) (.int .u64 at2)).setCell (p:=⟨w.heap.size+1,7,none⟩) (by show w.heap.size<=w.heap.size+1;omega) (.int .i64 (tr+1))).setCell (p:=⟨w.heap.size+1,8,none⟩) (by show w.heap.size<=w.heap.size+1;omega) (.int .u64 0)).setCell (p:=⟨w.heap.size+1,9,none⟩) (by show w.heap.size<=w.heap.size+1;omega) (.string ⟨#[]⟩));clear hfin;exact bodyPost_ret (v:=.agg #[.int .i64 1,.int .i64 x.1,.int .u64 x.2,.int .i64 ak,.int .u64 au,.bool true,.int .u64 at2,.int .i64 (tr+1),.int .u64 0,.string ⟨#[]⟩]) (by simp [results,results135,go_sem,r0,r1,r2,r3,r4,r5,r6,r7,r8,r9]) rfl ⟨rfl,Xa hBw⟩
theorem Tryz.Xhw (vb mt ml:Nat) (x:Int × Int) (tm ak au at_ tr:Int) (pd:Bool) (pth:List UInt8) (la:Int) (w:World) (hvb:vb<w.heap.size) (hP:∀ W,Below w.heap.size w W->W.cell? ⟨vb,3,none⟩=some (.map (some mt))/\W.cell? ⟨vb,2,none⟩=some (.int .u64 tm)/\(Instr.lookup 120 (.map (some mt)) (nmV x) true).run prog W=.ok (.tuple #[.agg #[.int .i64 0,.int .u64 0,.int .u64 0,.int .i64 0,.bool false],.bool false]) W)
  (hP2:∀ W,Below w.heap.size w W->W.cell? ⟨vb,4,none⟩=some (.map (some ml))/\(Instr.lookup 121 (.map (some ml)) (nmV x) false).run prog W=.ok (.agg #[.int .i64 ak,.int .u64 au,.int .u64 at_,.int .i64 tr,.bool pd,.string ⟨pth.toArray⟩,.int .u64 la]) W) (h0:0<=tr) (h1:tr<9223372036854775807) (t0:0<=tm) (t1:tm<=18446744073709551615) :
  Calls prog 135 #[.pointer (some ⟨vb,0,none⟩),nmV x] w fun e w'=>e=.returned (.agg (Xi 1 x.1 x.2 ak au true (plusI tm (waitN tr.toNat)) (tr+1) la pth))/\Below w.heap.size w w':=by
 have hB0:Below w.heap.size w ((w.alloc (.cells #[.int .i64 x.1,.int .u64 x.2] 114)).alloc (.cells #[.int .i64 0,.int .i64 0,.int .u64 0,.int .i64 0,.int .u64 0,.bool false,.int .u64 0,.int .i64 0,.int .u64 0,.string ⟨#[]⟩] 135)):=((Below.refl _ w).alloc (Nat.le_refl _) _).alloc (by simp) _;have bN:=(BoxN.new w 114 #[.int .i64 x.1,.int .u64 x.2]).alloc (.cells #[.int .i64 0,.int .i64 0,.int .u64 0,.int .i64 0,.int .u64 0,.bool false,.int .u64 0,.int .i64 0,.int .u64 0,.string ⟨#[]⟩] 135);have bR:=BoxN.new (w.alloc (.cells #[.int .i64 x.1,.int .u64 x.2] 114)) 135 #[.int .i64 0,.int .i64 0,.int .u64 0,.int .i64 0,.int .u64 0,.bool false,.int .u64 0,.int .i64 0,.int .u64 0,.string ⟨#[]⟩];rw [World.size_alloc] at bR
 have hs0:((w.alloc (.cells #[.int .i64 x.1,.int .u64 x.2] 114)).alloc (.cells #[.int .i64 0,.int .i64 0,.int .u64 0,.int .i64 0,.int .u64 0,.bool false,.int .u64 0,.int .i64 0,.int .u64 0,.string ⟨#[]⟩] 135)).heap.size=w.heap.size+2:=by simp
 unfold nmV Xi at *
 obtain⟨at2,hat2⟩:∃ at2,plusI tm (waitN tr.toNat)=at2:=⟨_,rfl⟩
 rw [hat2];have HA:=Xb hat2;clear hat2;go_enter func135,ntmps135
 go_wp2_with fail
 generalize ((w.alloc (.cells #[.int .i64 x.1,.int .u64 x.2] 114)).alloc (.cells #[.int .i64 0,.int .i64 0,.int .u64 0,.int .i64 0,.int .u64 0,.bool false,.int .u64 0,.int .i64 0,.int .u64 0,.string ⟨#[]⟩] 135))=W1 at *
 have hS:∀ W,Below (w.heap.size+2) W1 W->LkP vb 3 mt w.heap.size 120 x.1 x.2 (.tuple #[.agg #[.int .i64 0,.int .u64 0,.int .u64 0,.int .i64 0,.bool false],.bool false]) W:=fun W hb=>by
  have bN':=bN.below hb (by omega);obtain⟨h1,h2,h3⟩:=hP W (hB0.trans (hb.mono (by omega)));exact⟨h1,bN'.cell 0 rfl,bN'.cell 1 rfl,h3⟩
 have hb1:Below (w.heap.size+2) W1 W1.drew:=(Below.refl _ _).drew;refine wp_region_held_drew (S:=(LkP vb 3 mt w.heap.size 120 x.1 x.2 (.tuple #[.agg #[.int .i64 0,.int .u64 0,.int .u64 0,.int .i64 0,.bool false],.bool false]))) (by kernel_rfl) (hS _ hb1) (fun hS0=>?_);refine Xt 0 ?v0 rfl ?y0 hS0 ?_
 case y0=>(rintro w ⟨q0,q1,q2,q3⟩;go_simp;try with_reducible rfl)
 refine Xt 1 ?v1 rfl ?y1 hS0 ?_
 case y1=>(rintro w ⟨q0,q1,q2,q3⟩;go_simp;try with_reducible rfl)
 refine Xt 2 ?v2 rfl ?y2 hS0 ?_
 case y2=>(rintro w ⟨q0,q1,q2,q3⟩;go_simp;try with_reducible rfl)
 refine Xt 3 ?v3 rfl ?y3 hS0 ?_
 case y3=>(rintro w ⟨q0,q1,q2,q3⟩;go_simp;try with_reducible rfl)
 refine Xt 4 ?v4 rfl ?y4 hS0 ?_
 case y4=>(rintro w ⟨q0,q1,q2,q3⟩;go_simp;try with_reducible rfl)
 refine Xt 5 ?v5 rfl ?y5 hS0 ?_
 case y5=>(rintro w ⟨q0,q1,q2,q3⟩;go_simp;try with_reducible rfl)
 refine Xt 6 ?v6 rfl ?y6 hS0 ?_
 case y6=>(rintro w ⟨q0,q1,q2,q3⟩;go_simp;try with_reducible rfl)
 refine Xt 7 ?v7 rfl ?y7 hS0 ?_
 case y7=>(rintro w ⟨q0,q1,q2,q3⟩;go_simp;try with_reducible rfl)
 refine Xt 8 ?v8 rfl ?y8 hS0 ?_
 case y8=>(rintro w ⟨q0,q1,q2,q3⟩;go_simp;try with_reducible rfl)
 refine Xh 9 rfl fun K hK=>?_;go_simp;refine hK.out _ _ (hS _ (hb1.alloc (by simp [hs0]) _)) (fun hS1=>?_);clear hK K;refine Xh 10 rfl fun K hK=>?_;go_simp;have hb2:Below (w.heap.size+2) W1 (W1.alloc (.cells #[.int .i64 0,.int .u64 0,.int .u64 0,.int .i64 0,.bool false] 153)).drew:=((Below.refl _ _).alloc (by omega) _).drew;refine hK.out _ _ (hS _ hb2) (fun hS2=>?_);clear hK K;refine Xh 11 rfl fun K hK=>?_;go_simp;refine hK.out _ _ hS2 (fun _=>?_);clear hK K hS0 hS1 hS2;refine wpAnyH_done (by kernel_rfl) ?_ _
 have bT:BoxN (W1.alloc (.cells #[.int .i64 0,.int .u64 0,.int .u64 0,.int .i64 0,.bool false] 153)).drew (w.heap.size+2) 153 #[.int .i64 0,.int .u64 0,.int .u64 0,.int .i64 0,.bool false]:=by
  have h:=BoxN.new W1 153 #[.int .i64 0,.int .u64 0,.int .u64 0,.int .i64 0,.bool false];rw [hs0] at h;exact h
 have hsz2:(W1.alloc (.cells #[.int .i64 0,.int .u64 0,.int .u64 0,.int .i64 0,.bool false] 153)).drew.heap.size=w.heap.size+3:=by simp [hs0]
 have bR2:=bR.below hb2 (by omega);have bN2:=bN.below hb2 (by omega);have hBf:=hB0.trans (hb2.mono (by omega));clear bT;obtain⟨-,ct,-⟩:=hP _ hBf;clear hS hP hb1 hb2 hB0 bN bR hs0;generalize (W1.alloc (.cells #[.int .i64 0,.int .u64 0,.int .u64 0,.int .i64 0,.bool false] 153)).drew=W2 at *
 go_wp2_with fail
 clear W1;generalize W2=W1 at *;have hs0:=hsz2
 have hS:∀ W,Below (w.heap.size+3) W1 W->Xnb vb 4 ml w.heap.size 121 x.1 x.2 (.agg #[.int .i64 ak,.int .u64 au,.int .u64 at_,.int .i64 tr,.bool pd,.string ⟨pth.toArray⟩,.int .u64 la]) W:=fun W hb=>by
  have bN':=bN2.below hb (by omega);obtain⟨h1,h2⟩:=hP2 W (hBf.trans (hb.mono (by omega)));exact⟨h1,bN'.cell 0 rfl,bN'.cell 1 rfl,h2⟩
 have hb1:Below (w.heap.size+3) W1 W1.drew:=(Below.refl _ _).drew;refine wp_region_held_drew (S:=(Xnb vb 4 ml w.heap.size 121 x.1 x.2 (.agg #[.int .i64 ak,.int .u64 au,.int .u64 at_,.int .i64 tr,.bool pd,.string ⟨pth.toArray⟩,.int .u64 la]))) (by kernel_rfl) (hS _ hb1) (fun hS0=>?_);refine Xt 0 ?vk0 rfl ?yk0 hS0 ?_
 case yk0=>(rintro w ⟨q0,q1,q2,q3⟩;go_simp;try with_reducible rfl)
 refine Xt 1 ?vk1 rfl ?yk1 hS0 ?_
 case yk1=>(rintro w ⟨q0,q1,q2,q3⟩;go_simp;try with_reducible rfl)
 refine Xt 2 ?vk2 rfl ?yk2 hS0 ?_
 case yk2=>(rintro w ⟨q0,q1,q2,q3⟩;go_simp;try with_reducible rfl)
 refine Xt 3 ?vk3 rfl ?yk3 hS0 ?_
 case yk3=>(rintro w ⟨q0,q1,q2,q3⟩;go_simp;try with_reducible rfl)
 refine Xt 4 ?vk4 rfl ?yk4 hS0 ?_
 case yk4=>(rintro w ⟨q0,q1,q2,q3⟩;go_simp;try with_reducible rfl)
 refine Xt 5 ?vk5 rfl ?yk5 hS0 ?_
 case yk5=>(rintro w ⟨q0,q1,q2,q3⟩;go_simp;try with_reducible rfl)
 refine Xh 6 rfl fun K hK=>?_;go_simp;refine hK.out _ _ (hS _ (hb1.alloc (by simp [hs0]) _)) (fun hS1=>?_);clear hK K;refine Xh 7 rfl fun K hK=>?_;go_simp;have hb2:Below (w.heap.size+3) W1 (W1.alloc (.cells #[.int .i64 ak,.int .u64 au,.int .u64 at_,.int .i64 tr,.bool pd,.string ⟨pth.toArray⟩,.int .u64 la] 131)).drew:=((Below.refl _ _).alloc (by omega) _).drew;refine hK.out _ _ (hS _ hb2) (fun hS2=>?_);clear hK K hS0 hS1 hS2;refine wpAnyH_done (by kernel_rfl) ?_ _
 have bL8:BoxN (W1.alloc (.cells #[.int .i64 ak,.int .u64 au,.int .u64 at_,.int .i64 tr,.bool pd,.string ⟨pth.toArray⟩,.int .u64 la] 131)).drew (w.heap.size+3) 131 #[.int .i64 ak,.int .u64 au,.int .u64 at_,.int .i64 tr,.bool pd,.string ⟨pth.toArray⟩,.int .u64 la]:=by
  have h:=BoxN.new W1 131 #[.int .i64 ak,.int .u64 au,.int .u64 at_,.int .i64 tr,.bool pd,.string ⟨pth.toArray⟩,.int .u64 la];rw [hs0] at h;exact h
 have bR8:=bR2.below hb2 (by omega);have bN8:=bN2.below hb2 (by omega);have hB7':=hBf.trans (hb2.mono (by omega));have ct8:(W1.alloc (.cells #[.int .i64 ak,.int .u64 au,.int .u64 at_,.int .i64 tr,.bool pd,.string ⟨pth.toArray⟩,.int .u64 la] 131)).drew.cell? ⟨vb,2,none⟩=some (.int .u64 tm):=(cell_of_block (hb2.block vb (by omega)) _).1.trans ct;clear hS hP2 hb1 hb2 hBf ct bN2 bR2 hs0 hsz2;generalize (W1.alloc (.cells #[.int .i64 ak,.int .u64 au,.int .u64 at_,.int .i64 tr,.bool pd,.string ⟨pth.toArray⟩,.int .u64 la] 131)).drew=W8 at *;have hF:=Xoa (w.heap.size+3) 131 ak au at_ tr tm pd [.string ⟨pth.toArray⟩,.int .u64 la] W8 (by simpa using bL8) h0 h1 t0 t1;rw [Xa HA] at hF;clear HA bL8
 go_wp2_with (first
  | (go_at_call 168;refine hF.mono ?_;rintro e w3 ⟨rfl,bT3,hS3⟩;have hB3:Below w.heap.size w w3:=⟨hS3.os.trans hB7'.os,hS3.tape.trans hB7'.tape,hS3.output.trans hB7'.output,Nat.le_trans hB7'.size hS3.size,fun k hk=>(hS3.block k (Nat.lt_of_lt_of_le hk hB7'.size) (by simp;omega)).trans (hB7'.block k hk)⟩;have bR3:=hS3.box bR8 (by simp);have bN3:=hS3.box bN8 (by simp);have n0:=bN3.cell 0 (v:=.int .i64 x.1) rfl;have n1:=bN3.cell 1 (v:=.int .u64 x.2) rfl;have hE:=Jw (w.heap.size+3) x.1 x.2 ak au at2 (tr+1) true pth la w3 (bT3.cell 0 (by simp)) (bT3.cell 1 (by simp)) (bT3.cell 2 (by simp)) (bT3.cell 3 (by simp)) (bT3.cell 4 (by simp)) (bT3.cell 5 (by simp)) (bT3.cell 6 (by simp));unfold Xi at hE)
  | (go_at_call 67;refine hE.mono ?_;rintro e w4 ⟨rfl,hb4⟩;have hB4:=hB3.trans (hb4.mono hB3.size);have bR4:=bR3.below hb4 bR3.lt;have z0:=bR4.cell 0 (v:=.int .i64 0) rfl;have f0:=bR4.frozen 0;have z1:=bR4.cell 1 (v:=.int .i64 0) rfl;have f1:=bR4.frozen 1;have z2:=bR4.cell 2 (v:=.int .u64 0) rfl;have f2:=bR4.frozen 2;have z3:=bR4.cell 3 (v:=.int .i64 0) rfl;have f3:=bR4.frozen 3;have z4:=bR4.cell 4 (v:=.int .u64 0) rfl;have f4:=bR4.frozen 4;have z5:=bR4.cell 5 (v:=.bool false) rfl;have f5:=bR4.frozen 5;have z6:=bR4.cell 6 (v:=.int .u64 0) rfl;have f6:=bR4.frozen 6;have z7:=bR4.cell 7 (v:=.int .i64 0) rfl;have f7:=bR4.frozen 7;have z8:=bR4.cell 8 (v:=.int .u64 0) rfl;have f8:=bR4.frozen 8;have z9:=bR4.cell 9 (v:=.string ⟨#[]⟩) rfl;have f9:=bR4.frozen 9))
 have z0:=bR4.cell 0 (v:=.int .i64 0) rfl;have f0:=bR4.frozen 0;have z1:=bR4.cell 1 (v:=.int .i64 0) rfl;have f1:=bR4.frozen 1;have z2:=bR4.cell 2 (v:=.int .u64 0) rfl;have f2:=bR4.frozen 2;have z3:=bR4.cell 3 (v:=.int .i64 0) rfl;have f3:=bR4.frozen 3;have z4:=bR4.cell 4 (v:=.int .u64 0) rfl;have f4:=bR4.frozen 4;have z5:=bR4.cell 5 (v:=.bool false) rfl;have f5:=bR4.frozen 5;have z6:=bR4.cell 6 (v:=.int .u64 0) rfl;have f6:=bR4.frozen 6;have z7:=bR4.cell 7 (v:=.int .i64 0) rfl;have f7:=bR4.frozen 7;have z8:=bR4.cell 8 (v:=.int .u64 0) rfl;have f8:=bR4.frozen 8;have z9:=bR4.cell 9 (v:=.string ⟨#[]⟩) rfl;have f9:=bR4.frozen 9
 have hfin:=((((((((((bR4.set 0 (.int .i64 1)).set 1 (.int .i64 x.1)).set 2 (.int .u64 x.2)).set 3 (.int .i64 ak)).set 4 (.int .u64 au)).set 5 (.bool true)).set 6 (.int .u64 at2)).set 7 (.int .i64 (tr+1))).set 8 (.int .u64 la)).set 9 (.string ⟨pth.toArray⟩))
 have r0:=hfin.cell 0 (v:=.int .i64 1) (by simp);have r1:=hfin.cell 1 (v:=.int .i64 x.1) (by simp);have r2:=hfin.cell 2 (v:=.int .u64 x.2) (by simp);have r3:=hfin.cell 3 (v:=.int .i64 ak) (by simp);have r4:=hfin.cell 4 (v:=.int .u64 au) (by simp);have r5:=hfin.cell 5 (v:=.bool true) (by simp);have r6:=hfin.cell 6 (v:=.int .u64 at2) (by simp);have r7:=hfin.cell 7 (v:=.int .i64 (tr+1)) (by simp);have r8:=hfin.cell 8 (v:=.int .u64 la) (by simp);have r9:=hfin.cell 9 (v:=.string ⟨pth.toArray⟩) (by simp);have hBw:=Xb ((((((((((hB4.setCell (p:=⟨w.heap.size+1,0,none⟩) (by show w.heap.size<=w.heap.size+1;omega) (.int .i64 1)).setCell (p:=⟨w.heap.size+1,1,none⟩) (by show w.heap.size<=w.heap.size+1;omega) (.int .i64 x.1)).setCell (p:=⟨w.heap.size+1,2,none⟩) (by show w.heap.size<=w.heap.size+1;omega) (.int .u64 x.2)).setCell (p:=⟨w.heap.size+1,3,none⟩) (by show w.heap.size<=w.heap.size+1;omega) (.int .i64 ak)).setCell (p:=⟨w.heap.size+1,4,none⟩) (by show w.heap.size<=w.heap.size+1;omega) (.int .u64 au)).setCell (p:=⟨w.heap.size+1,5,none⟩) (by show w.heap.size<=w.heap.size+1;omega) (.bool true)).setCell (p:=⟨w.heap.size+1,6,none⟩) (by show w.heap.size<=w.heap.size+1;omega) (.int .u64 at2)).setCell (p:=⟨w.heap.size+1,7,none⟩) (by show w.heap.size<=w.heap.size+1;omega) (.int .i64 (tr+1))).setCell (p:=⟨w.heap.size+1,8,none⟩) (by show w.heap.size<=w.heap.size+1;omega) (.int .u64 la)).setCell (p:=⟨w.heap.size+1,9,none⟩) (by show w.heap.size<=w.heap.size+1;omega) (.string ⟨pth.toArray⟩));clear hfin;exact bodyPost_ret (v:=.agg #[.int .i64 1,.int .i64 x.1,.int .u64 x.2,.int .i64 ak,.int .u64 au,.bool true,.int .u64 at2,.int .i64 (tr+1),.int .u64 la,.string ⟨pth.toArray⟩]) (by simp [results,results135,go_sem,r0,r1,r2,r3,r4,r5,r6,r7,r8,r9]) rfl ⟨rfl,Xa hBw⟩
end Go.Proofs
