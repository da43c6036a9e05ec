import Derived.Test.YtjbekgjdempbiaaGreatDoorJTkA
import Derived.Test.YtjbekgjdempbiaaGreatDoorJAsW
import Derived.Test.YtjbekgjdempbiaaGreatDoorJSets
import Derived.Test.YtjbekgjdempbiaaGreatDoorJRel
import Derived.Test.YtjbekgjdempbiaaGreatDoorJFndC
import Derived.Test.YtjbekgjdempbiaaGreatDoorJHostW
import Derived.Test.YtjbekgjdempbiaaGreatDoorJQueG
set_option maxRecDepth 100000
set_option maxHeartbeats 8000000
namespace Go.Proofs
open Go.RowKit Go.Sort Go.Lib Go.Shelf Go.Maps
structure Tryz.LkP1 (vb c m nb:Nat) (tm:TypeId) (k u:Int) (r:Value) (W:World):Prop where
 mp:W.cell? ⟨vb,c,none⟩=some (.map (some m))
 n0:W.cell? ⟨nb,0,none⟩=some (.int .i64 k)
 n1:W.cell? ⟨nb,1,none⟩=some (.int .u64 u)
 lk:(Instr.lookup tm (.map (some m)) (.agg #[.int .i64 k,.int .u64 u]) false).run Tryz.prog W=.ok r W
theorem Tryz.aboveOf_tok (vb mt:Nat) (x:Int × Int) (ak au at_ tr:Int) (pd:Bool) (w:World) (hP:∀ W,Below w.heap.size w W→W.cell? ⟨vb,3,none⟩=some (.map (some mt))∧(Instr.lookup 120 (.map (some mt)) (nmV x) true).run prog W=.ok (.tuple #[.agg #[.int .i64 ak,.int .u64 au,.int .u64 at_,.int .i64 tr,.bool pd],.bool true]) W) :
  Calls prog 134 #[.pointer (some ⟨vb,0,none⟩),nmV x] w fun e w'=>e=.returned (nmV (ak,au))∧Below w.heap.size w w':=by
 have hB0:Below w.heap.size w ((w.alloc (.cells #[.int .i64 x.1,.int .u64 x.2] 114)).alloc (.cells #[.int .i64 0,.int .u64 0] 114)):=((Below.refl _ w).alloc (Nat.le_refl _) _).alloc (by simp) _;have bN:=(BoxN.new w 114 #[.int .i64 x.1,.int .u64 x.2]).alloc (.cells #[.int .i64 0,.int .u64 0] 114);have bR:=BoxN.new (w.alloc (.cells #[.int .i64 x.1,.int .u64 x.2] 114)) 114 #[.int .i64 0,.int .u64 0];rw [World.size_alloc] at bR
 have hs0:((w.alloc (.cells #[.int .i64 x.1,.int .u64 x.2] 114)).alloc (.cells #[.int .i64 0,.int .u64 0] 114)).heap.size=w.heap.size+2:=by simp
 unfold nmV;go_enter func134,ntmps134
 go_wp2_with fail
 generalize (w.alloc (.cells #[.int .i64 x.1,.int .u64 x.2] 114)).alloc (.cells #[.int .i64 0,.int .u64 0] 114)=W1 at *
 have hS:∀ W,Below (w.heap.size+2) W1 W→LkP vb 3 mt w.heap.size 120 x.1 x.2 (.tuple #[.agg #[.int .i64 ak,.int .u64 au,.int .u64 at_,.int .i64 tr,.bool pd],.bool true]) W:=fun W hb=>by
  have bN':=bN.below hb (by omega);obtain⟨h1,h2⟩:=hP W (hB0.trans (hb.mono (by omega)));exact⟨h1,bN'.cell 0 rfl,bN'.cell 1 rfl,h2⟩
 have hb1:Below (w.heap.size+2) W1 W1.drew:=(Below.refl _ _).drew;refine wp_region_held_drew (S:=(LkP vb 3 mt w.heap.size 120 x.1 x.2 (.tuple #[.agg #[.int .i64 ak,.int .u64 au,.int .u64 at_,.int .i64 tr,.bool pd],.bool true]))) (by kernel_rfl) (hS _ hb1) (fun hS0=>?_);refine wpAnyH_take (i:=0) (v:=?v0) rfl (by kernel_rfl) (by kernel_rfl) (by kernel_rfl) (fun _ _ _ h=>h) (Or.inl ⟨by kernel_rfl,?y0⟩) hS0 ?_
 case y0=>(intro w hSw;obtain⟨q0,q1,q2,q3⟩:=hSw;go_simp;try with_reducible rfl)
 refine wpAnyH_take (i:=1) (v:=?v1) rfl (by kernel_rfl) (by kernel_rfl) (by kernel_rfl) (fun _ _ _ h=>h) (Or.inl ⟨by kernel_rfl,?y1⟩) hS0 ?_
 case y1=>(intro w hSw;obtain⟨q0,q1,q2,q3⟩:=hSw;go_simp;try with_reducible rfl)
 refine wpAnyH_take (i:=2) (v:=?v2) rfl (by kernel_rfl) (by kernel_rfl) (by kernel_rfl) (fun _ _ _ h=>h) (Or.inl ⟨by kernel_rfl,?y2⟩) hS0 ?_
 case y2=>(intro w hSw;obtain⟨q0,q1,q2,q3⟩:=hSw;go_simp;try with_reducible rfl)
 refine wpAnyH_take (i:=3) (v:=?v3) rfl (by kernel_rfl) (by kernel_rfl) (by kernel_rfl) (fun _ _ _ h=>h) (Or.inl ⟨by kernel_rfl,?y3⟩) hS0 ?_
 case y3=>(intro w hSw;obtain⟨q0,q1,q2,q3⟩:=hSw;go_simp;try with_reducible rfl)
 refine wpAnyH_take (i:=4) (v:=?v4) rfl (by kernel_rfl) (by kernel_rfl) (by kernel_rfl) (fun _ _ _ h=>h) (Or.inl ⟨by kernel_rfl,?y4⟩) hS0 ?_
 case y4=>(intro w hSw;obtain⟨q0,q1,q2,q3⟩:=hSw;go_simp;try with_reducible rfl)
 refine wpAnyH_take (i:=5) (v:=?v5) rfl (by kernel_rfl) (by kernel_rfl) (by kernel_rfl) (fun _ _ _ h=>h) (Or.inl ⟨by kernel_rfl,?y5⟩) hS0 ?_
 case y5=>(intro w hSw;obtain⟨q0,q1,q2,q3⟩:=hSw;go_simp;try with_reducible rfl)
 refine wpAnyH_take (i:=6) (v:=?v6) rfl (by kernel_rfl) (by kernel_rfl) (by kernel_rfl) (fun _ _ _ h=>h) (Or.inl ⟨by kernel_rfl,?y6⟩) hS0 ?_
 case y6=>(intro w hSw;obtain⟨q0,q1,q2,q3⟩:=hSw;go_simp;try with_reducible rfl)
 refine wpAnyH_take (i:=7) (v:=?v7) rfl (by kernel_rfl) (by kernel_rfl) (by kernel_rfl) (fun _ _ _ h=>h) (Or.inl ⟨by kernel_rfl,?y7⟩) hS0 ?_
 case y7=>(intro w hSw;obtain⟨q0,q1,q2,q3⟩:=hSw;go_simp;try with_reducible rfl)
 refine wpAnyH_take (i:=8) (v:=?v8) rfl (by kernel_rfl) (by kernel_rfl) (by kernel_rfl) (fun _ _ _ h=>h) (Or.inl ⟨by kernel_rfl,?y8⟩) hS0 ?_
 case y8=>(intro w hSw;obtain⟨q0,q1,q2,q3⟩:=hSw;go_simp;try with_reducible rfl)
 refine wpAnyH_ready (rs:=[9]) (by kernel_rfl) (by simp) ?_;refine AllReadyH.cons rfl (fun K hK=>?_) AllReadyH.nil;go_simp;refine hK.out _ _ (hS _ (hb1.alloc (by simp [hs0]) _)) (fun hS1=>?_);clear hK K;refine wpAnyH_ready (rs:=[10]) (by kernel_rfl) (by simp) ?_;refine AllReadyH.cons rfl (fun K hK=>?_) AllReadyH.nil;go_simp;have hb2:Below (w.heap.size+2) W1 (W1.alloc (.cells #[.int .i64 ak,.int .u64 au,.int .u64 at_,.int .i64 tr,.bool pd] 153)).drew:=((Below.refl _ _).alloc (by omega) _).drew;refine hK.out _ _ (hS _ hb2) (fun hS2=>?_);clear hK K;refine wpAnyH_ready (rs:=[11]) (by kernel_rfl) (by simp) ?_;refine AllReadyH.cons rfl (fun K hK=>?_) AllReadyH.nil;go_simp;refine hK.out _ _ hS2 (fun _=>?_);clear hK K hS0 hS1 hS2;refine wpAnyH_done (by kernel_rfl) ?_ _
 have bT:BoxN (W1.alloc (.cells #[.int .i64 ak,.int .u64 au,.int .u64 at_,.int .i64 tr,.bool pd] 153)).drew (w.heap.size+2) 153 #[.int .i64 ak,.int .u64 au,.int .u64 at_,.int .i64 tr,.bool pd]:=by
  have h:=BoxN.new W1 153 #[.int .i64 ak,.int .u64 au,.int .u64 at_,.int .i64 tr,.bool pd];rw [hs0] at h;exact h
 have bR2:=bR.below hb2 (by omega);have hBf:=hB0.trans (hb2.mono (by omega));clear hS hP hb1 hb2 hB0 bN bR;generalize (W1.alloc (.cells #[.int .i64 ak,.int .u64 au,.int .u64 at_,.int .i64 tr,.bool pd] 153)).drew=W2 at *;have y0:=bT.cell 0 (v:=.int .i64 ak) rfl;have y1:=bT.cell 1 (v:=.int .u64 au) rfl;have z0:=bR2.cell 0 (v:=.int .i64 0) rfl;have z1:=bR2.cell 1 (v:=.int .u64 0) rfl;have f0:=bR2.frozen 0;have f1:=bR2.frozen 1;have hfin:=(bR2.set 0 (.int .i64 ak)).set 1 (.int .u64 au);have r0:=hfin.cell 0 (v:=.int .i64 ak) (by simp);have r1:=hfin.cell 1 (v:=.int .u64 au) (by simp);go_wp2;exact bodyPost_ret (v:=.agg #[.int .i64 ak,.int .u64 au]) (by simp [results,results134,go_sem,r0,r1]) rfl ⟨rfl,(hBf.setCell (p:=⟨w.heap.size+1,0,none⟩) (by show w.heap.size≤w.heap.size+1;omega) _).setCell (p:=⟨w.heap.size+1,1,none⟩) (by show w.heap.size≤w.heap.size+1;omega) _⟩
theorem Tryz.fieldL (ak au at_ tr:Int) (pd:Bool) (pth:ByteArray) (la:Int) (w:World):Sem.run prog (Instr.field 131 (.agg #[.int .i64 ak,.int .u64 au,.int .u64 at_,.int .i64 tr,.bool pd,.string pth,.int .u64 la]) 0) w=.ok (.agg #[.int .i64 ak,.int .u64 au,.int .u64 at_,.int .i64 tr,.bool pd]) w:=by kernel_rfl
theorem Tryz.fieldE (ak au at_ tr:Int) (pd:Bool) (w:World):Sem.run prog (Instr.field 129 (.agg #[.int .i64 ak,.int .u64 au,.int .u64 at_,.int .i64 tr,.bool pd]) 0) w=.ok (.agg #[.int .i64 ak,.int .u64 au]) w:=by kernel_rfl
theorem Tryz.aboveOf_lea (vb mt ml:Nat) (x:Int × Int) (ak au at_ tr:Int) (pd:Bool) (pth:List UInt8) (la:Int) (w:World) (hP:∀ W,Below w.heap.size w W→W.cell? ⟨vb,3,none⟩=some (.map (some mt))∧(Instr.lookup 120 (.map (some mt)) (nmV x) true).run prog W=.ok (.tuple #[.agg #[.int .i64 0,.int .u64 0,.int .u64 0,.int .i64 0,.bool false],.bool false]) W)
  (hP2:∀ W,Below w.heap.size w W→W.cell? ⟨vb,4,none⟩=some (.map (some ml))∧(Instr.lookup 121 (.map (some ml)) (nmV x) false).run prog W=.ok (.agg #[.int .i64 ak,.int .u64 au,.int .u64 at_,.int .i64 tr,.bool pd,.string ⟨pth.toArray⟩,.int .u64 la]) W) :
  Calls prog 134 #[.pointer (some ⟨vb,0,none⟩),nmV x] w fun e w'=>e=.returned (nmV (ak,au))∧Below w.heap.size w w':=by
 have hB0:Below w.heap.size w ((w.alloc (.cells #[.int .i64 x.1,.int .u64 x.2] 114)).alloc (.cells #[.int .i64 0,.int .u64 0] 114)):=((Below.refl _ w).alloc (Nat.le_refl _) _).alloc (by simp) _;have bN:=(BoxN.new w 114 #[.int .i64 x.1,.int .u64 x.2]).alloc (.cells #[.int .i64 0,.int .u64 0] 114);have bR:=BoxN.new (w.alloc (.cells #[.int .i64 x.1,.int .u64 x.2] 114)) 114 #[.int .i64 0,.int .u64 0];rw [World.size_alloc] at bR
 have hs0:((w.alloc (.cells #[.int .i64 x.1,.int .u64 x.2] 114)).alloc (.cells #[.int .i64 0,.int .u64 0] 114)).heap.size=w.heap.size+2:=by simp
 unfold nmV at hP hP2 ⊢;go_enter func134,ntmps134
 go_wp2_with fail
 generalize (w.alloc (.cells #[.int .i64 x.1,.int .u64 x.2] 114)).alloc (.cells #[.int .i64 0,.int .u64 0] 114)=W1 at *
 have hS:∀ W,Below (w.heap.size+2) W1 W→LkP vb 3 mt w.heap.size 120 x.1 x.2 (.tuple #[.agg #[.int .i64 0,.int .u64 0,.int .u64 0,.int .i64 0,.bool false],.bool false]) W:=fun W hb=>by
  have bN':=bN.below hb (by omega);obtain⟨h1,h2⟩:=hP W (hB0.trans (hb.mono (by omega)));exact⟨h1,bN'.cell 0 rfl,bN'.cell 1 rfl,h2⟩
 have hb1:Below (w.heap.size+2) W1 W1.drew:=(Below.refl _ _).drew;refine wp_region_held_drew (S:=(LkP vb 3 mt w.heap.size 120 x.1 x.2 (.tuple #[.agg #[.int .i64 0,.int .u64 0,.int .u64 0,.int .i64 0,.bool false],.bool false]))) (by kernel_rfl) (hS _ hb1) (fun hS0=>?_);refine wpAnyH_take (i:=0) (v:=?v0) rfl (by kernel_rfl) (by kernel_rfl) (by kernel_rfl) (fun _ _ _ h=>h) (Or.inl ⟨by kernel_rfl,?y0⟩) hS0 ?_
 case y0=>(intro w hSw;obtain⟨q0,q1,q2,q3⟩:=hSw;go_simp;try with_reducible rfl)
 refine wpAnyH_take (i:=1) (v:=?v1) rfl (by kernel_rfl) (by kernel_rfl) (by kernel_rfl) (fun _ _ _ h=>h) (Or.inl ⟨by kernel_rfl,?y1⟩) hS0 ?_
 case y1=>(intro w hSw;obtain⟨q0,q1,q2,q3⟩:=hSw;go_simp;try with_reducible rfl)
 refine wpAnyH_take (i:=2) (v:=?v2) rfl (by kernel_rfl) (by kernel_rfl) (by kernel_rfl) (fun _ _ _ h=>h) (Or.inl ⟨by kernel_rfl,?y2⟩) hS0 ?_
 case y2=>(intro w hSw;obtain⟨q0,q1,q2,q3⟩:=hSw;go_simp;try with_reducible rfl)
 refine wpAnyH_take (i:=3) (v:=?v3) rfl (by kernel_rfl) (by kernel_rfl) (by kernel_rfl) (fun _ _ _ h=>h) (Or.inl ⟨by kernel_rfl,?y3⟩) hS0 ?_
 case y3=>(intro w hSw;obtain⟨q0,q1,q2,q3⟩:=hSw;go_simp;try with_reducible rfl)
 refine wpAnyH_take (i:=4) (v:=?v4) rfl (by kernel_rfl) (by kernel_rfl) (by kernel_rfl) (fun _ _ _ h=>h) (Or.inl ⟨by kernel_rfl,?y4⟩) hS0 ?_
 case y4=>(intro w hSw;obtain⟨q0,q1,q2,q3⟩:=hSw;go_simp;try with_reducible rfl)
 refine wpAnyH_take (i:=5) (v:=?v5) rfl (by kernel_rfl) (by kernel_rfl) (by kernel_rfl) (fun _ _ _ h=>h) (Or.inl ⟨by kernel_rfl,?y5⟩) hS0 ?_
 case y5=>(intro w hSw;obtain⟨q0,q1,q2,q3⟩:=hSw;go_simp;try with_reducible rfl)
 refine wpAnyH_take (i:=6) (v:=?v6) rfl (by kernel_rfl) (by kernel_rfl) (by kernel_rfl) (fun _ _ _ h=>h) (Or.inl ⟨by kernel_rfl,?y6⟩) hS0 ?_
 case y6=>(intro w hSw;obtain⟨q0,q1,q2,q3⟩:=hSw;go_simp;try with_reducible rfl)
 refine wpAnyH_take (i:=7) (v:=?v7) rfl (by kernel_rfl) (by kernel_rfl) (by kernel_rfl) (fun _ _ _ h=>h) (Or.inl ⟨by kernel_rfl,?y7⟩) hS0 ?_
 case y7=>(intro w hSw;obtain⟨q0,q1,q2,q3⟩:=hSw;go_simp;try with_reducible rfl)
 refine wpAnyH_take (i:=8) (v:=?v8) rfl (by kernel_rfl) (by kernel_rfl) (by kernel_rfl) (fun _ _ _ h=>h) (Or.inl ⟨by kernel_rfl,?y8⟩) hS0 ?_
 case y8=>(intro w hSw;obtain⟨q0,q1,q2,q3⟩:=hSw;go_simp;try with_reducible rfl)
 refine wpAnyH_ready (rs:=[9]) (by kernel_rfl) (by simp) ?_;refine AllReadyH.cons rfl (fun K hK=>?_) AllReadyH.nil;go_simp;refine hK.out _ _ (hS _ (hb1.alloc (by simp [hs0]) _)) (fun hS1=>?_);clear hK K;refine wpAnyH_ready (rs:=[10]) (by kernel_rfl) (by simp) ?_;refine AllReadyH.cons rfl (fun K hK=>?_) AllReadyH.nil;go_simp;have hb2:Below (w.heap.size+2) W1 (W1.alloc (.cells #[.int .i64 0,.int .u64 0,.int .u64 0,.int .i64 0,.bool false] 153)).drew:=((Below.refl _ _).alloc (by omega) _).drew;refine hK.out _ _ (hS _ hb2) (fun hS2=>?_);clear hK K;refine wpAnyH_ready (rs:=[11]) (by kernel_rfl) (by simp) ?_;refine AllReadyH.cons rfl (fun K hK=>?_) AllReadyH.nil;go_simp;refine hK.out _ _ hS2 (fun _=>?_);clear hK K hS0 hS1 hS2;refine wpAnyH_done (by kernel_rfl) ?_ _;have bR2:=bR.below hb2 (by omega);have bN2:=bN.below hb2 (by omega);have hBf:=hB0.trans (hb2.mono (by omega));obtain⟨hc4,hl4⟩:=hP2 _ hBf.drew;clear hS hP hP2 hb1 hb2 hB0 bN bR;generalize (W1.alloc (.cells #[.int .i64 0,.int .u64 0,.int .u64 0,.int .i64 0,.bool false] 153)).drew=W2 at *;have hc5:W2.cell? ⟨vb,4,none⟩=some (.map (some ml)):=hc4;have y0:=bN2.cell 0 (v:=.int .i64 x.1) rfl;have y1:=bN2.cell 1 (v:=.int .u64 x.2) rfl;have z0:=bR2.cell 0 (v:=.int .i64 0) rfl;have z1:=bR2.cell 1 (v:=.int .u64 0) rfl;have f0:=bR2.frozen 0;have f1:=bR2.frozen 1;have hfin:=(bR2.set 0 (.int .i64 ak)).set 1 (.int .u64 au);have r0:=hfin.cell 0 (v:=.int .i64 ak) (by simp);have r1:=hfin.cell 1 (v:=.int .u64 au) (by simp);have e1:=fieldL ak au at_ tr pd ⟨pth.toArray⟩ la;have e2:=fieldE ak au at_ tr pd
 go_wp2_with fail
 go_region
 go_wp2;exact bodyPost_ret (v:=.agg #[.int .i64 ak,.int .u64 au]) (by simp [results,results134,go_sem,r0,r1]) rfl ⟨rfl,((hBf.setCell (p:=⟨w.heap.size+1,0,none⟩) (by show w.heap.size≤w.heap.size+1;omega) _).setCell (p:=⟨w.heap.size+1,1,none⟩) (by show w.heap.size≤w.heap.size+1;omega) _).drew⟩
theorem Tryz.eRevoke (b:Nat) (ty:TypeId) (ak au at_ tr tm:Int) (pd:Bool) (rest:List Value) (w:World) (hB:BoxN w b ty (#[.int .i64 ak,.int .u64 au,.int .u64 at_,.int .i64 tr,.bool pd] ++ rest.toArray)) :
  Calls prog 90 #[.pointer (some ⟨b,0,none⟩),.int .u64 tm] w fun e w'=>e=.returned (.tuple #[])∧BoxN w' b ty (#[.int .i64 ak,.int .u64 au,.int .u64 tm,.int .i64 tr,.bool true] ++ rest.toArray)∧Spares [b] w w':=by
 have c2:=hB.cell 2 (v:=.int .u64 at_) (by simp);have c4:=hB.cell 4 (v:=.bool pd) (by simp);have f2:=hB.frozen 2;have f4:=hB.frozen 4;have hfin:=(hB.set 4 (.bool true)).set 2 (.int .u64 tm);have HF:=hid_intro hfin;clear hfin;go_enter func90,ntmps90;go_wp2
 go_end0
 refine⟨rfl,?_,((Spares.of_below (Below.refl _ w)).set (by simp) _ _).set (by simp) _ _⟩;have:=hid_elim HF
 simpa using this
theorem Tryz.vRevoke_ok (k:Blk) (vx:VX) (tm:Int) (s:VSt) (c:List UInt8) (l f:Int) (w:World) (hW:Whole w k vx tm s c l f) (hl:l<0) (hl1 : -999999990≤l) (hf:f<0) (hf1 : -999999990≤f) (hc:c.length≤900000000000) (id:List UInt8) (hid:id.length≤1000000) (ak:Int) (n au:Nat) (at_ tr:Int) (pd:Bool) (pth:List UInt8) (la:Int) (i:Nat) (ht:s.lks[i]? = some ⟨n,ak,au,at_,tr,pd,pth,la⟩) (hp:parseN id=(2,(n:Int))) (hlv:(!pd&&decide (tm<at_))=true) (h500:s.lks.length<500) (kl:List UInt8) (hkl:keepLine tm [.lea ⟨n,ak,au,tm,tr,true,pth,la⟩]=kl) (lks':List LeaE) (hlks:s.lks.set i ⟨n,ak,au,tm,tr,true,pth,la⟩=lks') :
  Calls prog 51 #[.pointer (some ⟨k.vb,0,none⟩),.string ⟨id.toArray⟩] w fun e w'=>e=.returned .nilIface∧Whole w' k vx tm ⟨s.tn,s.ln,s.tks,lks'⟩ (c++kl) (l-2) (f-2)∧Spares k.turns w w':=by
 have htm:=List.mem_of_getElem? ht;have hokt:=hW.v.okL _ htm;have hset:=putLea_set hW.v.va.ok.incL ht (t':=⟨n,ak,au,tm,tr,true,pth,la⟩) rfl
 have hfit:(Item.lea ⟨n,ak,au,tm,tr,true,pth,la⟩).Fits s:=⟨⟨hW.v.t0,hW.v.t1,hokt.r0,hokt.r1,hokt.l0,hokt.l1,hokt.p1,hokt.pa⟩,.inl ⟨_,htm,rfl⟩,h500,(hW.v.va.ok.limL _ htm).1,(hW.v.va.ok.limL _ htm).2⟩
 have happ:(Item.lea ⟨n,ak,au,tm,tr,true,pth,la⟩).app s=⟨s.tn,s.ln,s.tks,lks'⟩:=by
  show VSt.mk s.tn (max s.ln n) s.tks (putLea ⟨n,ak,au,tm,tr,true,pth,la⟩ s.lks)=_
  rw [hset,show max s.ln n=s.ln by have:=hW.v.nl _ htm;simp at this;omega,hlks]
 have hK:=fun W (hb:Below w.heap.size w W)=>keep1 k vx tm s c l f (.lea ⟨n,ak,au,tm,tr,true,pth,la⟩) W (hW.below hb) hl hl1 hf hf1 hc hfit
 rw [happ,hkl] at hK
 change ∀ W,Below w.heap.size w W→Calls prog 66 _ (W.alloc (.cells #[.int .i64 1,.int .i64 2,.int .u64 (n:Int),.int .i64 ak,.int .u64 (au:Int),.bool true,.int .u64 tm,.int .i64 tr,.int .u64 la,.string ⟨pth.toArray⟩] 135)) _ at hK
 have hP0:∀ W,Below w.heap.size w W→(Instr.lookup 121 (.map (some k.ml)) (nmV (2,(n:Int))) true).run prog W=.ok (.tuple #[.agg #[.int .i64 ak,.int .u64 (au:Int),.int .u64 at_,.int .i64 tr,.bool pd,.string ⟨pth.toArray⟩,.int .u64 la],.bool true]) W:=fun W hb=>(hW.v.va.below hb).lookL htm
 clear hset hfit happ hkl hlks ht htm hokt;have hP:=parse ⟨id.toArray⟩ (by simpa [ByteArray.size] using hid) w hW.v.va.env hW.v.va.six;simp only at hP;rw [hp] at hP;unfold nmV at *;have lV:=hW.v.va.v.lt;go_enter func51,ntmps51
 go_wp2_with (go_at_call 63;refine hP.mono ?_;rintro e w1 ⟨rfl,hb1'⟩)
 have hB0:=hb1'.alloc hb1'.size (.cells #[.int .i64 2,.int .u64 (n:Int)] 114);have bN:=BoxN.new w1 114 #[.int .i64 2,.int .u64 (n:Int)];have hz1:=hb1'.size
 obtain⟨N,hs0⟩:∃ N,(w1.alloc (.cells #[.int .i64 2,.int .u64 (n:Int)] 114)).heap.size=N:=⟨_,rfl⟩
 have hN:N=w1.heap.size+1:=by rw [← hs0];simp
 obtain⟨nb,hnb⟩:∃ nb,w1.heap.size=nb:=⟨_,rfl⟩
 rw [hnb] at bN hN hz1;rw [hnb];generalize (w1.alloc (.cells #[.int .i64 2,.int .u64 (n:Int)] 114))=W1 at *;clear hnb hb1' w1
 have hS:∀ W,Below N W1 W→LkP k.vb 4 k.ml nb 121 2 (n:Int) (.tuple #[.agg #[.int .i64 ak,.int .u64 (au:Int),.int .u64 at_,.int .i64 tr,.bool pd,.string ⟨pth.toArray⟩,.int .u64 la],.bool true]) W:=fun W hb=>by
  have bN':=bN.below hb (by omega);have hB:=hB0.trans (hb.mono (by omega));exact⟨(hW.v.va.below hB).v.cell 4 rfl,bN'.cell 0 rfl,bN'.cell 1 rfl,hP0 W hB⟩
 have hb1:Below N W1 W1.drew:=(Below.refl _ _).drew;refine wp_region_held_drew (S:=(LkP k.vb 4 k.ml nb 121 2 (n:Int) (.tuple #[.agg #[.int .i64 ak,.int .u64 (au:Int),.int .u64 at_,.int .i64 tr,.bool pd,.string ⟨pth.toArray⟩,.int .u64 la],.bool true]))) (by kernel_rfl) (hS _ hb1) (fun hS0=>?_);refine wpAnyH_take (i:=0) (v:=?v0) rfl (by kernel_rfl) (by kernel_rfl) (by kernel_rfl) (fun _ _ _ h=>h) (Or.inl ⟨by kernel_rfl,?y0⟩) hS0 ?_
 case y0=>(intro w hSw;obtain⟨q0,q1,q2,q3⟩:=hSw;go_simp;try with_reducible rfl)
 refine wpAnyH_take (i:=1) (v:=?v1) rfl (by kernel_rfl) (by kernel_rfl) (by kernel_rfl) (fun _ _ _ h=>h) (Or.inl ⟨by kernel_rfl,?y1⟩) hS0 ?_
 case y1=>(intro w hSw;obtain⟨q0,q1,q2,q3⟩:=hSw;go_simp;try with_reducible rfl)
 refine wpAnyH_take (i:=2) (v:=?v2) rfl (by kernel_rfl) (by kernel_rfl) (by kernel_rfl) (fun _ _ _ h=>h) (Or.inl ⟨by kernel_rfl,?y2⟩) hS0 ?_
 case y2=>(intro w hSw;obtain⟨q0,q1,q2,q3⟩:=hSw;go_simp;try with_reducible rfl)
 refine wpAnyH_take (i:=3) (v:=?v3) rfl (by kernel_rfl) (by kernel_rfl) (by kernel_rfl) (fun _ _ _ h=>h) (Or.inl ⟨by kernel_rfl,?y3⟩) hS0 ?_
 case y3=>(intro w hSw;obtain⟨q0,q1,q2,q3⟩:=hSw;go_simp;try with_reducible rfl)
 refine wpAnyH_take (i:=4) (v:=?v4) rfl (by kernel_rfl) (by kernel_rfl) (by kernel_rfl) (fun _ _ _ h=>h) (Or.inl ⟨by kernel_rfl,?y4⟩) hS0 ?_
 case y4=>(intro w hSw;obtain⟨q0,q1,q2,q3⟩:=hSw;go_simp;try with_reducible rfl)
 refine wpAnyH_take (i:=5) (v:=?v5) rfl (by kernel_rfl) (by kernel_rfl) (by kernel_rfl) (fun _ _ _ h=>h) (Or.inl ⟨by kernel_rfl,?y5⟩) hS0 ?_
 case y5=>(intro w hSw;obtain⟨q0,q1,q2,q3⟩:=hSw;go_simp;try with_reducible rfl)
 refine wpAnyH_take (i:=6) (v:=?v6) rfl (by kernel_rfl) (by kernel_rfl) (by kernel_rfl) (fun _ _ _ h=>h) (Or.inl ⟨by kernel_rfl,?y6⟩) hS0 ?_
 case y6=>(intro w hSw;obtain⟨q0,q1,q2,q3⟩:=hSw;go_simp;try with_reducible rfl)
 refine wpAnyH_take (i:=7) (v:=?v7) rfl (by kernel_rfl) (by kernel_rfl) (by kernel_rfl) (fun _ _ _ h=>h) (Or.inl ⟨by kernel_rfl,?y7⟩) hS0 ?_
 case y7=>(intro w hSw;obtain⟨q0,q1,q2,q3⟩:=hSw;go_simp;try with_reducible rfl)
 refine wpAnyH_take (i:=8) (v:=?v8) rfl (by kernel_rfl) (by kernel_rfl) (by kernel_rfl) (fun _ _ _ h=>h) (Or.inl ⟨by kernel_rfl,?y8⟩) hS0 ?_
 case y8=>(intro w hSw;obtain⟨q0,q1,q2,q3⟩:=hSw;go_simp;try with_reducible rfl)
 refine wpAnyH_ready (rs:=[9]) (by kernel_rfl) (by simp) ?_;refine AllReadyH.cons rfl (fun K hK=>?_) AllReadyH.nil;go_simp;refine hK.out _ _ (hS _ (hb1.alloc (by simp [hs0]) _)) (fun hS1=>?_);clear hK K;refine wpAnyH_ready (rs:=[10]) (by kernel_rfl) (by simp) ?_;refine AllReadyH.cons rfl (fun K hK=>?_) AllReadyH.nil;go_simp;have hb2:Below N W1 (W1.alloc (.cells #[.int .i64 ak,.int .u64 (au:Int),.int .u64 at_,.int .i64 tr,.bool pd,.string ⟨pth.toArray⟩,.int .u64 la] 131)).drew:=((Below.refl _ _).alloc (by omega) _).drew;refine hK.out _ _ (hS _ hb2) (fun hS2=>?_);clear hK K;refine wpAnyH_ready (rs:=[11]) (by kernel_rfl) (by simp) ?_;refine AllReadyH.cons rfl (fun K hK=>?_) AllReadyH.nil;go_simp;refine hK.out _ _ hS2 (fun _=>?_);clear hK K hS0 hS1 hS2;refine wpAnyH_done (by kernel_rfl) ?_ _
 have bL:BoxN (W1.alloc (.cells #[.int .i64 ak,.int .u64 (au:Int),.int .u64 at_,.int .i64 tr,.bool pd,.string ⟨pth.toArray⟩,.int .u64 la] 131)).drew N 131 #[.int .i64 ak,.int .u64 (au:Int),.int .u64 at_,.int .i64 tr,.bool pd,.string ⟨pth.toArray⟩,.int .u64 la]:=by
  have h:=BoxN.new W1 131 #[.int .i64 ak,.int .u64 (au:Int),.int .u64 at_,.int .i64 tr,.bool pd,.string ⟨pth.toArray⟩,.int .u64 la];rw [hs0] at h;exact h
 have bN2:=bN.below hb2 (by omega);have hBf:=hB0.trans (hb2.mono (by omega));clear hS hP0 hb1 hb2 hB0 bN hP;generalize (W1.alloc (.cells #[.int .i64 ak,.int .u64 (au:Int),.int .u64 at_,.int .i64 tr,.bool pd,.string ⟨pth.toArray⟩,.int .u64 la] 131)).drew=W2 at *;subst hN;have hW2:=hW.below hBf;have ct:=hW2.v.va.v.cell 2 (v:=.int .u64 tm) rfl;have hL:=leaseLive (nb+1) pd at_ tm W2 (bL.cell 4 rfl) (bL.cell 2 rfl);rw [hlv] at hL;have hR:=eRevoke (nb+1) 131 ak (au:Int) at_ tr tm pd [.string ⟨pth.toArray⟩,.int .u64 la] W2 (by simpa using bL);have hlb:w.heap.size≤nb:=hz1;have HW:=hid_intro hW;clear hlv hp bL hW2 hW
 go_wp2_with (first
  | (go_at_call 91;refine hL.mono ?_;rintro e w3 ⟨rfl,rfl⟩)
  | (go_at_call 90;refine hR.mono ?_;rintro e w4 ⟨rfl,bL4,hs4⟩;have hB4:Below w.heap.size w w4:=⟨hs4.os.trans hBf.os,hs4.tape.trans hBf.tape,hs4.output.trans hBf.output,Nat.le_trans hBf.size hs4.size,fun k hk=>(hs4.block k (Nat.lt_of_lt_of_le hk hBf.size) (by simp;omega)).trans (hBf.block k hk)⟩;have bN4:=hs4.box bN2 (by simp);have m0:=bN4.cell 0 (v:=.int .i64 2) rfl;have m1:=bN4.cell 1 (v:=.int .u64 (n:Int)) rfl;have hER:=leaRecord (nb+1) 2 (n:Int) ak au tm tr true pth la w4 (bL4.cell 0 (by simp)) (bL4.cell 1 (by simp)) (bL4.cell 2 (by simp)) (bL4.cell 3 (by simp)) (bL4.cell 4 (by simp)) (bL4.cell 5 (by simp)) (bL4.cell 6 (by simp));unfold recCells at hER)
  | (go_at_call 67;refine hER.mono ?_;rintro e w5 ⟨rfl,hb5⟩;have hB5:=hB4.trans (hb5.mono hB4.size);have hK5:=hK w5 hB5)
  | (go_at_call 66;refine hK5.mono ?_;rintro e w6 ⟨rfl,hW6,hs6⟩))
 go_ret;exact⟨rfl,hW6,(Spares.of_below hB5).trans hs6⟩
theorem pstep_lt {c:UInt8} {o b:Bool} (h:pstep (some o) c=some b):c.toNat<128:=by
 by_cases h47:c.toNat=47
 ·omega
 ·simp only [pstep,if_neg h47] at h
  by_cases hn:nameCh c=true
  ·simp [nameCh] at hn
   omega
  ·rw [if_neg hn] at h;cases h
theorem pfold_ascii:∀(s:List UInt8) (o b:Bool),s.foldl pstep (some o)=some b→∀ c∈s,c.toNat<128
 | [],_,_,_,_,h=>by cases h
 | a :: s,o,b,hf,c,hc=>by
  rw [List.foldl_cons] at hf
  cases hp:pstep (some o) a with
  | none=>rw [hp,pstep_none] at hf;cases hf
  | some o' =>
   rcases List.mem_cons.1 hc with rfl | hc
   ·exact pstep_lt hp
   ·rw [hp] at hf
    exact pfold_ascii s o' b hf c hc
theorem path_ok {s:List UInt8} (h:pathI s=true):s.length≤24∧PathA s:=by
 have hc:=clear_path h;unfold pathI at h;rw [Bool.and_eq_true] at h;exact⟨by simpa using h.2,pfold_ascii s false true (by simpa using h.1),hc⟩
section
variable {vb mt ml:Nat} {vx:VX} {tm tn ln:Int} {tks:List TokE} {lks:List LeaE} {L:List ThingD}
end
theorem parse_tok {n:Nat} (h:n<u64lim):parseN (nmStr 1 n)=(1,(n:Int)):=parseN_nm true h
theorem parse_lea {n:Nat} (h:n<u64lim):parseN (nmStr 2 n)=(2,(n:Int)):=parseN_nm false h
theorem nm_len1 {n:Nat} (h:n<u64lim):(nmStr 1 n).length≤1000000:=by
 have:=decDigits_len n h;simp [nmStr];omega
theorem nm_len {n:Nat} (h:n<u64lim):(nmStr 2 n).length≤1000000:=by
 have:=decDigits_len n h;simp [nmStr];omega
section
variable {B hb rb:Nat} {k:Blk} {vx:VX} {tm:Int} {tn ln:Nat} {tks:List TokE} {lks:List LeaE} {c:List UInt8} {w:World}
theorem Tryz.kIssue (hS:Sys B w hb rb ⟨k,vx,tm,⟨tn,ln,tks,lks⟩,c⟩) (m:TokE) (hm:m∈tks) (hlv:m.pd=false) (pth:List UInt8) (hpv:pathI pth=true) (ttl most:Int) (h1:0<ttl) (h2:ttl≤most) (h3:most≤18446744073709551615) (h14:lks.length<14) (hln:ln<1000000) (htm:tm≠18446744073709551615) (hc:c.length≤900000000000) (cc dd:Int) :
  Calls prog 18 #[.pointer (some ⟨hb,0,none⟩),.string ⟨(nmStr 1 m.n).toArray⟩,.string ⟨pth.toArray⟩,.int .u64 ttl,.int .u64 most,fallV (-1) (-1) cc dd] w fun e w'=>e=.returned (.tuple #[.string ⟨(nmStr 2 (ln+1)).toArray⟩,.int .i64 0])∧(∃ c',c'.length≤c.length+1300000∧Sys B w' hb rb ⟨k,vx,tm,⟨tn,ln+1,tks,lks ++ [newL (ln+1) m.n (plusI tm ttl) (plusI tm most) pth]⟩,c'⟩)∧Spares k.turns w w':=by
 have t0:=hS.wh.v.t0;have t1:=hS.wh.v.t1;have hlim:=(hS.wh.v.va.ok.limT m hm).1;obtain⟨hp24,hpa⟩:=path_ok hpv;have r1:=plusI_range tm ttl t0 t1 (by omega) (by omega);have r2:=plusI_range tm most t0 t1 (by omega) h3;have hkl:(keepLine tm [.lea (newL (ln+1) m.n (plusI tm ttl) (plusI tm most) pth)]).length≤1300000:=keepLine_len t0 t1 (s:=⟨tn,ln,tks,lks⟩) ⟨⟨⟨r1.1,r1.2,show (0:Int)≤0 by decide,⟨show (0:Int)≤1000000000 by decide,.inl rfl⟩,r2.1,r2.2,hp24,hpa⟩,.inr (fun x hx=>by have:=hS.wh.v.nl x hx;show x.n<ln+1;simp at this;omega),by show lks.length<500;omega,show ln+1<u64lim by unfold u64lim;omega,hlim⟩,trivial⟩ (by simp)
 have h:=hIssue B hb rb _ w hS (nmStr 1 m.n) pth ttl most cc dd (.string ⟨(nmStr 2 (ln+1)).toArray⟩) .nilIface 0 (fun W _=>told_nil W) (fun σ'=>σ'=⟨k,vx,tm,⟨tn,ln+1,tks,lks ++ [newL (ln+1) m.n (plusI tm ttl) (plusI tm most) pth]⟩,c++keepLine tm [.lea (newL (ln+1) m.n (plusI tm ttl) (plusI tm most) pth)]⟩)
  (fun W _ hV=>by
   have hMay:∀ W',Below W.heap.size W W'→Calls prog 64 #[.pointer (some ⟨k.vb,0,none⟩),nmV (parseN (nmStr 1 m.n)),.string ⟨pth.toArray⟩,.int .u64 ttl,.int .u64 most] W' fun e w'=>e=.returned .nilIface∧Below W'.heap.size W' w':=fun W' hb'=>by
    have hq:=mayIssue k.vb k.mt k.ml vx tm tn ln tks lks W' (hV.v.va.below hb') (parseN (nmStr 1 m.n)) true pth (by omega) ttl most (fun W2 hb2=>by
     rw [parse_tok hlim];have hl:=isLive_hit k.vb k.mt k.ml vx tm _ _ tks lks W2 ((hV.v.va.below hb').below hb2) m hm;rw [hlv] at hl
     exact hl)
    have he:mayE true (pathI pth) ttl most lks.length tm=0:=by
     unfold mayE;rw [hpv,if_neg (by simp),if_neg (by simp),if_neg (by omega),if_neg (by omega),if_neg htm]
    rw [he] at hq;exact hq
   refine(vIssue_ok k vx tm ⟨tn,ln,tks,lks⟩ c (-1) (-1) W hV (by decide) (by decide) (by decide) (by decide) hc (nmStr 1 m.n) pth (nm_len1 hlim) ttl most (by omega) (by omega) (by omega) h3 hp24 hpa m.n hlim (parse_tok hlim) hMay h14 (by show ln<_;omega)).mono ?_;rintro e w' ⟨rfl,hV',hs'⟩
   exact⟨rfl,⟨_,_,_,⟨rfl,rfl,rfl⟩,hV'⟩,hs'⟩)
 refine h.mono ?_;rintro e w' ⟨rfl,⟨σ',⟨rfl,-,-⟩,hS'⟩,hs⟩;exact⟨rfl,⟨_,by simp only [List.length_append];omega,hS'⟩,hs⟩
theorem Tryz.kAuth (hS:Sys B w hb rb ⟨k,vx,tm,⟨tn,ln,tks,lks⟩,c⟩) (l:LeaE) (hl:l∈lks) (pth:List UInt8) :
  Calls prog 23 #[.pointer (some ⟨hb,0,none⟩),.string ⟨(nmStr 2 l.n).toArray⟩,.string ⟨pth.toArray⟩] w fun e w'=>e=.returned (.bool ((!l.pd&&decide (tm<l.at_))&&(l.pth==pth)))∧Below w.heap.size w w':=by
 have hlim:=(hS.wh.v.va.ok.limL l hl).1;have hP:=parse ⟨(nmStr 2 l.n).toArray⟩ (by simpa [ByteArray.size] using nm_len hlim) w hS.wh.v.va.env hS.wh.v.va.six;simp only [parse_lea hlim] at hP;exact hAuth hb k.db rb k.vb w hS.host _ _ _ (vAuth_any k.vb w (nmStr 2 l.n) pth _ l.ak l.au l.at_ l.tr l.pd l.pth l.last (!l.pd&&decide (tm<l.at_)) hP (fun W2 hb2=>liveLease_hit k.vb k.mt k.ml vx tm tn ln tks lks W2 (hS.wh.v.va.below hb2) l hl))
theorem Tryz.kRenew (hS:Sys B w hb rb ⟨k,vx,tm,⟨tn,ln,tks,lks⟩,c⟩) (i:Nat) (l:LeaE) (hl:lks[i]? = some l) (hlv:(!l.pd&&decide (tm<l.at_))=true) (ttl:Int) (h0:0≤ttl) (h1:ttl≤18446744073709551615) (h500:lks.length<500) (hc:c.length≤900000000000) (cc dd:Int) :
  Calls prog 20 #[.pointer (some ⟨hb,0,none⟩),.string ⟨(nmStr 2 l.n).toArray⟩,.int .u64 ttl,fallV (-1) (-1) cc dd] w fun e w'=>e=.returned (.tuple #[.int .u64 (renewL tm ttl l),.int .i64 0])∧(∃ c',c'.length≤c.length+1300000∧Sys B w' hb rb ⟨k,vx,tm,⟨tn,ln,tks,lks.set i { l with at_:=renewL tm ttl l }⟩,c'⟩)∧Spares k.turns w w':=by
 have hlim:=(hS.wh.v.va.ok.limL l (List.mem_of_getElem? hl)).1
 have h:=hRenew B hb rb _ w hS (nmStr 2 l.n) ttl cc dd (.int .u64 (renewL tm ttl l)) .nilIface 0 (fun W _=>told_nil W) (fun σ'=>∃ c',c'.length≤c.length+1300000∧σ'=⟨k,vx,tm,⟨tn,ln,tks,lks.set i { l with at_:=renewL tm ttl l }⟩,c'⟩)
  (fun W _ hV=>by
   refine(vRenew_hit k vx tm ⟨tn,ln,tks,lks⟩ c (-1) (-1) W hV (by decide) (by decide) (by decide) (by decide) hc (nmStr 2 l.n) (nm_len hlim) i l hl (parse_lea hlim) hlv ttl h0 h1 h500).mono ?_;rintro e w' ⟨rfl,⟨c',l',f',hc',-,-,-,-,hV'⟩,hs'⟩
   exact⟨rfl,⟨_,l',f',⟨⟨c',hc',rfl⟩,rfl,rfl⟩,hV'⟩,hs'⟩)
 refine h.mono ?_;rintro e w' ⟨rfl,⟨σ',⟨⟨c',hc',rfl⟩,-,-⟩,hS'⟩,hs⟩;exact⟨rfl,⟨c',hc',hS'⟩,hs⟩
theorem Tryz.kRevoke (hS:Sys B w hb rb ⟨k,vx,tm,⟨tn,ln,tks,lks⟩,c⟩) (i:Nat) (l:LeaE) (hl:lks[i]? = some l) (hlv:(!l.pd&&decide (tm<l.at_))=true) (h500:lks.length<500) (hc:c.length≤900000000000) (cc dd:Int) :
  Calls prog 28 #[.pointer (some ⟨hb,0,none⟩),.string ⟨(nmStr 2 l.n).toArray⟩,fallV (-1) (-1) cc dd] w fun e w'=>e=.returned (.int .i64 0)∧(∃ c',c'.length≤c.length+1300000∧Sys B w' hb rb ⟨k,vx,tm,⟨tn,ln,tks,lks.set i { l with pd:=true,at_:=tm }⟩,c'⟩)∧Spares k.turns w w':=by
 have hm:=List.mem_of_getElem? hl;have hlim:=hS.wh.v.va.ok.limL l hm;have hokt:=hS.wh.v.okL l hm;have t0:=hS.wh.v.t0;have t1:=hS.wh.v.t1;have hkl:(keepLine tm [.lea { l with pd:=true,at_:=tm }]).length≤1300000:=keepLine_len t0 t1 (s:=⟨tn,ln,tks,lks⟩) ⟨⟨⟨t0,t1,hokt.r0,hokt.r1,hokt.l0,hokt.l1,hokt.p1,hokt.pa⟩,.inl ⟨l,hm,rfl⟩,h500,hlim.1,hlim.2⟩,trivial⟩ (by simp)
 have h:=hRevoke B hb rb _ w hS (nmStr 2 l.n) cc dd .nilIface 0 (fun W _=>told_nil W) (fun σ'=>σ'=⟨k,vx,tm,⟨tn,ln,tks,lks.set i { l with pd:=true,at_:=tm }⟩,c++keepLine tm [.lea { l with pd:=true,at_:=tm }]⟩)
  (fun W _ hV=>by
   obtain⟨n,ak,au,at_,tr,pd,pth,la⟩:=l;refine(vRevoke_ok k vx tm ⟨tn,ln,tks,lks⟩ c (-1) (-1) W hV (by decide) (by decide) (by decide) (by decide) hc (nmStr 2 n) (nm_len hlim.1) ak n au at_ tr pd pth la i hl (parse_lea hlim.1) hlv h500 _ rfl _ rfl).mono ?_;rintro e w' ⟨rfl,hV',hs'⟩
   exact⟨rfl,⟨_,_,_,⟨rfl,rfl,rfl⟩,hV'⟩,hs'⟩)
 refine h.mono ?_;rintro e w' ⟨rfl,⟨σ',⟨rfl,-,-⟩,hS'⟩,hs⟩;exact⟨rfl,⟨_,by simp only [List.length_append];omega,hS'⟩,hs⟩
end
end Go.Proofs
