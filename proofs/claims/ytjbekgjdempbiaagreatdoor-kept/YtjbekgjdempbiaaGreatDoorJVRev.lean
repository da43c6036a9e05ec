import Derived.Test.YtjbekgjdempbiaaGreatDoorJSq
import Derived.Test.YtjbekgjdempbiaaGreatDoorJTkC
import Derived.Test.YtjbekgjdempbiaaGreatDoorJAsW
set_option maxRecDepth 100000
set_option maxHeartbeats 8000000
namespace Go.Proofs
open Go.RowKit Go.Sort Go.Lib Go.Shelf Go.Maps
theorem Tryz.Xd3 (b:Nat) (ty:TypeId) (ak au at_ tr tm:Int) (pd:Bool) (rest:List Value) (w:World) (hB:BoxN w b ty (#[.int .i64 ak,.int .u64 au,.int .u64 at_,.int .i64 tr,.bool pd] ++ rest.toArray)) :
  Calls prog 90 #[.pointer (some ⟨b,0,none⟩),.int .u64 tm] w fun e w'=>e=.returned (.tuple #[])/\BoxN w' b ty (#[.int .i64 ak,.int .u64 au,.int .u64 tm,.int .i64 tr,.bool true] ++ rest.toArray)/\Spares [b] w w':=by
 have c2:=hB.cell 2 (v:=.int .u64 at_) (by simp);have c4:=hB.cell 4 (v:=.bool pd) (by simp);have f2:=hB.frozen 2;have f4:=hB.frozen 4;have hfin:=(hB.set 4 (.bool true)).set 2 (.int .u64 tm);have HF:=Xb hfin;clear hfin;go_enter func90,ntmps90;go_wp2
 go_end0
 refine⟨rfl,?_,((Spares.of_below (Below.refl _ w)).set (by simp) _ _).set (by simp) _ _⟩;have:=Xa HF
 simpa using this
theorem Tryz.Xh2 (k:Blk) (vx:VX) (tm:Int) (s:VSt) (c:List UInt8) (l f:Int) (w:World) (hW:Whole w k vx tm s c l f) (id:List UInt8) (hid:id.length<=1000000) (x:Int × Int) (hp:parseN id=x) (ak au at_ tr:Int) (pd:Bool) (pth:List UInt8) (la:Int)
  (hP0:∀ W,Below w.heap.size w W->(Instr.lookup 121 (.map (some k.ml)) (nmV x) true).run prog W=.ok (.tuple #[.agg #[.int .i64 ak,.int .u64 au,.int .u64 at_,.int .i64 tr,.bool pd,.string ⟨pth.toArray⟩,.int .u64 la],.bool false]) W) :
  Calls prog 51 #[.pointer (some ⟨k.vb,0,none⟩),.string ⟨id.toArray⟩] w fun e w'=>e=.returned (.iface 33 (.int .i64 5))/\Below w.heap.size w w':=by
 have hP:=parse ⟨id.toArray⟩ (by simpa [ByteArray.size] using hid) w hW.v.va.env hW.v.va.six;simp only at hP;rw [hp] at hP;unfold nmV at *;have lV:=hW.v.va.v.lt;go_enter func51,ntmps51
 go_wp2_with (go_at_call 63;refine hP.mono ?_;rintro e w1 ⟨rfl,hb1'⟩)
 have hB0:=hb1'.alloc hb1'.size (.cells #[.int .i64 x.1,.int .u64 x.2] 114);have bN:=BoxN.new w1 114 #[.int .i64 x.1,.int .u64 x.2];have hz1:=hb1'.size
 obtain⟨N,hs0⟩:∃ N,(w1.alloc (.cells #[.int .i64 x.1,.int .u64 x.2] 114)).heap.size=N:=⟨_,rfl⟩
 have hN:N=w1.heap.size+1:=by rw [<- hs0];simp
 obtain⟨nb,hnb⟩:∃ nb,w1.heap.size=nb:=⟨_,rfl⟩
 rw [hnb] at bN hN hz1;rw [hnb];generalize (w1.alloc (.cells #[.int .i64 x.1,.int .u64 x.2] 114))=W1 at *;clear hnb hb1' w1
 have hS:∀ W,Below N W1 W->LkP k.vb 4 k.ml nb 121 x.1 x.2 (.tuple #[.agg #[.int .i64 ak,.int .u64 au,.int .u64 at_,.int .i64 tr,.bool pd,.string ⟨pth.toArray⟩,.int .u64 la],.bool false]) W:=fun W hb=>by
  have bN':=bN.below hb (by omega);have hB:=hB0.trans (hb.mono (by omega));exact⟨(hW.v.va.below hB).v.cell 4 rfl,bN'.cell 0 rfl,bN'.cell 1 rfl,hP0 W hB⟩
 have hb1:Below N W1 W1.drew:=(Below.refl _ _).drew;refine wp_region_held_drew (S:=(LkP k.vb 4 k.ml nb 121 x.1 x.2 (.tuple #[.agg #[.int .i64 ak,.int .u64 au,.int .u64 at_,.int .i64 tr,.bool pd,.string ⟨pth.toArray⟩,.int .u64 la],.bool false]))) (by kernel_rfl) (hS _ hb1) (fun hS0=>?_);refine Xt 0 ?v0 rfl ?y0 hS0 ?_
 case y0=>(rintro w ⟨q0,q1,q2,q3⟩;go_simp;try with_reducible rfl)
 refine Xt 1 ?v1 rfl ?y1 hS0 ?_
 case y1=>(rintro w ⟨q0,q1,q2,q3⟩;go_simp;try with_reducible rfl)
 refine Xt 2 ?v2 rfl ?y2 hS0 ?_
 case y2=>(rintro w ⟨q0,q1,q2,q3⟩;go_simp;try with_reducible rfl)
 refine Xt 3 ?v3 rfl ?y3 hS0 ?_
 case y3=>(rintro w ⟨q0,q1,q2,q3⟩;go_simp;try with_reducible rfl)
 refine Xt 4 ?v4 rfl ?y4 hS0 ?_
 case y4=>(rintro w ⟨q0,q1,q2,q3⟩;go_simp;try with_reducible rfl)
 refine Xt 5 ?v5 rfl ?y5 hS0 ?_
 case y5=>(rintro w ⟨q0,q1,q2,q3⟩;go_simp;try with_reducible rfl)
 refine Xt 6 ?v6 rfl ?y6 hS0 ?_
 case y6=>(rintro w ⟨q0,q1,q2,q3⟩;go_simp;try with_reducible rfl)
 refine Xt 7 ?v7 rfl ?y7 hS0 ?_
 case y7=>(rintro w ⟨q0,q1,q2,q3⟩;go_simp;try with_reducible rfl)
 refine Xt 8 ?v8 rfl ?y8 hS0 ?_
 case y8=>(rintro w ⟨q0,q1,q2,q3⟩;go_simp;try with_reducible rfl)
 refine Xh 9 rfl fun K hK=>?_;go_simp;refine hK.out _ _ (hS _ (hb1.alloc (by simp [hs0]) _)) (fun hS1=>?_);clear hK K;refine Xh 10 rfl fun K hK=>?_;go_simp;have hb2:Below N W1 (W1.alloc (.cells #[.int .i64 ak,.int .u64 au,.int .u64 at_,.int .i64 tr,.bool pd,.string ⟨pth.toArray⟩,.int .u64 la] 131)).drew:=((Below.refl _ _).alloc (by omega) _).drew;refine hK.out _ _ (hS _ hb2) (fun hS2=>?_);clear hK K;refine Xh 11 rfl fun K hK=>?_;go_simp;refine hK.out _ _ hS2 (fun _=>?_);clear hK K hS0 hS1 hS2;refine wpAnyH_done (by kernel_rfl) ?_ _
 have bL:BoxN (W1.alloc (.cells #[.int .i64 ak,.int .u64 au,.int .u64 at_,.int .i64 tr,.bool pd,.string ⟨pth.toArray⟩,.int .u64 la] 131)).drew N 131 #[.int .i64 ak,.int .u64 au,.int .u64 at_,.int .i64 tr,.bool pd,.string ⟨pth.toArray⟩,.int .u64 la]:=by
  have h:=BoxN.new W1 131 #[.int .i64 ak,.int .u64 au,.int .u64 at_,.int .i64 tr,.bool pd,.string ⟨pth.toArray⟩,.int .u64 la];rw [hs0] at h;exact h
 have bN2:=bN.below hb2 (by omega);have hBf:=hB0.trans (hb2.mono (by omega));clear hS hP0 hb1 hb2 hB0 bN hP;generalize (W1.alloc (.cells #[.int .i64 ak,.int .u64 au,.int .u64 at_,.int .i64 tr,.bool pd,.string ⟨pth.toArray⟩,.int .u64 la] 131)).drew=W2 at *;subst hN;have hW2:=hW.below hBf;have ct:=hW2.v.va.v.cell 2 (v:=.int .u64 tm) rfl;have hL:=Jy (nb+1) pd at_ tm W2 (bL.cell 4 rfl) (bL.cell 2 rfl);go_wp2;go_ret;exact⟨rfl,hBf⟩
theorem Tryz.Xka (k:Blk) (vx:VX) (tm:Int) (s:VSt) (c:List UInt8) (l f:Int) (w:World) (hW:Whole w k vx tm s c l f) (id:List UInt8) (hid:id.length<=1000000) (x:Int × Int) (hp:parseN id=x) (ak au at_ tr:Int) (pd:Bool) (pth:List UInt8) (la:Int) (hlv:(!pd&&decide (tm<at_))=false)
  (hP0:∀ W,Below w.heap.size w W->(Instr.lookup 121 (.map (some k.ml)) (nmV x) true).run prog W=.ok (.tuple #[.agg #[.int .i64 ak,.int .u64 au,.int .u64 at_,.int .i64 tr,.bool pd,.string ⟨pth.toArray⟩,.int .u64 la],.bool true]) W) :
  Calls prog 51 #[.pointer (some ⟨k.vb,0,none⟩),.string ⟨id.toArray⟩] w fun e w'=>e=.returned .nilIface/\Below w.heap.size w w':=by
 have hP:=parse ⟨id.toArray⟩ (by simpa [ByteArray.size] using hid) w hW.v.va.env hW.v.va.six;simp only at hP;rw [hp] at hP;unfold nmV at *;have lV:=hW.v.va.v.lt;go_enter func51,ntmps51
 go_wp2_with (go_at_call 63;refine hP.mono ?_;rintro e w1 ⟨rfl,hb1'⟩)
 have hB0:=hb1'.alloc hb1'.size (.cells #[.int .i64 x.1,.int .u64 x.2] 114);have bN:=BoxN.new w1 114 #[.int .i64 x.1,.int .u64 x.2];have hz1:=hb1'.size
 obtain⟨N,hs0⟩:∃ N,(w1.alloc (.cells #[.int .i64 x.1,.int .u64 x.2] 114)).heap.size=N:=⟨_,rfl⟩
 have hN:N=w1.heap.size+1:=by rw [<- hs0];simp
 obtain⟨nb,hnb⟩:∃ nb,w1.heap.size=nb:=⟨_,rfl⟩
 rw [hnb] at bN hN hz1;rw [hnb];generalize (w1.alloc (.cells #[.int .i64 x.1,.int .u64 x.2] 114))=W1 at *;clear hnb hb1' w1
 have hS:∀ W,Below N W1 W->LkP k.vb 4 k.ml nb 121 x.1 x.2 (.tuple #[.agg #[.int .i64 ak,.int .u64 au,.int .u64 at_,.int .i64 tr,.bool pd,.string ⟨pth.toArray⟩,.int .u64 la],.bool true]) W:=fun W hb=>by
  have bN':=bN.below hb (by omega);have hB:=hB0.trans (hb.mono (by omega));exact⟨(hW.v.va.below hB).v.cell 4 rfl,bN'.cell 0 rfl,bN'.cell 1 rfl,hP0 W hB⟩
 have hb1:Below N W1 W1.drew:=(Below.refl _ _).drew;refine wp_region_held_drew (S:=(LkP k.vb 4 k.ml nb 121 x.1 x.2 (.tuple #[.agg #[.int .i64 ak,.int .u64 au,.int .u64 at_,.int .i64 tr,.bool pd,.string ⟨pth.toArray⟩,.int .u64 la],.bool true]))) (by kernel_rfl) (hS _ hb1) (fun hS0=>?_);refine Xt 0 ?v0 rfl ?y0 hS0 ?_
 case y0=>(rintro w ⟨q0,q1,q2,q3⟩;go_simp;try with_reducible rfl)
 refine Xt 1 ?v1 rfl ?y1 hS0 ?_
 case y1=>(rintro w ⟨q0,q1,q2,q3⟩;go_simp;try with_reducible rfl)
 refine Xt 2 ?v2 rfl ?y2 hS0 ?_
 case y2=>(rintro w ⟨q0,q1,q2,q3⟩;go_simp;try with_reducible rfl)
 refine Xt 3 ?v3 rfl ?y3 hS0 ?_
 case y3=>(rintro w ⟨q0,q1,q2,q3⟩;go_simp;try with_reducible rfl)
 refine Xt 4 ?v4 rfl ?y4 hS0 ?_
 case y4=>(rintro w ⟨q0,q1,q2,q3⟩;go_simp;try with_reducible rfl)
 refine Xt 5 ?v5 rfl ?y5 hS0 ?_
 case y5=>(rintro w ⟨q0,q1,q2,q3⟩;go_simp;try with_reducible rfl)
 refine Xt 6 ?v6 rfl ?y6 hS0 ?_
 case y6=>(rintro w ⟨q0,q1,q2,q3⟩;go_simp;try with_reducible rfl)
 refine Xt 7 ?v7 rfl ?y7 hS0 ?_
 case y7=>(rintro w ⟨q0,q1,q2,q3⟩;go_simp;try with_reducible rfl)
 refine Xt 8 ?v8 rfl ?y8 hS0 ?_
 case y8=>(rintro w ⟨q0,q1,q2,q3⟩;go_simp;try with_reducible rfl)
 refine Xh 9 rfl fun K hK=>?_;go_simp;refine hK.out _ _ (hS _ (hb1.alloc (by simp [hs0]) _)) (fun hS1=>?_);clear hK K;refine Xh 10 rfl fun K hK=>?_;go_simp;have hb2:Below N W1 (W1.alloc (.cells #[.int .i64 ak,.int .u64 au,.int .u64 at_,.int .i64 tr,.bool pd,.string ⟨pth.toArray⟩,.int .u64 la] 131)).drew:=((Below.refl _ _).alloc (by omega) _).drew;refine hK.out _ _ (hS _ hb2) (fun hS2=>?_);clear hK K;refine Xh 11 rfl fun K hK=>?_;go_simp;refine hK.out _ _ hS2 (fun _=>?_);clear hK K hS0 hS1 hS2;refine wpAnyH_done (by kernel_rfl) ?_ _
 have bL:BoxN (W1.alloc (.cells #[.int .i64 ak,.int .u64 au,.int .u64 at_,.int .i64 tr,.bool pd,.string ⟨pth.toArray⟩,.int .u64 la] 131)).drew N 131 #[.int .i64 ak,.int .u64 au,.int .u64 at_,.int .i64 tr,.bool pd,.string ⟨pth.toArray⟩,.int .u64 la]:=by
  have h:=BoxN.new W1 131 #[.int .i64 ak,.int .u64 au,.int .u64 at_,.int .i64 tr,.bool pd,.string ⟨pth.toArray⟩,.int .u64 la];rw [hs0] at h;exact h
 have bN2:=bN.below hb2 (by omega);have hBf:=hB0.trans (hb2.mono (by omega));clear hS hP0 hb1 hb2 hB0 bN hP;generalize (W1.alloc (.cells #[.int .i64 ak,.int .u64 au,.int .u64 at_,.int .i64 tr,.bool pd,.string ⟨pth.toArray⟩,.int .u64 la] 131)).drew=W2 at *;subst hN;have hW2:=hW.below hBf;have ct:=hW2.v.va.v.cell 2 (v:=.int .u64 tm) rfl;have hL:=Jy (nb+1) pd at_ tm W2 (bL.cell 4 rfl) (bL.cell 2 rfl);rw [hlv] at hL;clear hW2 hlv hp bL bN2
 go_wp2_with (go_at_call 91;refine hL.mono ?_;rintro e w3 ⟨rfl,rfl⟩)
 go_ret;exact⟨rfl,hBf⟩
theorem Tryz.Xld (k:Blk) (vx:VX) (tm:Int) (s:VSt) (c:List UInt8) (l f:Int) (w:World) (hW:Whole w k vx tm s c l f) (hl:l<0) (hl1 : -999999990<=l) (hf:f<0) (hf1 : -999999990<=f) (hc:c.length<=900000000000) (id:List UInt8) (hid:id.length<=1000000) (ak:Int) (n au:Nat) (at_ tr:Int) (pd:Bool) (pth:List UInt8) (la:Int) (i:Nat) (ht:s.lks[i]? = some ⟨n,ak,au,at_,tr,pd,pth,la⟩) (hp:parseN id=(2,(n:Int))) (hlv:(!pd&&decide (tm<at_))=true) (h500:s.lks.length<500) (kl:List UInt8) (hkl:keepLine tm [.lea ⟨n,ak,au,tm,tr,true,pth,la⟩]=kl) (lks':List Xc) (hlks:s.lks.set i ⟨n,ak,au,tm,tr,true,pth,la⟩=lks') :
  Calls prog 51 #[.pointer (some ⟨k.vb,0,none⟩),.string ⟨id.toArray⟩] w fun e w'=>e=.returned .nilIface/\Whole w' k vx tm ⟨s.tn,s.ln,s.tks,lks'⟩ (c++kl) (l-2) (f-2)/\Spares k.turns w w':=by
 have htm:=List.mem_of_getElem? ht;have hokt:=hW.v.okL _ htm;have hset:=Xet hW.v.va.ok.incL ht (t':=⟨n,ak,au,tm,tr,true,pth,la⟩) rfl
 have hfit:(Item.lea ⟨n,ak,au,tm,tr,true,pth,la⟩).Fits s:=⟨⟨hW.v.t0,hW.v.t1,hokt.r0,hokt.r1,hokt.l0,hokt.l1,hokt.p1,hokt.pa⟩,.inl ⟨_,htm,rfl⟩,h500,(hW.v.va.ok.limL _ htm).1,(hW.v.va.ok.limL _ htm).2⟩
 have happ:(Item.lea ⟨n,ak,au,tm,tr,true,pth,la⟩).app s=⟨s.tn,s.ln,s.tks,lks'⟩:=by
  show VSt.mk s.tn (max s.ln n) s.tks (Yc ⟨n,ak,au,tm,tr,true,pth,la⟩ s.lks)=_
  rw [hset,show max s.ln n=s.ln by have:=hW.v.nl _ htm;simp at this;omega,hlks]
 have hK:=fun W (hb:Below w.heap.size w W)=>Xmy k vx tm s c l f (.lea ⟨n,ak,au,tm,tr,true,pth,la⟩) W (hW.below hb) hl hl1 hf hf1 hc hfit
 rw [happ,hkl] at hK
 change ∀ W,Below w.heap.size w W->Calls prog 66 _ (W.alloc (.cells #[.int .i64 1,.int .i64 2,.int .u64 (n:Int),.int .i64 ak,.int .u64 (au:Int),.bool true,.int .u64 tm,.int .i64 tr,.int .u64 la,.string ⟨pth.toArray⟩] 135)) _ at hK
 have hP0:∀ W,Below w.heap.size w W->(Instr.lookup 121 (.map (some k.ml)) (nmV (2,(n:Int))) true).run prog W=.ok (.tuple #[.agg #[.int .i64 ak,.int .u64 (au:Int),.int .u64 at_,.int .i64 tr,.bool pd,.string ⟨pth.toArray⟩,.int .u64 la],.bool true]) W:=fun W hb=>(hW.v.va.below hb).Xsg htm
 clear hset hfit happ hkl hlks ht htm hokt;have hP:=parse ⟨id.toArray⟩ (by simpa [ByteArray.size] using hid) w hW.v.va.env hW.v.va.six;simp only at hP;rw [hp] at hP;unfold nmV at *;have lV:=hW.v.va.v.lt;go_enter func51,ntmps51
 go_wp2_with (go_at_call 63;refine hP.mono ?_;rintro e w1 ⟨rfl,hb1'⟩)
 have hB0:=hb1'.alloc hb1'.size (.cells #[.int .i64 2,.int .u64 (n:Int)] 114);have bN:=BoxN.new w1 114 #[.int .i64 2,.int .u64 (n:Int)];have hz1:=hb1'.size
 obtain⟨N,hs0⟩:∃ N,(w1.alloc (.cells #[.int .i64 2,.int .u64 (n:Int)] 114)).heap.size=N:=⟨_,rfl⟩
 have hN:N=w1.heap.size+1:=by rw [<- hs0];simp
 obtain⟨nb,hnb⟩:∃ nb,w1.heap.size=nb:=⟨_,rfl⟩
 rw [hnb] at bN hN hz1;rw [hnb];generalize (w1.alloc (.cells #[.int .i64 2,.int .u64 (n:Int)] 114))=W1 at *;clear hnb hb1' w1
 have hS:∀ W,Below N W1 W->LkP k.vb 4 k.ml nb 121 2 (n:Int) (.tuple #[.agg #[.int .i64 ak,.int .u64 (au:Int),.int .u64 at_,.int .i64 tr,.bool pd,.string ⟨pth.toArray⟩,.int .u64 la],.bool true]) W:=fun W hb=>by
  have bN':=bN.below hb (by omega);have hB:=hB0.trans (hb.mono (by omega));exact⟨(hW.v.va.below hB).v.cell 4 rfl,bN'.cell 0 rfl,bN'.cell 1 rfl,hP0 W hB⟩
 have hb1:Below N W1 W1.drew:=(Below.refl _ _).drew;refine wp_region_held_drew (S:=(LkP k.vb 4 k.ml nb 121 2 (n:Int) (.tuple #[.agg #[.int .i64 ak,.int .u64 (au:Int),.int .u64 at_,.int .i64 tr,.bool pd,.string ⟨pth.toArray⟩,.int .u64 la],.bool true]))) (by kernel_rfl) (hS _ hb1) (fun hS0=>?_);refine Xt 0 ?v0 rfl ?y0 hS0 ?_
 case y0=>(rintro w ⟨q0,q1,q2,q3⟩;go_simp;try with_reducible rfl)
 refine Xt 1 ?v1 rfl ?y1 hS0 ?_
 case y1=>(rintro w ⟨q0,q1,q2,q3⟩;go_simp;try with_reducible rfl)
 refine Xt 2 ?v2 rfl ?y2 hS0 ?_
 case y2=>(rintro w ⟨q0,q1,q2,q3⟩;go_simp;try with_reducible rfl)
 refine Xt 3 ?v3 rfl ?y3 hS0 ?_
 case y3=>(rintro w ⟨q0,q1,q2,q3⟩;go_simp;try with_reducible rfl)
 refine Xt 4 ?v4 rfl ?y4 hS0 ?_
 case y4=>(rintro w ⟨q0,q1,q2,q3⟩;go_simp;try with_reducible rfl)
 refine Xt 5 ?v5 rfl ?y5 hS0 ?_
 case y5=>(rintro w ⟨q0,q1,q2,q3⟩;go_simp;try with_reducible rfl)
 refine Xt 6 ?v6 rfl ?y6 hS0 ?_
 case y6=>(rintro w ⟨q0,q1,q2,q3⟩;go_simp;try with_reducible rfl)
 refine Xt 7 ?v7 rfl ?y7 hS0 ?_
 case y7=>(rintro w ⟨q0,q1,q2,q3⟩;go_simp;try with_reducible rfl)
 refine Xt 8 ?v8 rfl ?y8 hS0 ?_
 case y8=>(rintro w ⟨q0,q1,q2,q3⟩;go_simp;try with_reducible rfl)
 refine Xh 9 rfl fun K hK=>?_;go_simp;refine hK.out _ _ (hS _ (hb1.alloc (by simp [hs0]) _)) (fun hS1=>?_);clear hK K;refine Xh 10 rfl fun K hK=>?_;go_simp;have hb2:Below N W1 (W1.alloc (.cells #[.int .i64 ak,.int .u64 (au:Int),.int .u64 at_,.int .i64 tr,.bool pd,.string ⟨pth.toArray⟩,.int .u64 la] 131)).drew:=((Below.refl _ _).alloc (by omega) _).drew;refine hK.out _ _ (hS _ hb2) (fun hS2=>?_);clear hK K;refine Xh 11 rfl fun K hK=>?_;go_simp;refine hK.out _ _ hS2 (fun _=>?_);clear hK K hS0 hS1 hS2;refine wpAnyH_done (by kernel_rfl) ?_ _
 have bL:BoxN (W1.alloc (.cells #[.int .i64 ak,.int .u64 (au:Int),.int .u64 at_,.int .i64 tr,.bool pd,.string ⟨pth.toArray⟩,.int .u64 la] 131)).drew N 131 #[.int .i64 ak,.int .u64 (au:Int),.int .u64 at_,.int .i64 tr,.bool pd,.string ⟨pth.toArray⟩,.int .u64 la]:=by
  have h:=BoxN.new W1 131 #[.int .i64 ak,.int .u64 (au:Int),.int .u64 at_,.int .i64 tr,.bool pd,.string ⟨pth.toArray⟩,.int .u64 la];rw [hs0] at h;exact h
 have bN2:=bN.below hb2 (by omega);have hBf:=hB0.trans (hb2.mono (by omega));clear hS hP0 hb1 hb2 hB0 bN hP;generalize (W1.alloc (.cells #[.int .i64 ak,.int .u64 (au:Int),.int .u64 at_,.int .i64 tr,.bool pd,.string ⟨pth.toArray⟩,.int .u64 la] 131)).drew=W2 at *;subst hN;have hW2:=hW.below hBf;have ct:=hW2.v.va.v.cell 2 (v:=.int .u64 tm) rfl;have hL:=Jy (nb+1) pd at_ tm W2 (bL.cell 4 rfl) (bL.cell 2 rfl);rw [hlv] at hL;have hR:=Xd3 (nb+1) 131 ak (au:Int) at_ tr tm pd [.string ⟨pth.toArray⟩,.int .u64 la] W2 (by simpa using bL);have hlb:w.heap.size<=nb:=hz1;have HW:=Xb hW;clear hlv hp bL hW2 hW
 go_wp2_with (first
  | (go_at_call 91;refine hL.mono ?_;rintro e w3 ⟨rfl,rfl⟩)
  | (go_at_call 90;refine hR.mono ?_;rintro e w4 ⟨rfl,bL4,hs4⟩;have hB4:Below w.heap.size w w4:=⟨hs4.os.trans hBf.os,hs4.tape.trans hBf.tape,hs4.output.trans hBf.output,Nat.le_trans hBf.size hs4.size,fun k hk=>(hs4.block k (Nat.lt_of_lt_of_le hk hBf.size) (by simp;omega)).trans (hBf.block k hk)⟩;have bN4:=hs4.box bN2 (by simp);have m0:=bN4.cell 0 (v:=.int .i64 2) rfl;have m1:=bN4.cell 1 (v:=.int .u64 (n:Int)) rfl;have hER:=Un (nb+1) 2 (n:Int) ak au tm tr true pth la w4 (bL4.cell 0 (by simp)) (bL4.cell 1 (by simp)) (bL4.cell 2 (by simp)) (bL4.cell 3 (by simp)) (bL4.cell 4 (by simp)) (bL4.cell 5 (by simp)) (bL4.cell 6 (by simp));unfold Xi at hER)
  | (go_at_call 67;refine hER.mono ?_;rintro e w5 ⟨rfl,hb5⟩;have hB5:=hB4.trans (hb5.mono hB4.size);have hK5:=hK w5 hB5)
  | (go_at_call 66;refine hK5.mono ?_;rintro e w6 ⟨rfl,hW6,hs6⟩))
 go_ret;exact⟨rfl,hW6,(Spares.of_below hB5).trans hs6⟩
end Go.Proofs
