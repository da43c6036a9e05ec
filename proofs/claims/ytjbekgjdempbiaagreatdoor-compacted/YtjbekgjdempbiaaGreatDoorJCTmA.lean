import Derived.Test.YtjbekgjdempbiaaGreatDoorJSq
import Derived.Test.YtjbekgjdempbiaaGreatDoorJCTkC
import Derived.Test.YtjbekgjdempbiaaGreatDoorJCVRenew
import Derived.Test.YtjbekgjdempbiaaGreatDoorJCRowCompactedR4
import Derived.Test.YtjbekgjdempbiaaGreatDoorJLawA
import Derived.Test.YtjbekgjdempbiaaGreatDoorJCTkJ
import Derived.Defers
import Derived.Deep.RegionHeld3
set_option maxRecDepth 100000
set_option maxHeartbeats 8000000
namespace Go.Proofs
open Go.RowKit Go.Sort Go.Lib Go.Shelf Go.Maps
theorem Tryz.Xnw (b:Nat) (ty:TypeId) (ak au at_ tr tm:Int) (pd:Bool) (rest:List Value) (w:World) (hB:BoxN w b ty (#[.int .i64 ak,.int .u64 au,.int .u64 at_,.int .i64 tr,.bool pd] ++ rest.toArray)) :
  Calls prog 90 #[.pointer (some ⟨b,0,none⟩),.int .u64 tm] w fun e w'=>e=.returned (.tuple #[])/\BoxN w' b ty (#[.int .i64 ak,.int .u64 au,.int .u64 tm,.int .i64 tr,.bool true] ++ rest.toArray)/\Spares [b] w w':=by
 have c2:=hB.cell 2 (v:=.int .u64 at_) (by simp);have c4:=hB.cell 4 (v:=.bool pd) (by simp);have f2:=hB.frozen 2;have f4:=hB.frozen 4;have hfin:=(hB.set 4 (.bool true)).set 2 (.int .u64 tm);have HF:=Xb hfin;clear hfin;go_enter func90,ntmps90;go_wp2
 go_end0
 refine⟨rfl,?_,((Spares.of_below (Below.refl _ w)).set (by simp) _ _).set (by simp) _ _⟩;have:=Xa HF
 simpa using this
theorem Tryz.Xgx (k:Blk) (vx:VX) (tm:Int) (s:VSt) (c:List UInt8) (l f:Int) (w:World) (hW:Whole w k vx tm s c l f) (hl:l<0) (hl1 : -999999990<=l) (hf:f<0) (hf1 : -999999990<=f) (hc:c.length<=900000000000) (id:List UInt8) (hid:id.length<=1000000) (ak:Int) (n au:Nat) (at_ tr:Int) (pd:Bool) (pth:List UInt8) (la:Int) (i:Nat) (ht:s.lks[i]? = some ⟨n,ak,au,at_,tr,pd,pth,la⟩) (hp:parseN id=(2,(n:Int))) (hlv:(!pd&&decide (tm<at_))=true) (h500:s.lks.length<500) (kl:List UInt8) (hkl:keepLine tm [.lea ⟨n,ak,au,tm,tr,true,pth,la⟩]=kl) (lks':List Xd) (hlks:s.lks.set i ⟨n,ak,au,tm,tr,true,pth,la⟩=lks') :
  Calls prog 51 #[.pointer (some ⟨k.vb,0,none⟩),.string ⟨id.toArray⟩] w fun e w'=>e=.returned .nilIface/\Whole w' k vx tm ⟨s.tn,s.ln,s.tks,lks'⟩ (c++kl) (l-2) (f-2)/\Spares k.turns w w':=by
 have htm:=List.mem_of_getElem? ht;have hokt:=hW.v.okL _ htm;have hset:=Xb6 hW.v.va.ok.incL ht (t':=⟨n,ak,au,tm,tr,true,pth,la⟩) rfl
 have hfit:(Item.lea ⟨n,ak,au,tm,tr,true,pth,la⟩).Fits s:=⟨⟨hW.v.t0,hW.v.t1,hokt.r0,hokt.r1,hokt.l0,hokt.l1,hokt.p1,hokt.pa⟩,.inl ⟨_,htm,rfl⟩,h500,(hW.v.va.ok.limL _ htm).1,(hW.v.va.ok.limL _ htm).2⟩
 have happ:(Item.lea ⟨n,ak,au,tm,tr,true,pth,la⟩).app s=⟨s.tn,s.ln,s.tks,lks'⟩:=by
  show VSt.mk s.tn (max s.ln n) s.tks (Yf ⟨n,ak,au,tm,tr,true,pth,la⟩ s.lks)=_
  rw [hset,show max s.ln n=s.ln by have:=hW.v.nl _ htm;simp at this;omega,hlks]
 have hK:=fun W (hb:Below w.heap.size w W)=>Xmj k vx tm s c l f (.lea ⟨n,ak,au,tm,tr,true,pth,la⟩) W (hW.below hb) hl hl1 hf hf1 hc hfit
 rw [happ,hkl] at hK
 change ∀ W,Below w.heap.size w W->Calls prog 66 _ (W.alloc (.cells #[.int .i64 1,.int .i64 2,.int .u64 (n:Int),.int .i64 ak,.int .u64 (au:Int),.bool true,.int .u64 tm,.int .i64 tr,.int .u64 la,.string ⟨pth.toArray⟩] 135)) _ at hK
 have hP0:∀ W,Below w.heap.size w W->(Instr.lookup 121 (.map (some k.ml)) (nmV (2,(n:Int))) true).run prog W=.ok (.tuple #[.agg #[.int .i64 ak,.int .u64 (au:Int),.int .u64 at_,.int .i64 tr,.bool pd,.string ⟨pth.toArray⟩,.int .u64 la],.bool true]) W:=fun W hb=>(hW.v.va.below hb).Xod htm
 clear hset hfit happ hkl hlks ht htm hokt;have hP:=parse ⟨id.toArray⟩ (by simpa [ByteArray.size] using hid) w hW.v.va.env hW.v.va.six;simp only at hP;rw [hp] at hP;unfold nmV at *;have lV:=hW.v.va.v.lt;go_enter func51,ntmps51
 go_wp2_with (go_at_call 63;refine hP.mono ?_;rintro e w1 ⟨rfl,hb1'⟩)
 have hB0:=hb1'.alloc hb1'.size (.cells #[.int .i64 2,.int .u64 (n:Int)] 114);have bN:=BoxN.new w1 114 #[.int .i64 2,.int .u64 (n:Int)];have hz1:=hb1'.size
 obtain⟨N,hs0⟩:∃ N,(w1.alloc (.cells #[.int .i64 2,.int .u64 (n:Int)] 114)).heap.size=N:=⟨_,rfl⟩
 have hN:N=w1.heap.size+1:=by rw [<- hs0];simp
 obtain⟨nb,hnb⟩:∃ nb,w1.heap.size=nb:=⟨_,rfl⟩
 rw [hnb] at bN hN hz1;rw [hnb];generalize (w1.alloc (.cells #[.int .i64 2,.int .u64 (n:Int)] 114))=W1 at *;clear hnb hb1' w1
 have hS:∀ W,Below N W1 W->LkP k.vb 4 k.ml nb 121 2 (n:Int) (.tuple #[.agg #[.int .i64 ak,.int .u64 (au:Int),.int .u64 at_,.int .i64 tr,.bool pd,.string ⟨pth.toArray⟩,.int .u64 la],.bool true]) W:=fun W hb=>by
  have bN':=bN.below hb (by omega);have hB:=hB0.trans (hb.mono (by omega));exact⟨(hW.v.va.below hB).v.cell 4 rfl,bN'.cell 0 rfl,bN'.cell 1 rfl,hP0 W hB⟩
 have hb1:Below N W1 W1.drew:=(Below.refl _ _).drew;refine wp_region_held_drew (S:=(LkP k.vb 4 k.ml nb 121 2 (n:Int) (.tuple #[.agg #[.int .i64 ak,.int .u64 (au:Int),.int .u64 at_,.int .i64 tr,.bool pd,.string ⟨pth.toArray⟩,.int .u64 la],.bool true]))) (by kernel_rfl) (hS _ hb1) (fun hS0=>?_);refine Xt 0 ?v0 rfl ?y0 hS0 ?_
 case y0=>(rintro w ⟨q0,q1,q2,q3⟩;go_simp;try with_reducible rfl)
 refine Xt 1 ?v1 rfl ?y1 hS0 ?_
 case y1=>(rintro w ⟨q0,q1,q2,q3⟩;go_simp;try with_reducible rfl)
 refine Xt 2 ?v2 rfl ?y2 hS0 ?_
 case y2=>(rintro w ⟨q0,q1,q2,q3⟩;go_simp;try with_reducible rfl)
 refine Xt 3 ?v3 rfl ?y3 hS0 ?_
 case y3=>(rintro w ⟨q0,q1,q2,q3⟩;go_simp;try with_reducible rfl)
 refine Xt 4 ?v4 rfl ?y4 hS0 ?_
 case y4=>(rintro w ⟨q0,q1,q2,q3⟩;go_simp;try with_reducible rfl)
 refine Xt 5 ?v5 rfl ?y5 hS0 ?_
 case y5=>(rintro w ⟨q0,q1,q2,q3⟩;go_simp;try with_reducible rfl)
 refine Xt 6 ?v6 rfl ?y6 hS0 ?_
 case y6=>(rintro w ⟨q0,q1,q2,q3⟩;go_simp;try with_reducible rfl)
 refine Xt 7 ?v7 rfl ?y7 hS0 ?_
 case y7=>(rintro w ⟨q0,q1,q2,q3⟩;go_simp;try with_reducible rfl)
 refine Xt 8 ?v8 rfl ?y8 hS0 ?_
 case y8=>(rintro w ⟨q0,q1,q2,q3⟩;go_simp;try with_reducible rfl)
 refine Xh 9 rfl fun K hK=>?_;go_simp;refine hK.out _ _ (hS _ (hb1.alloc (by simp [hs0]) _)) (fun hS1=>?_);clear hK K;refine Xh 10 rfl fun K hK=>?_;go_simp;have hb2:Below N W1 (W1.alloc (.cells #[.int .i64 ak,.int .u64 (au:Int),.int .u64 at_,.int .i64 tr,.bool pd,.string ⟨pth.toArray⟩,.int .u64 la] 131)).drew:=((Below.refl _ _).alloc (by omega) _).drew;refine hK.out _ _ (hS _ hb2) (fun hS2=>?_);clear hK K;refine Xh 11 rfl fun K hK=>?_;go_simp;refine hK.out _ _ hS2 (fun _=>?_);clear hK K hS0 hS1 hS2;refine wpAnyH_done (by kernel_rfl) ?_ _
 have bL:BoxN (W1.alloc (.cells #[.int .i64 ak,.int .u64 (au:Int),.int .u64 at_,.int .i64 tr,.bool pd,.string ⟨pth.toArray⟩,.int .u64 la] 131)).drew N 131 #[.int .i64 ak,.int .u64 (au:Int),.int .u64 at_,.int .i64 tr,.bool pd,.string ⟨pth.toArray⟩,.int .u64 la]:=by
  have h:=BoxN.new W1 131 #[.int .i64 ak,.int .u64 (au:Int),.int .u64 at_,.int .i64 tr,.bool pd,.string ⟨pth.toArray⟩,.int .u64 la];rw [hs0] at h;exact h
 have bN2:=bN.below hb2 (by omega);have hBf:=hB0.trans (hb2.mono (by omega));clear hS hP0 hb1 hb2 hB0 bN hP;generalize (W1.alloc (.cells #[.int .i64 ak,.int .u64 (au:Int),.int .u64 at_,.int .i64 tr,.bool pd,.string ⟨pth.toArray⟩,.int .u64 la] 131)).drew=W2 at *;subst hN;have hW2:=hW.below hBf;have ct:=hW2.v.va.v.cell 2 (v:=.int .u64 tm) rfl;have hL:=Xaa (nb+1) pd at_ tm W2 (bL.cell 4 rfl) (bL.cell 2 rfl);rw [hlv] at hL;have hR:=Xnw (nb+1) 131 ak (au:Int) at_ tr tm pd [.string ⟨pth.toArray⟩,.int .u64 la] W2 (by simpa using bL);have hlb:w.heap.size<=nb:=hz1;have HW:=Xb hW;clear hlv hp bL hW2 hW
 go_wp2_with (first
  | (go_at_call 91;refine hL.mono ?_;rintro e w3 ⟨rfl,rfl⟩)
  | (go_at_call 90;refine hR.mono ?_;rintro e w4 ⟨rfl,bL4,hs4⟩;have hB4:Below w.heap.size w w4:=⟨hs4.os.trans hBf.os,hs4.tape.trans hBf.tape,hs4.output.trans hBf.output,Nat.le_trans hBf.size hs4.size,fun k hk=>(hs4.block k (Nat.lt_of_lt_of_le hk hBf.size) (by simp;omega)).trans (hBf.block k hk)⟩;have bN4:=hs4.box bN2 (by simp);have m0:=bN4.cell 0 (v:=.int .i64 2) rfl;have m1:=bN4.cell 1 (v:=.int .u64 (n:Int)) rfl;have hER:=Jw (nb+1) 2 (n:Int) ak au tm tr true pth la w4 (bL4.cell 0 (by simp)) (bL4.cell 1 (by simp)) (bL4.cell 2 (by simp)) (bL4.cell 3 (by simp)) (bL4.cell 4 (by simp)) (bL4.cell 5 (by simp)) (bL4.cell 6 (by simp));unfold Xi at hER)
  | (go_at_call 67;refine hER.mono ?_;rintro e w5 ⟨rfl,hb5⟩;have hB5:=hB4.trans (hb5.mono hB4.size);have hK5:=hK w5 hB5)
  | (go_at_call 66;refine hK5.mono ?_;rintro e w6 ⟨rfl,hW6,hs6⟩))
 go_ret;exact⟨rfl,hW6,(Spares.of_below hB5).trans hs6⟩
theorem Xdp {n:Nat} (h:n<Xj):parseN (nmStr 1 n)=(1,(n:Int)):=U5 true h
theorem J4 {n:Nat} (h:n<Xj):parseN (nmStr 2 n)=(2,(n:Int)):=U5 false h
theorem Xnv {n:Nat} (h:n<Xj):(nmStr 1 n).length<=1000000:=by
 have:=X1 n h;simp [nmStr];omega
theorem Xgi {n:Nat} (h:n<Xj):(nmStr 2 n).length<=1000000:=by
 have:=X1 n h;simp [nmStr];omega
section
variable {B hb rb:Nat} {k:Blk} {vx:VX} {tm:Int} {tn ln:Nat} {tks:List Xe} {lks:List Xd} {c:List UInt8} {w:World}
theorem Tryz.Xeb (hS:Sys B w hb rb ⟨k,vx,tm,⟨tn,ln,tks,lks⟩,c⟩) (m:Xe) (hm:m∈tks) (hlv:m.pd=false) (pth:List UInt8) (hpv:pathI pth=true) (ttl most:Int) (h1:0<ttl) (h2:ttl<=most) (h3:most<=18446744073709551615) (h14:lks.length<14) (hln:ln<1000000) (htm:tm≠18446744073709551615) (hc:c.length<=900000000000) (cc dd:Int) :
  Calls prog 18 #[.pointer (some ⟨hb,0,none⟩),.string ⟨(nmStr 1 m.n).toArray⟩,.string ⟨pth.toArray⟩,.int .u64 ttl,.int .u64 most,Ya (-1) (-1) cc dd] w fun e w'=>e=.returned (.tuple #[.string ⟨(nmStr 2 (ln+1)).toArray⟩,.int .i64 0])/\(∃ c',c'.length<=c.length+70000/\Sys B w' hb rb ⟨k,vx,tm,⟨tn,ln+1,tks,lks ++ [M2 (ln+1) m.n (plusI tm ttl) (plusI tm most) pth]⟩,c'⟩)/\Spares k.turns w w':=by
 have t0:=hS.wh.v.t0;have t1:=hS.wh.v.t1;have hlim:=(hS.wh.v.va.ok.limT m hm).1;obtain⟨hp24,hpa⟩:=Xnp hpv;have r1:=Zc tm ttl t0 t1 (by omega) (by omega);have r2:=Zc tm most t0 t1 (by omega) h3;have hkl:(keepLine tm [.lea (M2 (ln+1) m.n (plusI tm ttl) (plusI tm most) pth)]).length<=70000:=J7 t0 t1 (s:=⟨tn,ln,tks,lks⟩) ⟨⟨⟨r1.1,r1.2,show (0:Int)<=0 by decide,⟨show (0:Int)<=1000000000 by decide,.inl rfl⟩,r2.1,r2.2,hp24,hpa⟩,.inr (fun x hx=>by have:=hS.wh.v.nl x hx;show x.n<ln+1;simp at this;omega),by show lks.length<500;omega,show ln+1<Xj by unfold Xj;omega,hlim⟩,trivial⟩ (by simp)
 have h:=(six B hb rb _ w hS cc dd .nilIface 0 (fun W _=>Jh W) (fun σ'=>σ'=⟨k,vx,tm,⟨tn,ln+1,tks,lks ++ [M2 (ln+1) m.n (plusI tm ttl) (plusI tm most) pth]⟩,c++keepLine tm [.lea (M2 (ln+1) m.n (plusI tm ttl) (plusI tm most) pth)]⟩)).2.1 (nmStr 1 m.n) pth ttl most (.string ⟨(nmStr 2 (ln+1)).toArray⟩)
  (fun W _ hV=>by
   have hMay:∀ W',Below W.heap.size W W'->Calls prog 64 #[.pointer (some ⟨k.vb,0,none⟩),nmV (parseN (nmStr 1 m.n)),.string ⟨pth.toArray⟩,.int .u64 ttl,.int .u64 most] W' fun e w'=>e=.returned .nilIface/\Below W'.heap.size W' w':=fun W' hb'=>by
    have hq:=Xlp k.vb k.mt k.ml vx tm tn ln tks lks W' (hV.v.va.below hb') (parseN (nmStr 1 m.n)) true pth (by omega) ttl most (fun W2 hb2=>by
     rw [Xdp hlim];have hl:=Xhe k.vb k.mt k.ml vx tm _ _ tks lks W2 ((hV.v.va.below hb').below hb2) m hm;rw [hlv] at hl
     exact hl)
    have he:mayE true (pathI pth) ttl most lks.length tm=0:=by
     unfold mayE;rw [hpv,if_neg (by simp),if_neg (by simp),if_neg (by omega),if_neg (by omega),if_neg htm]
    rw [he] at hq;exact hq
   refine(Xi5 k vx tm ⟨tn,ln,tks,lks⟩ c (-1) (-1) W hV (by decide) (by decide) (by decide) (by decide) hc (nmStr 1 m.n) pth (Xnv hlim) ttl most (by omega) (by omega) (by omega) h3 hp24 hpa m.n hlim (Xdp hlim) hMay h14 (by show ln<_;omega)).mono ?_;rintro e w' ⟨rfl,hV',hs'⟩
   exact⟨rfl,⟨_,_,_,⟨rfl,rfl,rfl⟩,hV'⟩,hs'⟩)
 refine h.mono ?_;rintro e w' ⟨rfl,⟨σ',⟨rfl,-,-⟩,hS'⟩,hs⟩;exact⟨rfl,⟨_,by simp only [List.length_append];omega,hS'⟩,hs⟩
theorem Tryz.Xk2 (hS:Sys B w hb rb ⟨k,vx,tm,⟨tn,ln,tks,lks⟩,c⟩) (l:Xd) (hl:l∈lks) (pth:List UInt8) :
  Calls prog 23 #[.pointer (some ⟨hb,0,none⟩),.string ⟨(nmStr 2 l.n).toArray⟩,.string ⟨pth.toArray⟩] w fun e w'=>e=.returned (.bool ((!l.pd&&decide (tm<l.at_))&&(l.pth==pth)))/\Below w.heap.size w w':=by
 have hlim:=(hS.wh.v.va.ok.limL l hl).1;have hP:=parse ⟨(nmStr 2 l.n).toArray⟩ (by simpa [ByteArray.size] using Xgi hlim) w hS.wh.v.va.env hS.wh.v.va.six;simp only [J4 hlim] at hP;exact hAuth hb k.db rb k.vb w hS.host _ _ _ (Xjr k.vb w (nmStr 2 l.n) pth _ l.ak l.au l.at_ l.tr l.pd l.pth l.last (!l.pd&&decide (tm<l.at_)) hP (fun W2 hb2=>Vm k.vb k.mt k.ml vx tm tn ln tks lks W2 (hS.wh.v.va.below hb2) l hl))
theorem Tryz.Xoh (hS:Sys B w hb rb ⟨k,vx,tm,⟨tn,ln,tks,lks⟩,c⟩) (i:Nat) (l:Xd) (hl:lks[i]? = some l) (hlv:(!l.pd&&decide (tm<l.at_))=true) (ttl:Int) (h0:0<=ttl) (h1:ttl<=18446744073709551615) (h500:lks.length<500) (hc:c.length<=900000000000) (cc dd:Int) :
  Calls prog 20 #[.pointer (some ⟨hb,0,none⟩),.string ⟨(nmStr 2 l.n).toArray⟩,.int .u64 ttl,Ya (-1) (-1) cc dd] w fun e w'=>e=.returned (.tuple #[.int .u64 (J5 tm ttl l),.int .i64 0])/\(∃ c',c'.length<=c.length+70000/\Sys B w' hb rb ⟨k,vx,tm,⟨tn,ln,tks,lks.set i { l with at_:=J5 tm ttl l }⟩,c'⟩)/\Spares k.turns w w':=by
 have hlim:=(hS.wh.v.va.ok.limL l (List.mem_of_getElem? hl)).1
 have h:=(six B hb rb _ w hS cc dd .nilIface 0 (fun W _=>Jh W) (fun σ'=>∃ c',c'.length<=c.length+70000/\σ'=⟨k,vx,tm,⟨tn,ln,tks,lks.set i { l with at_:=J5 tm ttl l }⟩,c'⟩)).2.2.1 (nmStr 2 l.n) ttl (.int .u64 (J5 tm ttl l))
  (fun W _ hV=>by
   refine(Xhb k vx tm ⟨tn,ln,tks,lks⟩ c (-1) (-1) W hV (by decide) (by decide) (by decide) (by decide) hc (nmStr 2 l.n) (Xgi hlim) i l hl (J4 hlim) hlv ttl h0 h1 h500).mono ?_;rintro e w' ⟨rfl,⟨c',l',f',hc',-,-,-,-,hV'⟩,hs'⟩
   exact⟨rfl,⟨_,l',f',⟨⟨c',hc',rfl⟩,rfl,rfl⟩,hV'⟩,hs'⟩)
 refine h.mono ?_;rintro e w' ⟨rfl,⟨σ',⟨⟨c',hc',rfl⟩,-,-⟩,hS'⟩,hs⟩;exact⟨rfl,⟨c',hc',hS'⟩,hs⟩
theorem Tryz.Xid (hS:Sys B w hb rb ⟨k,vx,tm,⟨tn,ln,tks,lks⟩,c⟩) (i:Nat) (l:Xd) (hl:lks[i]? = some l) (hlv:(!l.pd&&decide (tm<l.at_))=true) (h500:lks.length<500) (hc:c.length<=900000000000) (cc dd:Int) :
  Calls prog 28 #[.pointer (some ⟨hb,0,none⟩),.string ⟨(nmStr 2 l.n).toArray⟩,Ya (-1) (-1) cc dd] w fun e w'=>e=.returned (.int .i64 0)/\(∃ c',c'.length<=c.length+70000/\Sys B w' hb rb ⟨k,vx,tm,⟨tn,ln,tks,lks.set i { l with pd:=true,at_:=tm }⟩,c'⟩)/\Spares k.turns w w':=by
 have hm:=List.mem_of_getElem? hl;have hlim:=hS.wh.v.va.ok.limL l hm;have hokt:=hS.wh.v.okL l hm;have t0:=hS.wh.v.t0;have t1:=hS.wh.v.t1;have hkl:(keepLine tm [.lea { l with pd:=true,at_:=tm }]).length<=70000:=J7 t0 t1 (s:=⟨tn,ln,tks,lks⟩) ⟨⟨⟨t0,t1,hokt.r0,hokt.r1,hokt.l0,hokt.l1,hokt.p1,hokt.pa⟩,.inl ⟨l,hm,rfl⟩,h500,hlim.1,hlim.2⟩,trivial⟩ (by simp)
 have h:=(six B hb rb _ w hS cc dd .nilIface 0 (fun W _=>Jh W) (fun σ'=>σ'=⟨k,vx,tm,⟨tn,ln,tks,lks.set i { l with pd:=true,at_:=tm }⟩,c++keepLine tm [.lea { l with pd:=true,at_:=tm }]⟩)).2.2.2.1 (nmStr 2 l.n)
  (fun W _ hV=>by
   obtain⟨n,ak,au,at_,tr,pd,pth,la⟩:=l;refine(Xgx k vx tm ⟨tn,ln,tks,lks⟩ c (-1) (-1) W hV (by decide) (by decide) (by decide) (by decide) hc (nmStr 2 n) (Xgi hlim.1) ak n au at_ tr pd pth la i hl (J4 hlim.1) hlv h500 _ rfl _ rfl).mono ?_;rintro e w' ⟨rfl,hV',hs'⟩
   exact⟨rfl,⟨_,_,_,⟨rfl,rfl,rfl⟩,hV'⟩,hs'⟩)
 refine h.mono ?_;rintro e w' ⟨rfl,⟨σ',⟨rfl,-,-⟩,hS'⟩,hs⟩;exact⟨rfl,⟨_,by simp only [List.length_append];omega,hS'⟩,hs⟩
end
end Go.Proofs
namespace Go.Proofs
open Go.RowKit Go.Sort Go.Lib Go.Shelf Go.Maps Go.WideMaps
theorem Spares.shed {bs bs':List Nat} {W W':World} (h:Spares bs W W') (hb:∀ b∈bs,b∈bs'\/W.heap.size<=b):Spares bs' W W':=
 ⟨h.os,h.tape,h.output,h.size,fun k hk hn=>h.block k hk (fun hm=>(hb k hm).elim hn (fun e=>by omega))⟩
theorem Tryz.Xpb (vb Bv:Nat) (v t:Value) (u:FrameMode) (w:World) (hv:v=.slice none 0 0\/∃ g cap,v=.slice (some ⟨g,0,none⟩) 0 cap) (cB:w.cell? ⟨Bv,0,none⟩=some (.pointer (some ⟨vb,0,none⟩))) (c6:w.cell? ⟨vb,7,none⟩=some t) (f6:w.frozen? ⟨vb,7,none⟩=false) (c7:w.cell? ⟨vb,8,none⟩=some v) (f7:w.frozen? ⟨vb,8,none⟩=false) (hne:Bv≠vb) :
  CallsD prog 73 #[.pointer (some ⟨Bv,0,none⟩)] u w fun e u' w'=>u'=u/\(e=.returned (.tuple #[])/\w'=(w.setCell ⟨vb,7,none⟩ (.bool false)).setCell ⟨vb,8,none⟩ v):=by
 have c7':(w.setCell ⟨vb,7,none⟩ (.bool false)).cell? ⟨vb,8,none⟩=some v:=(World.cell?_setCell_other _ _ _ _ (by simp)).trans c7
 have f7':(w.setCell ⟨vb,7,none⟩ (.bool false)).frozen? ⟨vb,8,none⟩=false:=by rw [World.frozen?_setCell];exact f7
 have cB':(w.setCell ⟨vb,7,none⟩ (.bool false)).cell? ⟨Bv,0,none⟩=some (.pointer (some ⟨vb,0,none⟩)):=(World.cell?_setCell_far _ _ _ _ (fun e=>hne e.symm)).trans cB;have hE:=Xjh vb v _ hv c7' f7'
 go_enter_d func73,ntmps73
 go_wp2_with (go_at_call 74;refine hE.mono ?_;rintro e w1 ⟨rfl,rfl⟩)
 go_end0
 exact⟨rfl,rfl⟩
end Go.Proofs
namespace Go.Proofs
open Go.RowKit Go.Sort Go.Lib Go.Shelf Go.Maps
def hasU (s:VSt) (u:Nat):Bool:=s.tks.any (fun x=>x.ak==1&&(x.au:Int)==(u:Int))||s.lks.any (fun x=>x.ak==1&&(x.au:Int)==(u:Int))
def Xdj (tm:Int) (t:Xe):Xe:={ t with pd:=true,tr:=t.tr+1,at_:=plusI tm (waitN t.tr.toNat) }
def Vo (tm:Int) (t:Xd):Xd:={ t with pd:=true,tr:=t.tr+1,at_:=plusI tm (waitN t.tr.toNat) }
inductive Y8 (tm:Int) (s:VSt):Xc->Item->Bool->Nat->Nat->Prop where
 | tok (t:Xe) (ht:t∈s.tks) (hk:t.ak=1):Y8 tm s ⟨t.at_,1,t.n⟩ (.tok (Xdj tm t)) true t.n t.au
 | lea (t:Xd) (ht:t∈s.lks) (hk:t.ak=1):Y8 tm s ⟨t.at_,2,t.n⟩ (.lea (Vo tm t)) false t.n t.au
def Zw (s:VSt) (tm:Int) (un:Nat):List Xc:=match s.tks.find? (fun t=>t.n==un) with
 | some p=>Yv s tm p
 | none=>[]
structure TS where
 s:VSt
 q:List Xc
 fl:Int
 c:List UInt8
 cl:List (Int × Nat)
inductive Jy (tm:Int):TS->TS->Prop where
 | fail {a:TS} {t:Xc} {q' q'':List Xc} {it:Item} {tk:Bool} {n un:Nat} (hs:Y8 tm a.s t it tk n un) (hp:(t :: q').Perm a.q) (hl:∀ u∈q',¬ ltT u t) (ho:(a.fl % 2==1)=true) (hq:q''.Perm q'):Jy tm a ⟨it.app a.s,q'',a.fl / 2,a.c++keepLine tm [it],a.cl ++ [(kdB tk,n)]⟩
 | ok {a:TS} {t:Xc} {q' q'':List Xc} {it:Item} {tk:Bool} {n un:Nat} (hs:Y8 tm a.s t it tk n un) (hp:(t :: q').Perm a.q) (hl:∀ u∈q',¬ ltT u t) (ho:(a.fl % 2==1)=false) (hq:q''.Perm (q'++Zw ((Item.gone tk n).app a.s) tm un)):Jy tm a ⟨(Item.gone tk n).app a.s,q'',a.fl / 2,a.c++keepLine tm [.gone tk n],a.cl ++ [(kdB tk,n)]⟩
inductive Jq (tm:Int):TS->TS->Prop where
 | refl (a:TS):Jq tm a a
 | step {a b c:TS} (h:Jq tm a b) (h1:Jy tm b c):Jq tm a c
structure Ja (s:VSt):Prop where
 incT:s.tks.Pairwise (fun a b=>a.n<b.n)
 incL:s.lks.Pairwise (fun a b=>a.n<b.n)
 upT:∀ t∈s.tks,t.n=0\/t.ak=1/\∃ p∈s.tks,p.n=t.au
 upL:∀ t∈s.lks,t.ak=1/\∃ p∈s.tks,p.n=t.au
 root:∀ t∈s.tks,t.n=0->t.pd=false
structure QOk (tm:Int) (s:VSt) (q:List Xc):Prop where
 nd:(q.map (fun t=>(t.k,t.n))).Nodup
 ex:∀ t∈q,∃ it tk n un,Y8 tm s t it tk n un
 nb:∀ t∈q,t.k=1->∀ n:Nat,t.n=n->hasU s n=false
theorem QOk.perm {tm:Int} {s:VSt} {q q':List Xc} (h:QOk tm s q) (hp:q'.Perm q):QOk tm s q':=
 ⟨(hp.map _).nodup_iff.2 h.nd,fun t ht=>h.ex t (hp.mem_iff.1 ht),fun t ht=>h.nb t (hp.mem_iff.1 ht)⟩
theorem Xgr {t:Xe} {l:List Xe} (hs:l.Pairwise (fun a b=>a.n<b.n)) {x:Xe} (hx:x∈l) (hn:x.n=t.n) (f:Xe->Bool) (hf:f t=f x):(Yl t l).any f=l.any f:=by
 rcases Yt (t:=t) hs with⟨a,y,b,rfl,hy,hp,hne⟩ | ⟨hne,-⟩
 ·have:x=y:=Xa9 (f:=Xe.n) hs hx (by simp) (by omega)
  subst this;rw [hp];simp [hf]
 exact absurd hn (hne x hx)
theorem Xg0 {t:Xd} {l:List Xd} (hs:l.Pairwise (fun a b=>a.n<b.n)) {x:Xd} (hx:x∈l) (hn:x.n=t.n) (f:Xd->Bool) (hf:f t=f x):(Yf t l).any f=l.any f:=by
 rcases Y2 (t:=t) hs with⟨a,y,b,rfl,hy,hp,hne⟩ | ⟨hne,-⟩
 ·have:x=y:=Xa9 (f:=Xd.n) hs hx (by simp) (by omega)
  subst this;rw [hp];simp [hf]
 exact absurd hn (hne x hx)
theorem Y8.hasU {tm:Int} {s:VSt} {t:Xc} {it:Item} {tk:Bool} {n un:Nat} (hs:Y8 tm s t it tk n un) (ht:Ja s) (u:Nat):hasU (it.app s) u=hasU s u:=by
 cases hs with
 | tok t hm hk=>show ((Yl (Xdj tm t) s.tks).any _||s.lks.any _)=_;rw [Xgr (t:=Xdj tm t) ht.incT hm rfl _ rfl];rfl
 | lea t hm hk=>show (s.tks.any _||(Yf (Vo tm t) s.lks).any _)=_;rw [Xg0 (t:=Vo tm t) ht.incL hm rfl _ rfl];rfl
theorem Xi9 {s:VSt} {tk:Bool} {n u:Nat} (h:hasU s u=false):hasU ((Item.gone tk n).app s) u=false:=by
 unfold hasU at *;simp only [Bool.or_eq_false_iff,List.any_eq_false] at *;exact⟨fun x hx=>h.1 x (Zd hx),fun x hx=>h.2 x (Zp hx)⟩
theorem putTok_has {t x:Xe} {l:List Xe} (hs:l.Pairwise (fun a b=>a.n<b.n)) (hx:x∈l):x.n=t.n\/x∈Yl t l:=by
 rcases Yt (t:=t) hs with⟨a,y,b,rfl,hy,hp,hne⟩ | ⟨hne,hp⟩
 ·rw [hp]
  simp only [List.mem_append,List.mem_cons] at hx ⊢
  rcases hx with h | rfl | h
  ·exact .inr (.inl h)
  ·exact .inl hy
  exact .inr (.inr (.inr h))
 rw [hp];exact .inr (by simp [hx])
theorem Xfk {t:Xe} {l:List Xe} (hs:l.Pairwise (fun a b=>a.n<b.n)):t∈Yl t l:=by
 rcases Yt (t:=t) hs with⟨a,y,b,rfl,hy,hp,hne⟩ | ⟨hne,hp⟩ <;> rw [hp] <;> simp
theorem putLea_has {t x:Xd} {l:List Xd} (hs:l.Pairwise (fun a b=>a.n<b.n)) (hx:x∈l):x.n=t.n\/x∈Yf t l:=by
 rcases Y2 (t:=t) hs with⟨a,y,b,rfl,hy,hp,hne⟩ | ⟨hne,hp⟩
 ·rw [hp]
  simp only [List.mem_append,List.mem_cons] at hx ⊢
  rcases hx with h | rfl | h
  ·exact .inr (.inl h)
  ·exact .inl hy
  exact .inr (.inr (.inr h))
 rw [hp];exact .inr (by simp [hx])
theorem V0 {t:Xe} {l:List Xe} (hs:l.Pairwise (fun a b=>a.n<b.n)) {m:Nat} (h:∃ p∈l,p.n=m):∃ p∈Yl t l,p.n=m:=by
 obtain⟨p,hp,e⟩:=h
 rcases putTok_has (t:=t) hs hp with h1 | h1
 ·exact⟨t,Xfk hs,by omega⟩
 exact⟨p,h1,e⟩
theorem Ja.failed {tm:Int} {s:VSt} {t:Xc} {it:Item} {tk:Bool} {n un:Nat} (h:Ja s) (hs:Y8 tm s t it tk n un) (h0:tk=true->n≠0):Ja (it.app s):=by
 cases hs with
 | tok t hm hk =>
  refine⟨Xbj h.incT (.inl ⟨t,hm,rfl⟩),h.incL,fun x hx=>?_,fun x hx=>⟨(h.upL x hx).1,V0 h.incT (h.upL x hx).2⟩,fun x hx e=>?_⟩
  ·rcases Z0 h.incT hx with rfl | hx
   ·rcases h.upT t hm with e | e
    ·exact .inl e
    exact .inr ⟨e.1,V0 h.incT e.2⟩
   rcases h.upT x hx with e | e
   ·exact .inl e
   exact .inr ⟨e.1,V0 h.incT e.2⟩
  rcases Z0 h.incT hx with rfl | hx
  ·exact absurd e (h0 rfl)
  exact h.root x hx e
 | lea t hm hk =>
  refine⟨h.incT,Xbq h.incL (.inl ⟨t,hm,rfl⟩),h.upT,fun x hx=>?_,h.root⟩
  rcases Jf h.incL hx with rfl | hx
  ·exact h.upL t hm
  exact h.upL x hx
theorem Ja.gone {s:VSt} (h:Ja s) (tk:Bool) (n:Nat) (hb:tk=true->hasU s n=false):Ja ((Item.gone tk n).app s):=by
 have hinc:(Y3 tk n s.tks).Pairwise (fun a b=>a.n<b.n):=by
  cases tk
  ·exact h.incT
  exact h.incT.filter _
 have hincL:(Zj tk n s.lks).Pairwise (fun a b=>a.n<b.n):=by
  cases tk
  ·exact h.incL.filter _
  exact h.incL
 have keep:∀ m,(∃ p∈s.tks,p.n=m)->(tk=true->m≠n)->∃ p∈Y3 tk n s.tks,p.n=m:=fun m ⟨p,hp,e⟩ hne=>by
  cases tk
  ·exact⟨p,hp,e⟩
  exact⟨p,List.mem_filter.2 ⟨hp,by simpa [e] using hne rfl⟩,e⟩
 refine⟨hinc,hincL,fun x hx=>?_,fun x hx=>?_,fun x hx e=>h.root x (Zd hx) e⟩
 ·rcases h.upT x (Zd hx) with e | ⟨e1,e2⟩
  ·exact .inl e
  refine .inr ⟨e1,keep _ e2 (fun et en=>?_)⟩;have:=hb et;unfold hasU at this;simp only [Bool.or_eq_false_iff,List.any_eq_false] at this;exact this.1 x (Zd hx) (by simp [e1,en])
 obtain⟨e1,e2⟩:=h.upL x (Zp hx);refine⟨e1,keep _ e2 (fun et en=>?_)⟩;have:=hb et;unfold hasU at this;simp only [Bool.or_eq_false_iff,List.any_eq_false] at this;exact this.2 x (Zp hx) (by simp [e1,en])
theorem Y8.key {tm:Int} {s:VSt} {t:Xc} {it:Item} {tk:Bool} {n un:Nat} (hs:Y8 tm s t it tk n un):t.k=kdB tk/\t.n=(n:Int):=by
 cases hs with
 | tok t hm hk=>exact⟨rfl,rfl⟩
 | lea t hm hk=>exact⟨rfl,rfl⟩
theorem Y8.under {tm:Int} {s:VSt} {t:Xc} {it:Item} {tk:Bool} {n un:Nat} (hs:Y8 tm s t it tk n un):Proofs.hasU s un=true:=by
 unfold Proofs.hasU;rw [Bool.or_eq_true]
 cases hs with
 | tok t hm hk=>exact .inl (List.any_eq_true.2 ⟨t,hm,by simp [hk]⟩)
 | lea t hm hk=>exact .inr (List.any_eq_true.2 ⟨t,hm,by simp [hk]⟩)
theorem Y8.other {tm:Int} {s:VSt} {t u:Xc} {it it2:Item} {tk tk2:Bool} {n un n2 un2:Nat} (hs:Y8 tm s t it tk n un) (hu:Y8 tm s u it2 tk2 n2 un2) (ht:Ja s) (hne:(u.k,u.n)≠(t.k,t.n)):Y8 tm (it.app s) u it2 tk2 n2 un2:=by
 cases hs with
 | tok t hm hk =>
  cases hu with
  | tok x hx hk2 =>
   rcases putTok_has (t:=Xdj tm t) ht.incT hx with e | e
   ·exact absurd (by have e:x.n=t.n:=e;simp [e]) hne
   exact .tok x e hk2
  | lea x hx hk2=>exact .lea x hx hk2
 | lea t hm hk =>
  cases hu with
  | tok x hx hk2=>exact .tok x hx hk2
  | lea x hx hk2 =>
   rcases putLea_has (t:=Vo tm t) ht.incL hx with e | e
   ·exact absurd (by have e:x.n=t.n:=e;simp [e]) hne
   exact .lea x e hk2
theorem Y8.left {tm:Int} {s:VSt} {u:Xc} {it2:Item} {tk tk2:Bool} {n n2 un2:Nat} (hu:Y8 tm s u it2 tk2 n2 un2) (hne:(u.k,u.n)≠(kdB tk,(n:Int))):Y8 tm ((Item.gone tk n).app s) u it2 tk2 n2 un2:=by
 cases hu with
 | tok x hx hk2 =>
  refine .tok x ?_ hk2;cases tk
  ·exact hx
  exact List.mem_filter.2 ⟨hx,by simpa using fun e=>hne (by simp [kdB,e])⟩
 | lea x hx hk2 =>
  refine .lea x ?_ hk2;cases tk
  ·exact List.mem_filter.2 ⟨hx,by simpa using fun e=>hne (by simp [kdB,e])⟩
  exact hx
theorem QOk.failed {tm:Int} {s:VSt} {t:Xc} {q':List Xc} {it:Item} {tk:Bool} {n un:Nat} (h:QOk tm s (t :: q')) (ht:Ja s) (hs:Y8 tm s t it tk n un):QOk tm (it.app s) q':=by
 obtain⟨h1,h2⟩:=List.nodup_cons.1 (by simpa using h.nd:((t.k,t.n) :: q'.map (fun t=>(t.k,t.n))).Nodup);refine⟨h2,fun u hu=>?_,fun u hu hk m hm=>by rw [hs.hasU ht];exact h.nb u (List.mem_cons_of_mem _ hu) hk m hm⟩;obtain⟨it2,tk2,n2,un2,hu2⟩:=h.ex u (List.mem_cons_of_mem _ hu);exact⟨it2,tk2,n2,un2,hs.other hu2 ht (fun e=>h1 (List.mem_map.2 ⟨u,hu,e⟩))⟩
theorem QOk.gone {tm:Int} {s:VSt} {t:Xc} {q':List Xc} {it:Item} {tk:Bool} {n un:Nat} (h:QOk tm s (t :: q')) (ht:Ja s) (hs:Y8 tm s t it tk n un):QOk tm ((Item.gone tk n).app s) (q'++Zw ((Item.gone tk n).app s) tm un):=by
 obtain⟨h1,h2⟩:=List.nodup_cons.1 (by simpa using h.nd:((t.k,t.n) :: q'.map (fun t=>(t.k,t.n))).Nodup);have hkey:=hs.key
 have hleft:∀ u∈q',∃ it tk' n' un,Y8 tm ((Item.gone tk n).app s) u it tk' n' un:=fun u hu=>by
  obtain⟨it2,tk2,n2,un2,hu2⟩:=h.ex u (List.mem_cons_of_mem _ hu);exact⟨it2,tk2,n2,un2,hu2.left (fun e=>h1 (List.mem_map.2 ⟨u,hu,by rw [e,hkey.1,hkey.2]⟩))⟩
 have hT:=ht.gone tk n (fun e=>h.nb t (by simp) (by rw [hkey.1,e];rfl) n hkey.2)
 have hup:∀ u∈Zw ((Item.gone tk n).app s) tm un,u.k=1/\u.n=(un:Int)/\Proofs.hasU ((Item.gone tk n).app s) un=false/\∃ it tk' n' un',Y8 tm ((Item.gone tk n).app s) u it tk' n' un':=fun u hu=>by
  unfold Zw at hu
  split at hu
  ·rename_i p hp
   have hpm:=List.mem_of_find?_eq_some hp
   have hpn:p.n=un:=by simpa using List.find?_some hp
   unfold Yv at hu
   split at hu
   ·rename_i hc
    obtain rfl:=List.mem_singleton.1 hu;simp only [Bool.and_eq_true,Bool.not_eq_true'] at hc
    have hr:p.n≠0:=fun e=>by
     have:=hT.root p hpm e;rw [this] at hc;simp at hc
    have hk:p.ak=1:=by
     rcases hT.upT p hpm with e | e
     ·exact absurd e hr
     exact e.1
    refine⟨rfl,by simp [hpn],?_,_,_,_,_,.tok p hpm hk⟩;rw [<- hpn];exact hc.2
   cases hu
  cases hu
 have hlen:(Zw ((Item.gone tk n).app s) tm un).length<=1:=by
  unfold Zw
  split
  ·unfold Yv;split <;> simp
  simp
 refine⟨?_,fun u hu=>?_,fun u hu hk m hm=>?_⟩
 ·rw [List.map_append]
  refine List.nodup_append.2 ⟨h2,?_,fun x hx y hy e=>?_⟩
  ·match hq:Zw ((Item.gone tk n).app s) tm un,hlen with
   | [],_=>simp
   | [a],_=>simp
   | a :: b :: r,hl=>simp at hl
  obtain⟨u,hu,rfl⟩:=List.mem_map.1 hx;obtain⟨z,hz,rfl⟩:=List.mem_map.1 hy;obtain⟨z1,z2,-⟩:=hup z hz;have e':=Prod.mk.inj e;have:=h.nb u (List.mem_cons_of_mem _ hu) (by rw [e'.1,z1]) un (by rw [e'.2,z2]);rw [hs.under] at this;cases this
 ·rcases List.mem_append.1 hu with hu | hu
  ·exact hleft u hu
  exact(hup u hu).2.2.2
 rcases List.mem_append.1 hu with hu | hu
 ·exact Xi9 (h.nb u (List.mem_cons_of_mem _ hu) hk m hm)
 obtain⟨-,z2,z3,-⟩:=hup u hu
 have:m=un:=by rw [hm] at z2;omega
 rw [this];exact z3
theorem J2 {s:VSt} {tm:Int} {t:Xe} {u:Xc} (h:u∈Yv s tm t):u=⟨t.at_,1,t.n⟩/\t.pd=true/\t.at_<=tm/\Proofs.hasU s t.n=false:=by
 unfold Yv at h
 split at h
 ·rename_i hc
  simp only [Bool.and_eq_true,Bool.not_eq_true',decide_eq_true_eq] at hc;exact⟨List.mem_singleton.1 h,hc.1.1,hc.1.2,hc.2⟩
 cases h
theorem Uw {tm:Int} {t:Xd} {u:Xc} (h:u∈Zi tm t):u=⟨t.at_,2,t.n⟩/\t.at_<=tm:=by
 unfold Zi at h
 split at h
 ·rename_i hc
  exact⟨List.mem_singleton.1 h,hc⟩
 cases h
theorem M1 {α:Type} (f:α->List Xc) (num:α->Nat) (kd:Int) (hf:∀ x u,u∈f x->u.k=kd/\u.n=(num x:Int)) (h1:∀ x,(f x).length<=1):∀ {l:List α},l.Pairwise (fun a b=>num a<num b)->((l.flatMap f).map (fun t=>(t.k,t.n))).Nodup
 | [],_=>by simp
 | a :: l,h=>by
  obtain⟨h2,h3⟩:=List.pairwise_cons.1 h;rw [List.flatMap_cons,List.map_append];refine List.nodup_append.2 ⟨?_,M1 f num kd hf h1 h3,fun x hx y hy e=>?_⟩
  ·match f a,h1 a with
   | [],_=>simp
   | [b],_=>simp
   | b :: c :: r,hl=>simp at hl
  obtain⟨u,hu,rfl⟩:=List.mem_map.1 hx;obtain⟨z,hz,rfl⟩:=List.mem_map.1 hy;obtain⟨b,hb,hz⟩:=List.mem_flatMap.1 hz;have:=(hf a u hu).2;have:=(hf b z hz).2;have:=(Prod.mk.inj e).2;have:=h2 b hb;omega
theorem QOk.start {tm:Int} {s:VSt} (ht:Ja s):QOk tm s (s.tks.flatMap (Yv s tm)++s.lks.flatMap (Zi tm)):=by
 refine⟨?_,fun u hu=>?_,fun u hu hk m hm=>?_⟩
 ·rw [List.map_append]
  refine List.nodup_append.2 ⟨M1 _ Xe.n 1 (fun x u h=>by rw [(J2 h).1];exact⟨rfl,rfl⟩) (fun x=>by unfold Yv;split <;> simp) ht.incT,M1 _ Xd.n 2 (fun x u h=>by rw [(Uw h).1];exact⟨rfl,rfl⟩) (fun x=>by unfold Zi;split <;> simp) ht.incL,fun x hx y hy e=>?_⟩;obtain⟨u,hu,rfl⟩:=List.mem_map.1 hx;obtain⟨z,hz,rfl⟩:=List.mem_map.1 hy;obtain⟨a,-,hu⟩:=List.mem_flatMap.1 hu;obtain⟨b,-,hz⟩:=List.mem_flatMap.1 hz;rw [(J2 hu).1,(Uw hz).1] at e;exact absurd (Prod.mk.inj e).1 (by simp)
 ·rcases List.mem_append.1 hu with hu | hu
  ·obtain⟨a,ha,hu⟩:=List.mem_flatMap.1 hu
   obtain⟨rfl,hp,-,-⟩:=J2 hu
   rcases ht.upT a ha with e | e
   ·rw [ht.root a ha e] at hp;cases hp
   exact⟨_,_,_,_,.tok a ha e.1⟩
  obtain⟨a,ha,hu⟩:=List.mem_flatMap.1 hu;obtain⟨rfl,-⟩:=Uw hu;exact⟨_,_,_,_,.lea a ha (ht.upL a ha).1⟩
 rcases List.mem_append.1 hu with hu | hu
 ·obtain⟨a,ha,hu⟩:=List.mem_flatMap.1 hu
  obtain⟨rfl,-,-,hb⟩:=J2 hu
  have:m=a.n:=by have:(a.n:Int)=m:=hm;omega
  rw [this];exact hb
 obtain⟨a,ha,hu⟩:=List.mem_flatMap.1 hu;obtain⟨rfl,-⟩:=Uw hu;exact absurd hk (by simp)
theorem Ur {α:Type} (p:α->Bool):∀ {l:List α} {x:α},x∈l->p x=false->(l.filter p).length+1<=l.length
 | a :: l,x,hx,hp=>by
  rcases List.mem_cons.1 hx with rfl | hx
  ·rw [List.filter_cons_of_neg (by simp [hp])]
   have:=List.length_filter_le p l;simp;omega
  have:=Ur p hx hp
  by_cases h:p a=true
  ·rw [List.filter_cons_of_pos h];simp;omega
  rw [List.filter_cons_of_neg h];simp;omega
def TS.left (a:TS):Nat:=a.q.length+2*(a.s.tks.length+a.s.lks.length)
theorem Xav {t:Xe} {l:List Xe} (hs:l.Pairwise (fun a b=>a.n<b.n)) {x:Xe} (hx:x∈l) (hn:x.n=t.n):(Yl t l).length=l.length:=by
 rcases Yt (t:=t) hs with⟨a,y,b,rfl,hy,hp,hne⟩ | ⟨hne,-⟩
 ·rw [hp];simp
 exact absurd hn (hne x hx)
theorem Xan {t:Xd} {l:List Xd} (hs:l.Pairwise (fun a b=>a.n<b.n)) {x:Xd} (hx:x∈l) (hn:x.n=t.n):(Yf t l).length=l.length:=by
 rcases Y2 (t:=t) hs with⟨a,y,b,rfl,hy,hp,hne⟩ | ⟨hne,-⟩
 ·rw [hp];simp
 exact absurd hn (hne x hx)
theorem Jy.less {tm:Int} {a b:TS} (h:Jy tm a b) (ht:Ja a.s):b.left<a.left:=by
 cases h with
 | fail hs hp hl ho hq =>
  have h1:=hp.length_eq;have h2:=hq.length_eq;simp only [List.length_cons] at h1;unfold TS.left
  cases hs with
  | tok t hm hk =>
   have:(Yl (Xdj tm t) a.s.tks).length=a.s.tks.length:=Xav ht.incT hm rfl;simp only [Item.app];omega
  | lea t hm hk =>
   have:(Yf (Vo tm t) a.s.lks).length=a.s.lks.length:=Xan ht.incL hm rfl;simp only [Item.app];omega
 | @ok t q' q'' it tk n un hs hp hl ho hq =>
  have h1:=hp.length_eq;have h2:=hq.length_eq
  have h3:(Zw ((Item.gone tk n).app a.s) tm un).length<=1:=by
   unfold Zw
   split
   ·unfold Yv;split <;> simp
   simp
  rw [List.length_append] at h2;simp only [List.length_cons] at h1;unfold TS.left
  cases hs with
  | tok t hm hk =>
   have:(a.s.tks.filter (fun x=>x.n != t.n)).length+1<=a.s.tks.length:=Ur _ hm (by simp);simp only [Item.app,Y3,Zj,Xbu,if_true];omega
  | lea t hm hk =>
   have:(a.s.lks.filter (fun x=>x.n != t.n)).length+1<=a.s.lks.length:=Ur _ hm (by simp);simp only [Item.app,Y3,Zj,M6,Bool.false_eq_true,if_false];omega
section
variable {k:Blk} {vx:VX} {tm:Int} {s:VSt} {tn ln:Int}
theorem Tryz.Xaq {t:Xc} {it:Item} {tk:Bool} {n un:Nat} (hs:Y8 tm s t it tk n un) (W:World) (hV:X0 W k.vb k.mt k.ml vx tm tn ln s.tks s.lks):Calls prog 134 #[.pointer (some ⟨k.vb,0,none⟩),nmV (kdB tk,(n:Int))] W fun e w'=>e=.returned (nmV (1,(un:Int)))/\Below W.heap.size W w':=by
 cases hs with
 | tok t hm hk =>
  have h:=Xft k.vb k.mt (1,(t.n:Int)) t.ak t.au t.at_ t.tr t.pd W (fun W' hb=>⟨(hV.below hb).v.cell 3 rfl,(hV.below hb).Xmo hm⟩);rw [hk] at h;exact h
 | lea t hm hk =>
  have h:=Xfv k.vb k.mt k.ml (2,(t.n:Int)) t.ak t.au t.at_ t.tr t.pd t.pth t.last W (fun W' hb=>⟨(hV.below hb).v.cell 3 rfl,(hV.below hb).Xf7 (Xbn (.inr rfl) (hV.ok.limL t hm).1) (fun x _ e=>by have:=(Prod.mk.inj e).1;omega)⟩) (fun W' hb=>⟨(hV.below hb).v.cell 4 rfl,(hV.below hb).Xmm hm⟩);rw [hk] at h;exact h
theorem Tryz.Xgy {t:Xc} {it:Item} {tk:Bool} {n un:Nat} (hs:Y8 tm s t it tk n un) (t0:0<=tm) (t1:tm<=18446744073709551615) (hT:∀ x∈s.tks,0<=x.tr/\x.tr<9223372036854775807) (hL:∀ x∈s.lks,0<=x.tr/\x.tr<9223372036854775807) (W:World) (hV:X0 W k.vb k.mt k.ml vx tm tn ln s.tks s.lks):Calls prog 135 #[.pointer (some ⟨k.vb,0,none⟩),nmV (kdB tk,(n:Int))] W fun e w'=>e=.returned (.agg it.rec_.cells)/\Below W.heap.size W w':=by
 cases hs with
 | tok t hm hk=>exact Xhx k.vb k.mt (1,(t.n:Int)) tm t.ak t.au t.at_ t.tr t.pd W (fun W' hb=>⟨(hV.below hb).v.cell 3 rfl,(hV.below hb).v.cell 2 rfl,(hV.below hb).Xmo hm⟩) (hT t hm).1 (hT t hm).2 t0 t1
 | lea t hm hk=>exact Xhw k.vb k.mt k.ml (2,(t.n:Int)) tm t.ak t.au t.at_ t.tr t.pd t.pth t.last W hV.v.lt (fun W' hb=>⟨(hV.below hb).v.cell 3 rfl,(hV.below hb).v.cell 2 rfl,(hV.below hb).Xf7 (Xbn (.inr rfl) (hV.ok.limL t hm).1) (fun x _ e=>by have:=(Prod.mk.inj e).1;omega)⟩) (fun W' hb=>⟨(hV.below hb).v.cell 4 rfl,(hV.below hb).Xmm hm⟩) (hL t hm).1 (hL t hm).2 t0 t1
end
theorem Y8.fits {tm:Int} {s:VSt} {t:Xc} {it:Item} {tk:Bool} {n un:Nat} (hs:Y8 tm s t it tk n un) (hok:X5 s.tks s.lks) (okT:∀ t∈s.tks,Xbr t) (okL:∀ t∈s.lks,Ul t) (h50:s.tks.length+s.lks.length<=50) (t0:0<=tm) (t1:tm<=18446744073709551615) (hT:∀ x∈s.tks,0<=x.tr/\x.tr<1000000000) (hL:∀ x∈s.lks,0<=x.tr/\x.tr<1000000000):it.Fits s/\n<Xj:=by
 have hw:=fun m:Nat=>Xbi m
 cases hs with
 | tok t hm hk =>
  have h1:=hT t hm;have h2:=okT t hm;have hr:=Zc tm (waitN t.tr.toNat) t0 t1 (by have:=hw t.tr.toNat;omega) (by have:=hw t.tr.toNat;omega);exact⟨⟨⟨hr.1,hr.2,show 0<=t.tr+1 by omega,⟨show t.tr+1<=1000000000 by omega,h2.r1.2⟩⟩,.inl ⟨t,hm,rfl⟩,by omega,(hok.limT t hm).1,(hok.limT t hm).2⟩,(hok.limT t hm).1⟩
 | lea t hm hk =>
  have h1:=hL t hm;have h2:=okL t hm;have hr:=Zc tm (waitN t.tr.toNat) t0 t1 (by have:=hw t.tr.toNat;omega) (by have:=hw t.tr.toNat;omega);exact⟨⟨⟨hr.1,hr.2,show 0<=t.tr+1 by omega,⟨show t.tr+1<=1000000000 by omega,h2.r1.2⟩,h2.l0,h2.l1,h2.p1,h2.pa⟩,.inl ⟨t,hm,rfl⟩,by omega,(hok.limL t hm).1,(hok.limL t hm).2⟩,(hok.limL t hm).1⟩
theorem Y8.up {tm:Int} {s:VSt} {t:Xc} {q:List Xc} {it:Item} {tk:Bool} {n un:Nat} (hs:Y8 tm s t it tk n un) (hT:Ja s) (hQ:QOk tm s (t :: q)) (h0:tk=true->n≠0):∃ p∈((Item.gone tk n).app s).tks,p.n=un/\Zw ((Item.gone tk n).app s) tm un=Yv ((Item.gone tk n).app s) tm p:=by
 have hex:∃ p∈s.tks,p.n=un:=by
  cases hs with
  | tok t hm hk =>
   rcases hT.upT t hm with e | e
   ·exact absurd e (h0 rfl)
   exact e.2
  | lea t hm hk=>exact(hT.upL t hm).2
 obtain⟨p,hp,hpn⟩:=hex
 have hp':p∈((Item.gone tk n).app s).tks:=by
  show p∈Y3 tk n s.tks
  cases tk with
  | false=>exact hp
  | true =>
   refine List.mem_filter.2 ⟨hp,?_⟩
   have hne:un≠n:=fun e=>by
    have h1:=hQ.nb t (by simp) (by rw [hs.key.1];rfl) n hs.key.2;have h2:=hs.under;rw [e,h1] at h2;cases h2
   simpa [hpn] using hne
 cases hf:((Item.gone tk n).app s).tks.find? (fun t=>t.n==un) with
 | none=>exact absurd (List.find?_eq_none.1 hf p hp') (by simp [hpn])
 | some p2 =>
  refine⟨p2,List.mem_of_find?_eq_some hf,by simpa using List.find?_some hf,?_⟩;unfold Zw;rw [hf]
theorem Tryz.Xpf (B:Nat) (k:Blk) (vx:VX) (tm:Int) (s:VSt) (c:List UInt8) (l f:Int) (rb:Nat) (fl:Int) (v:Value) (xs:List Value) (q:List Xc) (w:World) (h:TAt B w k vx tm s c l f rb fl v xs q) (hl:l<0) (hl1 : -999999990<=l) (hf:f<0) (hf1 : -999999990<=f) (hc:c.length<=900000000000) (hx1:xs.length<=1000) (hq1:q.length<=100) (f0:0<=fl) (f1:fl<=18446744073709551615)
  (t:Xc) (it:Item) (tk:Bool) (n un:Nat) (hs:Y8 tm s t it tk n un) (hT:Ja s) (hQ:QOk tm s (t :: q)) (hmin:∀ u∈q,¬ ltT u t) (h0:tk=true->n≠0) (h50:s.tks.length+s.lks.length<=50) (trT:∀ x∈s.tks,0<=x.tr/\x.tr<1000000000) (trL:∀ x∈s.lks,0<=x.tr/\x.tr<1000000000) (cl:List (Int × Nat)) :
  Calls prog 77 #[.pointer (some ⟨k.vb,0,none⟩),nmV (kdB tk,(n:Int))] w fun e w'=>e=.returned .nilIface/\∃ vx' v' b,Jy tm ⟨s,t :: q,fl,c,cl⟩ b/\b.cl=cl ++ [(kdB tk,n)]/\TAt B w' k vx' tm b.s b.c (l-2) (f-2) rb b.fl v' (xs ++ [.string ⟨(nmStr (kdB tk) n).toArray⟩]) b.q/\vx'.tk=vx.tk/\(∀ g,v'.ownBlock=some g->v.ownBlock=some g\/w.heap.size<=g)/\(∀ d,vx'.due.ownBlock=some d->vx.due.ownBlock=some d\/w.heap.size<=d)/\Spares (X2 k rb v vx.due) w w':=by
 have t0:=h.wh.v.t0;have t1:=h.wh.v.t1;obtain⟨hfit,hn⟩:=hs.fits h.wh.v.va.ok h.wh.v.okT h.wh.v.okL h50 t0 t1 trT trL
 by_cases ho:(fl % 2==1)=true
 ·refine(Xmw B k vx tm s c l f rb fl v xs q w h hl hl1 hf hf1 hc hx1 f0 f1 ho (kdB tk) n hn 1 un it hfit (fun W hV=>Xaq hs W hV) (fun W hV=>Xgy hs t0 t1 (fun x hx=>⟨(trT x hx).1,by have:=(trT x hx).2;omega⟩) (fun x hx=>⟨(trL x hx).1,by have:=(trL x hx).2;omega⟩) W hV)).mono ?_
  rintro e w' ⟨rfl,g,cap,hA,hg,hS⟩;refine⟨rfl,vx,_,_,.fail (a:=⟨s,t :: q,fl,c,cl⟩) hs (List.Perm.refl _) hmin ho (List.Perm.refl _),rfl,hA,rfl,fun g' e=>?_,fun d hd=>.inl hd,hS.mono (fun b hb=>?_)⟩
  ·have e:g=g':=by simpa [Value.ownBlock] using e
   rw [<- e];exact hg
  simp only [X2,List.mem_append,List.mem_cons] at hb ⊢
  rcases hb with h | h | h
  ·exact .inl h
  ·exact .inr (.inl h)
  exact .inr (.inr (.inl h))
 have ho:(fl % 2==1)=false:=by simpa using ho
 obtain⟨p,hp,hpn,hadd⟩:=hs.up hT hQ h0;subst hpn;refine(tryOk B k vx tm s c l f rb fl v xs q w h hl hl1 hf hf1 hc hx1 hq1 f0 f1 ho tk (kdB tk) rfl n hn 1 p.n p.ak p.au p.at_ p.tr p.pd _ rfl (fun W hV=>Xaq hs W hV) (fun W hV=>hV.Xmn hp) _ rfl (Zw ((Item.gone tk n).app s) tm p.n) hadd).mono ?_;rintro e w' ⟨rfl,g,cap,vx',ys,hA,h1,h2,hg,hd,hS⟩;refine⟨rfl,vx',_,_,.ok (a:=⟨s,t :: q,fl,c,cl⟩) hs (List.Perm.refl _) hmin ho h2,rfl,hA,h1,fun g' e=>?_,hd,hS⟩
 have e:g=g':=by simpa [Value.ownBlock] using e
 rw [<- e];exact hg
end Go.Proofs
namespace Go.Proofs
open Go.RowKit Go.Sort Go.Lib Go.Shelf Go.Maps Go.WideMaps
theorem Xfm {W:World} {base size:Nat} {v:Value} {e:TypeId} (h:W.ownsRow base e size v 0 []):v=.slice none 0 0\/∃ g cap,v=.slice (some ⟨g,0,none⟩) 0 cap:=by
 obtain⟨h1,⟨e1,-⟩ | ⟨g,cap,cur,e1,e2,e3,e4⟩⟩:=h
 ·exact .inl e1
 exact .inr ⟨g,cap,e1⟩
theorem Xew {W:World} {base size n:Nat} {v:Value} {e:TypeId} {xs:List Value} (h:W.ownsRow base e size v n xs) (hn:0<n):∃ g cap,v=.slice (some ⟨g,0,none⟩) n cap:=by
 obtain⟨h1,⟨e1,e2⟩ | ⟨g,cap,cur,e1,e2,e3,e4⟩⟩:=h
 ·omega
 exact⟨g,cap,e1⟩
theorem Tryz.Xli (B:Nat) (k:Blk) (vx:VX) (tm:Int) (s:VSt) (c:List UInt8) (l f:Int) (rb:Nat) (fl:Int) (v:Value) (xs:List Value) (q:List Xc) (w:World) (h:TAt B w k vx tm s c l f rb fl v xs q) (hq1:q.length<=100) :
  Calls prog 76 #[.pointer (some ⟨k.vb,8,none⟩)] w fun e w'=>∃ t ok,e=.returned (.tuple #[.agg t.cells,.bool ok])/\∃ vx' q',TAt B w' k vx' tm s c l f rb fl v xs q'/\(ok=false->q = []/\q' = [])/\(ok=true->(t :: q').Perm q/\∀ u∈q',¬ ltT u t)/\vx'.tk=vx.tk/\vx'.due.ownBlock=vx.due.ownBlock/\Spares (k.vb :: vx.due.ownBlock.toList) w w':=by
 cases q with
 | nil =>
  refine(Xm2 k.vb vx.due w (Xfm h.due) (h.wh.v.va.v.cell 8 rfl)).mono ?_;rintro e w' ⟨rfl,hb⟩;exact⟨⟨0,0,0⟩,false,rfl,vx,[],h.below hb,fun _=>⟨rfl,rfl⟩,fun e=>(by cases e),rfl,rfl,Spares.of_below hb⟩
 | cons a q =>
  obtain⟨g,cap,hd⟩:=Xew h.due (by simp)
  have hqv:QV B k.vb (Yp vx tm k.mt k.ml s.tn s.ln) g cap (a :: q) w:=⟨by rw [<- hd];exact h.wh.v.va.v,by rw [<- hd];exact h.due,by show 8<9;decide⟩
  refine(qPop B k.vb g cap q.length (a :: q) _ w hqv h.hp rfl (by simp at hq1;omega)).mono ?_;rintro e w' ⟨rfl,cap',ys,hq2,hH,hpm,hS⟩
  have hown:vx.due.ownBlock=some g:=by rw [hd];rfl
  have hS':Spares (k.vb :: vx.due.ownBlock.toList) w w':=by rw [hown];exact hS
  have hleast:∀ u∈ys,¬ ltT u (getT (a :: q) 0):=fun u hu=>by
   have hm:=hpm.mem_iff.1 (List.mem_cons_of_mem _ hu);obtain⟨i,hi,e⟩:=List.getElem_of_mem hm;have:=h.hp.root i hi;have hg:getT (a :: q) i=u:=U2 (by rw [List.getElem?_eq_getElem hi,e]);rw [hg] at this;exact this
  exact⟨getT (a :: q) 0,true,rfl,{ vx with due:=.slice (some ⟨g,0,none⟩) ys.length cap' },ys,h.Xai hq2.v rfl rfl h.wh.v.t0 h.wh.v.t1 hq2.row hH hS',(fun e=>by cases e),(fun _=>⟨hpm,hleast⟩),rfl,(by rw [hown];rfl),hS'⟩
end Go.Proofs
namespace Go.Proofs
open Go.RowKit Go.Sort Go.Lib Go.Shelf Go.Maps
def QNz (q:List Xc):Prop:=∀ t∈q,t.k=1->t.n≠0
theorem QNz.perm {q q':List Xc} (h:QNz q) (hp:q'.Perm q):QNz q':=fun t ht=>h t (hp.mem_iff.1 ht)
theorem Xl7 {s:VSt} (hT:Ja s) {tm:Int} {un:Nat}:QNz (Zw s tm un):=fun u hu hk e=>by
 unfold Zw at hu
 split at hu
 ·rename_i p hp
  have hpm:=List.mem_of_find?_eq_some hp;obtain⟨rfl,hpd,-,-⟩:=J2 hu;have e:(p.n:Int)=0:=e;rw [hT.root p hpm (by omega)] at hpd;cases hpd
 cases hu
theorem QNz.start {tm:Int} {s:VSt} (hT:Ja s):QNz (s.tks.flatMap (Yv s tm)++s.lks.flatMap (Zi tm)):=fun u hu hk e=>by
 rcases List.mem_append.1 hu with hu | hu
 ·obtain⟨a,ha,hu⟩:=List.mem_flatMap.1 hu
  obtain⟨rfl,hp,-,-⟩:=J2 hu;have e:(a.n:Int)=0:=e;rw [hT.root a ha (by omega)] at hp;cases hp
 obtain⟨a,ha,hu⟩:=List.mem_flatMap.1 hu;obtain⟨rfl,-⟩:=Uw hu;exact absurd hk (by simp)
def TrB (M:Int) (s:VSt):Prop:=(∀ x∈s.tks,0<=x.tr/\x.tr<=M)/\∀ x∈s.lks,0<=x.tr/\x.tr<=M
theorem Y8.trB {tm:Int} {s:VSt} {t:Xc} {it:Item} {tk:Bool} {n un:Nat} (hs:Y8 tm s t it tk n un) (hT:Ja s) {M:Int} (h:TrB M s):TrB (M+1) (it.app s):=by
 cases hs with
 | tok t hm hk =>
  refine⟨fun x hx=>?_,fun x hx=>?_⟩
  ·rcases Z0 hT.incT hx with rfl | hx
   ·have:=h.1 t hm
    show 0<=t.tr+1/\t.tr+1<=M+1
    omega
   have:=h.1 x hx;omega
  have:=h.2 x hx;omega
 | lea t hm hk =>
  refine⟨fun x hx=>?_,fun x hx=>?_⟩
  ·have:=h.1 x hx;omega
  rcases Jf hT.incL hx with rfl | hx
  ·have:=h.2 t hm
   show 0<=t.tr+1/\t.tr+1<=M+1
   omega
  have:=h.2 x hx;omega
theorem TrB.gone {s:VSt} {M:Int} (h:TrB M s) (tk:Bool) (n:Nat):TrB (M+1) ((Item.gone tk n).app s):=
 ⟨fun x hx=>by have:=h.1 x (Zd hx);omega,fun x hx=>by have:=h.2 x (Zp hx);omega⟩
theorem Vj {tm:Int} (t0:0<=tm) (t1:tm<=18446744073709551615) {it:Item} {s:VSt} (hF:it.Fits s):(keepLine tm [it]).length<=2600:=by
 have hok:∀ r∈nowR tm :: [it].map Item.rec_,r.Ok:=fun r hr=>by
  rcases List.mem_cons.1 hr with rfl | hr
  ·exact⟨show (-9223372036854775808:Int)<=0 by decide,show (0:Int)<=9223372036854775807 by decide,show 0<18446744073709551616 by decide,show 0<18446744073709551616 by decide,t0,t1,show (-9223372036854775808:Int)<=0 by decide,show (0:Int)<=9223372036854775807 by decide,show (0:Int)<=0 by decide,show (0:Int)<=18446744073709551615 by decide,show 0<=1000 by decide⟩
  exact(Yn.ok (is:=[it]) (s:=s) ⟨hF,trivial⟩ r hr).1
 have h1:=Y1 _ hok;have h2:=Mw (recTxt (nowR tm :: [it].map Item.rec_)) (by simp at h1 ⊢;omega);unfold keepLine recLine;simp at h1 h2 ⊢;omega
structure Xdn (tm:Int) (M:Int) (a:TS):Prop where
 tree:Ja a.s
 q:QOk tm a.s a.q
 nz:QNz a.q
 tr:TrB M a.s
 f0:0<=a.fl
 f1:a.fl<=18446744073709551615
theorem Jy.going {tm M:Int} {a b:TS} (h:Jy tm a b) (hg:Xdn tm M a):Xdn tm (M+1) b/\b.cl.length=a.cl.length+1:=by
 have f0:=hg.f0;have f1:=hg.f1
 cases h with
 | @fail t q' q'' it tk n un hs hp hl ho hq =>
  have hQ:=hg.q.perm hp;have hn:=hg.nz.perm hp;have hkey:=hs.key
  have h0:tk=true->n≠0:=fun e en=>hn t (by simp) (by rw [hkey.1,e];rfl) (by rw [hkey.2,en];rfl)
  exact⟨⟨hg.tree.failed hs h0,(hQ.failed hg.tree hs).perm hq,QNz.perm (fun u hu=>hn u (List.mem_cons_of_mem _ hu)) hq,hs.trB hg.tree hg.tr,show 0<=a.fl / 2 by omega,show a.fl / 2<=18446744073709551615 by omega⟩,by simp⟩
 | @ok t q' q'' it tk n un hs hp hl ho hq =>
  have hQ:=hg.q.perm hp;have hn:=hg.nz.perm hp;have hkey:=hs.key;have hT:=hg.tree.gone tk n (fun e=>hQ.nb t (by simp) (by rw [hkey.1,e];rfl) n hkey.2);refine⟨⟨hT,(hQ.gone hg.tree hs).perm hq,QNz.perm (fun u hu=>?_) hq,hg.tr.gone tk n,show 0<=a.fl / 2 by omega,show a.fl / 2<=18446744073709551615 by omega⟩,by simp⟩
  rcases List.mem_append.1 hu with hu | hu
  ·exact hn u (List.mem_cons_of_mem _ hu)
  exact Xl7 hT u hu
theorem Jy.len {tm M:Int} {a b:TS} (h:Jy tm a b) (hg:Xdn tm M a) (hM:M<1000000000) (t0:0<=tm) (t1:tm<=18446744073709551615) (hok:X5 a.s.tks a.s.lks) (okT:∀ t∈a.s.tks,Xbr t) (okL:∀ t∈a.s.lks,Ul t) (h50:a.s.tks.length+a.s.lks.length<=50):b.c.length<=a.c.length+2600:=by
 have hfit:∀ {t:Xc} {it:Item} {tk:Bool} {n un:Nat},Y8 tm a.s t it tk n un->it.Fits a.s/\n<Xj:=fun hs=>hs.fits hok okT okL h50 t0 t1 (fun x hx=>by have:=hg.tr.1 x hx;omega) (fun x hx=>by have:=hg.tr.2 x hx;omega)
 cases h with
 | @fail t q' q'' it tk n un hs hp hl ho hq =>
  have:=Vj t0 t1 (hfit hs).1;simp only [List.length_append];omega
 | @ok t q' q'' it tk n un hs hp hl ho hq =>
  have:=Vj (it:=Item.gone tk n) (s:=a.s) t0 t1 (hfit hs).2;simp only [List.length_append];omega
theorem Jy.count {tm:Int} {a b:TS} (h:Jy tm a b) (ht:Ja a.s):b.s.tks.length+b.s.lks.length<=a.s.tks.length+a.s.lks.length:=by
 cases h with
 | fail hs hp hl ho hq =>
  cases hs with
  | tok t hm hk =>
   have:(Yl (Xdj tm t) a.s.tks).length=a.s.tks.length:=Xav ht.incT hm rfl;simp only [Item.app];omega
  | lea t hm hk =>
   have:(Yf (Vo tm t) a.s.lks).length=a.s.lks.length:=Xan ht.incL hm rfl;simp only [Item.app];omega
 | @ok t q' q'' it tk n un hs hp hl ho hq =>
  have h1:(Y3 tk n a.s.tks).length<=a.s.tks.length:=by unfold Y3;split;exact List.length_filter_le _ _;exact Nat.le_refl _
  have h2:(Zj tk n a.s.lks).length<=a.s.lks.length:=by unfold Zj;split;exact Nat.le_refl _;exact List.length_filter_le _ _
  simp only [Item.app];omega
theorem Jy.Xis {tm:Int} {a b:TS} {q:List Xc} (h:Jy tm ⟨a.s,q,a.fl,a.c,a.cl⟩ b) (hp:q.Perm a.q):Jy tm a b:=by
 cases h with
 | fail hs hp1 hl ho hq=>exact .fail (a:=a) hs (hp1.trans hp) hl ho hq
 | ok hs hp1 hl ho hq=>exact .ok (a:=a) hs (hp1.trans hp) hl ho hq
theorem Jy.qc {tm:Int} {a b:TS} (h:Jy tm a b) (ht:Ja a.s):b.q.length+(b.s.tks.length+b.s.lks.length)<=a.q.length+(a.s.tks.length+a.s.lks.length):=by
 have hc:=h.count ht
 cases h with
 | fail hs hp hl ho hq =>
  have h1:=hp.length_eq;have h2:=hq.length_eq;simp only [List.length_cons] at h1 hc ⊢;omega
 | @ok t q' q'' it tk n un hs hp hl ho hq =>
  have h1:=hp.length_eq;have h2:=hq.length_eq
  have h3:(Zw ((Item.gone tk n).app a.s) tm un).length<=1:=by
   unfold Zw
   split
   ·unfold Yv;split <;> simp
   simp
  rw [List.length_append] at h2;simp only [List.length_cons] at h1 hc ⊢;omega
theorem Xfy {P:Nat->Prop}:∀ n,P n->∃ m,P m/\∀ i,P i->m<=i:=by
 intro n
 induction n using Nat.strongRecOn with
 | ind n ih =>
  intro h
  by_cases hl:∃ m,m<n/\P m
  ·obtain⟨m,hm,hp⟩:=hl
   exact ih m hm hp
  exact⟨n,h,fun i hi=>Nat.le_of_not_lt (fun e=>hl ⟨i,e,hi⟩)⟩
open Classical in
noncomputable def leastOf (P:Nat->Prop):Nat:=if h:∃ m,P m/\∀ i,P i->m<=i then Classical.choose h else 0
theorem leastOf_spec {P:Nat->Prop} (h:∃ n,P n):P (leastOf P):=by
 obtain⟨n,hn⟩:=h;have he:=Xfy n hn;unfold leastOf;rw [dif_pos he];exact(Classical.choose_spec he).1
theorem Xhy {P:Nat->Prop} {n:Nat} (h:P n):leastOf P<=n:=by
 have he:=Xfy n h;unfold leastOf;rw [dif_pos he];exact(Classical.choose_spec he).2 n h
structure Tryz.Xnq (B:Nat) (k:Blk) (tm:Int) (a0:TS) (l f M:Int) (rb Bv:Nat) (v0 due0:Value) (w wr:World) (nb:Nat) (t:Xc) (okb:Bool) (vx:VX) (v:Value) (q:List Xc) (a:TS) (j:Nat):Prop where
 bN:BoxN wr nb 144 t.cells
 nd:vx.due.ownBlock≠some nb
 nw:w.heap.size<=nb
 bB:BoxN wr Bv 76 #[.pointer (some ⟨k.vb,0,none⟩)]
 tat:Tryz.TAt B wr k vx tm a.s a.c (l-2*j) (f-2*j) rb a.fl v (a.cl.map fun p=>.string ⟨(nmStr p.1 p.2).toArray⟩) q
 yes:okb=true->(t :: q).Perm a.q/\∀ u∈q,¬ ltT u t
 no:okb=false->a.q = []/\q = []
 tries:Jq tm a0 a
 going:Xdn tm (M+j) a
 left:j+a.left<=a0.left
 cl:a.cl.length=j
 c:a.c.length<=a0.c.length+2600*j
 n50:a.s.tks.length+a.s.lks.length<=50
 qc:a.q.length+(a.s.tks.length+a.s.lks.length)<=100
 tk:vx.tk=true
 sp:Spares (X2 k rb v0 due0) w wr
 vo:∀ g,v.ownBlock=some g->v0.ownBlock=some g\/w.heap.size<=g
 do_:∀ d,vx.due.ownBlock=some d->due0.ownBlock=some d\/w.heap.size<=d
def Tryz.TkI (B:Nat) (k:Blk) (tm:Int) (a0:TS) (l f M:Int) (rb Bv:Nat) (v0 due0:Value) (w:World) (p o:Value) (wr:World) (n:Nat):Prop:=
 ∃ nb t okb vx v q a j,p=.pointer (some ⟨nb,0,none⟩)/\o=.bool okb/\n=a.left/\Xnq B k tm a0 l f M rb Bv v0 due0 w wr nb t okb vx v q a j
end Go.Proofs
namespace Go.Proofs
open Go.RowKit Go.Sort Go.Lib Go.Shelf Go.Maps Go.WideMaps
theorem Tryz.TAt.aside {B:Nat} {W W':World} {k:Blk} {vx:VX} {tm:Int} {s:VSt} {c:List UInt8} {l f:Int} {rb:Nat} {fl:Int} {v:Value} {xs:List Value} {q:List Xc} (h:TAt B W k vx tm s c l f rb fl v xs q) {nb:Nat} {cs:Array Value} (hN:BoxN W nb 144 cs) (hne:vx.due.ownBlock≠some nb) (h9:9<=nb) (hS:Spares [nb] W W'):TAt B W' k vx tm s c l f rb fl v xs q:=by
 obtain⟨fd,fn,hd,⟨e1,e2⟩,hs1,hs2⟩:=h.sep
 have hq:RvQ W [nb]:=fun b hb=>by
  obtain rfl:=List.mem_singleton.1 hb;exact⟨h9,_,_,hN,.inr (.inr rfl)⟩
 have hV':=hS.box h.wh.v.va.v (fun hm=>h.wh.v.va.v.ne hN (by decide) (List.mem_singleton.1 hm));obtain⟨hW',hD'⟩:=h.wh.reV hd e1 e2 (hS.mono (fun b hb=>List.mem_cons_of_mem _ hb)) hq (fun p hp hm=>(hd.sd p hp).ne hN (by decide) (List.mem_singleton.1 hm)) (fun p hp hm=>(hd.sn p hp).ne hN (by decide) (List.mem_singleton.1 hm)) hV' rfl h.wh.v.t0 h.wh.v.t1
 exact { h with wh:=hW',sep:=⟨fd,fn,hD',⟨e1,e2⟩,hs1,hs2⟩,due:=hS.Jv h.due (fun b hb hm=>by rw [List.mem_singleton.1 hm] at hb;exact hne hb),rbx:=hS.box h.rbx (fun hm=>h.rbx.ne hN (by decide) (List.mem_singleton.1 hm)),row:=hS.Jv h.row (fun b hb hm=>by
   obtain⟨-,cs',hB⟩:=Xn h.row hb
   exact hB.ne hN (by decide) (List.mem_singleton.1 hm)),bw:=Nat.le_trans h.bw hS.size }
theorem Xdz {P:Nat->Prop} (h:∃ n,P n):∃ m,P m/\leastOf P=m:=⟨_,leastOf_spec h,rfl⟩
theorem Tryz.vTick (B:Nat) (k:Blk) (vx:VX) (tm:Int) (s:VSt) (c:List UInt8) (l f:Int) (rb:Nat) (fl:Int) (v:Value) (w:World) (h:TAt B w k vx tm s c l f rb fl v [] []) (htk:vx.tk=false) (hT:Ja s) (h50:s.tks.length+s.lks.length<=50) (M:Int) (hM:M<=900000000) (hMB:TrB M s) (hl:l<0) (hl1 : -900000000<=l) (hf:f<0) (hf1 : -900000000<=f) (hc:c.length<=890000000000) (fl0:0<=fl) (fl1:fl<=18446744073709551615) (now:Int) (hn0:0<=now) (hn1:now<=18446744073709551615) :
  Calls prog 46 #[.pointer (some ⟨k.vb,0,none⟩),.int .u64 now] w fun e w'=>e=.returned .nilIface/\∃ vx' v' b l' f',Jq (max tm now) ⟨s,s.tks.flatMap (Yv s (max tm now))++s.lks.flatMap (Zi (max tm now)),fl,c,[]⟩ b/\b.q = []/\TAt B w' k vx' (max tm now) b.s b.c l' f' rb b.fl v' (b.cl.map fun p=>.string ⟨(nmStr p.1 p.2).toArray⟩) []/\vx'.tk=false/\Xdn (max tm now) (M+b.cl.length) b/\(b.cl.length<=150/\b.c.length<=c.length+2600*b.cl.length/\b.s.tks.length+b.s.lks.length<=50)/\Spares (X2 k rb v vx.due) w w':=by
 obtain⟨a0,ha0⟩:∃ a0,a0=(⟨s,s.tks.flatMap (Yv s (max tm now))++s.lks.flatMap (Zi (max tm now)),fl,c,[]⟩:TS):=⟨_,rfl⟩
 rw [<- ha0];have lv:=h.wh.v.va.v.lt;have t0:=h.wh.v.t0;have t1:=h.wh.v.t1
 have hmf:∀(fn:Fn) (first cap:Array Value) (w:World),(Instr.makeFunc fn first cap).run prog w=.ok (.func fn first cap) w:=fun _ _ _ _=>rfl
 have bV0:=h.wh.v.va.v;have c1:=bV0.cell 2 (v:=.int .u64 tm) rfl;have f1:=bV0.frozen 2
 have h0':0<=max tm now:=by omega
 have h1':max tm now<=18446744073709551615:=by omega
 have bV1:BoxN ((w.setCell ⟨k.vb,2,none⟩ (.int .u64 (max tm now))).alloc (.cells #[.pointer (some ⟨k.vb,0,none⟩)] 76)).drew k.vb 126 (Yp vx (max tm now) k.mt k.ml s.tn s.ln):=(bV0.set 2 (.int .u64 (max tm now))).alloc _
 have bB1:BoxN ((w.setCell ⟨k.vb,2,none⟩ (.int .u64 (max tm now))).alloc (.cells #[.pointer (some ⟨k.vb,0,none⟩)] 76)).drew w.heap.size 76 #[.pointer (some ⟨k.vb,0,none⟩)]:=by
  have h:BoxN ((w.setCell ⟨k.vb,2,none⟩ (.int .u64 (max tm now))).alloc (.cells #[.pointer (some ⟨k.vb,0,none⟩)] 76)) w.heap.size 76 #[.pointer (some ⟨k.vb,0,none⟩)]:=by simpa using BoxN.new (w.setCell ⟨k.vb,2,none⟩ (.int .u64 (max tm now))) 76 #[.pointer (some ⟨k.vb,0,none⟩)]
  exact h
 have hS1:Spares [k.vb] w ((w.setCell ⟨k.vb,2,none⟩ (.int .u64 (max tm now))).alloc (.cells #[.pointer (some ⟨k.vb,0,none⟩)] 76)).drew:=(((Spares.of_below (Below.refl _ w)).set (by simp) _ _).alloc _).drew
 have hnd:∀ b,vx.due.ownBlock=some b->b≠k.vb:=fun b hb e=>by
  obtain⟨-,cs,h2⟩:=Xn h.due hb;exact h2.ne bV0 (by decide) e
 go_enter_defers func46,ntmps46
 go_wp2_with fail
 go_region
 generalize ((w.setCell ⟨k.vb,2,none⟩ (.int .u64 (max tm now))).alloc (.cells #[.pointer (some ⟨k.vb,0,none⟩)] 76)).drew=W1 at *;have hw1:=hS1.size;have h1:TAt B W1 k vx (max tm now) s c l f rb fl v [] []:=h.Xai bV1 rfl rfl h0' h1' (hS1.Jv h.due (fun b hb hm=>hnd b hb (List.mem_singleton.1 hm))) h.hp (hS1.mono (by simp));generalize htm':max tm now=tm' at *;have HTM:=Xb htm';clear htm'
 have hne:w.heap.size≠k.vb:=by omega
 have c6:=bV1.cell 7 (v:=.bool false) (by rw [<- htk];rfl);have f6:=bV1.frozen 7;have cB1:=bB1.cell 0 (v:=.pointer (some ⟨k.vb,0,none⟩)) rfl;have bV2:BoxN (W1.setCell ⟨k.vb,7,none⟩ (.bool true)) k.vb 126 (Yp { vx with tk:=true } tm' k.mt k.ml s.tn s.ln):=bV1.set 7 (.bool true);have bB2:=bB1.other hne 7 (.bool true);have cB2:=bB2.cell 0 (v:=.pointer (some ⟨k.vb,0,none⟩)) rfl;have hS2:Spares [k.vb] W1 (W1.setCell ⟨k.vb,7,none⟩ (.bool true)):=(Spares.of_below (Below.refl _ W1)).set (by simp) _ _;have h2:TAt B (W1.setCell ⟨k.vb,7,none⟩ (.bool true)) k { vx with tk:=true } tm' s c l f rb fl v [] []:=h1.Xai bV2 rfl rfl h0' h1' (hS2.Jv h1.due (fun b hb hm=>hnd b hb (List.mem_singleton.1 hm))) h1.hp (hS2.mono (by simp));have hQ:=callsIn_wide.1 (Xkz B k { vx with tk:=true } tm' s c l f rb fl v [] _ h2 h50)
 have hq100:∀ q:List Xc,q.Perm (s.tks.flatMap (Yv s tm')++s.lks.flatMap (Zi tm'))->q.length<=100:=fun q hq=>by
  have e1:=hq.length_eq;have e2:=Y0 (Yv s tm') (fun x=>by unfold Yv;split <;> simp) s.tks;have e3:=Y0 (Zi tm') (fun x=>by unfold Zi;split <;> simp) s.lks;rw [List.length_append] at e1;omega
 have hnds:∀ {b:Nat},b∈k.vb :: vx.due.ownBlock.toList->b∈X2 k rb v vx.due:=fun {b} hb=>by
  simp only [X2,Blk.turns,List.mem_append,List.mem_cons] at hb ⊢
  rcases hb with e | e
  ·exact .inl (.inl e)
  exact .inr (.inr (.inr e))
 have hS02:Spares (X2 k rb v vx.due) w (W1.setCell ⟨k.vb,7,none⟩ (.bool true)):=(hS1.mono (fun b hb=>hnds (by rw [List.mem_singleton.1 hb];simp))).trans (hS2.mono (fun b hb=>hnds (by rw [List.mem_singleton.1 hb];simp)));have hz2:w.heap.size<=(W1.setCell ⟨k.vb,7,none⟩ (.bool true)).heap.size:=hS02.size
 go_wp2_with (first
  | (go_at_call 75;refine hQ.mono ?_;rintro e W3 ⟨rfl,vx3,q3,hp3,h3,htk3,hj3,hd3,hs3⟩;have bB3:=hs3.box bB2 (fun hm=>by
    rcases List.mem_cons.1 hm with e | hm
    ·exact hne e
    obtain⟨-,cs,hB⟩:=Xn h2.due (by simpa using hm)
    exact bB2.ne hB (by decide) rfl);have cB3:=bB3.cell 0 (v:=.pointer (some ⟨k.vb,0,none⟩)) rfl;have hPop:=Xli B k vx3 tm' s c l f rb fl v [] q3 W3 h3 (hq100 q3 hp3);have HS3:=Xb (And.intro hd3 hs3);clear hd3 hs3)
  | (go_at_call 76;refine hPop.mono ?_;rintro e W4 ⟨⟨y1,y2,y3⟩,ok,rfl,vx4,q4,h4,hok0,hok1,htk4,hd4,hs4⟩;simp only [Xc.cells] ))
 obtain⟨hd3,hs3⟩:=Xa HS3
 have hd3':∀ d,vx3.due.ownBlock=some d->vx.due.ownBlock=some d\/w.heap.size<=d:=fun d hd=>(hd3 d hd).imp id (fun h=>Nat.le_trans hz2 h)
 have hS03:Spares (X2 k rb v vx.due) w W3:=hS02.trans (hs3.mono (fun b hb=>hnds hb))
 have hS04:Spares (X2 k rb v vx.due) w W4:=by
  have h:=(hS03.mono (bs':=X2 k rb v vx.due++(k.vb :: vx3.due.ownBlock.toList)) (fun b hb=>List.mem_append_left _ hb)).trans (hs4.mono (fun b hb=>List.mem_append_right _ hb));refine h.shed (fun b hb=>?_)
  rcases List.mem_append.1 hb with hb | hb
  ·exact .inl hb
  rcases List.mem_cons.1 hb with rfl | hb
  ·exact .inl (hnds (by simp))
  exact(hd3' b (by simpa using hb)).imp (fun e=>hnds (List.mem_cons_of_mem _ (by simpa using e))) id
 have hz4:=hS04.size
 have bB4:=hs4.box bB3 (fun hm=>by
  rcases List.mem_cons.1 hm with e | hm
  ·exact hne e
  obtain⟨-,cs,hB⟩:=Xn h3.due (by simpa using hm)
  exact bB3.ne hB (by decide) rfl)
 have hdlt:∀ d,vx4.due.ownBlock=some d->d<W4.heap.size:=fun d hd=>by
  obtain⟨-,cs,hB⟩:=Xn h4.due hd;exact hB.lt
 have hB5:Below W4.heap.size W4 (W4.alloc (.cells #[.int .u64 y1,.int .i64 y2,.int .u64 y3] 144)):=(Below.refl _ W4).alloc (Nat.le_refl _) _
 have hq0:(s.tks.flatMap (Yv s tm')++s.lks.flatMap (Zi tm')).length<=s.tks.length+s.lks.length:=by
  have e2:=Y0 (Yv s tm') (fun x=>by unfold Yv;split <;> simp) s.tks;have e3:=Y0 (Zi tm') (fun x=>by unfold Zi;split <;> simp) s.lks;rw [List.length_append];omega
 have hleft0:a0.left<=150:=by rw [ha0];unfold TS.left;simp only;omega
 have hst:∃ n,TkI B k tm' a0 l f M rb w.heap.size v vx.due w (.pointer (some ⟨W4.heap.size,0,none⟩)) (.bool ok) (W4.alloc (.cells #[.int .u64 y1,.int .i64 y2,.int .u64 y3] 144)) n:=by
  refine⟨a0.left,W4.heap.size,⟨y1,y2,y3⟩,ok,vx4,v,q4,a0,0,rfl,rfl,rfl,?_⟩;refine { bN:=BoxN.new W4 144 _,nd:=fun e=>by have:=hdlt _ e;omega,nw:=hz4,bB:=bB4.alloc _,tat:=?_,yes:=fun e=>?_,no:=fun e=>?_,tries:=.refl _,going:=?_,left:=by omega,cl:=by rw [ha0];rfl,c:=by omega,n50:=by rw [ha0];exact h50,qc:=by rw [ha0];simp only;omega,tk:=by rw [htk4,htk3],sp:=hS04.trans (Spares.of_below hB5),vo:=fun g hg=>.inl hg,do_:=fun d hd=>hd3' d (by rw [<- hd4];exact hd) }
  ·rw [ha0]
   have h5:=h4.below hB5
   simpa using h5
  ·obtain⟨o1,o2⟩:=hok1 e
   rw [ha0];exact⟨o1.trans hp3,o2⟩
  ·obtain⟨o1,o2⟩:=hok0 e
   rw [ha0];refine⟨?_,o2⟩;rw [o1] at hp3;exact List.Perm.eq_nil hp3.symm
  rw [ha0];exact⟨hT,QOk.start hT,QNz.start hT,by simpa using hMB,fl0,fl1⟩
 have hlow:∀ b∈X2 k rb v vx.due,True:=fun _ _=>trivial
 have HN:=Xb (And.intro @hnds (And.intro lv (And.intro h.b9 h.bw)));clear hlow hq0 hB5 hdlt bB4 hz4 hS04 hS03 hd3' hd3 hs3 HS3 hs4 hd4 htk4 hok0 hok1 h4 hPop cB3 bB3 hj3 htk3 h3 hp3 hz2 hS02 hnds hq100 hQ h2 hS2 cB2 bB2 bV2 cB1 f6 c6 h1 bB1 bV1 hS1 hw1 hT hMB;generalize W4.heap.size=nb0 at *
 go_loopw [5,6] (fun p o wr=>∃ n,TkI B k tm' a0 l f M rb w.heap.size v vx.due w p o wr n) (fun p o wr=>leastOf (TkI B k tm' a0 l f M rb w.heap.size v vx.due w p o wr))
 case atStart=>exact hst
 case round =>
  clear hst;obtain⟨m,hm,hme⟩:=Xdz hrel;clear hrel;have HM:=Xb hme;clear hme;obtain⟨nb,t,okb,vx1,v1,q1,a,j,rfl,rfl,hmn,hR⟩:=hm;obtain⟨hnds,lv,hb9,hbw⟩:=Xa HN
  have hj:j<=150:=by have:=hR.left;omega
  have cB:=hR.bB.cell 0 (v:=.pointer (some ⟨k.vb,0,none⟩)) rfl
  cases okb with
  | false =>
   obtain⟨haq,hq0⟩:=hR.no rfl;subst hq0;have bV:=hR.tat.wh.v.va.v;go_wp2;refine leaves_cons (f:=73) (args:=#[.pointer (some ⟨w.heap.size,0,none⟩)]) (by simp) (by simp [invoke,go_sem]) ?_;refine(Xpb k.vb w.heap.size vx1.due (.bool true) .returning wr (Xfm hR.tat.due) cB (by rw [<- hR.tk];exact bV.cell 7 rfl) (bV.frozen 7) (bV.cell 8 rfl) (bV.frozen 8) hne).mono ?_;rintro e u' w'' ⟨rfl,rfl,rfl⟩;have bV2:BoxN ((wr.setCell ⟨k.vb,7,none⟩ (.bool false)).setCell ⟨k.vb,8,none⟩ vx1.due) k.vb 126 (Yp { vx1 with tk:=false } tm' k.mt k.ml a.s.tn a.s.ln):=(bV.set 7 (.bool false)).set 8 vx1.due;have hS2:Spares [k.vb] wr ((wr.setCell ⟨k.vb,7,none⟩ (.bool false)).setCell ⟨k.vb,8,none⟩ vx1.due):=((Spares.of_below (Below.refl _ wr)).set (by simp) _ _).set (by simp) _ _
   have hA2:=hR.tat.Xai bV2 rfl rfl hR.tat.wh.v.t0 hR.tat.wh.v.t1 (hS2.Jv hR.tat.due (fun b hb hm=>by
    obtain⟨-,cs,hB⟩:=Xn hR.tat.due hb
    exact hB.ne bV (by decide) (List.mem_singleton.1 hm))) hR.tat.hp (hS2.mono (by simp))
   have hcl:=hR.cl;have hgo:=hR.going;have hc2:=hR.c;rw [<- hcl] at hgo hc2;have htm':=Xa HTM;subst htm';exact⟨_,results_tmp rfl _ _ _,rfl,{ vx1 with tk:=false },v1,a,_,_,hR.tries,haq,hA2,rfl,hgo,⟨by omega,by rw [ha0] at hc2;exact hc2,hR.n50⟩,hR.sp.trans (hS2.mono (fun b hb=>hnds (by rw [List.mem_singleton.1 hb];simp)))⟩
  | true =>
   obtain⟨hpm,hmin⟩:=hR.yes rfl;have hQ:=hR.going.q.perm hpm;have hNz:=hR.going.nz.perm hpm;obtain⟨it,tk,n,un,hs⟩:=hQ.ex t (by simp);obtain⟨hk1,hk2⟩:=hs.key;have hcl:=hR.cl;have hcc:=hR.c;have hqc:=hR.qc;have hql:=hpm.length_eq;simp only [List.length_cons] at hql
   have hc0:a0.c.length=c.length:=by rw [ha0]
   have hTry:=Xpf B k vx1 tm' a.s a.c (l-2*j) (f-2*j) rb a.fl v1 _ q1 wr hR.tat (by omega) (by omega) (by omega) (by omega) (by omega) (by rw [List.length_map];omega) (by omega) hR.going.f0 hR.going.f1 t it tk n un hs hR.going.tree hQ hmin (fun e en=>hNz t (by simp) (by rw [hk1,e];rfl) (by rw [hk2,en];rfl)) hR.n50 (fun x hx=>by have:=hR.going.tr.1 x hx;omega) (fun x hx=>by have:=hR.going.tr.2 x hx;omega) a.cl;have bN:=hR.bN;obtain⟨y1,y2,y3⟩:=t;simp only at hk1 hk2;subst hk1 hk2;simp only [Xc.cells] at bN;unfold nmV at hTry;have n0:=bN.cell 0 (v:=.int .u64 y1) rfl;have n1:=bN.cell 1 (v:=.int .i64 (kdB tk)) rfl;have n2:=bN.cell 2 (v:=.int .u64 (n:Int)) rfl
   have hnt:nb∉X2 k rb v1 vx1.due:=fun hm=>by
    simp only [X2,List.mem_append,List.mem_cons] at hm
    rcases hm with hm | e | e | e
    ·exact hR.tat.wh.no bN (by decide) (by decide) hm
    ·exact bN.ne hR.tat.rbx (by decide) e
    ·obtain⟨-,cs,hB⟩:=Xn hR.tat.row (g:=nb) (by simpa using e)
     exact bN.ne hB (by decide) rfl
    exact hR.nd (by simpa using e)
   have hBt:w.heap.size∉X2 k rb v1 vx1.due:=fun hm=>by
    simp only [X2,List.mem_append,List.mem_cons] at hm
    rcases hm with hm | e | e | e
    ·exact hR.tat.wh.no hR.bB (by decide) (by decide) hm
    ·exact hR.bB.ne hR.tat.rbx (by decide) e
    ·obtain⟨-,cs,hB⟩:=Xn hR.tat.row (g:=w.heap.size) (by simpa using e)
     exact hR.bB.ne hB (by decide) rfl
    obtain⟨-,cs,hB⟩:=Xn hR.tat.due (g:=w.heap.size) (by simpa using e);exact hR.bB.ne hB (by decide) rfl
   have hfresh:∀(W:World) {vxa:VX} {sa:VSt} {ca:List UInt8} {la fa:Int} {fla:Int} {va:Value} {xsa:List Value} {qa:List Xc},TAt B W k vxa tm' sa ca la fa rb fla va xsa qa->True->W.heap.size∉k.vb :: vxa.due.ownBlock.toList:=fun W _ _ _ _ _ _ _ _ _ hA _ hm=>by
    rcases List.mem_cons.1 hm with e | hm
    ·have:=hA.wh.v.va.v.lt;omega
    obtain⟨-,cs,hB⟩:=Xn hA.due (g:=W.heap.size) (by simpa using hm);have:=hB.lt;omega
   have hvbl:True:=trivial;have HR:=Xb hR;have HX:=Xb (And.intro hpm (And.intro hs (And.intro hQ hmin)));have bB:=hR.bB;clear hR hpm hQ hNz hs hmin
   go_wp2_with (first
    | (go_at_call 77;refine hTry.mono ?_;rintro e w6 ⟨rfl,vx6,v6,b,hT1,hbcl,hA6,htk6,hv6,hd6,hs6⟩;have bN6:=hs6.box bN hnt;have bB6:=hs6.box bB hBt;have m0:=bN6.cell 0 (v:=.int .u64 y1) rfl;have m1:=bN6.cell 1 (v:=.int .i64 (kdB tk)) rfl;have m2:=bN6.cell 2 (v:=.int .u64 (n:Int)) rfl;have hA7:=hA6.below ((Below.refl _ w6).alloc (Nat.le_refl _) (.cells #[.int .u64 y1,.int .i64 (kdB tk),.int .u64 (n:Int)] 144));have cB7:=(bB6.alloc (.cells #[.int .u64 y1,.int .i64 (kdB tk),.int .u64 (n:Int)] 144)).cell 0 (v:=.pointer (some ⟨k.vb,0,none⟩)) rfl;have hPop:=Xli B k vx6 tm' b.s b.c _ _ rb b.fl v6 _ b.q _ hA7 (by have:=(hT1.Xis (Xa HX).1).qc (Xa HR).going.tree;omega);have HS6:=Xb (And.intro hs6 (And.intro hv6 hd6));clear hs6 hv6 hd6)
    | (go_at_call 76;refine hPop.mono ?_;rintro e w8 ⟨⟨z1,z2,z3⟩,ok8,rfl,vx8,q8,h8,hok0,hok1,htk8,hd8,hs8⟩;have bN8:=hs8.box (BoxN.new w6 144 #[.int .u64 y1,.int .i64 (kdB tk),.int .u64 (n:Int)]) (hfresh w6 hA6 hvbl);have r0:=bN8.cell 0 (v:=.int .u64 y1) rfl;have r1:=bN8.cell 1 (v:=.int .i64 (kdB tk)) rfl;have r2:=bN8.cell 2 (v:=.int .u64 (n:Int)) rfl;have fz0:=bN8.frozen 0;have fz1:=bN8.frozen 1;have fz2:=bN8.frozen 2;simp only [Xc.cells]))
   obtain⟨hs6,hv6,hd6⟩:=Xa HS6;have hR:=Xa HR;obtain⟨hpm,hs,hQ,hmin⟩:=Xa HX;have hTr:=hT1.Xis hpm;obtain⟨hgo,hcl2⟩:=hTr.going hR.going;have hcnt:=hTr.count hR.going.tree;have hqc2:=hTr.qc hR.going.tree;have hless:=hTr.less hR.going.tree;have hlen:=hTr.len hR.going (by omega) hR.tat.wh.v.t0 hR.tat.wh.v.t1 hR.tat.wh.v.va.ok hR.tat.wh.v.okT hR.tat.wh.v.okL hR.n50;have hz6:=hs6.size;have hzr:=hR.sp.size;have hleft:=hR.left
   have hd8lt:∀ d,vx8.due.ownBlock=some d->d<w6.heap.size:=fun d hd=>by
    rw [hd8] at hd;obtain⟨-,cs,hB⟩:=Xn hA6.due hd;exact hB.lt
   have bN9:=((bN8.set 0 (.int .u64 z1)).set 1 (.int .i64 z2)).set 2 (.int .u64 z3);have hS9:Spares [w6.heap.size] w8 (((w8.setCell ⟨w6.heap.size,0,none⟩ (.int .u64 z1)).setCell ⟨w6.heap.size,1,none⟩ (.int .i64 z2)).setCell ⟨w6.heap.size,2,none⟩ (.int .u64 z3)):=(((Spares.of_below (Below.refl _ w8)).set (by simp) _ _).set (by simp) _ _).set (by simp) _ _;have h9:=h8.aside bN8 (fun e=>by have:=hd8lt _ e;omega) (by omega) hS9
   have bB8:=hs8.box (bB6.alloc (.cells #[.int .u64 y1,.int .i64 (kdB tk),.int .u64 (n:Int)] 144)) (fun hm=>by
    rcases List.mem_cons.1 hm with e | hm
    ·exact hne e
    obtain⟨-,cs,hB⟩:=Xn hA6.due (g:=w.heap.size) (by simpa using hm)
    exact bB6.ne hB (by decide) rfl)
   have bB9:=hS9.box bB8 (fun hm=>by have:=List.mem_singleton.1 hm;have:=bB6.lt;omega)
   have hvn:∀ g,v6.ownBlock=some g->v.ownBlock=some g\/w.heap.size<=g:=fun g hg=>by
    rcases hv6 g hg with e | e
    ·exact hR.vo g e
    exact .inr (by omega)
   have hdn:∀ d,vx6.due.ownBlock=some d->vx.due.ownBlock=some d\/w.heap.size<=d:=fun d hd=>by
    rcases hd6 d hd with e | e
    ·exact hR.do_ d e
    exact .inr (by omega)
   have hspn:Spares (X2 k rb v vx.due) w (((w8.setCell ⟨w6.heap.size,0,none⟩ (.int .u64 z1)).setCell ⟨w6.heap.size,1,none⟩ (.int .i64 z2)).setCell ⟨w6.heap.size,2,none⟩ (.int .u64 z3)):=by
    have q1:=hR.sp.mono (bs':=X2 k rb v vx.due++(X2 k rb v1 vx1.due++(k.vb :: vx6.due.ownBlock.toList ++ [w6.heap.size]))) (fun b hb=>List.mem_append_left _ hb);have q2:=hs6.mono (bs':=X2 k rb v vx.due++(X2 k rb v1 vx1.due++(k.vb :: vx6.due.ownBlock.toList ++ [w6.heap.size]))) (fun b hb=>List.mem_append_right _ (List.mem_append_left _ hb));have q3:=hs8.mono (bs':=X2 k rb v vx.due++(X2 k rb v1 vx1.due++(k.vb :: vx6.due.ownBlock.toList ++ [w6.heap.size]))) (fun b hb=>List.mem_append_right _ (List.mem_append_right _ (List.mem_append_left _ hb)));have q4:=hS9.mono (bs':=X2 k rb v vx.due++(X2 k rb v1 vx1.due++(k.vb :: vx6.due.ownBlock.toList ++ [w6.heap.size]))) (fun b hb=>List.mem_append_right _ (List.mem_append_right _ (List.mem_append_right _ hb)));refine((((q1.trans q2).alloc _).trans q3).trans q4).shed (fun b hb=>?_)
    rcases List.mem_append.1 hb with hb | hb
    ·exact .inl hb
    rcases List.mem_append.1 hb with hb | hb
    ·simp only [X2,List.mem_append,List.mem_cons] at hb ⊢
     rcases hb with hb | hb | hb | hb
     ·exact .inl (.inl hb)
     ·exact .inl (.inr (.inl hb))
     ·exact(hR.vo b (by simpa using hb)).imp (fun e=>.inr (.inr (.inl (by simpa using e)))) id
     exact(hR.do_ b (by simpa using hb)).imp (fun e=>.inr (.inr (.inr (by simpa using e)))) id
    rcases List.mem_append.1 hb with hb | hb
    ·rcases List.mem_cons.1 hb with rfl | hb
     ·exact .inl (hnds (by simp))
     exact(hdn b (by simpa using hb)).imp (fun e=>hnds (List.mem_cons_of_mem _ (by simpa using e))) id
    exact .inr (by rw [List.mem_singleton.1 hb];omega)
   have hnext:TkI B k tm' a0 l f M rb w.heap.size v vx.due w (.pointer (some ⟨w6.heap.size,0,none⟩)) (.bool ok8) (((w8.setCell ⟨w6.heap.size,0,none⟩ (.int .u64 z1)).setCell ⟨w6.heap.size,1,none⟩ (.int .i64 z2)).setCell ⟨w6.heap.size,2,none⟩ (.int .u64 z3)) b.left:=by
    refine⟨w6.heap.size,⟨z1,z2,z3⟩,ok8,vx8,v6,q8,b,j+1,rfl,rfl,rfl,?_⟩
    have ej:∀ x:Int,x-2*((j+1:Nat):Int)=x-2*(j:Int)-2:=fun x=>by omega
    refine { bN:=by simpa [Xc.cells] using bN9,nd:=fun e=>by have:=hd8lt _ e;omega,nw:=by omega,bB:=bB9,tat:=?_,yes:=hok1,no:=hok0,tries:=.step hR.tries hTr,going:=?_,left:=by omega,cl:=by rw [hcl2,hR.cl],c:=by rw [Nat.mul_succ,<- Nat.add_assoc];exact Nat.le_trans hlen (Nat.add_le_add_right hcc _),n50:=Nat.le_trans hcnt hR.n50,qc:=by omega,tk:=by rw [htk8,htk6,hR.tk],sp:=hspn,vo:=hvn,do_:=fun d hd=>hdn d (by rw [<- hd8];exact hd) }
    ·rw [ej,ej,hbcl,List.map_append]
     exact h9
    have e:M+((j+1:Nat):Int)=M+(j:Int)+1:=by omega
    rw [e];exact hgo
   exact⟨⟨_,hnext⟩,by
    have:=Xhy hnext;have:=Xa HM
    omega⟩
abbrev Tryz.Xgu (hb rb:Nat) (c:Value) (W:World):Prop:=W.cell? ⟨hb,1,none⟩=some (.pointer (some ⟨rb,0,none⟩))/\W.cell? ⟨rb,0,none⟩=some c
def Mx (k:Blk) (rb:Nat) (due:Value):List Nat:=X2 k rb (.slice none 0 0) due
theorem Tryz.Xob (B hb rb:Nat) (σ:SS) (w:World) (hS:Sys B w hb rb σ) (hbw:B<=w.heap.size) (hTr:Ja σ.s) (h50:σ.s.tks.length+σ.s.lks.length<=50) (M:Int) (hM:M<=900000000) (hMB:TrB M σ.s) (hc:σ.c.length<=890000000000) (f now:Int) (f0:0<=f) (f1:f<=18446744073709551615) (hn0:0<=now) (hn1:now<=18446744073709551615) (cc dd:Int) :
  Calls prog 22 #[.pointer (some ⟨hb,0,none⟩),.int .u64 now,.int .u64 f,Ya (-1) (-1) cc dd] w fun e w'=>∃ vx' v' b,e=.returned (.tuple #[v',.int .i64 0])/\Jq (max σ.tm now) ⟨σ.s,σ.s.tks.flatMap (Yv σ.s (max σ.tm now))++σ.s.lks.flatMap (Zi (max σ.tm now)),f,σ.c,[]⟩ b/\b.q = []/\Sys B w' hb rb ⟨σ.k,vx',max σ.tm now,b.s,b.c⟩/\w'.ownsRow B 9 1 v' b.cl.length (b.cl.map fun p=>.string ⟨(nmStr p.1 p.2).toArray⟩)/\Xdn (max σ.tm now) (M+b.cl.length) b/\(b.cl.length<=150/\b.c.length<=σ.c.length+2600*b.cl.length/\b.s.tks.length+b.s.lks.length<=50)/\Spares (Mx σ.k rb σ.vx.due) w w':=by
 obtain⟨k,vx,tm,s,c⟩:=σ;simp only at hTr h50 hMB hc ⊢;obtain⟨fd,fn,hD,e1,e2⟩:=hS.wh.d;obtain⟨ra,rc,hR⟩:=hS.rvb;have hH:=hS.host;have hne:=hH.ne hD.box (by decide);have hrd:=hR.ne hD.box (by decide);have hbs:=hS.V4
 have hdb:k.db∈k.turns:=by simp [Blk.turns]
 have hdb2:k.db∈Mx k rb vx.due:=by simp [Mx,X2,Blk.turns]
 have lH:=hH.lt;have lD:=hD.box.lt;have lR:=hR.lt;have h9:=hS.nine;have hB0:Below w.heap.size w (w.alloc (.cells #[.int .i64 (-1),.int .i64 (-1),.int .i64 cc,.int .i64 dd] 29)):=(Below.refl _ w).alloc (Nat.le_refl _) _;have bF:=BoxN.new w 29 #[.int .i64 (-1),.int .i64 (-1),.int .i64 cc,.int .i64 dd];have h2:=hH.cell 2 (v:=.pointer (some ⟨k.vb,0,none⟩)) rfl;have hBf:=before hb k.db _ _ _ _ _ _ _ _ (-1) (-1) cc dd _ (hH.alloc (.cells #[.int .i64 (-1),.int .i64 (-1),.int .i64 cc,.int .i64 dd] 29)) (hD.box.alloc _);have hW0:=hS.wh.below hB0;unfold Ya at hBf ⊢;go_enter func22,ntmps22
 go_wp2_with (go_at_call 40;refine hBf.mono ?_;rintro e w1 ⟨rfl,bD1,hg1⟩)
 have hs1:Spares [k.db] w w1:=(Spares.of_below hB0).trans (Spares.X4 hg1 (by simp));have bH1:=hs1.box hH (fun hm=>hne (List.mem_singleton.1 hm));have bR1:=hs1.box hR (fun hm=>hrd (List.mem_singleton.1 hm));have bF1:=bF.kept hg1 (by intro e;injection e with e;omega);have hW1:=hW0.Xaz (Spares.X4 hg1 (by simp)) bD1
 have hdue1:=hs1.Jv hS.due (fun g hg hm=>by
  obtain⟨-,cur,hB⟩:=Xn hS.due hg
  exact hB.ne hD.box (by decide) (List.mem_singleton.1 hm))
 have r1:=bH1.cell 1 (v:=.pointer (some ⟨rb,0,none⟩)) rfl;have cc0:=bR1.cell 0 (v:=ra) rfl;have cc1:=bR1.cell 1 (v:=rc) rfl;have ff0:=bR1.frozen 0;have ff1:=bR1.frozen 1;have hHR:=bH1.ne bR1 (by decide);have hz1:=hs1.size;clear hBf hg1 h2 hB0 hW0
 go_region
 have bR2:BoxN ((w1.setCell ⟨rb,0,none⟩ (.slice none 0 0)).setCell ⟨rb,1,none⟩ (.int .u64 f)).drew rb 88 #[.slice none 0 0,.int .u64 f]:=(bR1.set 0 (.slice none 0 0)).set 1 (.int .u64 f);have hSr:Spares [rb] w1 ((w1.setCell ⟨rb,0,none⟩ (.slice none 0 0)).setCell ⟨rb,1,none⟩ (.int .u64 f)).drew:=(((Spares.of_below (Below.refl _ w1)).set (by simp) _ _).set (by simp) _ _).drew;clear r1 cc0 cc1 ff0 ff1;generalize ((w1.setCell ⟨rb,0,none⟩ (.slice none 0 0)).setCell ⟨rb,1,none⟩ (.int .u64 f)).drew=W2 at *;have hrb9:9<=rb:=Nat.le_trans hS.b9 hS.rlow;have hW2:=hW1.spared hSr (fun b hb hm=>Sys.Xaj hS b hb (List.mem_singleton.1 hm)) (fun hm=>hW1.j.ne bR1 (by decide) (List.mem_singleton.1 hm)) (fun b x hx hm=>hx.ne bR1 (by decide) (List.mem_singleton.1 hm)) (fun b hb=>by rw [List.mem_singleton.1 hb];omega);have bH2:=hSr.box bH1 (fun hm=>hHR (List.mem_singleton.1 hm));have bF2:=hSr.box bF1 (fun hm=>bF1.ne bR1 (by decide) (List.mem_singleton.1 hm))
 have hdue2:=hSr.Jv hdue1 (fun g hg hm=>by
  obtain⟨-,cur,hB⟩:=Xn hdue1 hg
  exact hB.ne bR1 (by decide) (List.mem_singleton.1 hm))
 have hz2:=hSr.size;have hs2:Spares (Mx k rb vx.due) w W2:=(hs1.mono (fun b hb=>by rw [List.mem_singleton.1 hb];exact hdb2)).trans (hSr.mono (fun b hb=>by rw [List.mem_singleton.1 hb];simp [Mx,X2]))
 have hA2:TAt B W2 k vx tm s c (-1) (-1) rb f (.slice none 0 0) [] []:=by
  obtain⟨fd2,fn2,hD2,d1,d2⟩:=hW2.d;exact⟨hW2,⟨fd2,fn2,hD2,⟨d1,d2⟩,(fun _ _ e=>by simp [Value.ownBlock] at e),(fun _ _ e=>by simp [Value.ownBlock] at e)⟩,hdue2,Xl1,bR2,World.ownsRow_nil _ _ _ _,hS.low,hS.rlow,hS.b9,by omega,hS.vrv⟩
 have hTk:=vTick B k vx tm s c (-1) (-1) rb f (.slice none 0 0) W2 hA2 hS.vtk hTr h50 M hM hMB (by decide) (by decide) (by decide) (by decide) hc f0 f1 now hn0 hn1
 have hnt:∀ {q:Nat} {t:TypeId} {cs:Array Value},BoxN W2 q t cs->t≠126->t≠100->t≠88->t≠144->q∉X2 k rb (.slice none 0 0) vx.due:=fun hB h1 h2 h3 h4 hm=>by
  simp only [X2,List.mem_append,List.mem_cons] at hm
  rcases hm with hm | e | e | e
  ·exact hW2.no hB h1 h2 hm
  ·exact hB.ne bR2 h3 e
  ·simp [Value.ownBlock] at e
  obtain⟨-,cs,hB'⟩:=Xn hdue2 (by simpa using e);exact hB.ne hB' h4 rfl
 have hs9:∀ q∈X2 k rb (.slice none 0 0) vx.due,9<=q:=fun q hm=>by
  simp only [X2,List.mem_append,List.mem_cons] at hm
  rcases hm with hm | rfl | e | e
  ·exact(hbs q hm).1
  ·exact hrb9
  ·simp [Value.ownBlock] at e
  exact Nat.le_trans hS.b9 (Xn hdue2 (by simpa using e)).1
 have h22:=bH2.cell 2 (v:=.pointer (some ⟨k.vb,0,none⟩)) rfl;clear hW1 bH1 bF1 hdue1 hSr bR1 bD1
 go_wp2_with (first
  | (go_at_call 46;refine hTk.mono ?_;rintro e w3 ⟨rfl,vx',v',b,l',f',hTs,hbq,hA3,htk3,hgo3,hcl3,hsp3⟩;have bH3:=hsp3.box bH2 (hnt bH2 (by decide) (by decide) (by decide) (by decide));have bF3:=hsp3.box bF2 (hnt bF2 (by decide) (by decide) (by decide) (by decide));obtain⟨fd3,fn3,hD3,-,-⟩:=hA3.wh.d;have g0:=bF3.cell 0 (v:=.int .i64 (-1)) rfl;have g1:=bF3.cell 1 (v:=.int .i64 (-1)) rfl;have g2:=bF3.cell 2 (v:=.int .i64 cc) rfl;have g3:=bF3.cell 3 (v:=.int .i64 dd) rfl;have hBa:=after hb k.db _ _ _ _ _ _ _ (-1) (-1) cc dd _ bH3 hD3.box;unfold Ya at hBa;have HS3:=Xb hsp3;clear hsp3)
  | (go_at_call 42;refine hBa.mono ?_;rintro e w4 ⟨rfl,bD4,hg4⟩;have HG4:=Xb hg4;clear hg4))
 have hg4:=Xa HG4;have hsp3:=Xa HS3;have hs4:Spares [k.db] w3 w4:=Spares.X4 hg4 (by simp);have bH4:=hs4.box bH3 (fun hm=>hne (List.mem_singleton.1 hm));have bR4:=hs4.box hA3.rbx (fun hm=>hA3.rbx.ne hD3.box (by decide) (List.mem_singleton.1 hm));have hW4:=hA3.wh.Xaz hs4 bD4
 have hrow4:=hs4.Jv hA3.row (fun g hg hm=>by
  obtain⟨-,cur,hB⟩:=Xn hA3.row hg
  exact hB.ne hD3.box (by decide) (List.mem_singleton.1 hm))
 have hdue4:=hs4.Jv hA3.due (fun g hg hm=>by
  obtain⟨-,cur,hB⟩:=Xn hA3.due hg
  exact hB.ne hD3.box (by decide) (List.mem_singleton.1 hm))
 have hsw:Spares (Mx k rb vx.due) w w4:=(hs2.trans hsp3).trans (hs4.mono (fun b hb=>by rw [List.mem_singleton.1 hb];exact hdb2));have hE4:Z1 w4:=hS.err.below (hsw.below h9 (fun q hq=>hs9 q hq))
 have hSy:Sys B w4 hb rb ⟨k,vx',max tm now,b.s,b.c⟩:={ host:=bH4,wh:=hW4,err:=hE4,b9:=hS.b9,hlow:=hS.hlow,low:=hS.low,rvb:=⟨_,_,bR4⟩,rlow:=hS.rlow,vrv:=hA3.vrv,vtk:=htk3,due:=hdue4 }
 have hP4:Xgu hb rb v' w4:=⟨bH4.cell 1 rfl,bR4.cell 0 rfl⟩
 clear HG4 HS3 hg4 hsp3 hs4 hW4 hA3 hdue4 bH3 hD3 bF3 g0 g1 g2 g3 hBa hTk hnt hs9 hA2 hE4 hW2 hs2 bH2 bF2 hdue2 h22 bR2 bH4 bR4 bD4;refine wp_region_held_drew (S:=Xgu hb rb v') (by kernel_rfl) hP4 (fun hS0=>?_);refine Xt 0 ?v0 rfl ?y0 hS0 ?_
 case y0=>(rintro w ⟨q0,q1⟩;go_simp;try with_reducible rfl)
 refine Xt 1 ?v1 rfl ?y1 hS0 ?_
 case y1=>(rintro w ⟨q0,q1⟩;go_simp;try with_reducible rfl)
 refine Xt 2 ?v2 rfl ?y2 hS0 ?_
 case y2=>(rintro w ⟨q0,q1⟩;go_simp;try with_reducible rfl)
 refine Xt 3 ?v3 rfl ?y3 hS0 ?_
 case y3=>(rintro w ⟨q0,q1⟩;go_simp;try with_reducible rfl)
 refine Xt 4 ?v4 rfl ?y4 hS0 ?_
 case y4=>(rintro w ⟨q0,q1⟩;go_simp;try with_reducible rfl)
 refine Xt 5 ?v5 rfl ?y5 hS0 ?_
 case y5=>(rintro w ⟨q0,q1⟩;go_simp;try with_reducible rfl)
 refine Xt 6 ?v6 rfl ?y6 hS0 ?_
 case y6=>(rintro w ⟨q0,q1⟩;go_simp;try with_reducible rfl)
 refine Xt 7 ?v7 rfl ?y7 hS0 ?_
 case y7=>(rintro w ⟨q0,q1⟩;go_simp;try with_reducible rfl)
 refine Xh 8 rfl fun K hK=>?_;go_simp;refine(Jh _).mono ?_;rintro e w5 ⟨rfl,hb5⟩;have hb45:Below w4.heap.size w4 w5:=((Below.refl _ w4).drew).trans hb5
 have hP5:Xgu hb rb v' w5:=⟨cell_later hb45 hP4.1,cell_later hb45 hP4.2⟩
 refine hK.out _ _ hP5 (fun hS1=>?_);clear hK K;refine Xt 9 ?v9 rfl ?y9 hS1 ?_
 case y9=>(rintro w ⟨q0,q1⟩;go_simp;try with_reducible rfl)
 refine Xt 10 ?v10 rfl ?y10 hS1 ?_
 case y10=>(rintro w ⟨q0,q1⟩;go_simp;try with_reducible rfl)
 refine wpAnyH_done (by kernel_rfl) ?_ _;go_wp2;exact bodyPost_ret (v:=.tuple #[v',.int .i64 0]) (by simp [results,results22,go_sem]) rfl ⟨vx',v',b,rfl,hTs,hbq,hSy.below hb45,by simpa using ownsRow_below hrow4 hb45,hgo3,hcl3,hsw.trans (Spares.of_below hb45)⟩
theorem Jq.head {tm:Int} {a b:TS} (h:Jq tm a b):a=b\/∃ c,Jy tm a c/\Jq tm c b:=by
 induction h with
 | refl=>exact .inl rfl
 | step h h1 ih =>
  rcases ih with rfl | ⟨c,h2,h3⟩
  ·exact .inr ⟨_,h1,.refl _⟩
  exact .inr ⟨c,h2,.step h3 h1⟩
theorem Jy.some {tm:Int} {a b:TS} (h:Jy tm a b):a.q ≠ []:=fun e=>by
 cases h with
 | fail hs hp hl ho hq=>rw [e] at hp;exact absurd hp.length_eq (by simp)
 | ok hs hp hl ho hq=>rw [e] at hp;exact absurd hp.length_eq (by simp)
theorem Jq.done {tm:Int} {a b:TS} (h:Jq tm a b) (hq:a.q = []):b=a:=by
 rcases h.head with e | ⟨c,h1,-⟩
 ·exact e.symm
 exact absurd hq h1.some
theorem Y8.Xmp {tm:Int} {s:VSt} {t:Xc} {it:Item} {tk:Bool} {n un:Nat} (hs:Y8 tm s t it tk n un) (hk:t.k=2):∃ x∈s.lks,x.ak=1/\t=⟨x.at_,2,x.n⟩/\it=.lea (Vo tm x)/\tk=false/\n=x.n/\un=x.au:=by
 cases hs with
 | tok x hx h1=>exact absurd hk (by simp)
 | lea x hx h1=>exact⟨x,hx,h1,rfl,rfl,rfl,rfl,rfl⟩
theorem Xao {tm fl:Int} {tn ln:Nat} {l:Xd} {c:List UInt8} {b:TS} (hau:l.au=0) (ho:(fl % 2==1)=false) (h:Jq tm ⟨⟨tn,ln,[rootE],[l]⟩,[⟨l.at_,2,l.n⟩],fl,c,[]⟩ b) (hb:b.q = []):b.s=⟨tn,ln,[rootE],[]⟩/\b.cl = [(2,l.n)]:=by
 rcases h.head with rfl | ⟨a,h1,h2⟩
 ·cases hb
 cases h1 with
 | fail hs hp hl ho' hq=>rw [ho] at ho';cases ho'
 | @ok t q' q'' it tk n un hs hp hl ho' hq =>
  have hp1:=List.perm_singleton.1 hp;obtain⟨rfl,rfl⟩:=List.cons.inj hp1;obtain⟨x,hx,-,-,-,rfl,rfl,rfl⟩:=hs.Xmp rfl;have hxl:x=l:=List.mem_singleton.1 hx;subst hxl
  have hup:Zw ((Item.gone false x.n).app ⟨tn,ln,[rootE],[x]⟩) tm x.au = []:=by
   rw [hau];simp [Zw,Item.app,Y3,rootE,Yv]
  rw [hup] at hq;have hq':q'' = []:=List.Perm.eq_nil hq;have:=h2.done hq';subst this;exact⟨by simp [Item.app,Y3,Zj,M6],rfl⟩
theorem Xim:nmStr 1 0 = [116,48]:=by simp [nmStr,Lib.decDigits_one]
theorem Xn7:nmStr 2 1 = [108,49]:=by simp [nmStr,Lib.decDigits_one]
def Zu (at_:Int) (pd:Bool):Xd:=⟨1,1,0,at_,0,pd,[97,47,98],120⟩
theorem tree1 (pd:Bool) (at_:Int) (tn ln:Nat):Ja ⟨tn,ln,[rootE],[Zu at_ pd]⟩:=
 ⟨by simp,by simp,fun t ht=>.inl (by rw [List.mem_singleton.1 ht];rfl),fun t ht=>⟨by rw [List.mem_singleton.1 ht];rfl,rootE,by simp,by rw [List.mem_singleton.1 ht];rfl⟩,fun t ht _=>by rw [List.mem_singleton.1 ht];rfl⟩
theorem Tryz.opened (w:World) (h9:9<=w.heap.size) (hE:Env w) (hT:Z1 w) :
  Calls prog 15 #[] w fun e w'=>∃ hb rb k vx c,e=.returned (.pointer (some ⟨hb,0,none⟩))/\Sys w.heap.size w' hb rb ⟨k,vx,100,⟨0,1,[rootE],[]⟩,c⟩/\c.length<=300000000/\Below w.heap.size w w'/\(k.no=0/\w.heap.size<=k.jb):=by
 have hw:=fun W=>Xpc W
 have hO:=fun(W:World) (hb db rb md mn:Nat) (hBW:Below 9 w W) (h1:w.heap.size<=W.heap.size) (bH:BoxN W hb 78 #[.pointer (some ⟨db,0,none⟩),.pointer (some ⟨rb,0,none⟩),.pointer none]) (hD:Xk jName W db md mn none none (.slice none 0 0) (-1) (-1)) (bR:BoxN W rb 88 #[.slice none 0 0,.int .u64 0]) (hlo:w.heap.size<=hb/\w.heap.size<=db/\w.heap.size<=rb/\w.heap.size<=md/\w.heap.size<=mn)=>Xoz w.heap.size hb db rb md mn _ _ _ (-1) (-1) 100 0 0 W bH hD bR hlo h1 h9 (hE.below (hBW.mono (by decide)) (Nat.le_refl _)) (hT.below hBW) (by decide) (by decide)
 unfold Ya at hw hO;go_enter func15,ntmps15
 go_wp2_with (go_at_call 35;refine(Xnu _).mono ?_;rintro e w1 ⟨hb,db,rb,md,mn,rfl,bH1,hD1,bR1,hlo,hb1⟩)
 refine(hw _).mono ?_;rintro e w2 ⟨rfl,hb2⟩;have hb02:Below w.heap.size w w2:=hb1.trans (hb2.mono hb1.size)
 go_wp2_with (go_at_call 33;refine(hO w2 hb db rb md mn (hb02.mono h9) hb02.size (bH1.below hb2 bH1.lt) (hD1.below hb2) (bR1.below hb2 bR1.lt) hlo).mono ?_;rintro e w3 ⟨rfl,⟨k,vx,hk3,hS3⟩,hb3⟩;have HK3:=Xb hk3;clear hk3)
 have hb03:Below w.heap.size w w3:=hb02.trans hb3;clear hO hb3 hb2 hb1 bH1 hD1 bR1 hb02;refine(hw _).mono ?_;rintro e w4 ⟨rfl,hb4⟩;clear hw;have hba:Below w4.heap.size w4 (w4.alloc (.cells #[.int .i64 (-1),.int .i64 (-1),.int .i64 0,.int .i64 0] 29)):=(Below.refl _ w4).alloc (Nat.le_refl _) _;have hb35:Below w3.heap.size w3 (w4.alloc (.cells #[.int .i64 (-1),.int .i64 (-1),.int .i64 0,.int .i64 0] 29)):=hb4.trans (hba.mono hb4.size);have hS5:=hS3.below hb35;have bF5:=BoxN.new w4 29 #[.int .i64 (-1),.int .i64 (-1),.int .i64 0,.int .i64 0];have hb05:=hb03.trans (hb35.mono hb03.size);have g0:=bF5.cell 0 (v:=.int .i64 (-1)) rfl;have g1:=bF5.cell 1 (v:=.int .i64 (-1)) rfl;have g2:=bF5.cell 2 (v:=.int .i64 0) rfl;have g3:=bF5.cell 3 (v:=.int .i64 0) rfl;have hI:=Xeb hS5 rootE (by simp) rfl [97,47,98] (by decide) 10 20 (by omega) (by omega) (by omega) (by simp) (by omega) (by omega) (by simp) 0 0;rw [show (rootE.n)=0 from rfl,Xim] at hI;unfold Ya at hI;clear hS3 hb4 hba hb35 hb03;generalize hfb:w4.heap.size=fb at *
 go_wp2_with (go_at_call 18;refine hI.mono ?_;rintro e w6 ⟨rfl,⟨c6,hc6,hS6⟩,hs6⟩)
 have bF6:=hs6.box bF5 (hS5.wh.no bF5 (by decide) (by decide));have hb06:Below w.heap.size w w6:=hb05.trans (hs6.below hb05.size (fun q hq=>hS5.low q hq));have hS6':Sys w.heap.size w6 hb rb ⟨k,vx,100,⟨0,1,[rootE],[Zu 110 false]⟩,c6⟩:=hS6;clear hS6 hs6 hI hS5 bF5 hb05 g0 g1 g2 g3;have hA1:=Xk2 hS6' (Zu 110 false) (by simp) [97,47,98];rw [show (((!(Zu 110 false).pd&&decide ((100:Int)<(Zu 110 false).at_))&&((Zu 110 false).pth == [97,47,98])))=true from by simp [Zu]] at hA1;refine hA1.mono ?_;rintro e w7 ⟨rfl,hb7⟩;have hS7:=hS6'.below hb7;have hA2:=Xk2 hS7 (Zu 110 false) (by simp) [97];rw [show (((!(Zu 110 false).pd&&decide ((100:Int)<(Zu 110 false).at_))&&((Zu 110 false).pth == [97])))=false from by simp [Zu]] at hA2
 go_wp2_with fail
 refine hA2.mono ?_;rintro e w8 ⟨rfl,hb8⟩;have hb68:=hb7.trans (hb8.mono hb7.size);have hS8:=hS6'.below hb68;have bF8:=bF6.below hb68 bF6.lt;have hb08:=hb06.trans (hb68.mono hb06.size);clear hA1 hA2 hS7 hS6' hb7 hb8 hb68 bF6 hb06;have g0:=bF8.cell 0 (v:=.int .i64 (-1)) rfl;have g1:=bF8.cell 1 (v:=.int .i64 (-1)) rfl;have g2:=bF8.cell 2 (v:=.int .i64 0) rfl;have g3:=bF8.cell 3 (v:=.int .i64 0) rfl;have hRn:=Xoh hS8 0 (Zu 110 false) rfl (by simp [Zu]) 15 (by omega) (by omega) (by simp) (by simp at hc6;omega) 0 0
 have e115:J5 100 15 (Zu 110 false)=115:=by
  simp [J5,Zu,plusI];omega
 rw [e115] at hRn;unfold Ya at hRn
 go_wp2_with fail
 refine hRn.mono ?_;rintro e w9 ⟨rfl,⟨c9,hc9,hS9⟩,hs9⟩;have hS9':Sys w.heap.size w9 hb rb ⟨k,vx,100,⟨0,1,[rootE],[Zu 115 false]⟩,c9⟩:=hS9;have bF9:=hs9.box bF8 (hS8.wh.no bF8 (by decide) (by decide));have hb09:Below w.heap.size w w9:=hb08.trans (hs9.below hb08.size (fun q hq=>hS8.low q hq));clear hS9 hs9 hS8 bF8 hb08 hRn g0 g1 g2 g3 e115;have g0:=bF9.cell 0 (v:=.int .i64 (-1)) rfl;have g1:=bF9.cell 1 (v:=.int .i64 (-1)) rfl;have g2:=bF9.cell 2 (v:=.int .i64 0) rfl;have g3:=bF9.cell 3 (v:=.int .i64 0) rfl;have hRv:=Xid hS9' 0 (Zu 115 false) rfl (by simp [Zu]) (by simp) (by simp at hc6;omega) 0 0;unfold Ya at hRv
 go_wp2_with fail
 refine hRv.mono ?_;rintro e w10 ⟨rfl,⟨c10,hc10,hS10⟩,hs10⟩;have hS10':Sys w.heap.size w10 hb rb ⟨k,vx,100,⟨0,1,[rootE],[Zu 100 true]⟩,c10⟩:=hS10;have bF10:=hs10.box bF9 (hS9'.wh.no bF9 (by decide) (by decide));have hb010:Below w.heap.size w w10:=hb09.trans (hs10.below hb09.size (fun q hq=>hS9'.low q hq));clear hS10 hs10 hS9' bF9 hb09 hRv g0 g1 g2 g3;have hA3:=Xk2 hS10' (Zu 100 true) (by simp) [97,47,98];rw [show (((!(Zu 100 true).pd&&decide ((100:Int)<(Zu 100 true).at_))&&((Zu 100 true).pth == [97,47,98])))=false from by simp [Zu]] at hA3
 go_wp2_with fail
 refine hA3.mono ?_;rintro e w11 ⟨rfl,hb11⟩;have hS11:=hS10'.below hb11;have bF11:=bF10.below hb11 bF10.lt;have hb011:=hb010.trans (hb11.mono hb010.size);clear hA3 hS10' bF10 hb010 hb11;have g0:=bF11.cell 0 (v:=.int .i64 (-1)) rfl;have g1:=bF11.cell 1 (v:=.int .i64 (-1)) rfl;have g2:=bF11.cell 2 (v:=.int .i64 0) rfl;have g3:=bF11.cell 3 (v:=.int .i64 0) rfl
 have hlow:∀ q∈Mx k rb vx.due,w.heap.size<=q:=fun q hq=>by
  simp only [Mx,X2,List.mem_append,List.mem_cons] at hq
  rcases hq with hq | rfl | e | e
  ·exact hS11.low q hq
  ·exact hS11.rlow
  ·simp [Value.ownBlock] at e
  exact(Xn hS11.due (by simpa using e)).1
 have hTk:=Xob w.heap.size hb rb _ w11 hS11 hb011.size (tree1 true 100 0 1) (by simp) 0 (by omega) ⟨fun x hx=>by rw [List.mem_singleton.1 hx];exact⟨Int.le_refl _,Int.le_refl _⟩,fun x hx=>by rw [List.mem_singleton.1 hx];exact⟨Int.le_refl _,Int.le_refl _⟩⟩ (by simp at hc6 ⊢;omega) 0 100 (by omega) (by omega) (by omega) (by omega) 0 0;unfold Ya at hTk
 go_wp2_with fail
 refine hTk.mono ?_;rintro e w12 ⟨vx',v',b,rfl,hTs,hbq,hS12,hrow,-,⟨-,hcl,-⟩,hs12⟩
 have hTs':Jq 100 ⟨⟨0,1,[rootE],[Zu 100 true]⟩,[⟨(Zu 100 true).at_,2,(Zu 100 true).n⟩],0,c10,[]⟩ b:=by
  simpa [rootE,Yv,Zi,Zu] using hTs
 obtain⟨hbs,hbc⟩:=Xao rfl (by decide) hTs' hbq;obtain⟨bs,bq,bf,bc,bcl⟩:=b;simp only at hbs hbc hbq hcl hS12 hrow;subst hbs hbc hbq;have hb012:Below w.heap.size w w12:=hb011.trans (hs12.below hb011.size hlow);obtain⟨g,cap,rfl⟩:=Xew hrow (by simp);have s0:w12.cell? ⟨g,0,none⟩=some (.string ⟨(nmStr 2 1).toArray⟩):=hrow.cellAt 0 (by simp);have hS12':Sys w.heap.size w12 hb rb ⟨k,vx',100,⟨0,1,[rootE],[]⟩,bc⟩:=hS12;clear hs12 hS12 hS11 bF11 hb011 hTk g0 g1 g2 g3 hrow hTs hTs' hlow;rw [Xn7] at s0;simp only [Xn7];go_wp2;go_ret;exact⟨hb,rb,k,vx',bc,rfl,hS12',by simp at hc6 hcl;omega,hb012,Xa HK3⟩
def pickI (c n:Int):Int:=(if c<0 then -(c+1) else c) % n
theorem Tryz.Xn6 (c n:Int) (h0 : -9223372036854775808<=c) (h1:c<=9223372036854775807) (hn:0<n) (hn1:n<=1000) (w:World) :
  Calls prog 17 #[.int .i64 c,.int .i64 n] w fun e w'=>e=.returned (.int .i64 (pickI c n))/\w'=w:=by
 by_cases hc:c<0
 ·have hp:Hid (pickI c n = -(c+1) % n):=Xb (by simp [pickI,hc])
  generalize pickI c n=r at *;go_enter func17,ntmps17;go_wp2;go_ret;refine⟨Yj ?_,rfl⟩;rw [Xa hp,<- Int.neg_tmod,Int.tmod_eq_emod_of_nonneg (by omega)]
 have hp:Hid (pickI c n=c % n):=Xb (by simp [pickI,hc]);generalize pickI c n=r at *;go_enter func17,ntmps17;go_wp2;go_ret;exact⟨Yj (Xa hp).symm,rfl⟩
theorem Xfe (c n:Int) (hn:0<n):∃ k:Nat,pickI c n=(k:Int)/\(k:Int)<n:=by
 have h1:=Int.emod_nonneg (if c<0 then -(c+1) else c) (show n≠0 by omega);have h2:=Int.emod_lt_of_pos (if c<0 then -(c+1) else c) hn;exact⟨(pickI c n).toNat,by unfold pickI;omega,by unfold pickI;omega⟩
theorem Xkd:∀ {ls:List X9} {now:Int},(∀ l∈ls,l.tm<=now)->tmL now ls=now
 | [],_,_=>rfl
 | a :: ls,now,h=>by
  have h1:=h a (by simp)
  show tmL (max now a.tm) ls=now
  rw [show max now a.tm=now by omega];exact Xkd (fun l hl=>h l (List.mem_cons_of_mem _ hl))
theorem Xdg {fd:Option (Nat × List UInt8)} {c:List UInt8} (h:Jn fd=c) (hc:c ≠ []):∃ b,fd=some (b,c):=by
 cases fd with
 | none=>exact absurd h.symm hc
 | some p =>
  obtain⟨b,x⟩:=p;have:x=c:=h;exact⟨b,by rw [this]⟩
theorem Xc3 {W:World} {b:Nat} {t t':TypeId} {cs cs':Array Value} (h:BoxN W b t cs) (h':BoxN W b t' cs'):t=t':=by
 have e:=h.symm.trans h';simp at e;exact e.2
theorem Tryz.lost {B hb rb:Nat} {σ:SS} {w:World} (hS:Sys B w hb rb σ) (hbw:B<=w.heap.size) (hc:σ.c ≠ []) (hl:σ.c.length<4294967281) (now:Int) (htm:σ.tm<=now) (hn1:now<=18446744073709551615) (ke pa:Int) (p0 : -9223372036854775808<=pa) (p1:pa<=9223372036854775807) :
  Calls prog 32 #[.pointer (some ⟨hb,0,none⟩),.int .i64 ke,.int .i64 pa] w fun e w1=>e=.returned (.tuple #[])/\Spares [hb,σ.k.db] w w1/\∀ w2,Below w1.heap.size w1 w2->∀ cc dd:Int,
   Calls prog 33 #[.pointer (some ⟨hb,0,none⟩),.int .u64 now,Ya (-1) (-1) cc dd] w2 fun e w'=>e=.returned (.int .i64 0)/\(∃ k vx,(k.no=σ.k.no/\B<=k.jb)/\Sys B w' hb rb ⟨k,vx,now,σ.s,σ.c⟩)/\Below B w2 w'/\Spares [hb,σ.k.db] w2 w':=by
 obtain⟨k,vx,tm,s,c⟩:=σ;simp only at hc hl htm ⊢;obtain⟨fd,fn,hD,e1,e2⟩:=hS.wh.d;obtain⟨bd,rfl⟩:=Xdg e1.1 hc;obtain⟨ls,hok,hs,hcc,hle⟩:=hS.wh.log.ex;simp only at hs hcc hle
 have hnel:ls ≠ []:=fun e=>by rw [e] at hcc;exact hc hcc
 obtain⟨ra,rc,hR⟩:=hS.rvb;have t0:=hS.wh.v.t0;simp only at t0;have hh:=hS.host;simp only at hh;have hdb:=hD.box;have ltm:=hS.wh.Xh5;have b9:=hS.b9;have lo:=hS.low;have hlow:=hS.hlow;have low1:B<=k.db:=lo k.db (by simp [Blk.turns]);have low2:B<=k.md:=lo k.md (by simp [Blk.turns]);have hnr:=hh.ne hR (by decide);have hdr:=hdb.ne hR (by decide);refine(Xjt hb k.db rb k.md k.mn bd _ c fn _ _ ke pa p0 p1 w hh hD).mono ?_;rintro e w1 ⟨rfl,bH1,mn',hge,hD1,hS1⟩;refine⟨rfl,hS1,fun w2 hb2 cc dd=>?_⟩;have hz:=hS1.size
 have hBw:Below B w w2:=(hS1.below hbw (fun b hb=>by
  simp only [List.mem_cons,List.not_mem_nil,or_false] at hb
  rcases hb with rfl | rfl
  ·exact hlow
  exact low1)).trans (hb2.mono (by omega))
 have hR2:=(hS1.box hR (by simp only [List.mem_cons,List.not_mem_nil,or_false,not_or];exact⟨Ne.symm hnr,Ne.symm hdr⟩)).below hb2 (Nat.lt_of_lt_of_le hR.lt hz);subst hs hcc;have h:=Xiw B hb k.db rb k.md mn' bd bd k.no hS.wh.no9 _ ra rc (-1) (-1) now cc dd ls hok hnel hl w2 (bH1.below hb2 bH1.lt) (hD1.below hb2) hR2 ⟨hlow,low1,hS.rlow,low2,by omega⟩ (by have:=hb2.size;omega) b9 (hS.wh.v.va.env.below hBw (Nat.le_trans (by decide) b9)) (hS.err.below (hBw.mono b9)) (by omega) hn1;rw [Xkd (fun l hl=>Int.le_trans (hle l hl) htm)] at h;exact h
theorem Tryz.kFail {B hb rb:Nat} {σ:SS} {w:World} (hS:Sys B w hb rb σ) (hbw:B<=w.heap.size) (hc:σ.c ≠ []) (hl:σ.c.length<4294967281) (now:Int) (htm:σ.tm<=now) (hn1:now<=18446744073709551615) (lose:Int) (l0 : -9223372036854775808<=lose) (l1:lose<=9223372036854775807) (i:Nat) (hi:i<8) :
  Calls prog 19 #[.pointer (some ⟨hb,0,none⟩),.int .i64 lose,.int .i64 i,.int .u64 now] w fun e w'=>e=.returned (.bool true)/\(∃ k vx tm',(k.no=σ.k.no/\(B<=σ.k.jb->B<=k.jb))/\(tm'=σ.tm\/tm'=now)/\Sys B w' hb rb ⟨k,vx,tm',σ.s,σ.c⟩)/\Below B w w'/\∃ bs,Spares bs w w'/\∀ b∈bs,∀ t cs,BoxN w b t cs->t=78\/t=100:=by
 have hP:=fun W=>Xn6 lose 256 l0 l1 (by omega) (by omega) W
 have hw:=fun W=>Xpc W
 have hL:=lost hS hbw hc hl now htm hn1 lose 0 (by omega) (by omega);obtain⟨p,hp,hp256⟩:=Xfe lose 256 (by omega);rw [hp] at hP;unfold Ya at hw hL;go_enter func19,ntmps19
 go_wp2_with (go_at_call 17;refine(hP _).mono ?_;rintro e w1 ⟨rfl,rfl⟩)
 rotate_left
 ·refine hL.mono ?_
  rintro e w2 ⟨rfl,hS2,hO⟩
  go_wp2_with fail
  refine(hw _).mono ?_;rintro e w3 ⟨rfl,hb3⟩;have hO3:=hO w3 hb3 0 0
  go_wp2_with (go_at_call 33;refine hO3.mono ?_;rintro e w4 ⟨rfl,⟨k',vx',hk',hS4⟩,hB4,hS4'⟩)
  go_ret;have hSp:Spares [hb,σ.k.db] w1 w4:=(hS2.trans (Spares.of_below hb3)).trans hS4';obtain⟨fd,fn,hD,-,-⟩:=hS.wh.d;refine⟨rfl,⟨k',vx',now,⟨hk'.1,fun _=>hk'.2⟩,.inr rfl,hS4⟩,hSp.below hbw (fun b hb'=>?_),_,hSp,fun b hb' t cs hB=>?_⟩
  ·simp only [List.mem_cons,List.not_mem_nil,or_false] at hb'
   rcases hb' with rfl | rfl
   ·exact hS.hlow
   exact hS.low _ (by simp [Blk.turns])
  simp only [List.mem_cons,List.not_mem_nil,or_false] at hb'
  rcases hb' with rfl | rfl
  ·exact .inl (Xc3 hB hS.host)
  exact .inr (Xc3 hB hD.box)
 go_ret;exact⟨rfl,⟨σ.k,σ.vx,σ.tm,⟨rfl,id⟩,.inl rfl,hS⟩,Below.refl _ _,[],Spares.of_below (Below.refl _ _),by simp⟩
theorem Tryz.Sys.cne {B hb rb:Nat} {σ:SS} {w:World} (hS:Sys B w hb rb σ) (h:σ.s.ln≠0):σ.c ≠ []:=fun e=>by
 obtain⟨ls,-,hs,hc,-⟩:=hS.wh.log.ex;rw [hc] at e;have h1:=Xbw ls;rw [e] at h1;have h2:ls = []:=List.eq_nil_of_length_eq_zero (by simpa using h1);rw [hs,h2] at h;exact h rfl
theorem Tryz.Sys.Xn2 {B hb rb:Nat} {σ:SS} {w:World} (hS:Sys B w hb rb σ) {b:Nat} {t:TypeId} {cs:Array Value} (hB:BoxN w b t cs) (h1:t≠126) (h2:t≠100) (h3:t≠88) (h4:t≠144):b∉Mx σ.k rb σ.vx.due:=fun hq=>by
 obtain⟨ra,rc,hR⟩:=hS.rvb;simp only [Mx,X2,List.mem_append,List.mem_cons] at hq
 rcases hq with hq | rfl | e | e
 ·exact hS.wh.no hB h1 h2 hq
 ·exact hB.ne hR h3 rfl
 ·simp [Value.ownBlock] at e
 obtain⟨-,cs',h5⟩:=Xn hS.due (g:=b) (by simpa using e);exact hB.ne h5 h4 rfl
theorem Tryz.Sys.Xn1 {B hb rb:Nat} {σ:SS} {w:World} (hS:Sys B w hb rb σ):∀ q∈Mx σ.k rb σ.vx.due,B<=q:=fun q hq=>by
 simp only [Mx,X2,List.mem_append,List.mem_cons] at hq
 rcases hq with hq | rfl | e | e
 ·exact hS.low q hq
 ·exact hS.rlow
 ·simp [Value.ownBlock] at e
 exact(Xn hS.due (by simpa using e)).1
theorem Mt {tm fl:Int} {tn ln:Nat} {l:Xd} {c:List UInt8} {b:TS} (ho:(fl % 2==1)=true) (h:Jq tm ⟨⟨tn,ln,[rootE],[l]⟩,[⟨l.at_,2,l.n⟩],fl,c,[]⟩ b) (hln:l.n<=ln) (hb:b.q = []):b.s=⟨tn,ln,[rootE],[Vo tm l]⟩/\b.cl = [(2,l.n)]:=by
 rcases h.head with rfl | ⟨a,h1,h2⟩
 ·cases hb
 cases h1 with
 | ok hs hp hl ho' hq=>rw [ho] at ho';cases ho'
 | @fail t q' q'' it tk n un hs hp hl ho' hq =>
  have hp1:=List.perm_singleton.1 hp;obtain⟨rfl,rfl⟩:=List.cons.inj hp1;obtain⟨x,hx,-,-,rfl,rfl,rfl,rfl⟩:=hs.Xmp rfl;have hxl:x=l:=List.mem_singleton.1 hx;subst hxl;have hq':q'' = []:=List.Perm.eq_nil hq;have:=h2.done hq';subst this;refine⟨?_,rfl⟩
  have e1:max ln x.n=ln:=by omega
  simp [Item.app,Vo,Yf,e1]
def tk1 (tm f:Int) (l:Xd):List Xd × List (Int × Nat):=if l.at_<=tm then (if (f % 2==1)=true then ([Vo tm l],[(2,l.n)]) else ([],[(2,l.n)])) else ([l],[])
theorem Xlm {tn ln:Nat} {l:Xd} (hak:l.ak=1) (hau:l.au=0):Ja ⟨tn,ln,[rootE],[l]⟩:=
 ⟨by simp,by simp,fun t ht=>.inl (by rw [List.mem_singleton.1 ht];rfl),fun t ht=>⟨by rw [List.mem_singleton.1 ht];exact hak,rootE,by simp,by rw [List.mem_singleton.1 ht,hau];rfl⟩,fun t ht _=>by rw [List.mem_singleton.1 ht];rfl⟩
section
variable {B hb rb:Nat} {k:Blk} {vx:VX} {tm:Int} {tn ln:Nat} {tks:List Xe} {lks:List Xd} {c:List UInt8} {w:World}
theorem Tryz.Xow {l:Xd} (hS:Sys B w hb rb ⟨k,vx,tm,⟨tn,ln,[rootE],[l]⟩,c⟩) (hbw:B<=w.heap.size) (hak:l.ak=1) (hau:l.au=0) (htr:l.tr<=800000000) (hc:c.length<=890000000000) (f now:Int) (f0:0<=f) (f1:f<=18446744073709551615) (hn0:0<=now) (hn1:now<=18446744073709551615) (cc dd:Int) :
  Calls prog 22 #[.pointer (some ⟨hb,0,none⟩),.int .u64 now,.int .u64 f,Ya (-1) (-1) cc dd] w fun e w'=>∃ vx' v' c',e=.returned (.tuple #[v',.int .i64 0])/\Sys B w' hb rb ⟨k,vx',max tm now,⟨tn,ln,[rootE],(tk1 (max tm now) f l).1⟩,c'⟩/\w'.ownsRow B 9 1 v' (tk1 (max tm now) f l).2.length ((tk1 (max tm now) f l).2.map fun p=>.string ⟨(nmStr p.1 p.2).toArray⟩)/\c'.length<=c.length+3000000/\Spares (Mx k rb vx.due) w w':=by
 have h0:=(hS.wh.v.okL l (by simp)).r0;have hn:=hS.wh.v.nl l (by simp);simp only at hn;have hT:=Xob B hb rb _ w hS hbw (Xlm hak hau) (by simp) 800000000 (by omega) ⟨fun x hx=>by rw [List.mem_singleton.1 hx];exact⟨Int.le_refl _,show (0:Int)<=800000000 by decide⟩,fun x hx=>by rw [List.mem_singleton.1 hx];exact⟨h0,htr⟩⟩ hc f now f0 f1 hn0 hn1 cc dd;refine hT.mono ?_;rintro e w' ⟨vx',v',b,rfl,hTs,hbq,hS',hrow,-,⟨hb1,hb2,-⟩,hs⟩;simp only at hTs hb2
 have hd:([rootE]:List Xe).flatMap (Yv ⟨tn,ln,[rootE],[l]⟩ (max tm now)) ++ [l].flatMap (Zi (max tm now))=Zi (max tm now) l:=by simp [Yv,rootE]
 rw [hd] at hTs;obtain⟨bs,bq,bf,bc,bcl⟩:=b;simp only at hS' hrow hbq hb1 hb2;refine⟨vx',v',bc,rfl,?_⟩
 have key:bs=⟨tn,ln,[rootE],(tk1 (max tm now) f l).1⟩/\bcl=(tk1 (max tm now) f l).2:=by
  unfold tk1
  by_cases hdue:l.at_<=max tm now
  ·rw [if_pos hdue]
   unfold Zi at hTs;rw [if_pos hdue] at hTs
   by_cases hf:(f % 2==1)=true
   ·rw [if_pos hf]
    exact Mt hf hTs hn hbq
   rw [if_neg hf];exact Xao hau (by simpa using hf) hTs hbq
  rw [if_neg hdue];unfold Zi at hTs;rw [if_neg hdue] at hTs;have:=hTs.done rfl;simp only [TS.mk.injEq] at this;exact⟨this.1,this.2.2.2.2⟩
 obtain⟨rfl,rfl⟩:=key;exact⟨hS',hrow,by omega,hs⟩
end
end Go.Proofs
