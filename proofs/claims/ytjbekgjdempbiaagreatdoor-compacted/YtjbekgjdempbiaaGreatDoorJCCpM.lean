import Derived.Test.YtjbekgjdempbiaaGreatDoorJCCpL
import Derived.Test.YtjbekgjdempbiaaGreatDoorJCTmA
set_option maxRecDepth 100000
set_option maxHeartbeats 8000000
namespace Go.Proofs
open Go.RowKit Go.Sort Go.Lib Go.Shelf Go.Maps Go.WideMaps
def Xor:List UInt8:=[115,111,109,101,47,112,97,116,104]
def Xjv (m:Nat) (at_:Int) (pd:Bool):Xd:=⟨m,1,0,at_,0,pd,Xor,150⟩
def leaD (m:Nat):Xd:=⟨m,1,0,105,0,false,[112],105⟩
theorem len_q {a b c d q m x y z:Nat} (h1:a<=b+x) (h2:b<=c+y) (h3:c<=d+y) (h4:d<=m+q) (hx:x+y+y<=z):a<=m+(q+z):=by omega
theorem len_c {a b c d j:Nat} (h1:a<=b+3000000) (h2:b<=c+70000) (h3:c<=d+70000) (h4:d<=300000000+4000000*j):a<=300000000+4000000*(j+1):=by
 rw [Nat.mul_succ];exact len_q h1 h2 h3 h4 (by decide)
theorem Xpj (m:Nat):tk1 100 0 (Xjv m 100 true)=([],[(2,m)]):=rfl
theorem nm_ne (m:Nat) (hm:m<1000000):nmStr 2 (m+1)≠nmStr 2 m:=fun h=>by
 have h1:=J4 (n:=m+1) (by unfold Xj;omega);rw [h,J4 (n:=m) (by unfold Xj;omega)] at h1;have:=(Prod.mk.inj h1).2;omega
theorem Xnk (m:Nat) (hm:m<=60):(nmStr 2 m).length<=(nmStr 2 (m+1)).length:=by
 have e:∀ n,(nmStr 2 n).length=1+Lib.nDigits n:=fun n=>by simp [nmStr,Lib.decDigits_length];omega
 rw [e,e]
 by_cases h':m<10
 ·rw [Lib.nDigits_small h']
  have:=Lib.nDigits_pos (m+1);omega
 rw [Lib.nDigits_big h',Lib.nDigits_big (by omega:¬ m+1<10),Lib.nDigits_small (by omega:m / 10<10),Lib.nDigits_small (by omega:(m+1) / 10<10)];exact Nat.le_refl _
theorem Tryz.compacted (x y:Int) (x0 : -9223372036854775808<=x) (x1:x<=9223372036854775807) (y0 : -9223372036854775808<=y) (y1:y<=9223372036854775807) (w:World) (h9:9<=w.heap.size) (hE:Env w) (hT:Z1 w) :
  Calls prog 13 #[.int .i64 x,.int .i64 y] w fun e w'=>e=.returned (.bool true)/\Below w.heap.size w w':=by
 have hw:=fun W=>Xpc W
 unfold Ya at hw;obtain⟨n,hn,hn40⟩:=Xfe x 40 (by omega)
 have hP1:=fun W=>Xn6 x 40 x0 x1 (by omega) (by omega) W
 rw [hn] at hP1;clear hn x0 x1;go_enter func13,ntmps13
 go_wp2_with (go_at_call 15;refine(opened _ h9 hE hT).mono ?_;rintro e w1 ⟨hb,rb,kk,vx,c,rfl,hS1,hc,hb1,hk0⟩)
 refine(hw _).mono ?_;rintro e w2 ⟨rfl,hb2⟩;have hba:Below w2.heap.size w2 (w2.alloc (.cells #[.int .i64 (-1),.int .i64 (-1),.int .i64 0,.int .i64 0] 29)):=(Below.refl _ w2).alloc (Nat.le_refl _) _;have hb13:=hb2.trans (hba.mono hb2.size);have hS3:=hS1.below hb13;have bF3:=BoxN.new w2 29 #[.int .i64 (-1),.int .i64 (-1),.int .i64 0,.int .i64 0];have hb03:=hb1.trans (hb13.mono hb1.size);clear hw hS1 hb2 hba hb13;generalize hfb:w2.heap.size=fb at *
 go_wp2_with (go_at_call 17;refine(hP1 _).mono ?_;rintro e w3 ⟨rfl,rfl⟩)
 clear hP1
 go_loopw [8] (fun i wr=>∃ j:Nat,j<=n/\i=.int .i64 j/\∃ k vx c,(c.length<=300000000+4000000*j/\k.no<=j/\w.heap.size<=k.jb)/\Sys w.heap.size wr hb rb ⟨k,vx,100,⟨0,1+j,[rootE],[]⟩,c⟩/\BoxN wr fb 29 #[.int .i64 (-1),.int .i64 (-1),.int .i64 0,.int .i64 0]/\Below w.heap.size w wr) (fun i _=>n-(intOf i).toNat)
 case atStart=>exact⟨0,Nat.zero_le _,rfl,kk,vx,c,⟨by omega,by omega,hk0.2⟩,hS3,bF3,hb03⟩
 case round =>
  clear hS3 bF3 hb03 hk0 hc;obtain⟨j,hj,rfl,k,vx,c,hck,hS,bF,hbw⟩:=hrel
  by_cases hlt:j<n
  ·have hlt':(j:Int)<(n:Int):=by omega
   have g0:=bF.cell 0 (v:=.int .i64 (-1)) rfl;have g1:=bF.cell 1 (v:=.int .i64 (-1)) rfl;have g2:=bF.cell 2 (v:=.int .i64 0) rfl;have g3:=bF.cell 3 (v:=.int .i64 0) rfl;have hI:=Xeb hS rootE (by simp) rfl Xor (by decide) 50 50 (by omega) (by omega) (by omega) (by simp) (by omega) (by omega) (by omega) 0 0;rw [show (rootE.n)=0 from rfl,Xim] at hI;unfold Ya Xor at hI
   go_wp2_with (go_at_call 18;refine hI.mono ?_;rintro e w6 ⟨rfl,⟨c6,hc6,hS6⟩,hs6⟩;have bF6:=hs6.box bF (hS.wh.no bF (by decide) (by decide));have g0:=bF6.cell 0 (v:=.int .i64 (-1)) rfl;have g1:=bF6.cell 1 (v:=.int .i64 (-1)) rfl;have g2:=bF6.cell 2 (v:=.int .i64 0) rfl;have g3:=bF6.cell 3 (v:=.int .i64 0) rfl)
   have hb06:=hbw.trans (hs6.below hbw.size (fun q hq=>hS.low q hq));have hS6':Sys w.heap.size w6 hb rb ⟨k,vx,100,⟨0,1+j+1,[rootE],[Xjv (1+j+1) 150 false]⟩,c6⟩:=hS6;clear hI hs6 hS6 hS bF hbw;have hRv:=Xid hS6' 0 (Xjv (1+j+1) 150 false) rfl (by simp [Xjv]) (by simp) (by omega) 0 0;rw [show (Xjv (1+j+1) 150 false).n=1+j+1 from rfl] at hRv;unfold Ya at hRv;refine hRv.mono ?_;rintro e w10 ⟨rfl,⟨c10,hc10,hS10⟩,hs10⟩;have hS10':Sys w.heap.size w10 hb rb ⟨k,vx,100,⟨0,1+j+1,[rootE],[Xjv (1+j+1) 100 true]⟩,c10⟩:=hS10;have bF10:=hs10.box bF6 (hS6'.wh.no bF6 (by decide) (by decide));have hb010:Below w.heap.size w w10:=hb06.trans (hs10.below hb06.size (fun q hq=>hS6'.low q hq));clear hS10 hs10 hS6' bF6 hb06 hRv g0 g1 g2 g3;have g0:=bF10.cell 0 (v:=.int .i64 (-1)) rfl;have g1:=bF10.cell 1 (v:=.int .i64 (-1)) rfl;have g2:=bF10.cell 2 (v:=.int .i64 0) rfl;have g3:=bF10.cell 3 (v:=.int .i64 0) rfl;have hTk:=Xow hS10' hb010.size rfl rfl (show (0:Int)<=800000000 by decide) (by omega) 0 100 (by omega) (by omega) (by omega) (by omega) 0 0;rw [show max (100:Int) 100=100 by decide,Xpj] at hTk;unfold Ya at hTk
   go_wp2_with fail
   refine hTk.mono ?_;rintro e w12 ⟨vx12,v12,c12,rfl,hS12,hrow12,hc12,hs12⟩;have bF12:=hs12.box bF10 (hS10'.Xn2 bF10 (by decide) (by decide) (by decide) (by decide));have hb012:Below w.heap.size w w12:=hb010.trans (hs12.below hb010.size hS10'.Xn1);have hcl:Hid (c12.length<=300000000+4000000*(j+1)):=Xb (len_c hc12 hc10 hc6 hck.1);clear hTk hs12 hS10' bF10 hb010 g0 g1 g2 g3 hrow12 hc6 hc10 hc12;have g0:=bF12.cell 0 (v:=.int .i64 (-1)) rfl;have g1:=bF12.cell 1 (v:=.int .i64 (-1)) rfl;have g2:=bF12.cell 2 (v:=.int .i64 0) rfl;have g3:=bF12.cell 3 (v:=.int .i64 0) rfl
   cases h3:((j:Int) % 3==0) with
   | false =>
    go_wp2
    go_roundw
    case rel=>exact⟨j+1,by omega,by go_num,k,vx12,c12,⟨Xa hcl,by omega,hck.2.2⟩,hS12,bF12,hb012⟩
    case measure=>simp [intOf];omega
   | true =>
    have hCp:=Xex w.heap.size hb rb k vx12 100 0 (1+j+1) [] c12 w12 hS12 (hS12.cne (by simp)) (by omega) (by decide) (by unfold Xj;omega) (by simp) 0 0;unfold Ya at hCp;have hlc:=Xcy (tm:=100) (tn:=0) (ln:=1+j+1) (lks:=[]) (by decide) (by decide) (by decide) (by unfold Xj;omega) (by simp) (by simp);generalize compL 100 ⟨0,1+j+1,[rootE],[]⟩=cl at *
    go_wp2_with (go_at_call 30;refine hCp.mono ?_;rintro e w14 ⟨rfl,hS14,hs14⟩)
    have bF14:=hs14.box bF12 (fun hm=>by
     rcases List.mem_cons.1 hm with e | hm
     ·exact bF12.ne hS12.wh.j (by decide) e
     exact hS12.wh.no bF12 (by decide) (by decide) hm)
    have hb014:Below w.heap.size w w14:=hb012.trans (hs14.below hb012.size (fun q hq=>by
     rcases List.mem_cons.1 hq with rfl | hq
     ·exact hck.2.2
     exact hS12.low q hq))
    have hF:=kFail hS14 hb014.size (hS14.cne (by simp)) (by show cl.length<4294967281;omega) 100 (by simp) (by omega) y y0 y1 (j % 8) (by omega)
    have hj8':((j % 8:Nat):Int)=(j:Int) % 8:=by omega
    rw [hj8'] at hF;clear hCp hs14 hS12 bF12 hb012 g0 g1 g2 g3;refine hF.mono ?_;rintro e w16 ⟨rfl,⟨k16,vx16,tm16,hk16,htm16,hS16⟩,hB16,bs16,hs16,hq16⟩
    obtain rfl:tm16=100:=by simpa using htm16
    have bF16:=hs16.box bF14 (fun hm=>by rcases hq16 _ hm _ _ bF14 with e | e <;> exact absurd e (by decide));have hb016:=hb014.trans hB16;clear hF hs16 hq16 hB16 htm16 hS14 bF14 hb014;go_wp2
    go_roundw
    case rel=>exact⟨j+1,by omega,by go_num,k16,vx16,cl,⟨by omega,by rw [hk16.1];show k.no+1<=j+1;omega,hk16.2 hck.2.2⟩,hS16,bF16,hb016⟩
    case measure=>simp [intOf];omega
  have hge:¬ (j:Int)<(n:Int):=by omega
  obtain rfl:j=n:=by omega
  have g0:=bF.cell 0 (v:=.int .i64 (-1)) rfl;have g1:=bF.cell 1 (v:=.int .i64 (-1)) rfl;have g2:=bF.cell 2 (v:=.int .i64 0) rfl;have g3:=bF.cell 3 (v:=.int .i64 0) rfl;have hI:=Xeb hS rootE (by simp) rfl [112] (by decide) 5 5 (by omega) (by omega) (by omega) (by simp) (by omega) (by omega) (by omega) 0 0;rw [show (rootE.n)=0 from rfl,Xim] at hI;unfold Ya at hI
  go_wp2_with (go_at_call 18;refine hI.mono ?_;rintro e w6 ⟨rfl,⟨c6,hc6,hS6⟩,hs6⟩;have bF6:=hs6.box bF (hS.wh.no bF (by decide) (by decide));have g0:=bF6.cell 0 (v:=.int .i64 (-1)) rfl;have g1:=bF6.cell 1 (v:=.int .i64 (-1)) rfl;have g2:=bF6.cell 2 (v:=.int .i64 0) rfl;have g3:=bF6.cell 3 (v:=.int .i64 0) rfl)
  have hb06:=hbw.trans (hs6.below hbw.size (fun q hq=>hS.low q hq));have hS6':Sys w.heap.size w6 hb rb ⟨k,vx,100,⟨0,1+j+1,[rootE],[leaD (1+j+1)]⟩,c6⟩:=hS6
  have hokL:∀ l ∈ [leaD (1+j+1)],Ul l/\l.n<=1+j+1/\l.au<Xj:=fun l hl=>⟨hS6'.wh.v.okL l hl,hS6'.wh.v.nl l hl,(hS6'.wh.v.va.ok.limL l hl).2⟩
  have hlc:=Xcy (tm:=100) (tn:=0) (ln:=1+j+1) (lks:=[leaD (1+j+1)]) (by decide) (by decide) (by decide) (by unfold Xj;omega) (by simp) hokL;have hCp:=Xex w.heap.size hb rb k vx 100 0 (1+j+1) [leaD (1+j+1)] c6 w6 hS6' (hS6'.cne (by simp)) (by omega) (by decide) (by unfold Xj;omega) (by simp) 0 0;unfold Ya at hCp;generalize compL 100 ⟨0,1+j+1,[rootE],[leaD (1+j+1)]⟩=cl at *;clear hI hs6 hS6 hS bF hbw hokL;refine hCp.mono ?_;rintro e w14 ⟨rfl,hS14,hs14⟩
  have bF14:=hs14.box bF6 (fun hm=>by
   rcases List.mem_cons.1 hm with e | hm
   ·exact bF6.ne hS6'.wh.j (by decide) e
   exact hS6'.wh.no bF6 (by decide) (by decide) hm)
  have hb014:Below w.heap.size w w14:=hb06.trans (hs14.below hb06.size (fun q hq=>by
   rcases List.mem_cons.1 hq with rfl | hq
   ·exact hck.2.2
   exact hS6'.low q hq))
  have hcne:=hS14.cne (by simp);obtain⟨fd,fn,hD,e1,e2⟩:=hS14.wh.d;simp only at hD e1 hcne;obtain⟨bd,rfl⟩:=Xdg e1.1 hcne;have hSz:=hSize hb k.db rb k.md k.mn bd _ cl fn _ _ w14 hS14.host hD (by omega);have hfl:=M0 (k.no+1) (by omega)
  have hsz:(((fileN (k.no+1)).length+cl.length:Nat):Int)<=1400:=by omega
  have hsz0:(0:Int)<=(((fileN (k.no+1)).length+cl.length:Nat):Int):=by omega
  generalize (((fileN (k.no+1)).length+cl.length:Nat):Int)=sz at *;clear hCp hs14 hS6' bF6 hb06 g0 g1 g2 g3 hD e1 e2 hfl
  go_wp2_with (go_at_call 31;refine hSz.mono ?_;rintro e w15 ⟨rfl,hb15⟩)
  have hS15:=hS14.below hb15;have hA:=callsIn_wide.1 (Xoc hb k.vb k.mt k.ml vx 100 _ _ [rootE] [leaD (1+j+1)] w15 _ _ hS15.host hS15.wh.v.va);refine hA.mono ?_;rintro e w17 ⟨v1,rfl,r1,hb17⟩;have hb1417:=hb15.trans (hb17.mono hb15.size);have hS17:=hS14.below hb1417;have bF17:=bF14.below hb1417 bF14.lt;have hb017:=hb014.trans (hb1417.mono hb014.size)
  have hlenI:(Yi 100 [rootE] [leaD (1+j+1)]).length=1+1:=by simp [Yi]
  have hi0:(Yi 100 [rootE] [leaD (1+j+1)])[0]? = some rootE.info:=by simp [Yi]
  have hi1:(Yi 100 [rootE] [leaD (1+j+1)])[1]? = some ((leaD (1+j+1)).info 100):=by simp [Yi]
  rw [hlenI] at r1;have hL:=lost hS17 hb017.size hcne (by show cl.length<4294967281;omega) 100 (by simp) (by omega) y 0 (by omega) (by omega);clear hA hS15 hb15 hb17 hSz hS14 bF14 hb014
  go_wp2_with fail
  refine hL.mono ?_;rintro e w18 ⟨rfl,hs18,hO⟩
  have hD17:∀ {b:Nat} {t:TypeId} {cs:Array Value},BoxN w17 b t cs->t≠78->t≠100->b ∉ [hb,k.db]:=fun hB n1 n2 hm=>by
   obtain⟨fd,fn,hD,-,-⟩:=hS17.wh.d;simp only [List.mem_cons,List.not_mem_nil,or_false] at hm
   rcases hm with rfl | rfl
   ·exact hB.ne hS17.host n1 rfl
   exact hB.ne hD.box n2 rfl
  have bF18:=hs18.box bF17 (hD17 bF17 (by decide) (by decide));have g0:=bF18.cell 0 (v:=.int .i64 (-1)) rfl;have g1:=bF18.cell 1 (v:=.int .i64 (-1)) rfl;have g2:=bF18.cell 2 (v:=.int .i64 0) rfl;have g3:=bF18.cell 3 (v:=.int .i64 0) rfl
  have r18:=hs18.Jv r1 (fun g hg hm=>by
   obtain⟨-,cs,hB⟩:=Xn r1 hg
   exact hD17 hB (by decide) (by decide) hm)
  have hO18:=hO w18 (Below.refl _ _) 0 0;unfold Ya at hO18
  go_wp2_with fail
  refine hO18.mono ?_;rintro e w20 ⟨rfl,⟨k20,vx20,hk20,hS20⟩,hB20,hs20⟩;have hs1720:=hs18.trans hs20;have bF20:=hs1720.box bF17 (hD17 bF17 (by decide) (by decide))
  have r20:=hs1720.Jv r1 (fun g hg hm=>by
   obtain⟨-,cs,hB⟩:=Xn r1 hg
   exact hD17 hB (by decide) (by decide) hm)
  have hb020:Below w.heap.size w w20:=hb017.trans (hs1720.below hb017.size (fun q hq=>by
   simp only [List.mem_cons,List.not_mem_nil,or_false] at hq
   rcases hq with rfl | rfl
   ·exact hS17.hlow
   exact hS17.low _ (by simp [Blk.turns])))
  clear hL hO hO18 hs18 hs20 hs1720 hB20 r18 r1 bF18 bF17 hS17 hD17 g0 g1 g2 g3 hb017;have hA2:=callsIn_wide.1 (Xoc hb k20.vb k20.mt k20.ml vx20 100 _ _ [rootE] [leaD (1+j+1)] w20 _ _ hS20.host hS20.wh.v.va)
  go_wp2_with fail
  refine hA2.mono ?_;rintro e w22 ⟨v2,rfl,r2,hb22⟩;rw [hlenI] at r2;obtain⟨ga,ca,rfl⟩:=ownsRow_succ r20;obtain⟨gb,cb,rfl⟩:=ownsRow_succ r2;have r22:=ownsRow_below r20 hb22;have hS22:=hS20.below hb22;have bF22:=bF20.below hb22 bF20.lt;have hb022:=hb020.trans (hb22.mono hb020.size);obtain⟨p0,p1,p2,p3,p4,p5⟩:=Xa5 r22 hi0;obtain⟨q0,q1,q2,q3,q4,q5⟩:=Xa5 r22 hi1;obtain⟨s0,s1,s2,s3,s4,s5⟩:=Xa5 r2 hi0;obtain⟨t0,t1,t2,t3,t4,t5⟩:=Xa5 r2 hi1;have hn0:=Xic rootE.info rootE.info;have hn1:=Xic ((leaD (1+j+1)).info 100) ((leaD (1+j+1)).info 100);have hid:((leaD (1+j+1)).info 100).id=nmStr 2 (1+j+1):=rfl;generalize (leaD (1+j+1)).info 100=I1 at *;generalize rootE.info=I0 at *;simp only [beq_self_eq_true,Bool.and_self,Bool.not_true] at hn0 hn1;obtain⟨a0,a1,a2,a3,a4,a5⟩:=I0;obtain⟨b0,b1,b2,b3,b4,b5⟩:=I1;simp only at hid;subst hid;simp only [InfoD.cells,Ym] at hn0 hn1 p0 p1 p2 p3 p4 p5 q0 q1 q2 q3 q4 q5 s0 s1 s2 s3 s4 s5 t0 t1 t2 t3 t4 t5;have g0:=bF22.cell 0 (v:=.int .i64 (-1)) rfl;have g1:=bF22.cell 1 (v:=.int .i64 (-1)) rfl;have g2:=bF22.cell 2 (v:=.int .i64 0) rfl;have g3:=bF22.cell 3 (v:=.int .i64 0) rfl
  have hI2:=fun q=>Xeb (hS22.below (below_drewN (Below.refl _ w22) q)) rootE (by simp) rfl [112] (by decide) 5 5 (by omega) (by omega) (by omega) (by simp) (by omega) (by omega) (by show cl.length<=900000000000;omega) 0 0
  simp only [show (rootE.n)=0 from rfl,Xim] at hI2;unfold Ya at hI2
  have hszb:decide ((1400:Int)<sz)=false:=by simp;omega
  have hne:=nm_ne (1+j+1) (by omega);have hgr:=Xnk (1+j+1) (by omega)
  have hneb:(nmStr 2 (1+j+1+1)==nmStr 2 (1+j+1))=false:=by simpa using hne
  have HB:=Xb (And.intro hS22 hb022);clear hA2 hS20 bF20 hb020 hb22 r20 r2 r22 hi0 hi1 hlenI hS22 bF22 hb022
  go_wp2_with fail
  go_quiet (fail)
  go_wp2_with (go_at_call 18;refine(hI2 _).mono ?_;rintro e w24 ⟨rfl,-,hs24⟩)
  obtain⟨hS22,hb022⟩:=Xa HB;go_ret;have hbd:=below_drewN hb022 nq;exact⟨rfl,hbd.trans (hs24.below hbd.size (fun q hq=>hS22.low q hq))⟩
end Go.Proofs
