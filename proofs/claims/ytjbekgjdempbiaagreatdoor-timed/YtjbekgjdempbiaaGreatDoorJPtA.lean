import Derived.Test.YtjbekgjdempbiaaGreatDoorJTmB
set_option maxRecDepth 100000
set_option maxHeartbeats 8000000
namespace Go.Proofs
open Go.RowKit Go.Sort Go.Lib Go.Shelf Go.Maps Go.WideMaps
section
variable {B hb rb:Nat} {k:Blk} {vx:VX} {tm:Int} {tn ln:Nat} {tks:List TokE} {lks:List LeaE} {c:List UInt8} {w:World}
theorem Tryz.kRevokeNo (hS:Sys B w hb rb ⟨k,vx,tm,⟨tn,ln,tks,lks⟩,c⟩) (n:Nat) (hn:n<u64lim) (hno:∀ l∈lks,l.n≠n) (cc dd:Int) :
  Calls prog 28 #[.pointer (some ⟨hb,0,none⟩),.string ⟨(nmStr 2 n).toArray⟩,fallV (-1) (-1) cc dd] w fun e w'=>e=.returned (.int .i64 5)∧Below B w w'∧Spares k.turns w w':=by
 have h:=hRevoke B hb rb _ w hS (nmStr 2 n) cc dd (errV 5) 5 (toldK 5 (.inr (by simp [ErrK]))) (fun _=>True)
  (fun W _ hV=>by
   refine(vRevoke_miss k vx tm ⟨tn,ln,tks,lks⟩ c (-1) (-1) W hV (nmStr 2 n) (nm_len hn) _ (parse_lea hn) 0 0 0 0 false [] 0 (fun W' hb'=>(hV.v.va.below hb').lookL_no (wfNm (.inr rfl) hn) (fun t ht e=>by
    have:=(Prod.mk.inj e).2
    exact hno t ht (by omega)))).mono ?_
   rintro e w' ⟨rfl,hb'⟩
   exact⟨rfl,⟨⟨k,vx,tm,⟨tn,ln,tks,lks⟩,c⟩,-1,-1,⟨trivial,rfl,rfl⟩,hV.below hb'⟩,Spares.of_below hb'⟩)
 refine h.mono ?_;rintro e w' ⟨rfl,-,hs⟩;exact⟨rfl,hs.below (Nat.le_of_lt (Nat.lt_of_le_of_lt hS.hlow hS.host.lt)) (fun b hb=>hS.low b hb),hs⟩
end
theorem eq_of_beqI {j n:Nat} (h:((j:Int)==(n:Int))=true):j=n:=Int.ofNat_inj.1 (eq_of_beq h)
theorem ne_of_beqI {j n:Nat} (h:((j:Int)==(n:Int))=false):j≠n:=fun e=>by subst e;simp at h
theorem len_step {a b c j:Nat} (h1:a≤b+3000000) (h2:b≤c+3000000) (h3:c≤400000000+8000000*j):a≤400000000+8000000*(j+1):=by
 rw [Nat.mul_succ];refine Nat.le_trans h1 (Nat.le_trans (Nat.add_le_add_right (Nat.le_trans h2 (Nat.add_le_add_right h3 3000000)) 3000000) ?_);rw [Nat.add_assoc (400000000+8000000*j),Nat.add_assoc 400000000];exact Nat.add_le_add_left (Nat.add_le_add_left (by decide) _) _
def nowP:Nat→Int
 | 0=>105
 | i+1=>nowP i+waitN i
def tmP:Nat→Int
 | 0=>100
 | i+1=>nowP i
def leaQ (i:Nat):LeaE:=⟨2,1,0,nowP i,i,decide (0<i),[112],105⟩
theorem waitN_le32 (i:Nat):2≤waitN i∧waitN i≤32:=by
 match i with
 | 0=>decide
 | 1=>decide
 | 2=>decide
 | 3=>decide
 | _+4=>show (2:Int)≤32∧(32:Int)≤32;decide
theorem waitN_next (i:Nat):waitN (i+1)=if waitN i<32 then waitN i*2 else waitN i:=by
 match i with
 | 0=>decide
 | 1=>decide
 | 2=>decide
 | 3=>decide
 | _+4=>exact(if_neg (show ¬ (32:Int)<32 by decide)).symm
theorem nowP_le:∀ i,105≤nowP i∧nowP i≤105+32*i∧tmP i<nowP i∧100≤tmP i
 | 0=>by decide
 | i+1=>by
  obtain⟨h1,h2,h3,h4⟩:=nowP_le i;obtain⟨h5,h6⟩:=waitN_le32 i;simp only [nowP,tmP];omega
theorem leaQ_fail (i:Nat) (h:i≤8):failL (nowP i) (leaQ i)=leaQ (i+1):=by
 obtain⟨h1,h2,h3,h4⟩:=nowP_le i;obtain⟨h5,h6⟩:=waitN_le32 i
 have e:plusI (nowP i) (waitN i)=nowP (i+1):=by
  show plusI _ _=nowP i+waitN i
  unfold plusI
  split <;> omega
 unfold failL leaQ;simp only [Int.toNat_natCast,e];simp
theorem tk1_early (i:Nat):tk1 (nowP i-1) 0 (leaQ i)=([leaQ i],[]):=if_neg (by show ¬ nowP i≤nowP i-1;omega)
theorem tk1_try (i:Nat) (h:i≤8) (f:Int):tk1 (nowP i) f (leaQ i)=(if (f % 2==1)=true then [leaQ (i+1)] else [],[(2,2)]):=by
 have h1:(leaQ i).at_≤nowP i:=Int.le_refl _;unfold tk1;rw [if_pos h1,leaQ_fail i h]
 split <;> rfl
theorem Tryz.patient (x y:Int) (x0 : -9223372036854775808≤x) (x1:x≤9223372036854775807) (y0 : -9223372036854775808≤y) (y1:y≤9223372036854775807) (w:World) (h9:9≤w.heap.size) (hE:Env w) (hT:ErrT w) :
  Calls prog 11 #[.int .i64 x,.int .i64 y] w fun e w'=>e=.returned (.bool true)∧Below w.heap.size w w':=by
 have hw:=fun W=>well W
 unfold fallV at hw;obtain⟨n,hn,hn9⟩:=pick_nat x 9 (by omega)
 have hP1:=fun W=>kPick x 9 x0 x1 (by omega) (by omega) W
 rw [hn] at hP1;clear hn x0 x1;go_enter func11,ntmps11
 go_wp2_with (go_at_call 15;refine(opened _ h9 hE hT).mono ?_;rintro e w1 ⟨hb,rb,kk,vx,c,rfl,hS1,hc,hb1⟩)
 refine(hw _).mono ?_;rintro e w2 ⟨rfl,hb2⟩;have hba:Below w2.heap.size w2 (w2.alloc (.cells #[.int .i64 (-1),.int .i64 (-1),.int .i64 0,.int .i64 0] 29)):=(Below.refl _ w2).alloc (Nat.le_refl _) _;have hb13:=hb2.trans (hba.mono hb2.size);have hS3:=hS1.below hb13;have bF3:=BoxN.new w2 29 #[.int .i64 (-1),.int .i64 (-1),.int .i64 0,.int .i64 0];have hb03:=hb1.trans (hb13.mono hb1.size);clear hw hS1 hb2 hba hb13;have g0:=bF3.cell 0 (v:=.int .i64 (-1)) rfl;have g1:=bF3.cell 1 (v:=.int .i64 (-1)) rfl;have g2:=bF3.cell 2 (v:=.int .i64 0) rfl;have g3:=bF3.cell 3 (v:=.int .i64 0) rfl;generalize hfb:w2.heap.size=fb at *;have hI:=kIssue hS3 rootE (by simp) rfl [112] (by decide) 5 5 (by omega) (by omega) (by omega) (by simp) (by omega) (by omega) (by omega) 0 0;rw [show (rootE.n)=0 from rfl,nm_t0] at hI;unfold fallV at hI
 go_wp2_with (first
  | (go_at_call 17;refine(hP1 _).mono ?_;rintro e w4 ⟨rfl,rfl⟩)
  | (go_at_call 18;refine hI.mono ?_;rintro e w6 ⟨rfl,⟨c6,hc6,hS6⟩,hs6⟩;have bF6:=hs6.box bF3 (hS3.wh.no bF3 (by decide) (by decide));have hb06:Below w.heap.size w w6:=hb03.trans (hs6.below hb03.size (fun q hq=>hS3.low q hq))))
 have hS6':Sys w.heap.size _ hb rb ⟨kk,vx,tmP 0,⟨0,2,[rootE],[leaQ 0]⟩,c6⟩:=hS6;clear hS6 hs6 hI hS3 bF3 hb03 g0 g1 g2 g3 hP1
 go_loopw [9,10,12] (fun nw wt i wr=>∃ j:Nat,j≤n+1∧nw=.int .u64 (nowP j)∧wt=.int .u64 (waitN j)∧i=.int .i64 j∧∃ k vx c,c.length≤400000000+8000000*j∧Sys w.heap.size wr hb rb ⟨k,vx,tmP j,⟨0,2,[rootE],if j≤n then [leaQ j] else []⟩,c⟩∧BoxN wr fb 29 #[.int .i64 (-1),.int .i64 (-1),.int .i64 0,.int .i64 0]∧Below w.heap.size w wr) (fun _ _ i _=>n+1-(intOf i).toNat)
 case atStart=>exact⟨0,Nat.zero_le _,rfl,rfl,rfl,kk,vx,c6,by omega,by rw [if_pos (Nat.zero_le _)];exact hS6',bF6,hb06⟩
 case round =>
  clear hS6' bF6 hb06;obtain⟨j,hj,rfl,rfl,rfl,k,vx,c,hc,hS,bF,hbw⟩:=hrel
  by_cases hlt:j≤n
  ·rw [if_pos hlt] at hS
   have hlt':(j:Int)≤(n:Int):=by omega
   obtain⟨q1,q2,q3,q4⟩:=nowP_le j
   have hj8:j≤8:=by omega
   have hNx:=hNext hb k.vb k.mt k.ml vx (tmP j) _ _ [rootE] [leaQ j] wr _ _ hS.host hS.wh.v.va
   have hmin:minAt (infosOf (tmP j) [rootE] [leaQ j])=nowP j:=by
    simp [minAt,infosOf,TokE.info,LeaE.info,rootE,leaQ,neverI];omega
   rw [hmin] at hNx
   go_wp2_with (go_at_call 21;refine hNx.mono ?_;rintro e w11 ⟨rfl,hb11⟩;have hS11:=hS.below hb11;have bF11:=bF.below hb11 bF.lt;have hb011:=hbw.trans (hb11.mono hbw.size);have g0:=bF11.cell 0 (v:=.int .i64 (-1)) rfl;have g1:=bF11.cell 1 (v:=.int .i64 (-1)) rfl;have g2:=bF11.cell 2 (v:=.int .i64 0) rfl;have g3:=bF11.cell 3 (v:=.int .i64 0) rfl)
   clear hNx hmin hS bF hbw hb11;have hT1:=kTick1 hS11 hb011.size rfl rfl (show (j:Int)≤800000000 by omega) (by omega) 0 (nowP j-1) (by omega) (by omega) (by omega) (by omega) 0 0;rw [show max (tmP j) (nowP j-1)=nowP j-1 by omega,tk1_early] at hT1;unfold fallV at hT1;refine hT1.mono ?_;rintro e w12 ⟨vx12,v12,c12,rfl,hS12,hrow12,hc12,hs12⟩;have bF12:=hs12.box bF11 (hS11.notTick bF11 (by decide) (by decide) (by decide) (by decide));have hb012:Below w.heap.size w w12:=hb011.trans (hs12.below hb011.size hS11.lowTick)
   obtain⟨p12,cap12,rfl⟩:∃ p cap,v12=.slice p 0 cap:=by
    rcases row_none hrow12 with e | ⟨g,cap,e⟩
    ·exact⟨none,0,e⟩
    ·exact⟨_,cap,e⟩
   clear hT1 hs12 hS11 bF11 hb011 g0 g1 g2 g3 hrow12;have hF3:=kFail hS12 hb012.size (hS12.cne (by simp)) (by show c12.length<4294967281;omega) (nowP j-1) (by simp) (by omega) y y0 y1 (j % 8) (by omega)
   have hj8':((j % 8:Nat):Int)=(j:Int) % 8:=by omega
   rw [hj8'] at hF3
   go_wp2_with (go_at_call 19;refine hF3.mono ?_;rintro e w14 ⟨rfl,⟨k14,vx14,tm14,htm14,hS14⟩,hB14,bs14,hs14,hq14⟩;have bF14:=hs14.box bF12 (fun hm=>by rcases hq14 _ hm _ _ bF12 with e | e <;> exact absurd e (by decide));have hb014:Below w.heap.size w w14:=hb012.trans hB14;have g0:=bF14.cell 0 (v:=.int .i64 (-1)) rfl;have g1:=bF14.cell 1 (v:=.int .i64 (-1)) rfl;have g2:=bF14.cell 2 (v:=.int .i64 0) rfl;have g3:=bF14.cell 3 (v:=.int .i64 0) rfl)
   ·have hjn:Hid (j=n):=hid_intro (eq_of_beqI (by assumption))
    obtain rfl:tm14=nowP j-1:=by simpa using htm14
    try simp only at hS14
    have hT2:=kTick1 hS14 hb014.size rfl rfl (show (j:Int)≤800000000 by omega) (by omega) 0 (nowP j) (by omega) (by omega) (by omega) (by omega) 0 0;rw [show max (nowP j-1) (nowP j)=nowP j by omega,tk1_try j hj8 0] at hT2;simp only [show ((0:Int) % 2==1)=false by decide,Bool.false_eq_true,if_false] at hT2;unfold fallV at hT2;refine hT2.mono ?_;rintro e w17 ⟨vx17,v17,c17,rfl,hS17,hrow,hc17,hs17⟩;have bF17:=hs17.box bF14 (hS14.notTick bF14 (by decide) (by decide) (by decide) (by decide));have hb017:Below w.heap.size w w17:=hb014.trans (hs17.below hb014.size hS14.lowTick);obtain⟨g,cap,rfl⟩:=row_some hrow (by simp);have s17:w17.cell? ⟨g,0,none⟩=some (.string ⟨(nmStr 2 2).toArray⟩):=hrow.cellAt 0 (by simp);clear hT2 hs17 hS14 bF14 hb014 hS12 bF12 hb012 g0 g1 g2 g3 hrow hF3 hs14 hq14 hB14 htm14;obtain⟨r1,r2⟩:=waitN_le32 j;have hcl:=hid_intro (len_step hc17 hc12 hc)
    by_cases hw32:waitN j<32
    ·have hwn:=waitN_next j
     rw [if_pos hw32] at hwn;go_wp2
     go_roundw
     case rel=>exact⟨j+1,by omega,rfl,by rw [hwn],by go_num,k14,vx17,c17,hid_elim hcl,by rw [if_neg (by have:=hid_elim hjn;omega)];exact hS17,bF17,hb017⟩
     case measure=>simp [intOf];omega
    ·have hwn:=waitN_next j
     rw [if_neg hw32] at hwn;go_wp2
     go_roundw
     case rel=>exact⟨j+1,by omega,rfl,by rw [hwn],by go_num,k14,vx17,c17,hid_elim hcl,by rw [if_neg (by have:=hid_elim hjn;omega)];exact hS17,bF17,hb017⟩
     case measure=>simp [intOf];omega
   ·have hjn:Hid (j≠n):=hid_intro (ne_of_beqI (by assumption))
    obtain rfl:tm14=nowP j-1:=by simpa using htm14
    try simp only at hS14
    have hT2:=kTick1 hS14 hb014.size rfl rfl (show (j:Int)≤800000000 by omega) (by omega) 1 (nowP j) (by omega) (by omega) (by omega) (by omega) 0 0;rw [show max (nowP j-1) (nowP j)=nowP j by omega,tk1_try j hj8 1] at hT2;simp only [show ((1:Int) % 2==1)=true by decide,if_true] at hT2;unfold fallV at hT2;refine hT2.mono ?_;rintro e w17 ⟨vx17,v17,c17,rfl,hS17,hrow,hc17,hs17⟩;have bF17:=hs17.box bF14 (hS14.notTick bF14 (by decide) (by decide) (by decide) (by decide));have hb017:Below w.heap.size w w17:=hb014.trans (hs17.below hb014.size hS14.lowTick);obtain⟨g,cap,rfl⟩:=row_some hrow (by simp);have s17:w17.cell? ⟨g,0,none⟩=some (.string ⟨(nmStr 2 2).toArray⟩):=hrow.cellAt 0 (by simp);clear hT2 hs17 hS14 bF14 hb014 hS12 bF12 hb012 g0 g1 g2 g3 hrow hF3 hs14 hq14 hB14 htm14;obtain⟨r1,r2⟩:=waitN_le32 j;have hcl:=hid_intro (len_step hc17 hc12 hc)
    by_cases hw32:waitN j<32
    ·have hwn:=waitN_next j
     rw [if_pos hw32] at hwn;go_wp2
     go_roundw
     case rel=>exact⟨j+1,by omega,rfl,by rw [hwn],by go_num,k14,vx17,c17,hid_elim hcl,by rw [if_pos (by have:=hid_elim hjn;omega)];exact hS17,bF17,hb017⟩
     case measure=>simp [intOf];omega
    ·have hwn:=waitN_next j
     rw [if_neg hw32] at hwn;go_wp2
     go_roundw
     case rel=>exact⟨j+1,by omega,rfl,by rw [hwn],by go_num,k14,vx17,c17,hid_elim hcl,by rw [if_pos (by have:=hid_elim hjn;omega)];exact hS17,bF17,hb017⟩
     case measure=>simp [intOf];omega
  ·have hge:¬ (j:Int)≤(n:Int):=by omega
   rw [if_neg hlt] at hS;have hNx:=hNext hb k.vb k.mt k.ml vx (tmP j) _ _ [rootE] [] wr _ _ hS.host hS.wh.v.va
   have hmin:minAt (infosOf (tmP j) [rootE] [])=18446744073709551615:=by
    simp [minAt,infosOf,TokE.info,rootE,neverI]
   rw [hmin] at hNx
   go_wp2_with (go_at_call 21;refine hNx.mono ?_;rintro e w11 ⟨rfl,hb11⟩)
   have hS11:=hS.below hb11;have bF11:=bF.below hb11 bF.lt;have hb011:=hbw.trans (hb11.mono hbw.size);have hA:=callsIn_wide.1 (hAll0 hb k.vb k.mt k.ml vx (tmP j) _ _ [rootE] [] w11 _ _ hS11.host hS11.wh.v.va);refine hA.mono ?_;rintro e w12 ⟨v12,rfl,r12,hb12⟩;have hS12:=hS11.below hb12;have bF12:=bF11.below hb12 bF11.lt;have hb012:=hb011.trans (hb12.mono hb011.size);have hl1:(infosOf (tmP j) [rootE] []).length=0+1:=rfl;rw [hl1] at r12;obtain⟨ga,ca,rfl⟩:=ownsRow_succ r12;obtain⟨a0,-,-,-,-,-⟩:=infoRow r12 (k:=0) (t:=rootE.info) rfl;obtain⟨-,cs12,bG12⟩:=row_box r12 (g:=ga) rfl;have hid0:rootE.info.id = [116,48]:=nm_t0;rw [hid0] at a0;have g0:=bF12.cell 0 (v:=.int .i64 (-1)) rfl;have g1:=bF12.cell 1 (v:=.int .i64 (-1)) rfl;have g2:=bF12.cell 2 (v:=.int .i64 0) rfl;have g3:=bF12.cell 3 (v:=.int .i64 0) rfl;have hRv:=kRevokeNo hS12 2 (by decide) (fun l hl=>by cases hl) 0 0;unfold fallV at hRv;clear hNx hmin hA hS hS11 bF bF11 hbw hb011 hb11 hb12
   go_wp2_with (go_at_call 28;refine hRv.mono ?_;rintro e w13 ⟨rfl,hB13,hs13⟩;have a1:w13.cell? ⟨ga,0,none⟩=some (.string ⟨#[116,48]⟩):=(cell_of_block (hs13.block ga bG12.lt (hS12.wh.no bG12 (by decide) (by decide))) 0).1.trans (by simpa using a0))
   go_ret;exact⟨rfl,hb012.trans hB13⟩
end Go.Proofs
