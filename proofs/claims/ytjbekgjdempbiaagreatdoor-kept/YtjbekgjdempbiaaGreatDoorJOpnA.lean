import Derived.Test.YtjbekgjdempbiaaGreatDoorJInv
import Derived.Test.YtjbekgjdempbiaaGreatDoorJQueA
import Derived.Test.YtjbekgjdempbiaaGreatDoorJRefG
import Derived.Test.YtjbekgjdempbiaaGreatDoorJMapOps
import Derived.Test.YtjbekgjdempbiaaGreatDoorJDiskC
import Derived.Carry
import Derived.Maps.RangeWalk
import Derived.Test.YtjbekgjdempbiaaGreatDoorJRel
import Derived.Test.YtjbekgjdempbiaaGreatDoorJCntC
import Derived.ChangeKeysEq
set_option maxRecDepth 100000
set_option maxHeartbeats 8000000
namespace Go.Proofs
open Go.RowKit Go.Sort Go.Lib Go.Shelf Go.Maps
def Zo (tm:Int) (ss tt:List UInt8) (aa bb:Int) (L:List ThingD):Int:=if issueE tm ss tt aa bb L≠0 then issueE tm ss tt aa bb L else if tm=18446744073709551615 then 3 else 0
theorem Xsn {ss tt:List UInt8} {tm aa bb:Int} {tks:List Xd} {lks:List Xc} {L:List ThingD} (hl:Rel tks lks L) (h14:lks.length<=14) :
  mayE (decide (0<=liveI tm ss true L)) (pathI tt) aa bb lks.length tm=Zo tm ss tt aa bb L:=by
 unfold mayE Zo issueE;rw [hl.countL]
 by_cases h1:liveI tm ss true L<0
 ·rw [if_pos (by simp;omega),if_pos h1];simp
 rw [if_neg (by simp;omega),if_neg h1]
 by_cases h2:pathI tt=false
 ·rw [if_pos h2,if_pos h2];simp
 rw [if_neg h2,if_neg h2]
 by_cases h3:aa=0\/bb<aa
 ·rw [if_pos h3,if_pos h3];simp
 rw [if_neg h3,if_neg h3]
 by_cases h4:lks.length=14
 ·rw [if_pos (by omega),if_pos h4];simp
 rw [if_neg (by omega),if_neg h4];simp
theorem Xhv (tm:Int) (ss tt:List UInt8) (aa bb:Int) (L:List ThingD):issueE tm ss tt aa bb L=0\/Mm (issueE tm ss tt aa bb L):=by
 unfold issueE Mm
 split
 ·simp
 split
 ·simp
 split
 ·simp
 split <;> simp
theorem Xh0 (tm:Int) (ss tt:List UInt8) (aa bb:Int) (L:List ThingD):Zo tm ss tt aa bb L=0\/Mm (Zo tm ss tt aa bb L):=by
 unfold Zo
 split
 ·exact Xhv tm ss tt aa bb L
 split
 ·exact .inr (by simp [Mm])
 exact .inl rfl
theorem Tryz.Xta {w0:World} {B N wb hb:Nat} (w:World) (hI:Inv w0 B N wb hb w) (hN:N<20000) (ss tt:List UInt8) (hss:ss.length<=1000000) (htt:tt.length<=1000000) (aa bb ff ke pa:Int) (ha0:0<=aa) (ha1:aa<=18446744073709551615) (hb0:0<=bb) (hb1:bb<=18446744073709551615) :
  Calls prog 62 #[.pointer (some ⟨wb,0,none⟩),.agg (Xn.cells ⟨2,ss,tt,aa,bb,ff,-1,-1,ke,pa⟩)] w fun e w'=>e=.returned (.bool true)/\Inv w0 B (N+1) wb hb w':=by
 obtain⟨rb,σ,ra,g,cap,L,hS,hR,hl,hW,hn,hra⟩:=hI.ex;have hok:=hS.wh.v.va.ok
 have hpos:0<L.length:=by rw [hl.len];have:=hn.pos;omega
 have hlen:L.length<100:=by rw [hl.len];have:=hn.nt;have:=hn.nl;omega
 have b9:=hS.b9;have hcs:=hn.small hN;have hnm:=hn.more (Nat.le_succ N);have t0:=hS.wh.v.t0;have t1:=hS.wh.v.t1
 have hMay:∀ W,Whole W σ.k σ.vx σ.tm σ.s σ.c (-1) (-1)->∀ W',Below W.heap.size W W'->Calls prog 64 #[.pointer (some ⟨σ.k.vb,0,none⟩),nmV (parseN ss),.string ⟨tt.toArray⟩,.int .u64 aa,.int .u64 bb] W' fun e w'=>e=.returned (Jf (Zo σ.tm ss tt aa bb L))/\Below W'.heap.size W' w':=fun W hV W' hb'=>by
  have h:=Xpx σ.k.vb σ.k.mt σ.k.ml σ.vx σ.tm σ.s.tn σ.s.ln σ.s.tks σ.s.lks W' (hV.v.va.below hb') (parseN ss) (decide (0<=liveI σ.tm ss true L)) tt htt aa bb (fun W2 hb2=>Xne W2 ((hV.v.va.below hb').below hb2) hl ss);rw [Xsn hl hn.nl] at h;exact h
 by_cases hk:Zo σ.tm ss tt aa bb L=0
 ·rw [hk] at hMay
  have hE0:issueE σ.tm ss tt aa bb L=0:=by
   by_cases h:issueE σ.tm ss tt aa bb L=0
   ·exact h
   unfold Zo at hk;rw [if_pos h] at hk;exact absurd hk h
  have hnev:σ.tm≠18446744073709551615:=fun h=>by
   unfold Zo at hk;rw [if_neg (by simp [hE0]),if_pos h] at hk;cases hk
  have hE:=hE0;unfold issueE at hE
  have hnl:¬ liveI σ.tm ss true L<0:=fun h=>by rw [if_pos h] at hE;omega
  rw [if_neg hnl] at hE
  have hnp:¬ pathI tt=false:=fun h=>by rw [if_pos h] at hE;omega
  rw [if_neg hnp] at hE
  have hnt:¬ (aa=0\/bb<aa):=fun h=>by rw [if_pos h] at hE;omega
  rw [if_neg hnt] at hE
  have hnc:¬ countI false L=14:=fun h=>by rw [if_pos h] at hE;omega
  rw [hl.countL] at hnc;obtain⟨hp24,hpa⟩:=Xs1 (by simpa using hnp)
  have hl14:σ.s.lks.length<14:=by have:=hn.nl;omega
  have hln:=hn.ln
  rcases Zt σ.tm ss true L with⟨i,t,ht,hid,htk,hst,hli⟩ | hli
  ·have hm:=List.mem_of_getElem? ht
   have hp:=Xal (L:=L) hid htk (hl.num hok hm) hli
   have hat:σ.tm<plusI σ.tm aa:=by unfold plusI;split <;> omega
   have r1:=Zv σ.tm aa t0 t1 ha0 ha1;have r2:=Zv σ.tm bb t0 t1 hb0 hb1;have hkl:(keepLine σ.tm [.lea (Xb4 (σ.s.ln+1) t.n (plusI σ.tm aa) (plusI σ.tm bb) tt)]).length<=70000:=Js t0 t1 (s:=σ.s) ⟨⟨⟨r1.1,r1.2,show (0:Int)<=0 by decide,⟨show (0:Int)<=1000000000 by decide,.inl rfl⟩,r2.1,r2.2,hp24,hpa⟩,.inr (fun x hx=>by have:=hS.wh.v.nl x hx;show x.n<σ.s.ln+1;omega),by omega,show σ.s.ln+1<Xo by unfold Xo;omega,hl.num hok hm⟩,trivial⟩ (by simp)
   have hA:=Xjq B wb hb ra g cap σ.tm L _ _ w _ _ (Y9 B hb rb σ) (Jz B hb rb (fun σ'=>σ'=⟨σ.k,σ.vx,σ.tm,⟨σ.s.tn,σ.s.ln+1,σ.s.tks,σ.s.lks ++ [Xb4 (σ.s.ln+1) t.n (plusI σ.tm aa) (plusI σ.tm bb) tt]⟩,σ.c++keepLine σ.tm [.lea (Xb4 (σ.s.ln+1) t.n (plusI σ.tm aa) (plusI σ.tm bb) tt)]⟩)) hS hR hpos hW hI.hB b9 hI.bw hra ss tt aa bb ff (-1) (-1) ke pa 0 (nmStr 2 (σ.s.ln+1)) (fun h=>absurd rfl h) (fun a b c=>a=L ++ [Ms (σ.s.ln+1) t.n tt (plusI σ.tm aa) (plusI σ.tm bb)]/\b=((σ.s.tn+1:Nat):Int)/\c=((σ.s.ln+1+1:Nat):Int))
    2 (.inr ⟨rfl,(fun W _ hS'=>((six B hb rb σ W hS' ke pa (Jf 0) 0 (Vg 0 (.inl rfl)) _).2.1 ss tt aa bb (.string ⟨(nmStr 2 (σ.s.ln+1)).toArray⟩) (fun W' _ hV=>(Xn9 σ.k σ.vx σ.tm σ.s σ.c (-1) (-1) W' hV (by decide) (by decide) (by decide) (by decide) hcs ss tt hss aa bb ha0 ha1 hb0 hb1 hp24 hpa t.n (hl.num hok hm) hp (hMay W' hV) hl14 (by omega)).mono (by rintro e w' ⟨rfl,hV',hs'⟩;exact⟨rfl,⟨_,_,_,⟨rfl,rfl,rfl⟩,hV'⟩,hs'⟩))).mono (fun _ _ h=>Za hS' h)),(fun B' W nb g' cap' hBW hBn hR'=>(Xol B' nb g' cap' L σ.tm _ (σ.s.ln+1) ss tt aa bb W hR' hBn hR'.ne hBW (by omega) hlen (by omega) t0 ha0 ha1 hb1 i t ht hli hE0 hat).mono (by
     rintro e w' ⟨g2,cap2,rfl,hR2,-,-,hs2⟩;refine⟨g2,cap2,_,_,_,⟨rfl,rfl,rfl⟩,?_,hR2,hs2⟩;have:(Ms (σ.s.ln+1) t.n tt (plusI σ.tm aa) (plusI σ.tm bb)).id=nmStr 2 (σ.s.ln+1):=ThingD.U5 _
     rw [this]))⟩)
   refine hA.mono ?_;rintro e w' ⟨rfl,hA'⟩;refine⟨rfl,hA'.inv hI ?_⟩;rintro _ _ _ _ rfl ⟨rfl,rfl,rfl⟩;refine⟨rfl,hl.snocL (Xb4 (σ.s.ln+1) t.n (plusI σ.tm aa) (plusI σ.tm bb) tt) rfl,rfl,rfl,⟨hn.nt,?_,hn.pos,?_,?_,?_,?_,hn.hd.snoc _⟩⟩
   ·simp;omega
   ·have:=hn.tn;show σ.s.tn<=N+1;omega
   ·show σ.s.ln+1<=N+1;omega
   ·have:=hn.c;simp only [List.length_append];omega
   obtain⟨p,hp',e⟩:=hl.Zj hm htk;exact(hn.al.more (Nat.le_succ N)).snocL (fun x hx=>by have:=hS.wh.v.nl x hx;omega) ⟨p,hp',congrArg ThingD.n e⟩
  omega
 have hrg:=(Xh0 σ.tm ss tt aa bb L).resolve_left hk
 have hRef:∀ B' W nb g' cap',Xk B' W nb g' cap' L σ.tm ((σ.s.tn+1:Nat):Int) ((σ.s.ln+1:Nat):Int)->Calls prog 111 #[.pointer (some ⟨nb,0,none⟩),.string ⟨ss.toArray⟩,.string ⟨tt.toArray⟩,.int .u64 aa,.int .u64 bb] W fun e w'=>e=.returned (.tuple #[.string ⟨#[]⟩,.int .i64 (Zo σ.tm ss tt aa bb L)])/\Below W.heap.size W w':=fun B' W nb g' cap' hR'=>by
  by_cases hE0:issueE σ.tm ss tt aa bb L=0
  ·have hnev:σ.tm=18446744073709551615:=by
    by_cases h:σ.tm=18446744073709551615
    ·exact h
    unfold Zo at hk;rw [if_neg (by simp [hE0]),if_neg h] at hk;exact absurd rfl hk
   have hF:Zo σ.tm ss tt aa bb L=3:=by
    unfold Zo;rw [if_neg (by simp [hE0]),if_pos hnev]
   have hE:=hE0;unfold issueE at hE
   rcases Zt σ.tm ss true L with⟨i,t,ht,hid,htk,hst,hli⟩ | hli
   ·rw [hF]
    exact Xkg B' nb g' cap' L σ.tm _ (σ.s.ln+1) ss tt aa bb W hR' (by omega) t0 ha0 ha1 hb1 i t ht hli hE0 (by rw [hnev];unfold plusI;split <;> omega)
   rw [if_pos (by omega)] at hE;cases hE
  have hF:Zo σ.tm ss tt aa bb L=issueE σ.tm ss tt aa bb L:=by
   unfold Zo;rw [if_pos hE0]
  rw [hF];exact Xlg B' nb g' cap' L σ.tm _ _ ss tt aa bb W hR' (by omega) hE0
 have hA:=Xjq B wb hb ra g cap σ.tm L _ _ w _ _ (Y9 B hb rb σ) (Jz B hb rb (fun σ'=>σ'=σ)) hS hR hpos hW hI.hB b9 hI.bw hra ss tt aa bb ff (-1) (-1) ke pa (Zo σ.tm ss tt aa bb L) [] (fun _=>rfl) (fun a b c=>a=L/\b=((σ.s.tn+1:Nat):Int)/\c=((σ.s.ln+1:Nat):Int))
  2 (.inr ⟨rfl,(fun W _ hS'=>((six B hb rb σ W hS' ke pa (Jf (Zo σ.tm ss tt aa bb L)) (Zo σ.tm ss tt aa bb L) (Vg _ (.inr hrg)) _).2.1 ss tt aa bb (.string ⟨#[]⟩) (fun W' _ hV=>(Xmq σ.k.vb σ.k.mt σ.k.ml σ.vx σ.tm σ.s.tn σ.s.ln σ.s.tks σ.s.lks W' hV.v.va ss tt hss aa bb _ hk (hMay W' hV)).mono (fun _ _ h=>Xez hV (by rw [Vf hk];exact h)))).mono (fun _ _ h=>Za hS' h)),(fun B' W nb g' cap' _ _ hR'=>(hRef B' W nb g' cap' hR').mono (by rintro e w' ⟨rfl,hb'⟩;exact⟨g',cap',L,_,_,⟨rfl,rfl,rfl⟩,rfl,hR'.below hb',Spares.of_below hb'⟩))⟩)
 refine hA.mono ?_;rintro e w' ⟨rfl,hA'⟩;exact⟨rfl,hA'.inv hI (by rintro _ _ _ _ rfl ⟨rfl,rfl,rfl⟩;exact⟨rfl,hl,rfl,rfl,hnm⟩)⟩
theorem Tryz.Xnb (B wb hb ra g cap:Nat) (tm:Int) (L:List ThingD) (tr lr:Int) (w:World) (HP HP':World->Prop) (lo1:Xf0 HP) (lo2:Xf0 HP') (hP:HP w) (hR:Xk B w ra g cap L tm tr lr) (hpos:0<L.length) (hW:BoxN w wb 69 #[.pointer (some ⟨hb,0,none⟩),.pointer (some ⟨ra,0,none⟩),.pointer none,.bool false,.bool false]) (hB:B<=w.heap.size) (hB9:9<=B) (hwb:B<=wb) (hra:B<=ra)
  (ss tt:List UInt8) (aa bb ff fl fu ke pa:Int) (k:Int) (rs:Int) (hkr:k≠0->rs=0) (Q2:List ThingD->Int->Int->Prop)
  (kd:Int) (hk:(kd=3/\(∀ W,w.heap.size<=W.heap.size->HP W->Calls prog 20 #[.pointer (some ⟨hb,0,none⟩),.string ⟨ss.toArray⟩,.int .u64 aa,.agg #[.int .i64 fl,.int .i64 fu,.int .i64 ke,.int .i64 pa]] W fun e w'=>e=.returned (.tuple #[.int .u64 rs,.int .i64 k])/\HP' w'/\Z9 B W w')/\∀ B' W nb g' cap',B'<=W.heap.size->B'<=nb->Xk B' W nb g' cap' L tm tr lr->Calls prog 112 #[.pointer (some ⟨nb,0,none⟩),.string ⟨ss.toArray⟩,.int .u64 aa] W fun e w'=>∃ g2 cap2 L2 tr2 lr2,Q2 L2 tr2 lr2/\e=.returned (.tuple #[.int .u64 rs,.int .i64 k])/\Xk B' w' nb g2 cap2 L2 tm tr2 lr2/\Spares [nb,g'] W w')\/(kd=6/\(∀ W,w.heap.size<=W.heap.size->HP W->Calls prog 29 #[.pointer (some ⟨hb,0,none⟩),.string ⟨tt.toArray⟩,.agg #[.int .i64 fl,.int .i64 fu,.int .i64 ke,.int .i64 pa]] W fun e w'=>e=.returned (.tuple #[.int .i64 rs,.int .i64 k])/\HP' w'/\Z9 B W w')/\∀ B' W nb g' cap',B'<=W.heap.size->B'<=nb->Xk B' W nb g' cap' L tm tr lr->Calls prog 115 #[.pointer (some ⟨nb,0,none⟩),.string ⟨tt.toArray⟩] W fun e w'=>∃ g2 cap2 L2 tr2 lr2,Q2 L2 tr2 lr2/\e=.returned (.tuple #[.int .i64 rs,.int .i64 k])/\Xk B' w' nb g2 cap2 L2 tm tr2 lr2/\Spares [nb,g'] W w')) :
  Calls prog 62 #[.pointer (some ⟨wb,0,none⟩),.agg (Xn.cells ⟨kd,ss,tt,aa,bb,ff,fl,fu,ke,pa⟩)] w fun e w'=>e=.returned (.bool true)/\After w B wb hb tm HP' Q2 w':=by
 rcases hk with⟨hk,hH,hC⟩ | ⟨hk,hH,hC⟩
 focus
  have hk1:(kd==1)=false:=by rw [hk];rfl
  have hk2:(kd==2)=false:=by rw [hk];rfl
  have hk3:(kd==3)=true:=by rw [hk];rfl
  clear hk
 rotate_left
 focus
  have hk1:(kd==1)=false:=by rw [hk];rfl
  have hk2:(kd==2)=false:=by rw [hk];rfl
  have hk3:(kd==3)=false:=by rw [hk];rfl
  have hk5:(kd==5)=false:=by rw [hk];rfl
  have hk6:(kd==6)=true:=by rw [hk];rfl
  clear hk
 rotate_left
 all_goals
  have lW:=hW.lt;have hb0:Below w.heap.size w (w.alloc (.cells (Xn.cells ⟨kd,ss,tt,aa,bb,ff,fl,fu,ke,pa⟩) 72)):=(Below.refl _ w).alloc (Nat.le_refl _) _;have bS:=BoxN.new w 72 (Xn.cells ⟨kd,ss,tt,aa,bb,ff,fl,fu,ke,pa⟩);have bW0:=hW.alloc (.cells (Xn.cells ⟨kd,ss,tt,aa,bb,ff,fl,fu,ke,pa⟩) 72);have hCp:=Xgm B ra g cap L tm tr lr _ (hR.below hb0) hpos;rw [World.size_alloc] at hCp;have w1c:=bW0.cell 1 (v:=.pointer (some ⟨ra,0,none⟩)) rfl;have s0c:=bS.cell 0 (v:=.int .i64 kd) rfl
  obtain⟨kz,hkz⟩:∃ kz:Bool,(k != 0)=kz:=⟨_,rfl⟩
  have hkz':(k==0) = !kz:=by rw [<- hkz];simp [bne]
  have Hkz:Hid (kz=true->rs=0):=Xb (fun e=>hkr (by rw [e] at hkz;simpa using hkz));clear hkr;simp only [Xn.cells] at *;cases kz
  all_goals
   try (have hzz:=Xa Hkz rfl)
   try subst hzz
   go_enter func62,ntmps62
   go_wp2_with (first
    | (go_at_call 106;refine hCp.mono ?_;rintro e w1 ⟨g',cap',rfl,hR1,hb1⟩;have bS1:=bS.below hb1 (by simp);have s01:=bS1.cell 0 (v:=.int .i64 kd) rfl))
   have hb1':Below w.heap.size w w1:=hb0.trans (hb1.mono (by omega));have bW1:=bW0.below hb1 (by omega);have hP1:Uv wb hb w.heap.size ⟨kd,ss,tt,aa,bb,ff,fl,fu,ke,pa⟩ w1:=Uv.mk' bW1 bS1;have hh1:HP w1.drew:=lo1.below hP hb1'.drew;have hg'l:=hR1.glt;have hg'b:w.heap.size+1<=g':=(hR1.row.lt g' rfl).1;have hH1:=hH w1.drew (by have:=hb1'.size;exact this) hh1;have hRo1:Xk B w1.drew ra g cap L tm tr lr:=hR.below hb1'.drew;have hRn1:Xk (w.heap.size+1) w1.drew (w.heap.size+1) g' cap' L tm tr lr:=hR1.below (Below.refl _ _).drew
   have fW:X2 w1.drew wb:=⟨by omega,_,_,bW1,by decide⟩
   have fS:X2 w1.drew w.heap.size:=⟨by omega,_,_,bS1,by decide⟩
   obtain⟨fA,fG⟩:=hRo1.foreign hB9 (by omega);obtain⟨fN,fH⟩:=hRn1.foreign (by omega) (by omega);simp only [Uv] at hP1
   go_region_held3 (Uv wb hb w.heap.size ⟨kd,ss,tt,aa,bb,ff,fl,fu,ke,pa⟩) (first
    | with_reducible exact Uv.drew hP1
    | with_reducible assumption) (first | ((first | go_at_call 20 | go_at_call 29);refine hH1.mono ?_;rintro e w2 ⟨rfl,hp2,hs,hsp2,hso⟩;have bW2:=Spares.box (W:=w1.drew) hsp2 bW1 (fun hx=>(hso _ hx).2 fW);have bS2:=Spares.box (W:=w1.drew) hsp2 bS1 (fun hx=>(hso _ hx).2 fS);have hP2:=Uv.mk' (st:=⟨kd,ss,tt,aa,bb,ff,fl,fu,ke,pa⟩) bW2 bS2))
   have hRn2:Xk (w.heap.size+1) w2 (w.heap.size+1) g' cap' L tm tr lr:=hRn1.Zz hsp2 (fun hx=>(hso _ hx).2 fN) (fun hx=>(hso _ hx).2 fH);have hC2:=hC (w.heap.size+1) w2 (w.heap.size+1) g' cap' (by have:=hRn2.v.lt;omega) (Nat.le_refl _) hRn2;obtain⟨⟨q0,q1,q2,q3,q4⟩,q6,q7,q8,q9⟩:=hP2;have hgd:=hRn2.Xbn;have lra:=hR.v.lt;have lgg:=hR.glt;have hRo2:Xk B w2 ra g cap L tm tr lr:=hRo1.Zz hsp2 (fun hx=>(hso _ hx).2 fA) (fun hx=>(hso _ hx).2 fG);have hbB2:Below B w w2:=(hb1'.mono hB).drew.trans (hsp2.below (by have:=hb1'.size;exact Nat.le_trans hB this) (fun b hb=>(hso b hb).1));have HBB:=Xb hbB2;clear hP1 hCp hH hC hH1 w1c s0c s01 hsp2 hso hbB2
   go_wp2_with (first
    | ((first | go_at_call 112 | go_at_call 115);refine hC2.mono ?_;rintro e w3 ⟨g2,cap2,L2,tr2,lr2,hQ2,rfl,hR3,hsp3⟩;have bW3:=hsp3.box bW2 (fun hx=>by rcases List.mem_cons.1 hx with e | e;omega;have:=List.mem_singleton.1 e;omega);have c13:=bW3.cell 1 (v:=.pointer (some ⟨ra,0,none⟩)) rfl;have hRo3:Xk B w3 ra g cap L tm tr lr:=hRo2.Zz hsp3 (fun hx=>by rcases List.mem_cons.1 hx with e | e;omega;have:=List.mem_singleton.1 e;omega) (fun hx=>by rcases List.mem_cons.1 hx with e | e;omega;have:=List.mem_singleton.1 e;omega))
    | (go_at_call 113;refine(Xm9 _ _ _ _ _ _ _ _ _ _ _ _ _ _ _ _ w3 hR3 hRo3).mono ?_;rintro e w5 ⟨tb,rfl,hb5⟩;have bW5:=bW3.below hb5 bW3.lt;have hTu:=turned wb (w.heap.size+1) k tb _ _ _ _ w5 bW5)
    | (go_at_call 110;refine hTu.mono ?_;rintro e w4 ⟨rfl,rfl⟩))
   go_ret;refine⟨by first | rfl | simp,?_⟩;obtain⟨cur,hcur⟩:=hgd
   have hp3:HP' w3:=lo2.other hp2 hsp3 (fun b hb=>by
    rcases List.mem_cons.1 hb with rfl | hb
    ·exact X2.of hRn2.v (by omega) (by decide)
    rw [List.mem_singleton.1 hb];exact X2.of hcur (by omega) (by decide))
   have hp5:HP' w5:=lo2.below hp3 hb5;have hR5:=hR3.below hb5;have hsp4:Spares [wb] w5 (w5.setCell ⟨wb,1,none⟩ (.pointer (some ⟨w.heap.size+1,0,none⟩))):=(Spares.of_below (Below.refl _ _)).set (by simp) _ _
   have nW:wb≠g2:=fun e=>by obtain⟨c,hc⟩:=hR5.Xbn;exact bW5.ne hc (by decide) e
   have hp4:HP' (w5.setCell ⟨wb,1,none⟩ (.pointer (some ⟨w.heap.size+1,0,none⟩))):=lo2.other hp5 hsp4 (fun b hb=>by rw [List.mem_singleton.1 hb];exact X2.of bW5 (by omega) (by decide));have hR4:=(Xk.Zz hR5 hsp4 (by simp;omega) (by simpa using Ne.symm nW)).lower (B':=B) (by omega)
   have hB3:Below B w w3:=(Xa HBB).trans (hsp3.below (by have:=hRn2.v.lt;omega) (fun b hb=>by
    rcases List.mem_cons.1 hb with rfl | hb
    ·omega
    rw [List.mem_singleton.1 hb];omega))
   exact⟨hp4,⟨L2,tr2,lr2,_,g2,cap2,hQ2,hR4,by omega,bW5.set 1 _⟩,(hB3.trans (hb5.mono (by have:=hR3.v.lt;omega))).setCell (p:=⟨wb,1,none⟩) hwb _⟩
abbrev Xa9 (wb hb ra sb:Nat) (ss tt:List UInt8) (W:World):Prop:=
 W.cell? ⟨wb,0,none⟩=some (.pointer (some ⟨hb,0,none⟩))/\W.cell? ⟨wb,1,none⟩=some (.pointer (some ⟨ra,0,none⟩))/\W.cell? ⟨sb,1,none⟩=some (.string ⟨ss.toArray⟩)/\W.cell? ⟨sb,2,none⟩=some (.string ⟨tt.toArray⟩)
theorem Xa9.drew {wb hb ra sb:Nat} {ss tt:List UInt8} {W:World} (h:Xa9 wb hb ra sb ss tt W):Xa9 wb hb ra sb ss tt W.drew:=h
theorem Xa9.mk' {wb hb ra sb:Nat} {st:Xn} {W:World} {t t':TypeId} {c2 c3 c4:Value} (hW:BoxN W wb t #[.pointer (some ⟨hb,0,none⟩),.pointer (some ⟨ra,0,none⟩),c2,c3,c4]) (hS:BoxN W sb t' st.cells):Xa9 wb hb ra sb st.s st.t W:=
 ⟨hW.cell 0 rfl,hW.cell 1 rfl,hS.cell 1 rfl,hS.cell 2 rfl⟩
theorem Tryz.Xs0 (B wb hb ra g cap:Nat) (tm:Int) (L:List ThingD) (tr lr:Int) (w:World) (hR:Xk B w ra g cap L tm tr lr) (hpos:0<L.length) (hW:BoxN w wb 69 #[.pointer (some ⟨hb,0,none⟩),.pointer (some ⟨ra,0,none⟩),.pointer none,.bool false,.bool false])
  (ss tt:List UInt8) (aa bb ff fl fu ke pa:Int) (r:Bool)
  (hH:∀ W,Below w.heap.size w W->Calls prog 23 #[.pointer (some ⟨hb,0,none⟩),.string ⟨ss.toArray⟩,.string ⟨tt.toArray⟩] W fun e w'=>e=.returned (.bool r)/\Below W.heap.size W w')
  (hC:∀ W,Below w.heap.size w W->Calls prog 117 #[.pointer (some ⟨ra,0,none⟩),.string ⟨ss.toArray⟩,.string ⟨tt.toArray⟩] W fun e w'=>e=.returned (.bool r)/\Below W.heap.size W w') :
  Calls prog 62 #[.pointer (some ⟨wb,0,none⟩),.agg (Xn.cells ⟨4,ss,tt,aa,bb,ff,fl,fu,ke,pa⟩)] w fun e w'=>e=.returned (.bool true)/\Below w.heap.size w w':=by
 have lW:=hW.lt;have hb0:Below w.heap.size w (w.alloc (.cells (Xn.cells ⟨4,ss,tt,aa,bb,ff,fl,fu,ke,pa⟩) 72)):=(Below.refl _ w).alloc (Nat.le_refl _) _;have bS:=BoxN.new w 72 (Xn.cells ⟨4,ss,tt,aa,bb,ff,fl,fu,ke,pa⟩);have bW0:=hW.alloc (.cells (Xn.cells ⟨4,ss,tt,aa,bb,ff,fl,fu,ke,pa⟩) 72);have hCp:=Xgm B ra g cap L tm tr lr _ (hR.below hb0) hpos;rw [World.size_alloc] at hCp;have w1c:=bW0.cell 1 (v:=.pointer (some ⟨ra,0,none⟩)) rfl;have s0c:=bS.cell 0 (v:=.int .i64 4) rfl;simp only [Xn.cells] at *;go_enter func62,ntmps62
 go_wp2_with (first
  | (go_at_call 106;refine hCp.mono ?_;rintro e w1 ⟨g',cap',rfl,hR1,hb1⟩;have bS1:=bS.below hb1 (by simp);have s01:=bS1.cell 0 (v:=.int .i64 4) rfl))
 have hb1':Below w.heap.size w w1:=hb0.trans (hb1.mono (by omega));have bW1:=bW0.below hb1 (by omega);have hP1:Xa9 wb hb ra w.heap.size ss tt w1:=Xa9.mk' (st:=⟨4,ss,tt,aa,bb,ff,fl,fu,ke,pa⟩) bW1 bS1;have hH1:=hH w1.drew hb1'.drew;simp only [Xa9] at hP1
 go_region_held3 (Xa9 wb hb ra w.heap.size ss tt) (first
  | with_reducible exact Xa9.drew hP1
  | with_reducible assumption) (first | (go_at_call 23;refine hH1.mono ?_;rintro e w2 ⟨rfl,hb2⟩;have bW2:=BoxN.below (W:=w1.drew) bW1 hb2 bW1.lt;have bS2:=BoxN.below (W:=w1.drew) bS1 hb2 bS1.lt;have hP2:=Xa9.mk' (st:=⟨4,ss,tt,aa,bb,ff,fl,fu,ke,pa⟩) bW2 bS2))
 have hb2':Below w.heap.size w w2:=hb1'.drew.trans (hb2.mono (by have:=hb1'.size;exact this));have hC2:=hC w2.drew hb2'.drew
 go_wp2_with fail
 simp only [Xa9] at hP2
 go_region_held3 (Xa9 wb hb ra w.heap.size ss tt) (first
  | with_reducible exact Xa9.drew hP2
  | with_reducible assumption) (first | (go_at_call 117;refine hC2.mono ?_;rintro e w3 ⟨rfl,hb3⟩;have bW3:=BoxN.below (W:=w2.drew) bW2 hb3 bW2.lt;have bS3:=BoxN.below (W:=w2.drew) bS2 hb3 bS2.lt;have hP3:=Xa9.mk' (st:=⟨4,ss,tt,aa,bb,ff,fl,fu,ke,pa⟩) bW3 bS3))
 go_wp2;go_ret;exact⟨by first | rfl | simp,hb2'.drew.trans (hb3.mono (by have:=hb2'.size;exact this))⟩
theorem Tryz.Xs9 {w0:World} {B N wb hb:Nat} (w:World) (hI:Inv w0 B N wb hb w) (hN:N<20000) (ss tt:List UInt8) (hss:ss.length<=1000000) (aa bb ff ke pa:Int) (ha0:0<=aa) (ha1:aa<=18446744073709551615) :
  Calls prog 62 #[.pointer (some ⟨wb,0,none⟩),.agg (Xn.cells ⟨3,ss,tt,aa,bb,ff,-1,-1,ke,pa⟩)] w fun e w'=>e=.returned (.bool true)/\Inv w0 B (N+1) wb hb w':=by
 obtain⟨rb,σ,ra,g,cap,L,hS,hR,hl,hW,hn,hra⟩:=hI.ex;have hok:=hS.wh.v.va.ok
 have hpos:0<L.length:=by rw [hl.len];have:=hn.pos;omega
 have b9:=hS.b9;have hcs:=hn.small hN;have hnm:=hn.more (Nat.le_succ N)
 rcases Zt σ.tm ss false L with⟨i,t,ht,hid,htk,hst,hli⟩ | hli
 ·obtain⟨k,l,hk,rfl,hp,hlv,hrel⟩:=Xdt hok hl ht hid htk hst hli
  have hA:=Xnb B wb hb ra g cap σ.tm L _ _ w _ _ (Y9 B hb rb σ) (Jz B hb rb (fun σ'=>σ'.tm=σ.tm/\σ'.s=⟨σ.s.tn,σ.s.ln,σ.s.tks,σ.s.lks.set k { l with at_:=M0 σ.tm aa l }⟩/\σ'.c.length<=σ.c.length+70000)) hS hR hpos hW hI.hB b9 hI.bw hra ss tt aa bb ff (-1) (-1) ke pa 0 (M0 σ.tm aa l) (fun h=>absurd rfl h) (fun a b c=>a=L.set i { (thL l) with at_:=M0 σ.tm aa l }/\b=((σ.s.tn+1:Nat):Int)/\c=((σ.s.ln+1:Nat):Int))
    3 (.inl ⟨rfl,(fun W _ hS'=>((six B hb rb σ W hS' ke pa (Jf 0) 0 (Vg 0 (.inl rfl)) (fun σ'=>σ'.tm=σ.tm/\σ'.s=⟨σ.s.tn,σ.s.ln,σ.s.tks,σ.s.lks.set k { l with at_:=M0 σ.tm aa l }⟩/\σ'.c.length<=σ.c.length+70000)).2.2.1 ss aa (.int .u64 (M0 σ.tm aa l)) (fun W' _ hV=>(Xmf σ.k σ.vx σ.tm σ.s σ.c (-1) (-1) W' hV (by decide) (by decide) (by decide) (by decide) hcs ss hss k l hk hp hlv aa ha0 ha1 (by have:=hn.nl;omega)).mono (by rintro e w' ⟨rfl,⟨c',l',f',hc',-,-,-,-,hV'⟩,hs'⟩;exact⟨rfl,⟨⟨σ.k,σ.vx,σ.tm,_,c'⟩,l',f',⟨⟨rfl,rfl,hc'⟩,rfl,rfl⟩,hV'⟩,hs'⟩))).mono (fun _ _ h=>Za hS' h)),(fun B' W nb g' cap' hBW _ hR'=>(Xl4 B' nb g' cap' L σ.tm _ _ ss aa W hR' hBW hR'.ne hS.wh.v.t0 ha0 ha1 i _ ht hli).mono (by
     rintro e w' ⟨rfl,hR2,-,hs2⟩
     exact⟨g',cap',_,_,_,⟨rfl,rfl,rfl⟩,rfl,hR2,hs2⟩))⟩)
  refine hA.mono ?_;rintro e w' ⟨rfl,hA'⟩;refine⟨rfl,hA'.inv hI ?_⟩;rintro σ' _ _ _ ⟨h1,h2,h3⟩ ⟨rfl,rfl,rfl⟩;obtain⟨k',vx',tm',s',c'⟩:=σ';simp only at h1 h2 h3;subst h1 h2;refine⟨rfl,hrel _,rfl,rfl,⟨hn.nt,?_,hn.pos,?_,?_,?_,?_,hn.hd.set ht rfl rfl⟩⟩
  ·simpa using hn.nl
  ·have:=hn.tn;show σ.s.tn<=N+1;omega
  ·have:=hn.ln;show σ.s.ln<=N+1;omega
  ·have:=hn.c;show c'.length<=(N+1)*150000;omega
  exact(hn.al.more (Nat.le_succ N)).setL hk rfl rfl rfl rfl
 obtain⟨ak,au,at_,tr,pd,lp,la,hF⟩:=Xbs (vb:=σ.k.vb) (mt:=σ.k.mt) (ml:=σ.k.ml) (vx:=σ.vx) (tn:=σ.s.tn) (ln:=σ.s.ln) hok hl ss hli
 have hA:=Xnb B wb hb ra g cap σ.tm L _ _ w _ _ (Y9 B hb rb σ) (Jz B hb rb (fun σ'=>σ'=σ)) hS hR hpos hW hI.hB b9 hI.bw hra ss tt aa bb ff (-1) (-1) ke pa 5 0 (fun _=>rfl) (fun a b c=>a=L/\b=((σ.s.tn+1:Nat):Int)/\c=((σ.s.ln+1:Nat):Int))
  3 (.inl ⟨rfl,(fun W _ hS'=>((six B hb rb σ W hS' ke pa (Jf 5) 5 (Vg 5 (.inr (by simp [Mm]))) _).2.2.1 ss aa (.int .u64 0) (fun W' _ hV=>(Xi0 σ.k.vb W' ss aa _ ak au at_ tr pd lp la (parse ⟨ss.toArray⟩ (by simpa [ByteArray.size] using hss) W' hV.v.va.env hV.v.va.six) (fun W2 hb2=>hF W2 (hV.v.va.below hb2))).mono (fun _ _ h=>Xez hV h))).mono (fun _ _ h=>Za hS' h)),(fun B' W nb g' cap' _ _ hR'=>(Xj8 B' nb g' cap' L σ.tm _ _ ss aa W hR' hli).mono (by rintro e w' ⟨rfl,hb'⟩;exact⟨g',cap',L,_,_,⟨rfl,rfl,rfl⟩,rfl,hR'.below hb',Spares.of_below hb'⟩))⟩)
 refine hA.mono ?_;rintro e w' ⟨rfl,hA'⟩;exact⟨rfl,hA'.inv hI (by rintro _ _ _ _ rfl ⟨rfl,rfl,rfl⟩;exact⟨rfl,hl,rfl,rfl,hnm⟩)⟩
theorem Tryz.Xqa {B:Nat} {hb rb:Nat} {σ:SS} {L:List ThingD} (W:World) (hS:Sys B W hb rb σ) (hl:Rel σ.s.tks σ.s.lks L) (ss tt:List UInt8) (hss:ss.length<=1000000) :
  Calls prog 47 #[.pointer (some ⟨σ.k.vb,0,none⟩),.string ⟨ss.toArray⟩,.string ⟨tt.toArray⟩] W fun e w'=>e=.returned (.bool (authI σ.tm ss tt L))/\Below W.heap.size W w':=by
 have hok:=hS.wh.v.va.ok;have hP:=parse ⟨ss.toArray⟩ (by simpa [ByteArray.size] using hss) W hS.wh.v.va.env hS.wh.v.va.six
 rcases Zt σ.tm ss false L with⟨i,t,ht,hid,htk,hst,hli⟩ | hli
 ·obtain⟨k,l,hk,rfl,hp,hlv,-⟩:=Xdt hok hl ht hid htk hst hli
  rw [Xg0 ht hli];simp only [hp] at hP
  have h:=Xgd σ.k.vb W ss tt _ l.ak l.au l.at_ l.tr l.pd l.pth l.last true hP (fun W2 hb2=>by
   have h:=Vm σ.k.vb σ.k.mt σ.k.ml σ.vx σ.tm σ.s.tn σ.s.ln σ.s.tks σ.s.lks W2 (hS.wh.v.va.below hb2) l (List.mem_of_getElem? hk);rw [hlv] at h
   exact h)
  rw [Bool.true_and] at h;exact h
 obtain⟨ak,au,at_,tr,pd,lp,la,hF⟩:=Xbs (vb:=σ.k.vb) (mt:=σ.k.mt) (ml:=σ.k.ml) (vx:=σ.vx) (tn:=σ.s.tn) (ln:=σ.s.ln) hok hl ss hli;rw [Xeo hli];exact Xgd σ.k.vb W ss tt _ ak au at_ tr pd lp la false hP (fun W2 hb2=>hF W2 (hS.wh.v.va.below hb2))
theorem Tryz.Xvh {w0:World} {B N wb hb:Nat} (w:World) (hI:Inv w0 B N wb hb w) (ss tt:List UInt8) (hss:ss.length<=1000000) (aa bb ff fl fu ke pa:Int) :
  Calls prog 62 #[.pointer (some ⟨wb,0,none⟩),.agg (Xn.cells ⟨4,ss,tt,aa,bb,ff,fl,fu,ke,pa⟩)] w fun e w'=>e=.returned (.bool true)/\Inv w0 B (N+1) wb hb w':=by
 have hI':=hI;obtain⟨rb,σ,ra,g,cap,L,hS,hR,hl,hW,hn,hra⟩:=hI.ex
 have hpos:0<L.length:=by rw [hl.len];have:=hn.pos;omega
 have hC:=fun W (b:Below w.heap.size w W)=>rAuth B ra g cap L σ.tm _ _ ss tt W (hR.below b)
 have hH:=fun W (b:Below w.heap.size w W)=>Xwe hb σ.k.db rb σ.k.vb W (hS.below b).host ss tt _ (Xqa W (hS.below b) hl ss tt hss)
 refine(Xs0 B wb hb ra g cap σ.tm L _ _ w hR hpos hW ss tt aa bb ff fl fu ke pa _ hH hC).mono ?_;rintro e w' ⟨rfl,hb'⟩;exact⟨rfl,(hI'.below hb').more (by omega)⟩
end Go.Proofs
namespace Go.Proofs
open Go.RowKit Go.Sort Go.Maps
theorem Tryz.root (w:World):Calls prog 85 #[] w fun e w'=>e=.returned (nmV (1,0))/\Below w.heap.size w w':=by
 unfold nmV;go_enter func85,ntmps85;go_wp2;exact bodyPost_ret (v:=.agg #[.int .i64 1,.int .u64 0]) (by simp [results,results85,go_sem]) rfl ⟨rfl,(Below.refl _ _).alloc (Nat.le_refl _) _⟩
theorem Tryz.hIs (hb:Nat) (c0 c1:Value) (p:Addr) (w:World) (hH:BoxN w hb 78 #[c0,c1,.pointer (some p)]) :
  Calls prog 36 #[.pointer (some ⟨hb,0,none⟩)] w fun e w'=>e=.returned (.bool true)/\w'=w:=by
 have h2:=hH.cell 2 (v:=.pointer (some p)) rfl;go_enter func36,ntmps36;go_wp2;go_ret;exact⟨rfl,rfl⟩
theorem Xeu (w:World) (db i i':Nat) (v v':Value):w.grownBy ((w.setCell ⟨db,i,none⟩ v).setCell ⟨db,i',none⟩ v') (some db):=
 ⟨rfl,rfl,rfl,by simp,fun k _ hne=>by
  have hd:k≠db:=fun e=>hne (by rw [e])
  rw [Yt _ _ _ _ _ hd,Yt _ _ _ _ _ hd]⟩
theorem BoxN.ne_map {H:Type} {P:Program} {k:TypeId} {R:Value->Option (DataW H × List MemPlace)} {D:DataW H} {W:World} {B b n:Nat} {t:TypeId} {cs:Array Value} (h:BoxN W B t cs) (hm:W.ownsMap P k R b n D):b≠B:=by
 rintro rfl;obtain⟨es,clock,hb,_⟩:=hm;have e:=hb.symm.trans h;cases e
theorem Tryz.up (db b:Nat) (m2 p l f dn:Value) (w:World) (hD:BoxN w db 100 #[.map (some b),m2,p,l,f,dn]) (hown:w.ownsMap prog 9 Ye b 0 (.map [])) :
  Calls prog 56 #[.pointer (some ⟨db,0,none⟩)] w fun e w'=>e=.returned (.tuple #[])/\(∃ b2,w.heap.size<=b2/\w'.ownsMap prog 9 Ye b2 0 (.map [])/\BoxN w' db 100 #[.map (some b),.map (some b2),.slice none 0 0,l,f,.bool false])/\w.grownBy w' (some db):=by
 have hmk:∀ W,(Instr.makeMap 97 none).run prog W=.ok (.map (some W.heap.size)) (W.alloc (.map #[] 0)):=fun W=>run_makeMap _ W
 have d0:=hD.cell 0 (v:=.map (some b)) rfl;have d1:=hD.cell 1 (v:=m2) rfl;have d2:=hD.cell 2 (v:=p) rfl;have d5:=hD.cell 5 (v:=dn) rfl;have f1:=hD.frozen 1;have f2:=hD.frozen 2;have f5:=hD.frozen 5;have lD:=hD.lt;go_enter func56,ntmps56;have hne:=hD.ne_map hown;have hown1:=(hown.setCell (a:=⟨db,1,none⟩) hne (.map (some w.heap.size))).alloc (.map #[] 0)
 go_wp2_with (first
  | (at_range;refine wpList_range_own _ rfl _ 97 rfl 9 101 (string_keyed underlying9) underlying97 _ b 0 _ rfl hown1 ?_;intro w1 hrg hg1 hs1)
  | go_in)
 have bD1:BoxN w1 db 100 #[.map (some b),.map (some w.heap.size),p,l,f,dn]:=((hD.set 1 (.map (some w.heap.size))).alloc (.map #[] 0)).kept hg1 (by simp);have hMn0:=World.ownsMap_made (w.setCell ⟨db,1,none⟩ (.map (some w.heap.size))) prog 9 Ye;have hMn1:=hMn0.kept hg1 (by simp);rw [World.size_setCell] at hMn1
 have hgr:w.grownBy w1 (some db):=⟨hg1.os,hg1.tape,hg1.output,by rw [hs1];simp;omega,fun k hk hnk=>by
  have hd:k≠db:=fun e=>hnk (by rw [e])
  rw [hg1.block k (by simp;omega) (by simp)]
  show (((w.setCell ⟨db,1,none⟩ (.map (some w.heap.size))).heap.push _)[k]?)=_
  rw [Array.getElem?_push_lt (by simpa using hk),<- Array.getElem?_eq_getElem,Yt _ _ _ _ _ hd]⟩
 have HG:=Xb hgr;clear hgr hg1 hs1 hown1 hown d0 d1 d2 d5 f1 f2 f5;have d2:=bD1.cell 2 (v:=p) rfl;have d5:=bD1.cell 5 (v:=dn) rfl;have f2:=bD1.frozen 2;have f5:=bD1.frozen 5;refine wp_loop_rounds 1 ?_;rw [rounds_succ]
 go_wp2_with (first
  | (at_next;refine wpList_next_ranges _ rfl _ rfl 9 (string_keyed underlying9) Ye (fun v:Value=>v) (fun v:Value=>v) (fun v _ _=>⟨v,rfl⟩) (fun v _ _=>⟨v,rfl⟩) b _ 0 _ _ _ rfl hrg ?_ ?_)
  | go_in)
 ·intro _ _
  clear hrg;go_wp2
  go_end0
  have hnn:=bD1.ne_map hMn1;exact⟨rfl,⟨_,Nat.le_refl _,(hMn1.setCell (a:=⟨db,2,none⟩) hnn _).setCell (a:=⟨db,5,none⟩) hnn _,(bD1.set 2 _).set 5 _⟩,(Xa HG).andThen (Xeu w1 db 2 5 _ _) (fun j e=>.inr e)⟩
 intro x c kl y yp w' cnt' _ h2;have h3:false=true:=h2;cases h3
theorem Tryz.Xtk (w:World):Calls prog 35 #[] w fun e w'=>∃ hb db rb md mn,e=.returned (.pointer (some ⟨hb,0,none⟩))/\BoxN w' hb 78 #[.pointer (some ⟨db,0,none⟩),.pointer (some ⟨rb,0,none⟩),.pointer none]/\Xj w' db md mn none none (.slice none 0 0) (-1) (-1)/\BoxN w' rb 88 #[.slice none 0 0,.int .u64 0]/\(w.heap.size<=hb/\w.heap.size<=db/\w.heap.size<=rb/\w.heap.size<=md/\w.heap.size<=mn)/\Below w.heap.size w w':=by
 have hmk:∀ W,(Instr.makeMap 97 none).run prog W=.ok (.map (some W.heap.size)) (W.alloc (.map #[] 0)):=fun W=>run_makeMap _ W
 have bD:=((BoxN.new (w.alloc (.map #[] 0)) 100 #[.map (some w.heap.size),.map none,.slice none 0 0,.int .i64 (-1),.int .i64 (-1),.bool false]).alloc (.cells #[.slice none 0 0,.int .u64 0] 88)).alloc (.cells #[.pointer (some ⟨w.heap.size+1,0,none⟩),.pointer (some ⟨w.heap.size+1+1,0,none⟩),.pointer none] 78);have bR:=(BoxN.new ((w.alloc (.map #[] 0)).alloc (.cells #[.map (some w.heap.size),.map none,.slice none 0 0,.int .i64 (-1),.int .i64 (-1),.bool false] 100)) 88 #[.slice none 0 0,.int .u64 0]).alloc (.cells #[.pointer (some ⟨w.heap.size+1,0,none⟩),.pointer (some ⟨w.heap.size+1+1,0,none⟩),.pointer none] 78);have bH:=BoxN.new (((w.alloc (.map #[] 0)).alloc (.cells #[.map (some w.heap.size),.map none,.slice none 0 0,.int .i64 (-1),.int .i64 (-1),.bool false] 100)).alloc (.cells #[.slice none 0 0,.int .u64 0] 88)) 78 #[.pointer (some ⟨w.heap.size+1,0,none⟩),.pointer (some ⟨w.heap.size+1+1,0,none⟩),.pointer none];have hM:((((w.alloc (.map #[] 0)).alloc (.cells #[.map (some w.heap.size),.map none,.slice none 0 0,.int .i64 (-1),.int .i64 (-1),.bool false] 100)).alloc (.cells #[.slice none 0 0,.int .u64 0] 88)).alloc (.cells #[.pointer (some ⟨w.heap.size+1,0,none⟩),.pointer (some ⟨w.heap.size+1+1,0,none⟩),.pointer none] 78)).ownsMap prog 9 Ye w.heap.size 0 (.map []):=(((World.ownsMap_made w prog 9 Ye).alloc _).alloc _).alloc _;have hB:Below w.heap.size w ((((w.alloc (.map #[] 0)).alloc (.cells #[.map (some w.heap.size),.map none,.slice none 0 0,.int .i64 (-1),.int .i64 (-1),.bool false] 100)).alloc (.cells #[.slice none 0 0,.int .u64 0] 88)).alloc (.cells #[.pointer (some ⟨w.heap.size+1,0,none⟩),.pointer (some ⟨w.heap.size+1+1,0,none⟩),.pointer none] 78)):=((((Below.refl _ w).alloc (Nat.le_refl _) _).alloc (by simp) _).alloc (by simp;omega) _).alloc (by simp;omega) _;simp only [World.size_alloc] at bD bR bH;have hU:=up _ _ _ _ _ _ _ _ bD hM;go_enter func35,ntmps35
 go_wp2_with (go_at_call 56;refine hU.mono ?_;rintro e w1 ⟨rfl,⟨b2,hb2,hM2,bD1⟩,hg1⟩)
 go_ret;have hM1:=hM.kept hg1 (by intro e;injection e with e;omega);simp only [World.size_alloc] at hb2;exact⟨_,_,_,w.heap.size,b2,rfl,bH.kept hg1 (by intro e;injection e with e;omega),⟨bD1,⟨0,by omega,hM1⟩,⟨0,by omega,hM2⟩,by simp,by simp,by omega⟩,bR.kept hg1 (by intro e;injection e with e;omega),⟨by omega,by omega,by omega,by omega,by omega⟩,hB.grown hg1 (by simp;omega) (fun q hq=>by cases hq;omega)⟩
end Go.Proofs
namespace Go.Proofs
open Go.RowKit Go.Sort Go.Lib Go.Shelf Go.Maps
theorem Tryz.Inv.sick {w0:World} {B N wb hb:Nat} {W:World} (h:Inv w0 B N wb hb W):Inv w0 B N wb hb (W.setCell ⟨wb,3,none⟩ (.bool false)):=by
 obtain⟨rb,σ,ra,g,cap,L,h1,h2,h3,h4,h5,h6⟩:=h.ex;have hsp:Spares [wb] W (W.setCell ⟨wb,3,none⟩ (.bool false)):=(Spares.of_below (Below.refl _ _)).set (by simp) _ _;have b9:=h.nine;have bw:=h.bw;refine⟨h.bel.setCell (p:=⟨wb,3,none⟩) h.bw _,by simpa using h.hB,h.bw,⟨rb,σ,ra,g,cap,L,h1.other hsp (fun b hb=>by rw [List.mem_singleton.1 hb];exact X2.of h4 (by omega) (by decide)),h2.Zz hsp (fun hx=>h2.v.ne h4 (by decide) (List.mem_singleton.1 hx)) (fun hx=>?_),h3,h4.set 3 _,h5,h6⟩⟩;obtain⟨c,hc⟩:=h2.Xbn;exact hc.ne h4 (by decide) (List.mem_singleton.1 hx)
theorem Tryz.step {w0:World} {B N M wb hb:Nat} (w:World) (hI:Inv w0 B N wb hb w) (kind:Int) (hk8:(kind==8)=false) (hk10:(kind==10)=false) (ss tt:List UInt8) (aa bb ff fl fu ke pa:Int)
  (hA:∀ W,Inv w0 B N wb hb W->Calls prog 62 #[.pointer (some ⟨wb,0,none⟩),.agg (Xn.cells ⟨kind,ss,tt,aa,bb,ff,-1,-1,0,0⟩)] W fun e w'=>e=.returned (.bool true)/\Inv w0 B M wb hb w') :
  Calls prog 39 #[.pointer (some ⟨wb,0,none⟩),.agg (Xn.cells ⟨kind,ss,tt,aa,bb,ff,fl,fu,ke,pa⟩),.bool false] w fun e w'=>e=.returned (.bool true)/\Inv w0 B M wb hb w':=by
 obtain⟨rb,σ,ra,g,cap,L,-,-,-,hW,-⟩:=hI.ex;have lW:=hW.lt;have c3:=hW.cell 3 (v:=.bool false) rfl;have f3:=hW.frozen 3
 have hI3:=fun W (b:Below w.heap.size w W)=>(hI.below b).sick
 have hWl:=fun W=>Xss W
 unfold Yo at hWl;have hb0:Below w.heap.size w (w.alloc (.cells (Xn.cells ⟨kind,ss,tt,aa,bb,ff,fl,fu,ke,pa⟩) 72)):=(Below.refl _ w).alloc (Nat.le_refl _) _;have bS:=BoxN.new w 72 (Xn.cells ⟨kind,ss,tt,aa,bb,ff,fl,fu,ke,pa⟩);simp only [Xn.cells] at *;go_enter func39,ntmps39
 go_wp2_with (first
  | (go_at_call 16;refine(hWl _).mono ?_;rintro e w1 ⟨rfl,hb1⟩;have bS1:=bS.below hb1 (by simp);have y0:=bS1.cell 0 (v:=.int .i64 kind) rfl;have y1:=bS1.cell 1 (v:=.string ⟨ss.toArray⟩) rfl;have y2:=bS1.cell 2 (v:=.string ⟨tt.toArray⟩) rfl;have y3:=bS1.cell 3 (v:=.int .u64 aa) rfl;have y4:=bS1.cell 4 (v:=.int .u64 bb) rfl;have y5:=bS1.cell 5 (v:=.int .u64 ff) rfl;have y6:=bS1.cell 6 (v:=.int .i64 fl) rfl;have y7:=bS1.cell 7 (v:=.int .i64 fu) rfl;have y8:=bS1.cell 8 (v:=.int .i64 ke) rfl;have y9:=bS1.cell 9 (v:=.int .i64 pa) rfl;have z6:=bS1.frozen 6;have z7:=bS1.frozen 7;have z8:=bS1.frozen 8;have z9:=bS1.frozen 9;have bW1:=(hW.alloc (.cells #[.int .i64 kind,.string ⟨ss.toArray⟩,.string ⟨tt.toArray⟩,.int .u64 aa,.int .u64 bb,.int .u64 ff,.int .i64 fl,.int .i64 fu,.int .i64 ke,.int .i64 pa] 72)).below hb1 (by simp;omega);have x3:=bW1.cell 3 (v:=.bool false) rfl;have x3f:=bW1.frozen 3)
  | (go_at_call 62;refine(hA _ (hI3 _ (((((hb0.trans (hb1.mono (by simp))).setCell (p:=⟨w.heap.size,6,none⟩) (Nat.le_refl _) _).setCell (p:=⟨w.heap.size,7,none⟩) (Nat.le_refl _) _).setCell (p:=⟨w.heap.size,8,none⟩) (Nat.le_refl _) _).setCell (p:=⟨w.heap.size,9,none⟩) (Nat.le_refl _) _))).mono ?_;rintro e w2 ⟨rfl,hI2⟩;obtain⟨rb2,σ2,ra2,g2,cap2,L2,hS2,hR2,hl2,hW2,-⟩:=hI2.ex;have q0:=hW2.cell 0 (v:=.pointer (some ⟨hb,0,none⟩)) rfl;have q1:=hW2.cell 1 (v:=.pointer (some ⟨ra2,0,none⟩)) rfl)
  | (go_at_call 36;refine(hIs hb _ _ _ w2 hS2.host).mono ?_;rintro e w3 ⟨rfl,rfl⟩)
  | (go_at_call 38;refine(looks B wb hb ra2 g2 cap2 σ2.k.vb σ2.k.mt σ2.k.ml σ2.vx σ2.tm σ2.s.tn σ2.s.ln _ _ σ2.s.tks σ2.s.lks L2 _ _ _ _ _ _ _ hW2 hS2.host hS2.wh.v.va hR2 hl2).mono ?_;rintro e w4 ⟨rfl,hb4⟩))
 go_ret;exact⟨rfl,hI2.below hb4⟩
def Xbv (W:World) (b off:Nat) (S:List Xn):Prop:=∀(i:Nat) (st:Xn),S[i]? = some st ->
 W.cell? ⟨b,off+i*10,none⟩=some (.int .i64 st.kind)/\W.cell? ⟨b,off+i*10+1,none⟩=some (.string ⟨st.s.toArray⟩)/\W.cell? ⟨b,off+i*10+2,none⟩=some (.string ⟨st.t.toArray⟩)/\W.cell? ⟨b,off+i*10+3,none⟩=some (.int .u64 st.a)/\W.cell? ⟨b,off+i*10+4,none⟩=some (.int .u64 st.b)/\W.cell? ⟨b,off+i*10+5,none⟩=some (.int .u64 st.f) /\
 W.cell? ⟨b,off+i*10+6,none⟩=some (.int .i64 st.fl)/\W.cell? ⟨b,off+i*10+7,none⟩=some (.int .i64 st.fu)/\W.cell? ⟨b,off+i*10+8,none⟩=some (.int .i64 st.ke)/\W.cell? ⟨b,off+i*10+9,none⟩=some (.int .i64 st.pa)
theorem Xbv.below {W W':World} {b off B:Nat} {S:List Xn} (h:Xbv W b off S) (hb:Below B W W') (hB:b<B):Xbv W' b off S:=fun i st hi=>by
 obtain⟨h0,h1,h2,h3,h4,h5,h6,h7,h8,h9⟩:=h i st hi
 have c:∀ o,W'.cell? ⟨b,o,none⟩=W.cell? ⟨b,o,none⟩:=fun o=>hb.cell (p:=⟨b,o,none⟩) hB
 exact⟨(c _).trans h0,(c _).trans h1,(c _).trans h2,(c _).trans h3,(c _).trans h4,(c _).trans h5,(c _).trans h6,(c _).trans h7,(c _).trans h8,(c _).trans h9⟩
def V9 (W:World) (p:Option Addr) (S:List Xn):Prop:=(S = [] )\/∃ b off,p=some ⟨b,off,none⟩/\Xbv W b off S
def szS (st:Xn):Nat:=st.s.length+st.t.length
def Xi7 (S:List Xn) (k:Nat):Nat:=S.length+((S.take k).map szS).sum
theorem Xoe {S:List Xn} {k:Nat} {st:Xn} (h:S[k]? = some st):Xi7 S (k+1)=Xi7 S k+st.s.length+st.t.length:=by
 unfold Xi7;rw [Zs h,List.map_append,List.sum_append];simp [szS];omega
theorem Xe3:∀(l:List Nat) (x:Nat),x∈l->x<=l.sum
 | [],_,h=>by cases h
 | a :: l,x,h=>by
  rw [List.sum_cons]
  rcases List.mem_cons.1 h with rfl | h
  ·omega
  have:=Xe3 l x h;omega
theorem Xt6 (S:List Xn) (st:Xn) (h:st∈S):st.s.length+st.t.length<=Xi7 S S.length:=by
 unfold Xi7;rw [List.take_length];have:szS st∈S.map szS:=List.mem_map.2 ⟨st,h,rfl⟩;have h2:=Xe3 _ _ this;unfold szS at h2 ⊢;omega
theorem Tryz.small (p:Option Addr) (cap:Nat) (S:List Xn) (w:World) (hS:V9 w p S) (hl:S.length<=281474976710656) (hz:∀ st∈S,st.s.length<=281474976710656/\st.t.length<=281474976710656) :
  Calls prog 34 #[.slice p S.length cap] w fun e w'=>∃ b,e=.returned (.bool b)/\(b=true->S.length<=16384/\∀ st∈S,st.s.length+st.t.length<=16384)/\Below w.heap.size w w':=by
 obtain⟨len,hlen⟩:∃ len,S.length=len:=⟨_,rfl⟩
 rw [hlen] at hl ⊢;have Hlen:=Xb hlen;clear hlen;go_enter func34,ntmps34;go_wp2
 go_loopw [3,4] (fun n i wr=>∃ k nn:Nat,k<=len/\i=.int .i64 k/\n=.int .i64 nn/\Hid (nn=Xi7 S k)/\nn<=562949953437696/\Below w.heap.size w wr) (fun _ i _=>len-(intOf i).toNat)
 case atStart=>exact⟨0,len,Nat.zero_le _,rfl,rfl,Xb (by simp [Xi7,Xa Hlen]),by omega,Below.refl _ _⟩
 case round =>
  obtain⟨k,nn,hk,rfl,rfl,ht,hbd,hBw⟩:=hrel
  by_cases hkl:k<len
  ·by_cases hn:nn<=16384
   ·obtain⟨st,hst⟩:∃ st,S[k]? = some st:=⟨S[k]'(by have:=Xa Hlen;omega),by have:=Xa Hlen;simp [this,hkl]⟩
    have hne:S ≠ []:=fun e=>by rw [e] at hst;simp at hst
    obtain⟨b,off,rfl,hsc⟩:=hS.resolve_left hne;obtain⟨x0,x1,x2,-⟩:=hsc k st hst;have hbl:b<w.heap.size:=World.block_lt_of_cell? _ _ x0;obtain⟨y0,y1,y2,-⟩:=(hsc.below hBw hbl) k st hst;obtain⟨z1,z2⟩:=hz st (List.mem_of_getElem? hst);have hts:=Xb (Xoe hst);generalize st.s=ss at *;generalize st.t=tt at *;go_wp2;go_quiet (fail);go_wp2;exact⟨⟨k+1,nn+ss.length+tt.length,by omega,rfl,congrArg (Value.int .i64) (by omega),Xb (by rw [Xa hts,<- Xa ht]),by omega,below_drewN hBw _⟩,by simp [intOf];omega⟩
   have hn':¬ (nn:Int)<=16384:=by omega
   go_wp2;go_ret;exact .inl ⟨rfl,hBw⟩
  obtain rfl:k=len:=by omega
  go_wp2;go_ret;refine⟨decide ((nn:Int)<=16384),rfl,fun h=>?_,hBw⟩
  have h1:(nn:Int)<=16384:=by simpa using h
  have h2:=Xa ht;have h3:=Xa Hlen;refine⟨?_,fun st hst=>?_⟩
  ·unfold Xi7 at h2;omega
  have:=Xt6 S st hst;rw [h3] at this;omega
theorem Tryz.cut (s sep:List UInt8) (w:World) (hs:s.length<4294967281) (hG:Ja w) :
  Calls prog 213 #[.string ⟨s.toArray⟩,.string ⟨sep.toArray⟩] w fun e w'=>e=.returned (.tuple #[.string ⟨(Lib.cut s sep).1.toArray⟩,.string ⟨(Lib.cut s sep).2.1.toArray⟩,.bool (Lib.cut s sep).2.2])/\Below w.heap.size w w':=by
 obtain⟨-,m,hm⟩:=hG;refine(Any.strings_Cut Xsy ⟨s.toArray⟩ ⟨sep.toArray⟩ m w (by simpa [ByteArray.size] using hs) hm).mono ?_;rintro e w' ⟨rfl,n,rfl⟩;exact⟨rfl,below_drewN (Below.refl _ _) n⟩
def puV (r:List UInt8):Int:=match Lib.parseUintB 64 r with
 | .ok u=>(u:Int)
 | .range=>18446744073709551615
 | _=>0
theorem Tryz.Xhw (r:List UInt8) (hl:r.length<=281474976710656) (w:World) (hE:Env w) :
  Calls prog 118 #[.string ⟨r.toArray⟩,.int .i64 10,.int .i64 64] w fun e w'=>∃ er,e=.returned (.tuple #[.int .u64 (puV r),er])/\Below w.heap.size w w':=by
 have hsz:(⟨r.toArray⟩:ByteArray).size<=281474976710656:=by simpa [ByteArray.size] using hl
 cases hpp:Lib.parseUintB 64 r with
 | ok u =>
  have h:=Any.strconv_ParseUint_10_at64_ok Vo ⟨r.toArray⟩ (by have:=hsz;omega) u hpp w;rw [show puV r=(u:Int) by simp only [puV,hpp]];refine h.mono ?_;rintro e w' ⟨rfl,hw⟩;exact⟨_,rfl,Xe1 hw⟩
 | range =>
  obtain⟨tp,p,hv⟩:=hE.rng;rw [show puV r=18446744073709551615 by simp only [puV,hpp]];refine(Any.strconv_ParseUint_10_at64_range_var Vo ⟨r.toArray⟩ hsz hpp tp p _ hv).mono ?_;rintro e w' ⟨N,rfl,-,-,h4⟩;exact⟨_,rfl,h4⟩
 | _ =>
  obtain⟨tp,p,hv⟩:=hE.syn;rw [show puV r=0 by simp only [puV,hpp]];refine(Any.strconv_ParseUint_10_at64_syntax_var Vo ⟨r.toArray⟩ hsz hpp tp p _ hv).mono ?_;rintro e w' ⟨N,rfl,-,-,h4⟩;exact⟨_,rfl,h4⟩
def txtL (s:List UInt8):List UInt8:=(Lib.cut (Lib.cut s [32]).2.1 [32]).2.1
def wholeB (s:List UInt8):Bool:=puV (Lib.cut s [32]).1==((txtL s).length:Int)&&puV (Lib.cut (Lib.cut s [32]).2.1 [32]).1==sumI (txtL s)
theorem Xd4 (s sep:List UInt8):(∀ b∈(Lib.cut s sep).1,b∈s)/\(∀ b∈(Lib.cut s sep).2.1,b∈s)/\(Lib.cut s sep).1.length<=s.length/\(Lib.cut s sep).2.1.length<=s.length:=by
 unfold Lib.cut
 split
 ·exact⟨fun b h=>List.mem_of_mem_take h,fun b h=>List.mem_of_mem_drop h,by simp;omega,by simp⟩
 exact⟨fun b h=>h,fun b h=>by simp at h,Nat.le_refl _,by simp⟩
theorem Tryz.Xo4:prog.cellsOf 31=1:=by kernel_rfl
theorem Tryz.Xu4 (a b c d:Int) (W:World):(binOp .eql 269 (.agg #[.int .u64 a,.int .u64 b]) (.agg #[.int .u64 c,.int .u64 d])).run prog W=.ok (.bool (a==c&&b==d)) W:=by
 have hu:=underlying269;obtain⟨i,hi⟩:=info_of_underlying underlying31;have h31:=underlying31
 have hp:prog.plainKey 31=true:=by kernel_rfl
 have key:(Op.equal 269 (.agg #[.int .u64 a,.int .u64 b]) (.agg #[.int .u64 c,.int .u64 d])).run prog W=.ok (a==c&&b==d) W:=by
  unfold Op.equal;rw [show Op.maxDepth=(Op.maxDepth-2+1)+1 by decide];rw [run_equalIn_array W _ _ _ hu hi,Xo4];simp only [List.range_succ,List.range_zero,List.nil_append,List.cons_append,Op.eqItems,Sem.run_bind];rw [run_part_plain W hp (v:=.int .u64 a) (by simp),Result.andThen_ok,run_part_plain W hp (v:=.int .u64 c) (by simp),Result.andThen_ok,run_equalIn_int W _ _ _ _ _ _ h31,Result.andThen_ok];cases h1:(a==c)
  ·simp
  simp only [Bool.not_true,Bool.false_eq_true,if_false,Sem.run_bind];rw [run_part_plain W hp (v:=.int .u64 b) (by simp),Result.andThen_ok,run_part_plain W hp (v:=.int .u64 d) (by simp),Result.andThen_ok,run_equalIn_int W _ _ _ _ _ _ h31,Result.andThen_ok]
  cases h2:(b==d) <;> simp
 simp only [binOp,go_sem];rw [Sem.run_bind,key];rfl
abbrev TxP (tb:Nat) (a b:Int) (W:World):Prop:=W.cell? ⟨tb,0,none⟩=some (.int .u64 a)/\W.cell? ⟨tb,1,none⟩=some (.int .u64 b)
theorem TxP.of {W:World} {tb:Nat} {a b:Int} {t:TypeId} (h:BoxN W tb t #[.int .u64 a,.int .u64 b]):TxP tb a b W:=⟨h.cell 0 rfl,h.cell 1 rfl⟩
theorem Tryz.textOf (s:List UInt8) (w:World) (hs:s.length<4294967281) (ha:∀ b∈s,b.toNat<128) (hE:Env w) (h9:9<=w.heap.size) (hG:Ja w) :
  Calls prog 185 #[.string ⟨s.toArray⟩] w fun e w'=>e=.returned (.tuple #[.string ⟨(txtL s).toArray⟩,.bool (wholeB s)])/\Below w.heap.size w w':=by
 obtain⟨-,a1,l0,l1⟩:=Xd4 s [32];obtain⟨-,a2,l2,l3⟩:=Xd4 (Lib.cut s [32]).2.1 [32]
 have hC1:=fun W (hb:Below w.heap.size w W)=>cut s [32] W hs (hG.below (hb.mono h9))
 have hC2:=fun W (hb:Below w.heap.size w W)=>cut (Lib.cut s [32]).2.1 [32] W (by omega) (hG.below (hb.mono h9))
 have hU1:=fun W (hb:Below w.heap.size w W)=>Xhw (Lib.cut s [32]).1 (by omega) W (hE.below hb (by omega))
 have hU2:=fun W (hb:Below w.heap.size w W)=>Xhw (Lib.cut (Lib.cut s [32]).2.1 [32]).1 (by omega) W (hE.below hb (by omega))
 have hM:=fun W=>Xqg (txtL s) W (by unfold txtL;omega) (fun b hb=>ha b (a1 b (a2 b hb)))
 have hq:=Xu4;have hw:Hid (wholeB s=(puV (Lib.cut s [32]).1==((txtL s).length:Int)&&puV (Lib.cut (Lib.cut s [32]).2.1 [32]).1==sumI (txtL s))):=Xb rfl;unfold txtL at *;generalize wholeB s=wh at *;generalize puV (Lib.cut s [32]).1=p1 at *;generalize puV (Lib.cut (Lib.cut s [32]).2.1 [32]).1=p2 at *;generalize Lib.cut s [32]=x1 at *;obtain⟨n1,r1,f1⟩:=x1;simp only at *;generalize Lib.cut r1 [32]=x2 at *;obtain⟨n2,r2,f2⟩:=x2;simp only at *;generalize sumI r2=sm at *
 obtain⟨ln,hln⟩:∃ ln:Int,(r2.length:Int)=ln:=⟨_,rfl⟩
 simp only [hln] at hM hw;clear hln a1 a2 l0 l1 l2 l3 ha hs;have bT0:=BoxN.new w 269 #[.int .u64 0,.int .u64 0];have hB0:Below w.heap.size w (w.alloc (.cells #[.int .u64 0,.int .u64 0] 269)):=(Below.refl _ w).alloc (Nat.le_refl _) _;go_enter func185,ntmps185;go_wp2;refine wp_loop_rounds 3 ?_;rw [rounds_succ]
 go_wp2_with (first
  | (go_at_call 213;refine(hC1 _ hB0).mono ?_;rintro e w1 ⟨rfl,hb1⟩;have hB1:=hB0.trans (hb1.mono (by simp));have bT1:=bT0.below hb1 (by simp))
  | (go_at_call 118;refine(hU1 _ hB1).mono ?_;rintro e w2 ⟨er,rfl,hb2⟩;have hB2:=hB1.trans (hb2.mono hB1.size);have bT2:=bT1.below hb2 bT1.lt;have c0:=bT2.cell 0 (v:=.int .u64 0) rfl;have g0:=bT2.frozen 0))
 have hB3:=hB2.setCell (p:=⟨w.heap.size,0,none⟩) (Nat.le_refl _) (.int .u64 p1);have bT3:=bT2.set 0 (.int .u64 p1);clear c0 g0 hC1 hU1;rw [rounds_succ]
 go_wp2_with (first
  | (go_at_call 213;refine(hC2 _ hB3).mono ?_;rintro e w4 ⟨rfl,hb4⟩;have hB4:=hB3.trans (hb4.mono (by simpa using hB2.size));have bT4:=bT3.below hb4 (by simpa using bT2.lt))
  | (go_at_call 118;refine(hU2 _ hB4).mono ?_;rintro e w5 ⟨er2,rfl,hb5⟩;have hB5:=hB4.trans (hb5.mono hB4.size);have bT5:=bT4.below hb5 bT4.lt;have c1:=bT5.cell 1 (v:=.int .u64 0) rfl;have g1:=bT5.frozen 1))
 have hB6:=hB5.setCell (p:=⟨w.heap.size,1,none⟩) (Nat.le_refl _) (.int .u64 p2);have bT6:=bT5.set 1 (.int .u64 p2);have hP6:TxP w.heap.size p1 p2 (w5.setCell ⟨w.heap.size,1,none⟩ (.int .u64 p2)).drew:=TxP.of (t:=269) bT6;have l6:=bT6.lt;clear c1 g1 hC2 hU2;rw [rounds_succ];go_wp2
 go_region_held3 (TxP w.heap.size p1 p2) (first
  | with_reducible exact hP6
  | with_reducible exact hP7
  | with_reducible assumption) (first
  | (go_at_call 177;refine(hM _).mono ?_;rintro e w7 ⟨rfl,hb7⟩;have hP7:TxP w.heap.size p1 p2 w7:=TxP.of (t:=269) (BoxN.below (W:=(w5.setCell ⟨w.heap.size,1,none⟩ (.int .u64 p2)).drew) bT6 hb7 l6);have hB7:=hB6.drew.trans (hb7.mono (by simpa using hB5.size))))
 all_goals
  go_wp2
  go_ret2
  exact⟨by rw [Xa hw];rfl,hB7⟩
end Go.Proofs
