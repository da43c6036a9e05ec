import Derived.Test.YtjbekgjdempbiaaGreatDoorJQueH
import Derived.Test.YtjbekgjdempbiaaGreatDoorJAlive
import Derived.Test.YtjbekgjdempbiaaGreatDoorJLawC
set_option maxRecDepth 100000
set_option maxHeartbeats 8000000
namespace Go.Proofs
open Go.RowKit Go.Sort Go.Lib Go.Shelf Go.Maps
structure Nums (N:Nat) (σ:SS) (L:List ThingD):Prop where
 nt:σ.s.tks.length≤10
 nl:σ.s.lks.length≤14
 pos:0<σ.s.tks.length
 tn:σ.s.tn≤N
 ln:σ.s.ln≤N
 c:σ.c.length≤N*40000000
 al:Alive N σ.s
 hd:Head0 L
theorem Nums.more {N M:Nat} {σ:SS} {L:List ThingD} (h:Nums N σ L) (hM:N≤M):Nums M σ L:=⟨h.nt,h.nl,h.pos,Nat.le_trans h.tn hM,Nat.le_trans h.ln hM,Nat.le_trans h.c (Nat.mul_le_mul_right _ hM),h.al.more hM,h.hd⟩
theorem Nums.small {N:Nat} {σ:SS} {L:List ThingD} (h:Nums N σ L) (hN:N<20000):σ.c.length≤900000000000:=Nat.le_trans h.c (by omega)
structure Tryz.Inv (w0:World) (B N wb hb:Nat) (W:World):Prop where
 bel:Below B w0 W
 hB:B≤W.heap.size
 bw:B≤wb
 ex:∃ rb σ ra g cap L,Tryz.Sys B W hb rb σ∧Tryz.RVAt B W ra g cap L σ.tm ((σ.s.tn+1:Nat):Int) ((σ.s.ln+1:Nat):Int)∧Rel σ.s.tks σ.s.lks L∧BoxN W wb 69 #[.pointer (some ⟨hb,0,none⟩),.pointer (some ⟨ra,0,none⟩),.pointer none,.bool false,.bool false]∧Nums N σ L∧B≤ra
section
variable {w0 W W':World} {B N wb hb:Nat}
theorem Tryz.Inv.below (h:Inv w0 B N wb hb W) (hb':Below W.heap.size W W'):Inv w0 B N wb hb W':=by
 obtain⟨rb,σ,ra,g,cap,L,h1,h2,h3,h4,h5,h6⟩:=h.ex;exact⟨h.bel.trans (hb'.mono h.hB),Nat.le_trans h.hB hb'.size,h.bw,⟨rb,σ,ra,g,cap,L,h1.below hb',h2.below hb',h3,h4.below hb' h4.lt,h5,h6⟩⟩
theorem Tryz.Inv.more (h:Inv w0 B N wb hb W) {M:Nat} (hM:N≤M):Inv w0 B M wb hb W:=by
 obtain⟨rb,σ,ra,g,cap,L,h1,h2,h3,h4,h5,h6⟩:=h.ex;exact⟨h.bel,h.hB,h.bw,⟨rb,σ,ra,g,cap,L,h1,h2,h3,h4,h5.more hM,h6⟩⟩
theorem Tryz.Inv.nine (h:Inv w0 B N wb hb W):9≤B:=by
 obtain⟨rb,σ,ra,g,cap,L,h1,-⟩:=h.ex;exact h1.b9
theorem Tryz.After.inv {w:World} {M:Nat} {rb:Nat} {Q:SS→Prop} {Q2:List ThingD→Int→Int→Prop} {tm:Int} (hA:After w B wb hb tm (fun W=>∃ σ,Q σ∧Sys B W hb rb σ) Q2 W) (hI:Inv w0 B N wb hb w)
  (hQ:∀ σ L tr lr,Q σ→Q2 L tr lr→σ.tm=tm∧Rel σ.s.tks σ.s.lks L∧tr=((σ.s.tn+1:Nat):Int)∧lr=((σ.s.ln+1:Nat):Int)∧Nums M σ L):Inv w0 B M wb hb W:=by
 obtain⟨σ,q1,hS⟩:=hA.hp;obtain⟨L,tr,lr,nb,g,cap,q2,hR,hnb,hW⟩:=hA.ex;obtain⟨rfl,r1,rfl,rfl,r4⟩:=hQ _ _ _ _ q1 q2;exact⟨hI.bel.trans hA.bel,Nat.le_trans hI.hB hA.bel.size,hI.bw,⟨rb,σ,nb,g,cap,L,hS,hR,r1,hW,r4,hnb⟩⟩
theorem Tryz.hostSame {rb:Nat} {σ:SS} {w w':World} {r:Value} {e:Ending} (hS:Sys B w hb rb σ) {Q:SS→Prop} (h:e=.returned r∧(∃ σ',(Q σ'∧σ'.k=σ.k∧σ'.vx=σ.vx)∧Sys B w' hb rb σ')∧Spares σ.k.turns w w'):e=.returned r∧(∃ σ',Q σ'∧Sys B w' hb rb σ')∧HostSp B w w':=by
 obtain⟨rfl,⟨σ',⟨hQ,-,-⟩,hS'⟩,hs⟩:=h;exact⟨rfl,⟨σ',hQ,hS'⟩,hS.sp hs⟩
theorem Tryz.vSame {σ:SS} {w w':World} {r:Value} {e:Ending} (hW:Whole w σ.k σ.vx σ.tm σ.s σ.c (-1) (-1)) (h:e=.returned r∧Below w.heap.size w w'):e=.returned r∧(∃ σ' l f,(σ'=σ∧σ'.k=σ.k∧σ'.vx=σ.vx)∧Whole w' σ.k σ'.vx σ'.tm σ'.s σ'.c l f)∧Spares σ.k.turns w w':=by
 obtain⟨rfl,hb⟩:=h;exact⟨rfl,⟨σ,-1,-1,⟨rfl,rfl,rfl⟩,hW.below hb⟩,Spares.of_below hb⟩
end
theorem Tryz.okToken {w0:World} {B N wb hb:Nat} (w:World) (hI:Inv w0 B N wb hb w) (hN:N<20000) (ss tt:List UInt8) (hss:ss.length≤1000000) (aa bb ff ke pa:Int) :
  Calls prog 62 #[.pointer (some ⟨wb,0,none⟩),.agg (StepD.cells ⟨1,ss,tt,aa,bb,ff,-1,-1,ke,pa⟩)] w fun e w'=>e=.returned (.bool true)∧Inv w0 B (N+1) wb hb w':=by
 obtain⟨rb,σ,ra,g,cap,L,hS,hR,hl,hW,hn,hra⟩:=hI.ex;have hok:=hS.wh.v.va.ok
 have hpos:0<L.length:=by rw [hl.len];have:=hn.pos;omega
 have hlen:L.length<100:=by rw [hl.len];have:=hn.nt;have:=hn.nl;omega
 have b9:=hS.b9;have hcs:=hn.small hN;have hnm:=hn.more (Nat.le_succ N)
 have hFt:∀ W,Whole W σ.k σ.vx σ.tm σ.s σ.c (-1) (-1)→∀ W',Below W.heap.size W W'→Calls prog 83 #[.pointer (some ⟨σ.k.vb,0,none⟩),nmV (parseN ss)] W' fun e w'=>e=.returned (.bool (decide (0≤liveI σ.tm ss true L)))∧Below W'.heap.size W' w':=fun W hV W' hb'=>tokLive W' (hV.v.va.below hb') hl ss
 rcases liveI_cases σ.tm ss true L with⟨i,t,ht,hid,htk,hst,hli⟩ | hli
 ·have hm:=List.mem_of_getElem? ht
  have hp:=liveI_hit (L:=L) hid htk (hl.num hok hm) hli
  have hdec:decide (0≤liveI σ.tm ss true L)=true:=by rw [hli];simp
  rw [hdec] at hFt
  by_cases h10:σ.s.tks.length=10
  ·have hA:=askToken B wb hb ra g cap σ.tm L _ _ w _ _ (loneSys B hb rb σ) (loneEx B hb rb (fun σ'=>σ'=σ)) hS hR hpos hW hI.hB b9 hI.bw hra ss tt aa bb ff (-1) (-1) ke pa 4 [] (fun _=>rfl) (fun a b c=>a=L∧b=((σ.s.tn+1:Nat):Int)∧c=((σ.s.ln+1:Nat):Int))
    (fun W _ hS'=>(hCreate B hb rb σ W hS' ss ke pa (.string ⟨#[]⟩) (errV 4) 4 (toldK 4 (.inr (by simp [ErrK]))) _ (fun W' _ hV=>(vCreate_many σ.k.vb σ.k.mt σ.k.ml σ.vx σ.tm σ.s.tn σ.s.ln σ.s.tks σ.s.lks W' hV.v.va ss hss (hFt W' hV) (by omega)).mono (fun _ _ h=>vSame hV h))).mono (fun _ _ h=>hostSame hS' h))
    (fun B' W nb g' cap' _ _ hR'=>(rCreate_many B' nb g' cap' L σ.tm _ _ ss W hR' i hli (by rw [hl.countT];exact h10)).mono (by rintro e w' ⟨rfl,hb'⟩;exact⟨g',cap',L,_,_,⟨rfl,rfl,rfl⟩,rfl,hR'.below hb',Spares.of_below hb'⟩))
   refine hA.mono ?_;rintro e w' ⟨rfl,hA'⟩;exact⟨rfl,hA'.inv hI (by rintro _ _ _ _ rfl ⟨rfl,rfl,rfl⟩;exact⟨rfl,hl,rfl,rfl,hnm⟩)⟩
  ·have hlt10:σ.s.tks.length<10:=by have:=hn.nt;omega
   have htn:=hn.tn;have hkl:(keepLine σ.tm [.tok (newT (σ.s.tn+1) t.n)]).length≤1300000:=keepLine_len hS.wh.v.t0 hS.wh.v.t1 (s:=σ.s) ⟨⟨⟨show (0:Int)≤18446744073709551615 by decide,show (18446744073709551615:Int)≤18446744073709551615 by decide,show (-9223372036854775808:Int)≤0 by decide,show (0:Int)≤9223372036854775807 by decide⟩,.inr (fun x hx=>by have:=hS.wh.v.nt x hx;show x.n<σ.s.tn+1;omega),by omega,show σ.s.tn+1<u64lim by unfold u64lim;omega,hl.num hok hm⟩,trivial⟩ (by simp)
   have hA:=askToken B wb hb ra g cap σ.tm L _ _ w _ _ (loneSys B hb rb σ) (loneEx B hb rb (fun σ'=>σ'=⟨σ.k,σ.vx,σ.tm,⟨σ.s.tn+1,σ.s.ln,σ.s.tks ++ [newT (σ.s.tn+1) t.n],σ.s.lks⟩,σ.c++keepLine σ.tm [.tok (newT (σ.s.tn+1) t.n)]⟩)) hS hR hpos hW hI.hB b9 hI.bw hra ss tt aa bb ff (-1) (-1) ke pa 0 (nmStr 1 (σ.s.tn+1)) (fun h=>absurd rfl h) (fun a b c=>a=L ++ [newTok (σ.s.tn+1) t.n]∧b=((σ.s.tn+1+1:Nat):Int)∧c=((σ.s.ln+1:Nat):Int))
    (fun W _ hS'=>(hCreate B hb rb σ W hS' ss ke pa (.string ⟨(nmStr 1 (σ.s.tn+1)).toArray⟩) (errV 0) 0 (toldK 0 (.inl rfl)) _ (fun W' _ hV=>(vCreate_ok σ.k σ.vx σ.tm σ.s σ.c (-1) (-1) W' hV (by decide) (by decide) (by decide) (by decide) hcs ss hss t.n (hl.num hok hm) hp (hFt W' hV) hlt10 (by omega)).mono (by rintro e w' ⟨rfl,hV',hs'⟩;exact⟨rfl,⟨_,_,_,⟨rfl,rfl,rfl⟩,hV'⟩,hs'⟩))).mono (fun _ _ h=>hostSame hS' h))
    (fun B' W nb g' cap' hBW hBn hR'=>(rCreate_ok B' nb g' cap' L σ.tm _ (σ.s.tn+1) ss W hR' hBn hR'.ne hBW (by omega) hlen i t ht hli (by rw [hl.countT];exact h10)).mono (by
     rintro e w' ⟨g2,cap2,rfl,hR2,-,-,hs2⟩;refine⟨g2,cap2,_,_,_,⟨rfl,rfl,rfl⟩,?_,hR2,hs2⟩;have:(newTok (σ.s.tn+1) t.n).id=nmStr 1 (σ.s.tn+1):=ThingD.id_nm _
     rw [this]))
   refine hA.mono ?_;rintro e w' ⟨rfl,hA'⟩;refine⟨rfl,hA'.inv hI ?_⟩;rintro _ _ _ _ rfl ⟨rfl,rfl,rfl⟩;refine⟨rfl,hl.snocT (newT (σ.s.tn+1) t.n) rfl,rfl,rfl,⟨?_,hn.nl,?_,?_,?_,?_,?_,hn.hd.snoc _⟩⟩
   ·simp;omega
   ·simp
   ·show σ.s.tn+1≤N+1;omega
   ·have:=hn.ln;show σ.s.ln≤N+1;omega
   ·have:=hn.c;simp only [List.length_append];omega
   ·obtain⟨p,hp',e⟩:=hl.tok_mem hm htk
    exact(hn.al.more (Nat.le_succ N)).snocT (fun x hx=>by have:=hS.wh.v.nt x hx;omega) ⟨p,hp',congrArg ThingD.n e⟩
 ·have hdec:decide (0≤liveI σ.tm ss true L)=false:=by rw [hli];simp
  rw [hdec] at hFt
  have hA:=askToken B wb hb ra g cap σ.tm L _ _ w _ _ (loneSys B hb rb σ) (loneEx B hb rb (fun σ'=>σ'=σ)) hS hR hpos hW hI.hB b9 hI.bw hra ss tt aa bb ff (-1) (-1) ke pa 1 [] (fun _=>rfl) (fun a b c=>a=L∧b=((σ.s.tn+1:Nat):Int)∧c=((σ.s.ln+1:Nat):Int))
   (fun W _ hS'=>(hCreate B hb rb σ W hS' ss ke pa (.string ⟨#[]⟩) (errV 1) 1 (toldK 1 (.inr (by simp [ErrK]))) _ (fun W' _ hV=>(vCreate_miss σ.k.vb σ.k.mt σ.k.ml σ.vx σ.tm σ.s.tn σ.s.ln σ.s.tks σ.s.lks W' hV.v.va ss hss (hFt W' hV)).mono (fun _ _ h=>vSame hV h))).mono (fun _ _ h=>hostSame hS' h))
   (fun B' W nb g' cap' _ _ hR'=>(rCreate_miss B' nb g' cap' L σ.tm _ _ ss W hR' hli).mono (by rintro e w' ⟨rfl,hb'⟩;exact⟨g',cap',L,_,_,⟨rfl,rfl,rfl⟩,rfl,hR'.below hb',Spares.of_below hb'⟩))
  refine hA.mono ?_;rintro e w' ⟨rfl,hA'⟩;exact⟨rfl,hA'.inv hI (by rintro _ _ _ _ rfl ⟨rfl,rfl,rfl⟩;exact⟨rfl,hl,rfl,rfl,hnm⟩)⟩
theorem Tryz.askIssue (B wb hb ra g cap:Nat) (tm:Int) (L:List ThingD) (tr lr:Int) (w:World) (HP HP':World→Prop) (lo1:Lone HP) (lo2:Lone HP') (hP:HP w) (hR:RVAt B w ra g cap L tm tr lr) (hpos:0<L.length) (hW:BoxN w wb 69 #[.pointer (some ⟨hb,0,none⟩),.pointer (some ⟨ra,0,none⟩),.pointer none,.bool false,.bool false]) (hB:B≤w.heap.size) (hB9:9≤B) (hwb:B≤wb) (hra:B≤ra)
  (ss tt:List UInt8) (aa bb ff fl fu ke pa:Int) (k:Int) (rs:List UInt8) (hkr:k≠0→rs = []) (Q2:List ThingD→Int→Int→Prop)
  (hH:∀ W,w.heap.size≤W.heap.size→HP W→Calls prog 18 #[.pointer (some ⟨hb,0,none⟩),.string ⟨ss.toArray⟩,.string ⟨tt.toArray⟩,.int .u64 aa,.int .u64 bb,.agg #[.int .i64 fl,.int .i64 fu,.int .i64 ke,.int .i64 pa]] W fun e w'=>e=.returned (.tuple #[.string ⟨rs.toArray⟩,.int .i64 k])∧HP' w'∧HostSp B W w')
  (hC:∀ B' W nb g' cap',B'≤W.heap.size→B'≤nb→RVAt B' W nb g' cap' L tm tr lr→Calls prog 111 #[.pointer (some ⟨nb,0,none⟩),.string ⟨ss.toArray⟩,.string ⟨tt.toArray⟩,.int .u64 aa,.int .u64 bb] W fun e w'=>∃ g2 cap2 L2 tr2 lr2,Q2 L2 tr2 lr2∧e=.returned (.tuple #[.string ⟨rs.toArray⟩,.int .i64 k])∧RVAt B' w' nb g2 cap2 L2 tm tr2 lr2∧Spares [nb,g'] W w') :
  Calls prog 62 #[.pointer (some ⟨wb,0,none⟩),.agg (StepD.cells ⟨2,ss,tt,aa,bb,ff,fl,fu,ke,pa⟩)] w fun e w'=>e=.returned (.bool true)∧After w B wb hb tm HP' Q2 w':=by
 have lW:=hW.lt;have hb0:Below w.heap.size w (w.alloc (.cells (StepD.cells ⟨2,ss,tt,aa,bb,ff,fl,fu,ke,pa⟩) 72)):=(Below.refl _ w).alloc (Nat.le_refl _) _;have bS:=BoxN.new w 72 (StepD.cells ⟨2,ss,tt,aa,bb,ff,fl,fu,ke,pa⟩);have bW0:=hW.alloc (.cells (StepD.cells ⟨2,ss,tt,aa,bb,ff,fl,fu,ke,pa⟩) 72);have hCp:=rCopy B ra g cap L tm tr lr _ (hR.below hb0) hpos;rw [World.size_alloc] at hCp;have w1c:=bW0.cell 1 (v:=.pointer (some ⟨ra,0,none⟩)) rfl;have s0c:=bS.cell 0 (v:=.int .i64 2) rfl
 obtain⟨kz,hkz⟩:∃ kz:Bool,(k != 0)=kz:=⟨_,rfl⟩
 have hkz':(k==0) = !kz:=by rw [← hkz];simp [bne]
 have Hkz:Hid (kz=true→rs = []):=hid_intro (fun e=>hkr (by rw [e] at hkz;simpa using hkz));clear hkr;simp only [StepD.cells] at *;cases kz
 all_goals
  try (have hzz:=hid_elim Hkz rfl)
  try subst hzz
  go_enter func62,ntmps62
  go_wp2_with (first
   | (go_at_call 106;refine hCp.mono ?_;rintro e w1 ⟨g',cap',rfl,hR1,hb1⟩;have bS1:=bS.below hb1 (by simp);have s01:=bS1.cell 0 (v:=.int .i64 2) rfl))
  have hb1':Below w.heap.size w w1:=hb0.trans (hb1.mono (by omega));have bW1:=bW0.below hb1 (by omega);have hP1:AskP wb hb w.heap.size ⟨2,ss,tt,aa,bb,ff,fl,fu,ke,pa⟩ w1:=AskP.mk' bW1 bS1;have hh1:HP w1.drew:=lo1.below hP hb1'.drew;have hg'l:=hR1.glt;have hg'b:w.heap.size+1≤g':=(hR1.row.lt g' rfl).1;have hH1:=hH w1.drew (by have:=hb1'.size;exact this) hh1;have hRo1:RVAt B w1.drew ra g cap L tm tr lr:=hR.below hb1'.drew;have hRn1:RVAt (w.heap.size+1) w1.drew (w.heap.size+1) g' cap' L tm tr lr:=hR1.below (Below.refl _ _).drew
  have fW:Foreign w1.drew wb:=⟨by omega,_,_,bW1,by decide⟩
  have fS:Foreign w1.drew w.heap.size:=⟨by omega,_,_,bS1,by decide⟩
  obtain⟨fA,fG⟩:=hRo1.foreign hB9 (by omega);obtain⟨fN,fH⟩:=hRn1.foreign (by omega) (by omega);simp only [AskP] at hP1
  go_region_held3 (AskP wb hb w.heap.size ⟨2,ss,tt,aa,bb,ff,fl,fu,ke,pa⟩) (first
   | with_reducible exact AskP.drew hP1
   | with_reducible assumption) (first | (go_at_call 18;refine hH1.mono ?_;rintro e w2 ⟨rfl,hp2,hs,hsp2,hso⟩;have bW2:=Spares.box (W:=w1.drew) hsp2 bW1 (fun hx=>(hso _ hx).2 fW);have bS2:=Spares.box (W:=w1.drew) hsp2 bS1 (fun hx=>(hso _ hx).2 fS);have hP2:=AskP.mk' (st:=⟨2,ss,tt,aa,bb,ff,fl,fu,ke,pa⟩) bW2 bS2))
  have hRn2:RVAt (w.heap.size+1) w2 (w.heap.size+1) g' cap' L tm tr lr:=hRn1.spares hsp2 (fun hx=>(hso _ hx).2 fN) (fun hx=>(hso _ hx).2 fH);have hC2:=hC (w.heap.size+1) w2 (w.heap.size+1) g' cap' (by have:=hRn2.v.lt;omega) (Nat.le_refl _) hRn2;obtain⟨⟨q0,q1,q2,q3,q4⟩,q6,q7,q8,q9⟩:=hP2;have hgd:=hRn2.gbox;have lra:=hR.v.lt;have lgg:=hR.glt;have hRo2:RVAt B w2 ra g cap L tm tr lr:=hRo1.spares hsp2 (fun hx=>(hso _ hx).2 fA) (fun hx=>(hso _ hx).2 fG);have hbB2:Below B w w2:=(hb1'.mono hB).drew.trans (hsp2.below (by have:=hb1'.size;exact Nat.le_trans hB this) (fun b hb=>(hso b hb).1));have HBB:=hid_intro hbB2;clear hP1 hCp hH hC hH1 w1c s0c s01 hsp2 hso hbB2
  go_wp2_with (first
   | (go_at_call 111;refine hC2.mono ?_;rintro e w3 ⟨g2,cap2,L2,tr2,lr2,hQ2,rfl,hR3,hsp3⟩;have bW3:=hsp3.box bW2 (fun hx=>by rcases List.mem_cons.1 hx with e | e;omega;have:=List.mem_singleton.1 e;omega);have hTu:=turned wb (w.heap.size+1) k true _ _ _ _ w3 bW3)
   | (go_at_call 110;refine hTu.mono ?_;rintro e w4 ⟨rfl,rfl⟩))
  go_ret;refine⟨by first | rfl | simp,?_⟩;obtain⟨cur,hcur⟩:=hgd
  have hp3:HP' w3:=lo2.other hp2 hsp3 (fun b hb=>by
   rcases List.mem_cons.1 hb with rfl | hb
   ·exact Foreign.of hRn2.v (by omega) (by decide)
   ·rw [List.mem_singleton.1 hb];exact Foreign.of hcur (by omega) (by decide))
  have hsp4:Spares [wb] w3 (w3.setCell ⟨wb,1,none⟩ (.pointer (some ⟨w.heap.size+1,0,none⟩))):=(Spares.of_below (Below.refl _ _)).set (by simp) _ _
  have nW:wb≠g2:=fun e=>by obtain⟨c,hc⟩:=hR3.gbox;exact bW3.ne hc (by decide) e
  have hp4:HP' (w3.setCell ⟨wb,1,none⟩ (.pointer (some ⟨w.heap.size+1,0,none⟩))):=lo2.other hp3 hsp4 (fun b hb=>by rw [List.mem_singleton.1 hb];exact Foreign.of bW3 (by omega) (by decide));have hR4:=(RVAt.spares hR3 hsp4 (by simp;omega) (by simpa using Ne.symm nW)).lower (B':=B) (by omega)
  have hB3:Below B w w3:=(hid_elim HBB).trans (hsp3.below (by have:=hRn2.v.lt;omega) (fun b hb=>by
   rcases List.mem_cons.1 hb with rfl | hb
   ·omega
   ·rw [List.mem_singleton.1 hb];omega))
  exact⟨hp4,⟨L2,tr2,lr2,_,g2,cap2,hQ2,hR4,by omega,bW3.set 1 _⟩,hB3.setCell (p:=⟨wb,1,none⟩) hwb _⟩
def issueF (tm:Int) (ss tt:List UInt8) (aa bb:Int) (L:List ThingD):Int:=if issueE tm ss tt aa bb L≠0 then issueE tm ss tt aa bb L else if tm=18446744073709551615 then 3 else 0
theorem mayE_eq {ss tt:List UInt8} {tm aa bb:Int} {tks:List TokE} {lks:List LeaE} {L:List ThingD} (hl:Rel tks lks L) (h14:lks.length≤14) :
  mayE (decide (0≤liveI tm ss true L)) (pathI tt) aa bb lks.length tm=issueF tm ss tt aa bb L:=by
 unfold mayE issueF issueE;rw [hl.countL]
 by_cases h1:liveI tm ss true L<0
 ·rw [if_pos (by simp;omega),if_pos h1];simp
 ·rw [if_neg (by simp;omega),if_neg h1]
  by_cases h2:pathI tt=false
  ·rw [if_pos h2,if_pos h2];simp
  ·rw [if_neg h2,if_neg h2]
   by_cases h3:aa=0∨bb<aa
   ·rw [if_pos h3,if_pos h3];simp
   ·rw [if_neg h3,if_neg h3]
    by_cases h4:lks.length=14
    ·rw [if_pos (by omega),if_pos h4];simp
    ·rw [if_neg (by omega),if_neg h4];simp
theorem issueE_range (tm:Int) (ss tt:List UInt8) (aa bb:Int) (L:List ThingD):issueE tm ss tt aa bb L=0∨ErrK (issueE tm ss tt aa bb L):=by
 unfold issueE ErrK
 split
 ·simp
 ·split
  ·simp
  ·split
   ·simp
   ·split <;> simp
theorem issueF_range (tm:Int) (ss tt:List UInt8) (aa bb:Int) (L:List ThingD):issueF tm ss tt aa bb L=0∨ErrK (issueF tm ss tt aa bb L):=by
 unfold issueF
 split
 ·exact issueE_range tm ss tt aa bb L
 ·split
  ·exact .inr (by simp [ErrK])
  ·exact .inl rfl
theorem Tryz.okIssue {w0:World} {B N wb hb:Nat} (w:World) (hI:Inv w0 B N wb hb w) (hN:N<20000) (ss tt:List UInt8) (hss:ss.length≤1000000) (htt:tt.length≤1000000) (aa bb ff ke pa:Int) (ha0:0≤aa) (ha1:aa≤18446744073709551615) (hb0:0≤bb) (hb1:bb≤18446744073709551615) :
  Calls prog 62 #[.pointer (some ⟨wb,0,none⟩),.agg (StepD.cells ⟨2,ss,tt,aa,bb,ff,-1,-1,ke,pa⟩)] w fun e w'=>e=.returned (.bool true)∧Inv w0 B (N+1) wb hb w':=by
 obtain⟨rb,σ,ra,g,cap,L,hS,hR,hl,hW,hn,hra⟩:=hI.ex;have hok:=hS.wh.v.va.ok
 have hpos:0<L.length:=by rw [hl.len];have:=hn.pos;omega
 have hlen:L.length<100:=by rw [hl.len];have:=hn.nt;have:=hn.nl;omega
 have b9:=hS.b9;have hcs:=hn.small hN;have hnm:=hn.more (Nat.le_succ N);have t0:=hS.wh.v.t0;have t1:=hS.wh.v.t1
 have hMay:∀ W,Whole W σ.k σ.vx σ.tm σ.s σ.c (-1) (-1)→∀ W',Below W.heap.size W W'→Calls prog 64 #[.pointer (some ⟨σ.k.vb,0,none⟩),nmV (parseN ss),.string ⟨tt.toArray⟩,.int .u64 aa,.int .u64 bb] W' fun e w'=>e=.returned (errV (issueF σ.tm ss tt aa bb L))∧Below W'.heap.size W' w':=fun W hV W' hb'=>by
  have h:=mayIssue σ.k.vb σ.k.mt σ.k.ml σ.vx σ.tm σ.s.tn σ.s.ln σ.s.tks σ.s.lks W' (hV.v.va.below hb') (parseN ss) (decide (0≤liveI σ.tm ss true L)) tt htt aa bb (fun W2 hb2=>tokLive W2 ((hV.v.va.below hb').below hb2) hl ss);rw [mayE_eq hl hn.nl] at h;exact h
 by_cases hk:issueF σ.tm ss tt aa bb L=0
 ·rw [hk] at hMay
  have hE0:issueE σ.tm ss tt aa bb L=0:=by
   by_cases h:issueE σ.tm ss tt aa bb L=0
   ·exact h
   ·unfold issueF at hk;rw [if_pos h] at hk;exact absurd hk h
  have hnev:σ.tm≠18446744073709551615:=fun h=>by
   unfold issueF at hk;rw [if_neg (by simp [hE0]),if_pos h] at hk;cases hk
  have hE:=hE0;unfold issueE at hE
  have hnl:¬ liveI σ.tm ss true L<0:=fun h=>by rw [if_pos h] at hE;omega
  rw [if_neg hnl] at hE
  have hnp:¬ pathI tt=false:=fun h=>by rw [if_pos h] at hE;omega
  rw [if_neg hnp] at hE
  have hnt:¬ (aa=0∨bb<aa):=fun h=>by rw [if_pos h] at hE;omega
  rw [if_neg hnt] at hE
  have hnc:¬ countI false L=14:=fun h=>by rw [if_pos h] at hE;omega
  rw [hl.countL] at hnc;obtain⟨hp24,hpa⟩:=path_ok (by simpa using hnp)
  have hl14:σ.s.lks.length<14:=by have:=hn.nl;omega
  have hln:=hn.ln
  rcases liveI_cases σ.tm ss true L with⟨i,t,ht,hid,htk,hst,hli⟩ | hli
  ·have hm:=List.mem_of_getElem? ht
   have hp:=liveI_hit (L:=L) hid htk (hl.num hok hm) hli
   have hat:σ.tm<plusI σ.tm aa:=by unfold plusI;split <;> omega
   have r1:=plusI_range σ.tm aa t0 t1 ha0 ha1;have r2:=plusI_range σ.tm bb t0 t1 hb0 hb1;have hkl:(keepLine σ.tm [.lea (newL (σ.s.ln+1) t.n (plusI σ.tm aa) (plusI σ.tm bb) tt)]).length≤1300000:=keepLine_len t0 t1 (s:=σ.s) ⟨⟨⟨r1.1,r1.2,show (-9223372036854775808:Int)≤0 by decide,show (0:Int)≤9223372036854775807 by decide,r2.1,r2.2,hp24,hpa⟩,.inr (fun x hx=>by have:=hS.wh.v.nl x hx;show x.n<σ.s.ln+1;omega),by omega,show σ.s.ln+1<u64lim by unfold u64lim;omega,hl.num hok hm⟩,trivial⟩ (by simp)
   have hA:=askIssue B wb hb ra g cap σ.tm L _ _ w _ _ (loneSys B hb rb σ) (loneEx B hb rb (fun σ'=>σ'=⟨σ.k,σ.vx,σ.tm,⟨σ.s.tn,σ.s.ln+1,σ.s.tks,σ.s.lks ++ [newL (σ.s.ln+1) t.n (plusI σ.tm aa) (plusI σ.tm bb) tt]⟩,σ.c++keepLine σ.tm [.lea (newL (σ.s.ln+1) t.n (plusI σ.tm aa) (plusI σ.tm bb) tt)]⟩)) hS hR hpos hW hI.hB b9 hI.bw hra ss tt aa bb ff (-1) (-1) ke pa 0 (nmStr 2 (σ.s.ln+1)) (fun h=>absurd rfl h) (fun a b c=>a=L ++ [newLea (σ.s.ln+1) t.n tt (plusI σ.tm aa) (plusI σ.tm bb)]∧b=((σ.s.tn+1:Nat):Int)∧c=((σ.s.ln+1+1:Nat):Int))
    (fun W _ hS'=>(hIssue B hb rb σ W hS' ss tt aa bb ke pa (.string ⟨(nmStr 2 (σ.s.ln+1)).toArray⟩) (errV 0) 0 (toldK 0 (.inl rfl)) _ (fun W' _ hV=>(vIssue_ok σ.k σ.vx σ.tm σ.s σ.c (-1) (-1) W' hV (by decide) (by decide) (by decide) (by decide) hcs ss tt hss aa bb ha0 ha1 hb0 hb1 hp24 hpa t.n (hl.num hok hm) hp (hMay W' hV) hl14 (by omega)).mono (by rintro e w' ⟨rfl,hV',hs'⟩;exact⟨rfl,⟨_,_,_,⟨rfl,rfl,rfl⟩,hV'⟩,hs'⟩))).mono (fun _ _ h=>hostSame hS' h))
    (fun B' W nb g' cap' hBW hBn hR'=>(rIssue_ok B' nb g' cap' L σ.tm _ (σ.s.ln+1) ss tt aa bb W hR' hBn hR'.ne hBW (by omega) hlen (by omega) t0 ha0 ha1 hb1 i t ht hli hE0 hat).mono (by
     rintro e w' ⟨g2,cap2,rfl,hR2,-,-,hs2⟩;refine⟨g2,cap2,_,_,_,⟨rfl,rfl,rfl⟩,?_,hR2,hs2⟩;have:(newLea (σ.s.ln+1) t.n tt (plusI σ.tm aa) (plusI σ.tm bb)).id=nmStr 2 (σ.s.ln+1):=ThingD.id_nm _
     rw [this]))
   refine hA.mono ?_;rintro e w' ⟨rfl,hA'⟩;refine⟨rfl,hA'.inv hI ?_⟩;rintro _ _ _ _ rfl ⟨rfl,rfl,rfl⟩;refine⟨rfl,hl.snocL (newL (σ.s.ln+1) t.n (plusI σ.tm aa) (plusI σ.tm bb) tt) rfl,rfl,rfl,⟨hn.nt,?_,hn.pos,?_,?_,?_,?_,hn.hd.snoc _⟩⟩
   ·simp;omega
   ·have:=hn.tn;show σ.s.tn≤N+1;omega
   ·show σ.s.ln+1≤N+1;omega
   ·have:=hn.c;simp only [List.length_append];omega
   ·obtain⟨p,hp',e⟩:=hl.tok_mem hm htk
    exact(hn.al.more (Nat.le_succ N)).snocL (fun x hx=>by have:=hS.wh.v.nl x hx;omega) ⟨p,hp',congrArg ThingD.n e⟩
  ·omega
 ·have hrg:=(issueF_range σ.tm ss tt aa bb L).resolve_left hk
  have hRef:∀ B' W nb g' cap',RVAt B' W nb g' cap' L σ.tm ((σ.s.tn+1:Nat):Int) ((σ.s.ln+1:Nat):Int)→Calls prog 111 #[.pointer (some ⟨nb,0,none⟩),.string ⟨ss.toArray⟩,.string ⟨tt.toArray⟩,.int .u64 aa,.int .u64 bb] W fun e w'=>e=.returned (.tuple #[.string ⟨#[]⟩,.int .i64 (issueF σ.tm ss tt aa bb L)])∧Below W.heap.size W w':=fun B' W nb g' cap' hR'=>by
   by_cases hE0:issueE σ.tm ss tt aa bb L=0
   ·have hnev:σ.tm=18446744073709551615:=by
     by_cases h:σ.tm=18446744073709551615
     ·exact h
     ·unfold issueF at hk
      rw [if_neg (by simp [hE0]),if_neg h] at hk;exact absurd rfl hk
    have hF:issueF σ.tm ss tt aa bb L=3:=by
     unfold issueF;rw [if_neg (by simp [hE0]),if_pos hnev]
    have hE:=hE0;unfold issueE at hE
    rcases liveI_cases σ.tm ss true L with⟨i,t,ht,hid,htk,hst,hli⟩ | hli
    ·rw [hF]
     exact rIssue_late B' nb g' cap' L σ.tm _ (σ.s.ln+1) ss tt aa bb W hR' (by omega) t0 ha0 ha1 hb1 i t ht hli hE0 (by rw [hnev];unfold plusI;split <;> omega)
    ·rw [if_pos (by omega)] at hE
     cases hE
   ·have hF:issueF σ.tm ss tt aa bb L=issueE σ.tm ss tt aa bb L:=by
     unfold issueF;rw [if_pos hE0]
    rw [hF];exact rIssue_err B' nb g' cap' L σ.tm _ _ ss tt aa bb W hR' (by omega) hE0
  have hA:=askIssue B wb hb ra g cap σ.tm L _ _ w _ _ (loneSys B hb rb σ) (loneEx B hb rb (fun σ'=>σ'=σ)) hS hR hpos hW hI.hB b9 hI.bw hra ss tt aa bb ff (-1) (-1) ke pa (issueF σ.tm ss tt aa bb L) [] (fun _=>rfl) (fun a b c=>a=L∧b=((σ.s.tn+1:Nat):Int)∧c=((σ.s.ln+1:Nat):Int))
   (fun W _ hS'=>(hIssue B hb rb σ W hS' ss tt aa bb ke pa (.string ⟨#[]⟩) (errV (issueF σ.tm ss tt aa bb L)) (issueF σ.tm ss tt aa bb L) (toldK _ (.inr hrg)) _ (fun W' _ hV=>(vIssue_err σ.k.vb σ.k.mt σ.k.ml σ.vx σ.tm σ.s.tn σ.s.ln σ.s.tks σ.s.lks W' hV.v.va ss tt hss aa bb _ hk (hMay W' hV)).mono (fun _ _ h=>vSame hV (by rw [errV_nz hk];exact h)))).mono (fun _ _ h=>hostSame hS' h))
   (fun B' W nb g' cap' _ _ hR'=>(hRef B' W nb g' cap' hR').mono (by rintro e w' ⟨rfl,hb'⟩;exact⟨g',cap',L,_,_,⟨rfl,rfl,rfl⟩,rfl,hR'.below hb',Spares.of_below hb'⟩))
  refine hA.mono ?_;rintro e w' ⟨rfl,hA'⟩;exact⟨rfl,hA'.inv hI (by rintro _ _ _ _ rfl ⟨rfl,rfl,rfl⟩;exact⟨rfl,hl,rfl,rfl,hnm⟩)⟩
theorem Tryz.askRenew (B wb hb ra g cap:Nat) (tm:Int) (L:List ThingD) (tr lr:Int) (w:World) (HP HP':World→Prop) (lo1:Lone HP) (lo2:Lone HP') (hP:HP w) (hR:RVAt B w ra g cap L tm tr lr) (hpos:0<L.length) (hW:BoxN w wb 69 #[.pointer (some ⟨hb,0,none⟩),.pointer (some ⟨ra,0,none⟩),.pointer none,.bool false,.bool false]) (hB:B≤w.heap.size) (hB9:9≤B) (hwb:B≤wb) (hra:B≤ra)
  (ss tt:List UInt8) (aa bb ff fl fu ke pa:Int) (k:Int) (rs:Int) (hkr:k≠0→rs=0) (Q2:List ThingD→Int→Int→Prop)
  (hH:∀ W,w.heap.size≤W.heap.size→HP W→Calls prog 20 #[.pointer (some ⟨hb,0,none⟩),.string ⟨ss.toArray⟩,.int .u64 aa,.agg #[.int .i64 fl,.int .i64 fu,.int .i64 ke,.int .i64 pa]] W fun e w'=>e=.returned (.tuple #[.int .u64 rs,.int .i64 k])∧HP' w'∧HostSp B W w')
  (hC:∀ B' W nb g' cap',B'≤W.heap.size→B'≤nb→RVAt B' W nb g' cap' L tm tr lr→Calls prog 112 #[.pointer (some ⟨nb,0,none⟩),.string ⟨ss.toArray⟩,.int .u64 aa] W fun e w'=>∃ g2 cap2 L2 tr2 lr2,Q2 L2 tr2 lr2∧e=.returned (.tuple #[.int .u64 rs,.int .i64 k])∧RVAt B' w' nb g2 cap2 L2 tm tr2 lr2∧Spares [nb,g'] W w') :
  Calls prog 62 #[.pointer (some ⟨wb,0,none⟩),.agg (StepD.cells ⟨3,ss,tt,aa,bb,ff,fl,fu,ke,pa⟩)] w fun e w'=>e=.returned (.bool true)∧After w B wb hb tm HP' Q2 w':=by
 have lW:=hW.lt;have hb0:Below w.heap.size w (w.alloc (.cells (StepD.cells ⟨3,ss,tt,aa,bb,ff,fl,fu,ke,pa⟩) 72)):=(Below.refl _ w).alloc (Nat.le_refl _) _;have bS:=BoxN.new w 72 (StepD.cells ⟨3,ss,tt,aa,bb,ff,fl,fu,ke,pa⟩);have bW0:=hW.alloc (.cells (StepD.cells ⟨3,ss,tt,aa,bb,ff,fl,fu,ke,pa⟩) 72);have hCp:=rCopy B ra g cap L tm tr lr _ (hR.below hb0) hpos;rw [World.size_alloc] at hCp;have w1c:=bW0.cell 1 (v:=.pointer (some ⟨ra,0,none⟩)) rfl;have s0c:=bS.cell 0 (v:=.int .i64 3) rfl
 obtain⟨kz,hkz⟩:∃ kz:Bool,(k != 0)=kz:=⟨_,rfl⟩
 have hkz':(k==0) = !kz:=by rw [← hkz];simp [bne]
 have Hkz:Hid (kz=true→rs=0):=hid_intro (fun e=>hkr (by rw [e] at hkz;simpa using hkz));clear hkr;simp only [StepD.cells] at *;cases kz
 all_goals
  try (have hzz:=hid_elim Hkz rfl)
  try subst hzz
  go_enter func62,ntmps62
  go_wp2_with (first
   | (go_at_call 106;refine hCp.mono ?_;rintro e w1 ⟨g',cap',rfl,hR1,hb1⟩;have bS1:=bS.below hb1 (by simp);have s01:=bS1.cell 0 (v:=.int .i64 3) rfl))
  have hb1':Below w.heap.size w w1:=hb0.trans (hb1.mono (by omega));have bW1:=bW0.below hb1 (by omega);have hP1:AskP wb hb w.heap.size ⟨3,ss,tt,aa,bb,ff,fl,fu,ke,pa⟩ w1:=AskP.mk' bW1 bS1;have hh1:HP w1.drew:=lo1.below hP hb1'.drew;have hg'l:=hR1.glt;have hg'b:w.heap.size+1≤g':=(hR1.row.lt g' rfl).1;have hH1:=hH w1.drew (by have:=hb1'.size;exact this) hh1;have hRo1:RVAt B w1.drew ra g cap L tm tr lr:=hR.below hb1'.drew;have hRn1:RVAt (w.heap.size+1) w1.drew (w.heap.size+1) g' cap' L tm tr lr:=hR1.below (Below.refl _ _).drew
  have fW:Foreign w1.drew wb:=⟨by omega,_,_,bW1,by decide⟩
  have fS:Foreign w1.drew w.heap.size:=⟨by omega,_,_,bS1,by decide⟩
  obtain⟨fA,fG⟩:=hRo1.foreign hB9 (by omega);obtain⟨fN,fH⟩:=hRn1.foreign (by omega) (by omega);simp only [AskP] at hP1
  go_region_held3 (AskP wb hb w.heap.size ⟨3,ss,tt,aa,bb,ff,fl,fu,ke,pa⟩) (first
   | with_reducible exact AskP.drew hP1
   | with_reducible assumption) (first | (go_at_call 20;refine hH1.mono ?_;rintro e w2 ⟨rfl,hp2,hs,hsp2,hso⟩;have bW2:=Spares.box (W:=w1.drew) hsp2 bW1 (fun hx=>(hso _ hx).2 fW);have bS2:=Spares.box (W:=w1.drew) hsp2 bS1 (fun hx=>(hso _ hx).2 fS);have hP2:=AskP.mk' (st:=⟨3,ss,tt,aa,bb,ff,fl,fu,ke,pa⟩) bW2 bS2))
  have hRn2:RVAt (w.heap.size+1) w2 (w.heap.size+1) g' cap' L tm tr lr:=hRn1.spares hsp2 (fun hx=>(hso _ hx).2 fN) (fun hx=>(hso _ hx).2 fH);have hC2:=hC (w.heap.size+1) w2 (w.heap.size+1) g' cap' (by have:=hRn2.v.lt;omega) (Nat.le_refl _) hRn2;obtain⟨⟨q0,q1,q2,q3,q4⟩,q6,q7,q8,q9⟩:=hP2;have hgd:=hRn2.gbox;have lra:=hR.v.lt;have lgg:=hR.glt;have hRo2:RVAt B w2 ra g cap L tm tr lr:=hRo1.spares hsp2 (fun hx=>(hso _ hx).2 fA) (fun hx=>(hso _ hx).2 fG);have hbB2:Below B w w2:=(hb1'.mono hB).drew.trans (hsp2.below (by have:=hb1'.size;exact Nat.le_trans hB this) (fun b hb=>(hso b hb).1));have HBB:=hid_intro hbB2;clear hP1 hCp hH hC hH1 w1c s0c s01 hsp2 hso hbB2
  go_wp2_with (first
   | (go_at_call 112;refine hC2.mono ?_;rintro e w3 ⟨g2,cap2,L2,tr2,lr2,hQ2,rfl,hR3,hsp3⟩;have bW3:=hsp3.box bW2 (fun hx=>by rcases List.mem_cons.1 hx with e | e;omega;have:=List.mem_singleton.1 e;omega);have c13:=bW3.cell 1 (v:=.pointer (some ⟨ra,0,none⟩)) rfl;have hRo3:RVAt B w3 ra g cap L tm tr lr:=hRo2.spares hsp3 (fun hx=>by rcases List.mem_cons.1 hx with e | e;omega;have:=List.mem_singleton.1 e;omega) (fun hx=>by rcases List.mem_cons.1 hx with e | e;omega;have:=List.mem_singleton.1 e;omega))
   | (go_at_call 113;refine(changes _ _ _ _ _ _ _ _ _ _ _ _ _ _ _ _ w3 hR3 hRo3).mono ?_;rintro e w5 ⟨tb,rfl,hb5⟩;have bW5:=bW3.below hb5 bW3.lt;have hTu:=turned wb (w.heap.size+1) k tb _ _ _ _ w5 bW5)
   | (go_at_call 110;refine hTu.mono ?_;rintro e w4 ⟨rfl,rfl⟩))
  go_ret;refine⟨by first | rfl | simp,?_⟩;obtain⟨cur,hcur⟩:=hgd
  have hp3:HP' w3:=lo2.other hp2 hsp3 (fun b hb=>by
   rcases List.mem_cons.1 hb with rfl | hb
   ·exact Foreign.of hRn2.v (by omega) (by decide)
   ·rw [List.mem_singleton.1 hb];exact Foreign.of hcur (by omega) (by decide))
  have hp5:HP' w5:=lo2.below hp3 hb5;have hR5:=hR3.below hb5;have hsp4:Spares [wb] w5 (w5.setCell ⟨wb,1,none⟩ (.pointer (some ⟨w.heap.size+1,0,none⟩))):=(Spares.of_below (Below.refl _ _)).set (by simp) _ _
  have nW:wb≠g2:=fun e=>by obtain⟨c,hc⟩:=hR5.gbox;exact bW5.ne hc (by decide) e
  have hp4:HP' (w5.setCell ⟨wb,1,none⟩ (.pointer (some ⟨w.heap.size+1,0,none⟩))):=lo2.other hp5 hsp4 (fun b hb=>by rw [List.mem_singleton.1 hb];exact Foreign.of bW5 (by omega) (by decide));have hR4:=(RVAt.spares hR5 hsp4 (by simp;omega) (by simpa using Ne.symm nW)).lower (B':=B) (by omega)
  have hB3:Below B w w3:=(hid_elim HBB).trans (hsp3.below (by have:=hRn2.v.lt;omega) (fun b hb=>by
   rcases List.mem_cons.1 hb with rfl | hb
   ·omega
   ·rw [List.mem_singleton.1 hb];omega))
  exact⟨hp4,⟨L2,tr2,lr2,_,g2,cap2,hQ2,hR4,by omega,bW5.set 1 _⟩,(hB3.trans (hb5.mono (by have:=hR3.v.lt;omega))).setCell (p:=⟨wb,1,none⟩) hwb _⟩
abbrev AutP (wb hb ra sb:Nat) (ss tt:List UInt8) (W:World):Prop:=
 W.cell? ⟨wb,0,none⟩=some (.pointer (some ⟨hb,0,none⟩))∧W.cell? ⟨wb,1,none⟩=some (.pointer (some ⟨ra,0,none⟩))∧W.cell? ⟨sb,1,none⟩=some (.string ⟨ss.toArray⟩)∧W.cell? ⟨sb,2,none⟩=some (.string ⟨tt.toArray⟩)
theorem AutP.drew {wb hb ra sb:Nat} {ss tt:List UInt8} {W:World} (h:AutP wb hb ra sb ss tt W):AutP wb hb ra sb ss tt W.drew:=h
theorem AutP.mk' {wb hb ra sb:Nat} {st:StepD} {W:World} {t t':TypeId} {c2 c3 c4:Value} (hW:BoxN W wb t #[.pointer (some ⟨hb,0,none⟩),.pointer (some ⟨ra,0,none⟩),c2,c3,c4]) (hS:BoxN W sb t' st.cells):AutP wb hb ra sb st.s st.t W:=
 ⟨hW.cell 0 rfl,hW.cell 1 rfl,hS.cell 1 rfl,hS.cell 2 rfl⟩
theorem Tryz.askAuth (B wb hb ra g cap:Nat) (tm:Int) (L:List ThingD) (tr lr:Int) (w:World) (hR:RVAt B w ra g cap L tm tr lr) (hpos:0<L.length) (hW:BoxN w wb 69 #[.pointer (some ⟨hb,0,none⟩),.pointer (some ⟨ra,0,none⟩),.pointer none,.bool false,.bool false])
  (ss tt:List UInt8) (aa bb ff fl fu ke pa:Int) (r:Bool)
  (hH:∀ W,Below w.heap.size w W→Calls prog 23 #[.pointer (some ⟨hb,0,none⟩),.string ⟨ss.toArray⟩,.string ⟨tt.toArray⟩] W fun e w'=>e=.returned (.bool r)∧Below W.heap.size W w')
  (hC:∀ W,Below w.heap.size w W→Calls prog 117 #[.pointer (some ⟨ra,0,none⟩),.string ⟨ss.toArray⟩,.string ⟨tt.toArray⟩] W fun e w'=>e=.returned (.bool r)∧Below W.heap.size W w') :
  Calls prog 62 #[.pointer (some ⟨wb,0,none⟩),.agg (StepD.cells ⟨4,ss,tt,aa,bb,ff,fl,fu,ke,pa⟩)] w fun e w'=>e=.returned (.bool true)∧Below w.heap.size w w':=by
 have lW:=hW.lt;have hb0:Below w.heap.size w (w.alloc (.cells (StepD.cells ⟨4,ss,tt,aa,bb,ff,fl,fu,ke,pa⟩) 72)):=(Below.refl _ w).alloc (Nat.le_refl _) _;have bS:=BoxN.new w 72 (StepD.cells ⟨4,ss,tt,aa,bb,ff,fl,fu,ke,pa⟩);have bW0:=hW.alloc (.cells (StepD.cells ⟨4,ss,tt,aa,bb,ff,fl,fu,ke,pa⟩) 72);have hCp:=rCopy B ra g cap L tm tr lr _ (hR.below hb0) hpos;rw [World.size_alloc] at hCp;have w1c:=bW0.cell 1 (v:=.pointer (some ⟨ra,0,none⟩)) rfl;have s0c:=bS.cell 0 (v:=.int .i64 4) rfl;simp only [StepD.cells] at *;go_enter func62,ntmps62
 go_wp2_with (first
  | (go_at_call 106;refine hCp.mono ?_;rintro e w1 ⟨g',cap',rfl,hR1,hb1⟩;have bS1:=bS.below hb1 (by simp);have s01:=bS1.cell 0 (v:=.int .i64 4) rfl))
 have hb1':Below w.heap.size w w1:=hb0.trans (hb1.mono (by omega));have bW1:=bW0.below hb1 (by omega);have hP1:AutP wb hb ra w.heap.size ss tt w1:=AutP.mk' (st:=⟨4,ss,tt,aa,bb,ff,fl,fu,ke,pa⟩) bW1 bS1;have hH1:=hH w1.drew hb1'.drew;simp only [AutP] at hP1
 go_region_held3 (AutP wb hb ra w.heap.size ss tt) (first
  | with_reducible exact AutP.drew hP1
  | with_reducible assumption) (first | (go_at_call 23;refine hH1.mono ?_;rintro e w2 ⟨rfl,hb2⟩;have bW2:=BoxN.below (W:=w1.drew) bW1 hb2 bW1.lt;have bS2:=BoxN.below (W:=w1.drew) bS1 hb2 bS1.lt;have hP2:=AutP.mk' (st:=⟨4,ss,tt,aa,bb,ff,fl,fu,ke,pa⟩) bW2 bS2))
 have hb2':Below w.heap.size w w2:=hb1'.drew.trans (hb2.mono (by have:=hb1'.size;exact this));have hC2:=hC w2.drew hb2'.drew
 go_wp2_with fail
 simp only [AutP] at hP2
 go_region_held3 (AutP wb hb ra w.heap.size ss tt) (first
  | with_reducible exact AutP.drew hP2
  | with_reducible assumption) (first | (go_at_call 117;refine hC2.mono ?_;rintro e w3 ⟨rfl,hb3⟩;have bW3:=BoxN.below (W:=w2.drew) bW2 hb3 bW2.lt;have bS3:=BoxN.below (W:=w2.drew) bS2 hb3 bS2.lt;have hP3:=AutP.mk' (st:=⟨4,ss,tt,aa,bb,ff,fl,fu,ke,pa⟩) bW3 bS3))
 go_wp2;go_ret;exact⟨by first | rfl | simp,hb2'.drew.trans (hb3.mono (by have:=hb2'.size;exact this))⟩
theorem Tryz.okRenew {w0:World} {B N wb hb:Nat} (w:World) (hI:Inv w0 B N wb hb w) (hN:N<20000) (ss tt:List UInt8) (hss:ss.length≤1000000) (aa bb ff ke pa:Int) (ha0:0≤aa) (ha1:aa≤18446744073709551615) :
  Calls prog 62 #[.pointer (some ⟨wb,0,none⟩),.agg (StepD.cells ⟨3,ss,tt,aa,bb,ff,-1,-1,ke,pa⟩)] w fun e w'=>e=.returned (.bool true)∧Inv w0 B (N+1) wb hb w':=by
 obtain⟨rb,σ,ra,g,cap,L,hS,hR,hl,hW,hn,hra⟩:=hI.ex;have hok:=hS.wh.v.va.ok
 have hpos:0<L.length:=by rw [hl.len];have:=hn.pos;omega
 have b9:=hS.b9;have hcs:=hn.small hN;have hnm:=hn.more (Nat.le_succ N)
 rcases liveI_cases σ.tm ss false L with⟨i,t,ht,hid,htk,hst,hli⟩ | hli
 ·obtain⟨k,l,hk,rfl,hp,hlv,hrel⟩:=leaLive_hit hok hl ht hid htk hst hli
  have hA:=askRenew B wb hb ra g cap σ.tm L _ _ w _ _ (loneSys B hb rb σ) (loneEx B hb rb (fun σ'=>σ'.tm=σ.tm∧σ'.s=⟨σ.s.tn,σ.s.ln,σ.s.tks,σ.s.lks.set k { l with at_:=renewL σ.tm aa l }⟩∧σ'.c.length≤σ.c.length+1300000)) hS hR hpos hW hI.hB b9 hI.bw hra ss tt aa bb ff (-1) (-1) ke pa 0 (renewL σ.tm aa l) (fun h=>absurd rfl h) (fun a b c=>a=L.set i { (thL l) with at_:=renewL σ.tm aa l }∧b=((σ.s.tn+1:Nat):Int)∧c=((σ.s.ln+1:Nat):Int))
    (fun W _ hS'=>(hRenew B hb rb σ W hS' ss aa ke pa (.int .u64 (renewL σ.tm aa l)) (errV 0) 0 (toldK 0 (.inl rfl)) (fun σ'=>σ'.tm=σ.tm∧σ'.s=⟨σ.s.tn,σ.s.ln,σ.s.tks,σ.s.lks.set k { l with at_:=renewL σ.tm aa l }⟩∧σ'.c.length≤σ.c.length+1300000) (fun W' _ hV=>(vRenew_hit σ.k σ.vx σ.tm σ.s σ.c (-1) (-1) W' hV (by decide) (by decide) (by decide) (by decide) hcs ss hss k l hk hp hlv aa ha0 ha1 (by have:=hn.nl;omega)).mono (by rintro e w' ⟨rfl,⟨c',l',f',hc',-,-,-,-,hV'⟩,hs'⟩;exact⟨rfl,⟨⟨σ.k,σ.vx,σ.tm,_,c'⟩,l',f',⟨⟨rfl,rfl,hc'⟩,rfl,rfl⟩,hV'⟩,hs'⟩))).mono (fun _ _ h=>hostSame hS' h))
    (fun B' W nb g' cap' hBW _ hR'=>(rRenew_hit B' nb g' cap' L σ.tm _ _ ss aa W hR' hBW hR'.ne hS.wh.v.t0 ha0 ha1 i _ ht hli).mono (by
     rintro e w' ⟨rfl,hR2,-,hs2⟩
     exact⟨g',cap',_,_,_,⟨rfl,rfl,rfl⟩,rfl,hR2,hs2⟩))
  refine hA.mono ?_;rintro e w' ⟨rfl,hA'⟩;refine⟨rfl,hA'.inv hI ?_⟩;rintro σ' _ _ _ ⟨h1,h2,h3⟩ ⟨rfl,rfl,rfl⟩;obtain⟨k',vx',tm',s',c'⟩:=σ';simp only at h1 h2 h3;subst h1 h2;refine⟨rfl,hrel _,rfl,rfl,⟨hn.nt,?_,hn.pos,?_,?_,?_,?_,hn.hd.set ht rfl rfl⟩⟩
  ·simpa using hn.nl
  ·have:=hn.tn;show σ.s.tn≤N+1;omega
  ·have:=hn.ln;show σ.s.ln≤N+1;omega
  ·have:=hn.c;show c'.length≤(N+1)*40000000;omega
  ·exact(hn.al.more (Nat.le_succ N)).setL hk rfl rfl rfl rfl
 ·obtain⟨ak,au,at_,tr,pd,lp,la,hF⟩:=leaLive_miss (vb:=σ.k.vb) (mt:=σ.k.mt) (ml:=σ.k.ml) (vx:=σ.vx) (tn:=σ.s.tn) (ln:=σ.s.ln) hok hl ss hli
  have hA:=askRenew B wb hb ra g cap σ.tm L _ _ w _ _ (loneSys B hb rb σ) (loneEx B hb rb (fun σ'=>σ'=σ)) hS hR hpos hW hI.hB b9 hI.bw hra ss tt aa bb ff (-1) (-1) ke pa 5 0 (fun _=>rfl) (fun a b c=>a=L∧b=((σ.s.tn+1:Nat):Int)∧c=((σ.s.ln+1:Nat):Int))
   (fun W _ hS'=>(hRenew B hb rb σ W hS' ss aa ke pa (.int .u64 0) (errV 5) 5 (toldK 5 (.inr (by simp [ErrK]))) _ (fun W' _ hV=>(vRenew_miss σ.k.vb W' ss aa _ ak au at_ tr pd lp la (parse ⟨ss.toArray⟩ (by simpa [ByteArray.size] using hss) W' hV.v.va.env hV.v.va.six) (fun W2 hb2=>hF W2 (hV.v.va.below hb2))).mono (fun _ _ h=>vSame hV h))).mono (fun _ _ h=>hostSame hS' h))
   (fun B' W nb g' cap' _ _ hR'=>(rRenew_miss B' nb g' cap' L σ.tm _ _ ss aa W hR' hli).mono (by rintro e w' ⟨rfl,hb'⟩;exact⟨g',cap',L,_,_,⟨rfl,rfl,rfl⟩,rfl,hR'.below hb',Spares.of_below hb'⟩))
  refine hA.mono ?_;rintro e w' ⟨rfl,hA'⟩;exact⟨rfl,hA'.inv hI (by rintro _ _ _ _ rfl ⟨rfl,rfl,rfl⟩;exact⟨rfl,hl,rfl,rfl,hnm⟩)⟩
theorem Tryz.vAuthRel {B:Nat} {hb rb:Nat} {σ:SS} {L:List ThingD} (W:World) (hS:Sys B W hb rb σ) (hl:Rel σ.s.tks σ.s.lks L) (ss tt:List UInt8) (hss:ss.length≤1000000) :
  Calls prog 47 #[.pointer (some ⟨σ.k.vb,0,none⟩),.string ⟨ss.toArray⟩,.string ⟨tt.toArray⟩] W fun e w'=>e=.returned (.bool (authI σ.tm ss tt L))∧Below W.heap.size W w':=by
 have hok:=hS.wh.v.va.ok;have hP:=parse ⟨ss.toArray⟩ (by simpa [ByteArray.size] using hss) W hS.wh.v.va.env hS.wh.v.va.six
 rcases liveI_cases σ.tm ss false L with⟨i,t,ht,hid,htk,hst,hli⟩ | hli
 ·obtain⟨k,l,hk,rfl,hp,hlv,-⟩:=leaLive_hit hok hl ht hid htk hst hli
  rw [authI_hit ht hli];simp only [hp] at hP
  have h:=vAuth_any σ.k.vb W ss tt _ l.ak l.au l.at_ l.tr l.pd l.pth l.last true hP (fun W2 hb2=>by
   have h:=liveLease_hit σ.k.vb σ.k.mt σ.k.ml σ.vx σ.tm σ.s.tn σ.s.ln σ.s.tks σ.s.lks W2 (hS.wh.v.va.below hb2) l (List.mem_of_getElem? hk);rw [hlv] at h
   exact h)
  rw [Bool.true_and] at h;exact h
 ·obtain⟨ak,au,at_,tr,pd,lp,la,hF⟩:=leaLive_miss (vb:=σ.k.vb) (mt:=σ.k.mt) (ml:=σ.k.ml) (vx:=σ.vx) (tn:=σ.s.tn) (ln:=σ.s.ln) hok hl ss hli
  rw [authI_miss hli];exact vAuth_any σ.k.vb W ss tt _ ak au at_ tr pd lp la false hP (fun W2 hb2=>hF W2 (hS.wh.v.va.below hb2))
theorem Tryz.okAuth {w0:World} {B N wb hb:Nat} (w:World) (hI:Inv w0 B N wb hb w) (ss tt:List UInt8) (hss:ss.length≤1000000) (aa bb ff fl fu ke pa:Int) :
  Calls prog 62 #[.pointer (some ⟨wb,0,none⟩),.agg (StepD.cells ⟨4,ss,tt,aa,bb,ff,fl,fu,ke,pa⟩)] w fun e w'=>e=.returned (.bool true)∧Inv w0 B (N+1) wb hb w':=by
 have hI':=hI;obtain⟨rb,σ,ra,g,cap,L,hS,hR,hl,hW,hn,hra⟩:=hI.ex
 have hpos:0<L.length:=by rw [hl.len];have:=hn.pos;omega
 have hC:=fun W (b:Below w.heap.size w W)=>rAuth B ra g cap L σ.tm _ _ ss tt W (hR.below b)
 have hH:=fun W (b:Below w.heap.size w W)=>hAuth hb σ.k.db rb σ.k.vb W (hS.below b).host ss tt _ (vAuthRel W (hS.below b) hl ss tt hss)
 refine(askAuth B wb hb ra g cap σ.tm L _ _ w hR hpos hW ss tt aa bb ff fl fu ke pa _ hH hC).mono ?_;rintro e w' ⟨rfl,hb'⟩;exact⟨rfl,(hI'.below hb').more (by omega)⟩
end Go.Proofs
