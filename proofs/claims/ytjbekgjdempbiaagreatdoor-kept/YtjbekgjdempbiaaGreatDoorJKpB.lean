import Derived.Test.YtjbekgjdempbiaaGreatDoorJSq
import Derived.Test.YtjbekgjdempbiaaGreatDoorJKpA
import Derived.Test.YtjbekgjdempbiaaGreatDoorJTkO
import Derived.Test.YtjbekgjdempbiaaGreatDoorJAskVT
import Derived.Deep.RegionHeld3
import Derived.Test.YtjbekgjdempbiaaGreatDoorJKtD
set_option maxRecDepth 100000
set_option maxHeartbeats 8000000
namespace Go.Proofs
open Go.RowKit Go.Sort Go.Lib Go.Shelf Go.Maps Go.WideMaps
theorem Tryz.TAt.aside {B:Nat} {W W':World} {k:Blk} {vx:VX} {tm:Int} {s:VSt} {c:List UInt8} {l f:Int} {rb:Nat} {fl:Int} {v:Value} {xs:List Value} {q:List Xe} (h:TAt B W k vx tm s c l f rb fl v xs q) {nb:Nat} {cs:Array Value} (hN:BoxN W nb 144 cs) (hne:vx.due.ownBlock≠some nb) (h9:9<=nb) (hS:Spares [nb] W W'):TAt B W' k vx tm s c l f rb fl v xs q:=by
 obtain⟨fd,fn,hd,⟨e1,e2⟩,hs1,hs2⟩:=h.sep
 have hq:RvQ W [nb]:=fun b hb=>by
  obtain rfl:=List.mem_singleton.1 hb;exact⟨h9,_,_,hN,.inr (.inr rfl)⟩
 have hV':=hS.box h.wh.v.va.v (fun hm=>h.wh.v.va.v.ne hN (by decide) (List.mem_singleton.1 hm));obtain⟨hW',hD'⟩:=h.wh.reV hd e1 e2 (hS.mono (fun b hb=>List.mem_cons_of_mem _ hb)) hq (fun p hp hm=>(hd.sd p hp).ne hN (by decide) (List.mem_singleton.1 hm)) (fun p hp hm=>(hd.sn p hp).ne hN (by decide) (List.mem_singleton.1 hm)) hV' rfl h.wh.v.t0 h.wh.v.t1
 exact { h with wh:=hW',sep:=⟨fd,fn,hD',⟨e1,e2⟩,hs1,hs2⟩,due:=hS.J2 h.due (fun b hb hm=>by rw [List.mem_singleton.1 hm] at hb;exact hne hb),rbx:=hS.box h.rbx (fun hm=>h.rbx.ne hN (by decide) (List.mem_singleton.1 hm)),row:=hS.J2 h.row (fun b hb hm=>by
   obtain⟨-,cs',hB⟩:=Xm h.row hb
   exact hB.ne hN (by decide) (List.mem_singleton.1 hm)),bw:=Nat.le_trans h.bw hS.size }
theorem Xh7 {P:Nat->Prop} (h:∃ n,P n):∃ m,P m/\leastOf P=m:=⟨_,leastOf_spec h,rfl⟩
theorem Tryz.vTick (B:Nat) (k:Blk) (vx:VX) (tm:Int) (s:VSt) (c:List UInt8) (l f:Int) (rb:Nat) (fl:Int) (v:Value) (w:World) (h:TAt B w k vx tm s c l f rb fl v [] []) (htk:vx.tk=false) (hT:Jt s) (h50:s.tks.length+s.lks.length<=50) (M:Int) (hM:M<=900000000) (hMB:TrB M s) (hl:l<0) (hl1 : -900000000<=l) (hf:f<0) (hf1 : -900000000<=f) (hc:c.length<=890000000000) (fl0:0<=fl) (fl1:fl<=18446744073709551615) (now:Int) (hn0:0<=now) (hn1:now<=18446744073709551615) :
  Calls prog 46 #[.pointer (some ⟨k.vb,0,none⟩),.int .u64 now] w fun e w'=>e=.returned .nilIface/\∃ vx' v' b l' f',Jv (max tm now) ⟨s,s.tks.flatMap (Yv s (max tm now))++s.lks.flatMap (Zw (max tm now)),fl,c,[]⟩ b/\b.q = []/\TAt B w' k vx' (max tm now) b.s b.c l' f' rb b.fl v' (b.cl.map fun p=>.string ⟨(nmStr p.1 p.2).toArray⟩) []/\vx'.tk=false/\Xa0 (max tm now) (M+b.cl.length) b/\(b.cl.length<=150/\b.c.length<=c.length+2600*b.cl.length/\b.s.tks.length+b.s.lks.length<=50)/\Spares (X8 k rb v vx.due) w w':=by
 obtain⟨a0,ha0⟩:∃ a0,a0=(⟨s,s.tks.flatMap (Yv s (max tm now))++s.lks.flatMap (Zw (max tm now)),fl,c,[]⟩:TS):=⟨_,rfl⟩
 rw [<- ha0];have lv:=h.wh.v.va.v.lt;have t0:=h.wh.v.t0;have t1:=h.wh.v.t1
 have hmf:∀(fn:Fn) (first cap:Array Value) (w:World),(Instr.makeFunc fn first cap).run prog w=.ok (.func fn first cap) w:=fun _ _ _ _=>rfl
 have bV0:=h.wh.v.va.v;have c1:=bV0.cell 2 (v:=.int .u64 tm) rfl;have f1:=bV0.frozen 2
 have h0':0<=max tm now:=by omega
 have h1':max tm now<=18446744073709551615:=by omega
 have bV1:BoxN ((w.setCell ⟨k.vb,2,none⟩ (.int .u64 (max tm now))).alloc (.cells #[.pointer (some ⟨k.vb,0,none⟩)] 76)).drew k.vb 126 (Y8 vx (max tm now) k.mt k.ml s.tn s.ln):=(bV0.set 2 (.int .u64 (max tm now))).alloc _
 have bB1:BoxN ((w.setCell ⟨k.vb,2,none⟩ (.int .u64 (max tm now))).alloc (.cells #[.pointer (some ⟨k.vb,0,none⟩)] 76)).drew w.heap.size 76 #[.pointer (some ⟨k.vb,0,none⟩)]:=by
  have h:BoxN ((w.setCell ⟨k.vb,2,none⟩ (.int .u64 (max tm now))).alloc (.cells #[.pointer (some ⟨k.vb,0,none⟩)] 76)) w.heap.size 76 #[.pointer (some ⟨k.vb,0,none⟩)]:=by simpa using BoxN.new (w.setCell ⟨k.vb,2,none⟩ (.int .u64 (max tm now))) 76 #[.pointer (some ⟨k.vb,0,none⟩)]
  exact h
 have hS1:Spares [k.vb] w ((w.setCell ⟨k.vb,2,none⟩ (.int .u64 (max tm now))).alloc (.cells #[.pointer (some ⟨k.vb,0,none⟩)] 76)).drew:=(((Spares.of_below (Below.refl _ w)).set (by simp) _ _).alloc _).drew
 have hnd:∀ b,vx.due.ownBlock=some b->b≠k.vb:=fun b hb e=>by
  obtain⟨-,cs,h2⟩:=Xm h.due hb;exact h2.ne bV0 (by decide) e
 go_enter_defers func46,ntmps46
 go_wp2_with fail
 go_region
 generalize ((w.setCell ⟨k.vb,2,none⟩ (.int .u64 (max tm now))).alloc (.cells #[.pointer (some ⟨k.vb,0,none⟩)] 76)).drew=W1 at *;have hw1:=hS1.size;have h1:TAt B W1 k vx (max tm now) s c l f rb fl v [] []:=h.Xc6 bV1 rfl rfl h0' h1' (hS1.J2 h.due (fun b hb hm=>hnd b hb (List.mem_singleton.1 hm))) h.hp (hS1.mono (by simp));generalize htm':max tm now=tm' at *;have HTM:=Xb htm';clear htm'
 have hne:w.heap.size≠k.vb:=by omega
 have c6:=bV1.cell 7 (v:=.bool false) (by rw [<- htk];rfl);have f6:=bV1.frozen 7;have cB1:=bB1.cell 0 (v:=.pointer (some ⟨k.vb,0,none⟩)) rfl;have bV2:BoxN (W1.setCell ⟨k.vb,7,none⟩ (.bool true)) k.vb 126 (Y8 { vx with tk:=true } tm' k.mt k.ml s.tn s.ln):=bV1.set 7 (.bool true);have bB2:=bB1.other hne 7 (.bool true);have cB2:=bB2.cell 0 (v:=.pointer (some ⟨k.vb,0,none⟩)) rfl;have hS2:Spares [k.vb] W1 (W1.setCell ⟨k.vb,7,none⟩ (.bool true)):=(Spares.of_below (Below.refl _ W1)).set (by simp) _ _;have h2:TAt B (W1.setCell ⟨k.vb,7,none⟩ (.bool true)) k { vx with tk:=true } tm' s c l f rb fl v [] []:=h1.Xc6 bV2 rfl rfl h0' h1' (hS2.J2 h1.due (fun b hb hm=>hnd b hb (List.mem_singleton.1 hm))) h1.hp (hS2.mono (by simp));have hQ:=callsIn_wide.1 (Xp3 B k { vx with tk:=true } tm' s c l f rb fl v [] _ h2 h50)
 have hq100:∀ q:List Xe,q.Perm (s.tks.flatMap (Yv s tm')++s.lks.flatMap (Zw tm'))->q.length<=100:=fun q hq=>by
  have e1:=hq.length_eq;have e2:=Y0 (Yv s tm') (fun x=>by unfold Yv;split <;> simp) s.tks;have e3:=Y0 (Zw tm') (fun x=>by unfold Zw;split <;> simp) s.lks;rw [List.length_append] at e1;omega
 have hnds:∀ {b:Nat},b∈k.vb :: vx.due.ownBlock.toList->b∈X8 k rb v vx.due:=fun {b} hb=>by
  simp only [X8,Blk.turns,List.mem_append,List.mem_cons] at hb ⊢
  rcases hb with e | e
  ·exact .inl (.inl e)
  exact .inr (.inr (.inr e))
 have hS02:Spares (X8 k rb v vx.due) w (W1.setCell ⟨k.vb,7,none⟩ (.bool true)):=(hS1.mono (fun b hb=>hnds (by rw [List.mem_singleton.1 hb];simp))).trans (hS2.mono (fun b hb=>hnds (by rw [List.mem_singleton.1 hb];simp)));have hz2:w.heap.size<=(W1.setCell ⟨k.vb,7,none⟩ (.bool true)).heap.size:=hS02.size
 go_wp2_with (first
  | (go_at_call 75;refine hQ.mono ?_;rintro e W3 ⟨rfl,vx3,q3,hp3,h3,htk3,hj3,hd3,hs3⟩;have bB3:=hs3.box bB2 (fun hm=>by
    rcases List.mem_cons.1 hm with e | hm
    ·exact hne e
    obtain⟨-,cs,hB⟩:=Xm h2.due (by simpa using hm)
    exact bB2.ne hB (by decide) rfl);have cB3:=bB3.cell 0 (v:=.pointer (some ⟨k.vb,0,none⟩)) rfl;have hPop:=Xrv B k vx3 tm' s c l f rb fl v [] q3 W3 h3 (hq100 q3 hp3);have HS3:=Xb (And.intro hd3 hs3);clear hd3 hs3)
  | (go_at_call 76;refine hPop.mono ?_;rintro e W4 ⟨⟨y1,y2,y3⟩,ok,rfl,vx4,q4,h4,hok0,hok1,htk4,hd4,hs4⟩;simp only [Xe.cells] ))
 obtain⟨hd3,hs3⟩:=Xa HS3
 have hd3':∀ d,vx3.due.ownBlock=some d->vx.due.ownBlock=some d\/w.heap.size<=d:=fun d hd=>(hd3 d hd).imp id (fun h=>Nat.le_trans hz2 h)
 have hS03:Spares (X8 k rb v vx.due) w W3:=hS02.trans (hs3.mono (fun b hb=>hnds hb))
 have hS04:Spares (X8 k rb v vx.due) w W4:=by
  have h:=(hS03.mono (bs':=X8 k rb v vx.due++(k.vb :: vx3.due.ownBlock.toList)) (fun b hb=>List.mem_append_left _ hb)).trans (hs4.mono (fun b hb=>List.mem_append_right _ hb));refine h.Xwa (fun b hb=>?_)
  rcases List.mem_append.1 hb with hb | hb
  ·exact .inl hb
  rcases List.mem_cons.1 hb with rfl | hb
  ·exact .inl (hnds (by simp))
  exact(hd3' b (by simpa using hb)).imp (fun e=>hnds (List.mem_cons_of_mem _ (by simpa using e))) id
 have hz4:=hS04.size
 have bB4:=hs4.box bB3 (fun hm=>by
  rcases List.mem_cons.1 hm with e | hm
  ·exact hne e
  obtain⟨-,cs,hB⟩:=Xm h3.due (by simpa using hm)
  exact bB3.ne hB (by decide) rfl)
 have hdlt:∀ d,vx4.due.ownBlock=some d->d<W4.heap.size:=fun d hd=>by
  obtain⟨-,cs,hB⟩:=Xm h4.due hd;exact hB.lt
 have hB5:Below W4.heap.size W4 (W4.alloc (.cells #[.int .u64 y1,.int .i64 y2,.int .u64 y3] 144)):=(Below.refl _ W4).alloc (Nat.le_refl _) _
 have hq0:(s.tks.flatMap (Yv s tm')++s.lks.flatMap (Zw tm')).length<=s.tks.length+s.lks.length:=by
  have e2:=Y0 (Yv s tm') (fun x=>by unfold Yv;split <;> simp) s.tks;have e3:=Y0 (Zw tm') (fun x=>by unfold Zw;split <;> simp) s.lks;rw [List.length_append];omega
 have hleft0:a0.left<=150:=by rw [ha0];unfold TS.left;simp only;omega
 have hst:∃ n,TkI B k tm' a0 l f M rb w.heap.size v vx.due w (.pointer (some ⟨W4.heap.size,0,none⟩)) (.bool ok) (W4.alloc (.cells #[.int .u64 y1,.int .i64 y2,.int .u64 y3] 144)) n:=by
  refine⟨a0.left,W4.heap.size,⟨y1,y2,y3⟩,ok,vx4,v,q4,a0,0,rfl,rfl,rfl,?_⟩;refine { bN:=BoxN.new W4 144 _,nd:=fun e=>by have:=hdlt _ e;omega,nw:=hz4,bB:=bB4.alloc _,tat:=?_,yes:=fun e=>?_,no:=fun e=>?_,tries:=.refl _,going:=?_,left:=by omega,cl:=by rw [ha0];rfl,c:=by omega,n50:=by rw [ha0];exact h50,qc:=by rw [ha0];simp only;omega,tk:=by rw [htk4,htk3],sp:=hS04.trans (Spares.of_below hB5),vo:=fun g hg=>.inl hg,do_:=fun d hd=>hd3' d (by rw [<- hd4];exact hd) }
  ·rw [ha0]
   have h5:=h4.below hB5
   simpa using h5
  ·obtain⟨o1,o2⟩:=hok1 e
   rw [ha0];exact⟨o1.trans hp3,o2⟩
  ·obtain⟨o1,o2⟩:=hok0 e
   rw [ha0];refine⟨?_,o2⟩;rw [o1] at hp3;exact List.Perm.eq_nil hp3.symm
  rw [ha0];exact⟨hT,QOk.start hT,QNz.start hT,by simpa using hMB,fl0,fl1⟩
 have hlow:∀ b∈X8 k rb v vx.due,True:=fun _ _=>trivial
 have HN:=Xb (And.intro @hnds (And.intro lv (And.intro h.b9 h.bw)));clear hlow hq0 hB5 hdlt bB4 hz4 hS04 hS03 hd3' hd3 hs3 HS3 hs4 hd4 htk4 hok0 hok1 h4 hPop cB3 bB3 hj3 htk3 h3 hp3 hz2 hS02 hnds hq100 hQ h2 hS2 cB2 bB2 bV2 cB1 f6 c6 h1 bB1 bV1 hS1 hw1 hT hMB;generalize W4.heap.size=nb0 at *
 go_loopw [5,6] (fun p o wr=>∃ n,TkI B k tm' a0 l f M rb w.heap.size v vx.due w p o wr n) (fun p o wr=>leastOf (TkI B k tm' a0 l f M rb w.heap.size v vx.due w p o wr))
 case atStart=>exact hst
 case round =>
  clear hst;obtain⟨m,hm,hme⟩:=Xh7 hrel;clear hrel;have HM:=Xb hme;clear hme;obtain⟨nb,t,okb,vx1,v1,q1,a,j,rfl,rfl,hmn,hR⟩:=hm;obtain⟨hnds,lv,hb9,hbw⟩:=Xa HN
  have hj:j<=150:=by have:=hR.left;omega
  have cB:=hR.bB.cell 0 (v:=.pointer (some ⟨k.vb,0,none⟩)) rfl
  cases okb with
  | false =>
   obtain⟨haq,hq0⟩:=hR.no rfl;subst hq0;have bV:=hR.tat.wh.v.va.v;go_wp2;refine leaves_cons (f:=73) (args:=#[.pointer (some ⟨w.heap.size,0,none⟩)]) (by simp) (by simp [invoke,go_sem]) ?_;refine(Xv3 k.vb w.heap.size vx1.due (.bool true) .returning wr (Xe6 hR.tat.due) cB (by rw [<- hR.tk];exact bV.cell 7 rfl) (bV.frozen 7) (bV.cell 8 rfl) (bV.frozen 8) hne).mono ?_;rintro e u' w'' ⟨rfl,rfl,rfl⟩;have bV2:BoxN ((wr.setCell ⟨k.vb,7,none⟩ (.bool false)).setCell ⟨k.vb,8,none⟩ vx1.due) k.vb 126 (Y8 { vx1 with tk:=false } tm' k.mt k.ml a.s.tn a.s.ln):=(bV.set 7 (.bool false)).set 8 vx1.due;have hS2:Spares [k.vb] wr ((wr.setCell ⟨k.vb,7,none⟩ (.bool false)).setCell ⟨k.vb,8,none⟩ vx1.due):=((Spares.of_below (Below.refl _ wr)).set (by simp) _ _).set (by simp) _ _
   have hA2:=hR.tat.Xc6 bV2 rfl rfl hR.tat.wh.v.t0 hR.tat.wh.v.t1 (hS2.J2 hR.tat.due (fun b hb hm=>by
    obtain⟨-,cs,hB⟩:=Xm hR.tat.due hb
    exact hB.ne bV (by decide) (List.mem_singleton.1 hm))) hR.tat.hp (hS2.mono (by simp))
   have hcl:=hR.cl;have hgo:=hR.going;have hc2:=hR.c;rw [<- hcl] at hgo hc2;have htm':=Xa HTM;subst htm';exact⟨_,results_tmp rfl _ _ _,rfl,{ vx1 with tk:=false },v1,a,_,_,hR.tries,haq,hA2,rfl,hgo,⟨by omega,by rw [ha0] at hc2;exact hc2,hR.n50⟩,hR.sp.trans (hS2.mono (fun b hb=>hnds (by rw [List.mem_singleton.1 hb];simp)))⟩
  | true =>
   obtain⟨hpm,hmin⟩:=hR.yes rfl;have hQ:=hR.going.q.perm hpm;have hNz:=hR.going.nz.perm hpm;obtain⟨it,tk,n,un,hs⟩:=hQ.ex t (by simp);obtain⟨hk1,hk2⟩:=hs.key;have hcl:=hR.cl;have hcc:=hR.c;have hqc:=hR.qc;have hql:=hpm.length_eq;simp only [List.length_cons] at hql
   have hc0:a0.c.length=c.length:=by rw [ha0]
   have hTry:=Xve B k vx1 tm' a.s a.c (l-2*j) (f-2*j) rb a.fl v1 _ q1 wr hR.tat (by omega) (by omega) (by omega) (by omega) (by omega) (by rw [List.length_map];omega) (by omega) hR.going.f0 hR.going.f1 t it tk n un hs hR.going.tree hQ hmin (fun e en=>hNz t (by simp) (by rw [hk1,e];rfl) (by rw [hk2,en];rfl)) hR.n50 (fun x hx=>by have:=hR.going.tr.1 x hx;omega) (fun x hx=>by have:=hR.going.tr.2 x hx;omega) a.cl;have bN:=hR.bN;obtain⟨y1,y2,y3⟩:=t;simp only at hk1 hk2;subst hk1 hk2;simp only [Xe.cells] at bN;unfold nmV at hTry;have n0:=bN.cell 0 (v:=.int .u64 y1) rfl;have n1:=bN.cell 1 (v:=.int .i64 (kdB tk)) rfl;have n2:=bN.cell 2 (v:=.int .u64 (n:Int)) rfl
   have hnt:nb∉X8 k rb v1 vx1.due:=fun hm=>by
    simp only [X8,List.mem_append,List.mem_cons] at hm
    rcases hm with hm | e | e | e
    ·exact hR.tat.wh.no bN (by decide) (by decide) hm
    ·exact bN.ne hR.tat.rbx (by decide) e
    ·obtain⟨-,cs,hB⟩:=Xm hR.tat.row (g:=nb) (by simpa using e)
     exact bN.ne hB (by decide) rfl
    exact hR.nd (by simpa using e)
   have hBt:w.heap.size∉X8 k rb v1 vx1.due:=fun hm=>by
    simp only [X8,List.mem_append,List.mem_cons] at hm
    rcases hm with hm | e | e | e
    ·exact hR.tat.wh.no hR.bB (by decide) (by decide) hm
    ·exact hR.bB.ne hR.tat.rbx (by decide) e
    ·obtain⟨-,cs,hB⟩:=Xm hR.tat.row (g:=w.heap.size) (by simpa using e)
     exact hR.bB.ne hB (by decide) rfl
    obtain⟨-,cs,hB⟩:=Xm hR.tat.due (g:=w.heap.size) (by simpa using e);exact hR.bB.ne hB (by decide) rfl
   have hfresh:∀(W:World) {vxa:VX} {sa:VSt} {ca:List UInt8} {la fa:Int} {fla:Int} {va:Value} {xsa:List Value} {qa:List Xe},TAt B W k vxa tm' sa ca la fa rb fla va xsa qa->True->W.heap.size∉k.vb :: vxa.due.ownBlock.toList:=fun W _ _ _ _ _ _ _ _ _ hA _ hm=>by
    rcases List.mem_cons.1 hm with e | hm
    ·have:=hA.wh.v.va.v.lt;omega
    obtain⟨-,cs,hB⟩:=Xm hA.due (g:=W.heap.size) (by simpa using hm);have:=hB.lt;omega
   have hvbl:True:=trivial;have HR:=Xb hR;have HX:=Xb (And.intro hpm (And.intro hs (And.intro hQ hmin)));have bB:=hR.bB;clear hR hpm hQ hNz hs hmin
   go_wp2_with (first
    | (go_at_call 77;refine hTry.mono ?_;rintro e w6 ⟨rfl,vx6,v6,b,hT1,hbcl,hA6,htk6,hv6,hd6,hs6⟩;have bN6:=hs6.box bN hnt;have bB6:=hs6.box bB hBt;have m0:=bN6.cell 0 (v:=.int .u64 y1) rfl;have m1:=bN6.cell 1 (v:=.int .i64 (kdB tk)) rfl;have m2:=bN6.cell 2 (v:=.int .u64 (n:Int)) rfl;have hA7:=hA6.below ((Below.refl _ w6).alloc (Nat.le_refl _) (.cells #[.int .u64 y1,.int .i64 (kdB tk),.int .u64 (n:Int)] 144));have cB7:=(bB6.alloc (.cells #[.int .u64 y1,.int .i64 (kdB tk),.int .u64 (n:Int)] 144)).cell 0 (v:=.pointer (some ⟨k.vb,0,none⟩)) rfl;have hPop:=Xrv B k vx6 tm' b.s b.c _ _ rb b.fl v6 _ b.q _ hA7 (by have:=(hT1.Xnv (Xa HX).1).qc (Xa HR).going.tree;omega);have HS6:=Xb (And.intro hs6 (And.intro hv6 hd6));clear hs6 hv6 hd6)
    | (go_at_call 76;refine hPop.mono ?_;rintro e w8 ⟨⟨z1,z2,z3⟩,ok8,rfl,vx8,q8,h8,hok0,hok1,htk8,hd8,hs8⟩;have bN8:=hs8.box (BoxN.new w6 144 #[.int .u64 y1,.int .i64 (kdB tk),.int .u64 (n:Int)]) (hfresh w6 hA6 hvbl);have r0:=bN8.cell 0 (v:=.int .u64 y1) rfl;have r1:=bN8.cell 1 (v:=.int .i64 (kdB tk)) rfl;have r2:=bN8.cell 2 (v:=.int .u64 (n:Int)) rfl;have fz0:=bN8.frozen 0;have fz1:=bN8.frozen 1;have fz2:=bN8.frozen 2;simp only [Xe.cells]))
   obtain⟨hs6,hv6,hd6⟩:=Xa HS6;have hR:=Xa HR;obtain⟨hpm,hs,hQ,hmin⟩:=Xa HX;have hTr:=hT1.Xnv hpm;obtain⟨hgo,hcl2⟩:=hTr.going hR.going;have hcnt:=hTr.count hR.going.tree;have hqc2:=hTr.qc hR.going.tree;have hless:=hTr.less hR.going.tree;have hlen:=hTr.len hR.going (by omega) hR.tat.wh.v.t0 hR.tat.wh.v.t1 hR.tat.wh.v.va.ok hR.tat.wh.v.okT hR.tat.wh.v.okL hR.n50;have hz6:=hs6.size;have hzr:=hR.sp.size;have hleft:=hR.left
   have hd8lt:∀ d,vx8.due.ownBlock=some d->d<w6.heap.size:=fun d hd=>by
    rw [hd8] at hd;obtain⟨-,cs,hB⟩:=Xm hA6.due hd;exact hB.lt
   have bN9:=((bN8.set 0 (.int .u64 z1)).set 1 (.int .i64 z2)).set 2 (.int .u64 z3);have hS9:Spares [w6.heap.size] w8 (((w8.setCell ⟨w6.heap.size,0,none⟩ (.int .u64 z1)).setCell ⟨w6.heap.size,1,none⟩ (.int .i64 z2)).setCell ⟨w6.heap.size,2,none⟩ (.int .u64 z3)):=(((Spares.of_below (Below.refl _ w8)).set (by simp) _ _).set (by simp) _ _).set (by simp) _ _;have h9:=h8.aside bN8 (fun e=>by have:=hd8lt _ e;omega) (by omega) hS9
   have bB8:=hs8.box (bB6.alloc (.cells #[.int .u64 y1,.int .i64 (kdB tk),.int .u64 (n:Int)] 144)) (fun hm=>by
    rcases List.mem_cons.1 hm with e | hm
    ·exact hne e
    obtain⟨-,cs,hB⟩:=Xm hA6.due (g:=w.heap.size) (by simpa using hm)
    exact bB6.ne hB (by decide) rfl)
   have bB9:=hS9.box bB8 (fun hm=>by have:=List.mem_singleton.1 hm;have:=bB6.lt;omega)
   have hvn:∀ g,v6.ownBlock=some g->v.ownBlock=some g\/w.heap.size<=g:=fun g hg=>by
    rcases hv6 g hg with e | e
    ·exact hR.vo g e
    exact .inr (by omega)
   have hdn:∀ d,vx6.due.ownBlock=some d->vx.due.ownBlock=some d\/w.heap.size<=d:=fun d hd=>by
    rcases hd6 d hd with e | e
    ·exact hR.do_ d e
    exact .inr (by omega)
   have hspn:Spares (X8 k rb v vx.due) w (((w8.setCell ⟨w6.heap.size,0,none⟩ (.int .u64 z1)).setCell ⟨w6.heap.size,1,none⟩ (.int .i64 z2)).setCell ⟨w6.heap.size,2,none⟩ (.int .u64 z3)):=by
    have q1:=hR.sp.mono (bs':=X8 k rb v vx.due++(X8 k rb v1 vx1.due++(k.vb :: vx6.due.ownBlock.toList ++ [w6.heap.size]))) (fun b hb=>List.mem_append_left _ hb);have q2:=hs6.mono (bs':=X8 k rb v vx.due++(X8 k rb v1 vx1.due++(k.vb :: vx6.due.ownBlock.toList ++ [w6.heap.size]))) (fun b hb=>List.mem_append_right _ (List.mem_append_left _ hb));have q3:=hs8.mono (bs':=X8 k rb v vx.due++(X8 k rb v1 vx1.due++(k.vb :: vx6.due.ownBlock.toList ++ [w6.heap.size]))) (fun b hb=>List.mem_append_right _ (List.mem_append_right _ (List.mem_append_left _ hb)));have q4:=hS9.mono (bs':=X8 k rb v vx.due++(X8 k rb v1 vx1.due++(k.vb :: vx6.due.ownBlock.toList ++ [w6.heap.size]))) (fun b hb=>List.mem_append_right _ (List.mem_append_right _ (List.mem_append_right _ hb)));refine((((q1.trans q2).alloc _).trans q3).trans q4).Xwa (fun b hb=>?_)
    rcases List.mem_append.1 hb with hb | hb
    ·exact .inl hb
    rcases List.mem_append.1 hb with hb | hb
    ·simp only [X8,List.mem_append,List.mem_cons] at hb ⊢
     rcases hb with hb | hb | hb | hb
     ·exact .inl (.inl hb)
     ·exact .inl (.inr (.inl hb))
     ·exact(hR.vo b (by simpa using hb)).imp (fun e=>.inr (.inr (.inl (by simpa using e)))) id
     exact(hR.do_ b (by simpa using hb)).imp (fun e=>.inr (.inr (.inr (by simpa using e)))) id
    rcases List.mem_append.1 hb with hb | hb
    ·rcases List.mem_cons.1 hb with rfl | hb
     ·exact .inl (hnds (by simp))
     exact(hdn b (by simpa using hb)).imp (fun e=>hnds (List.mem_cons_of_mem _ (by simpa using e))) id
    exact .inr (by rw [List.mem_singleton.1 hb];omega)
   have hnext:TkI B k tm' a0 l f M rb w.heap.size v vx.due w (.pointer (some ⟨w6.heap.size,0,none⟩)) (.bool ok8) (((w8.setCell ⟨w6.heap.size,0,none⟩ (.int .u64 z1)).setCell ⟨w6.heap.size,1,none⟩ (.int .i64 z2)).setCell ⟨w6.heap.size,2,none⟩ (.int .u64 z3)) b.left:=by
    refine⟨w6.heap.size,⟨z1,z2,z3⟩,ok8,vx8,v6,q8,b,j+1,rfl,rfl,rfl,?_⟩
    have ej:∀ x:Int,x-2*((j+1:Nat):Int)=x-2*(j:Int)-2:=fun x=>by omega
    refine { bN:=by simpa [Xe.cells] using bN9,nd:=fun e=>by have:=hd8lt _ e;omega,nw:=by omega,bB:=bB9,tat:=?_,yes:=hok1,no:=hok0,tries:=.step hR.tries hTr,going:=?_,left:=by omega,cl:=by rw [hcl2,hR.cl],c:=by rw [Nat.mul_succ,<- Nat.add_assoc];exact Nat.le_trans hlen (Nat.add_le_add_right hcc _),n50:=Nat.le_trans hcnt hR.n50,qc:=by omega,tk:=by rw [htk8,htk6,hR.tk],sp:=hspn,vo:=hvn,do_:=fun d hd=>hdn d (by rw [<- hd8];exact hd) }
    ·rw [ej,ej,hbcl,List.map_append]
     exact h9
    have e:M+((j+1:Nat):Int)=M+(j:Int)+1:=by omega
    rw [e];exact hgo
   exact⟨⟨_,hnext⟩,by
    have:=Xd8 hnext;have:=Xa HM
    omega⟩
abbrev Tryz.Xky (hb rb:Nat) (c:Value) (W:World):Prop:=W.cell? ⟨hb,1,none⟩=some (.pointer (some ⟨rb,0,none⟩))/\W.cell? ⟨rb,0,none⟩=some c
def Xis (k:Blk) (rb:Nat) (due:Value):List Nat:=X8 k rb (.slice none 0 0) due
theorem Tryz.Xun (B hb rb:Nat) (σ:SS) (w:World) (hS:Sys B w hb rb σ) (hbw:B<=w.heap.size) (hTr:Jt σ.s) (h50:σ.s.tks.length+σ.s.lks.length<=50) (M:Int) (hM:M<=900000000) (hMB:TrB M σ.s) (hc:σ.c.length<=890000000000) (f now:Int) (f0:0<=f) (f1:f<=18446744073709551615) (hn0:0<=now) (hn1:now<=18446744073709551615) (cc dd:Int) :
  Calls prog 22 #[.pointer (some ⟨hb,0,none⟩),.int .u64 now,.int .u64 f,Yn (-1) (-1) cc dd] w fun e w'=>∃ vx' v' b,e=.returned (.tuple #[v',.int .i64 0])/\Jv (max σ.tm now) ⟨σ.s,σ.s.tks.flatMap (Yv σ.s (max σ.tm now))++σ.s.lks.flatMap (Zw (max σ.tm now)),f,σ.c,[]⟩ b/\b.q = []/\Sys B w' hb rb ⟨σ.k,vx',max σ.tm now,b.s,b.c⟩/\w'.ownsRow B 9 1 v' b.cl.length (b.cl.map fun p=>.string ⟨(nmStr p.1 p.2).toArray⟩)/\Xa0 (max σ.tm now) (M+b.cl.length) b/\(b.cl.length<=150/\b.c.length<=σ.c.length+2600*b.cl.length/\b.s.tks.length+b.s.lks.length<=50)/\Spares (Xis σ.k rb σ.vx.due) w w':=by
 obtain⟨k,vx,tm,s,c⟩:=σ;simp only at hTr h50 hMB hc ⊢;obtain⟨fd,fn,hD,e1,e2⟩:=hS.wh.d;obtain⟨ra,rc,hR⟩:=hS.rvb;have hH:=hS.host;have hne:=hH.ne hD.box (by decide);have hrd:=hR.ne hD.box (by decide);have hbs:=hS.Xfv
 have hdb:k.db∈k.turns:=by simp [Blk.turns]
 have hdb2:k.db∈Xis k rb vx.due:=by simp [Xis,X8,Blk.turns]
 have lH:=hH.lt;have lD:=hD.box.lt;have lR:=hR.lt;have h9:=hS.nine;have hB0:Below w.heap.size w (w.alloc (.cells #[.int .i64 (-1),.int .i64 (-1),.int .i64 cc,.int .i64 dd] 29)):=(Below.refl _ w).alloc (Nat.le_refl _) _;have bF:=BoxN.new w 29 #[.int .i64 (-1),.int .i64 (-1),.int .i64 cc,.int .i64 dd];have h2:=hH.cell 2 (v:=.pointer (some ⟨k.vb,0,none⟩)) rfl;have hBf:=before hb k.db _ _ _ _ _ _ _ _ (-1) (-1) cc dd _ (hH.alloc (.cells #[.int .i64 (-1),.int .i64 (-1),.int .i64 cc,.int .i64 dd] 29)) (hD.box.alloc _);have hW0:=hS.wh.below hB0;unfold Yn at hBf ⊢;go_enter func22,ntmps22
 go_wp2_with (go_at_call 40;refine hBf.mono ?_;rintro e w1 ⟨rfl,bD1,hg1⟩)
 have hs1:Spares [k.db] w w1:=(Spares.of_below hB0).trans (Spares.X6 hg1 (by simp));have bH1:=hs1.box hH (fun hm=>hne (List.mem_singleton.1 hm));have bR1:=hs1.box hR (fun hm=>hrd (List.mem_singleton.1 hm));have bF1:=bF.kept hg1 (by intro e;injection e with e;omega);have hW1:=hW0.Xhl (Spares.X6 hg1 (by simp)) bD1
 have hdue1:=hs1.J2 hS.due (fun g hg hm=>by
  obtain⟨-,cur,hB⟩:=Xm hS.due hg
  exact hB.ne hD.box (by decide) (List.mem_singleton.1 hm))
 have r1:=bH1.cell 1 (v:=.pointer (some ⟨rb,0,none⟩)) rfl;have cc0:=bR1.cell 0 (v:=ra) rfl;have cc1:=bR1.cell 1 (v:=rc) rfl;have ff0:=bR1.frozen 0;have ff1:=bR1.frozen 1;have hHR:=bH1.ne bR1 (by decide);have hz1:=hs1.size;clear hBf hg1 h2 hB0 hW0
 go_region
 have bR2:BoxN ((w1.setCell ⟨rb,0,none⟩ (.slice none 0 0)).setCell ⟨rb,1,none⟩ (.int .u64 f)).drew rb 88 #[.slice none 0 0,.int .u64 f]:=(bR1.set 0 (.slice none 0 0)).set 1 (.int .u64 f);have hSr:Spares [rb] w1 ((w1.setCell ⟨rb,0,none⟩ (.slice none 0 0)).setCell ⟨rb,1,none⟩ (.int .u64 f)).drew:=(((Spares.of_below (Below.refl _ w1)).set (by simp) _ _).set (by simp) _ _).drew;clear r1 cc0 cc1 ff0 ff1;generalize ((w1.setCell ⟨rb,0,none⟩ (.slice none 0 0)).setCell ⟨rb,1,none⟩ (.int .u64 f)).drew=W2 at *;have hrb9:9<=rb:=Nat.le_trans hS.b9 hS.rlow;have hW2:=hW1.spared hSr (fun b hb hm=>Sys.Xhn hS b hb (List.mem_singleton.1 hm)) (fun hm=>hW1.j.ne bR1 (by decide) (List.mem_singleton.1 hm)) (fun b x hx hm=>hx.ne bR1 (by decide) (List.mem_singleton.1 hm)) (fun b hb=>by rw [List.mem_singleton.1 hb];omega);have bH2:=hSr.box bH1 (fun hm=>hHR (List.mem_singleton.1 hm));have bF2:=hSr.box bF1 (fun hm=>bF1.ne bR1 (by decide) (List.mem_singleton.1 hm))
 have hdue2:=hSr.J2 hdue1 (fun g hg hm=>by
  obtain⟨-,cur,hB⟩:=Xm hdue1 hg
  exact hB.ne bR1 (by decide) (List.mem_singleton.1 hm))
 have hz2:=hSr.size;have hs2:Spares (Xis k rb vx.due) w W2:=(hs1.mono (fun b hb=>by rw [List.mem_singleton.1 hb];exact hdb2)).trans (hSr.mono (fun b hb=>by rw [List.mem_singleton.1 hb];simp [Xis,X8]))
 have hA2:TAt B W2 k vx tm s c (-1) (-1) rb f (.slice none 0 0) [] []:=by
  obtain⟨fd2,fn2,hD2,d1,d2⟩:=hW2.d;exact⟨hW2,⟨fd2,fn2,hD2,⟨d1,d2⟩,(fun _ _ e=>by simp [Value.ownBlock] at e),(fun _ _ e=>by simp [Value.ownBlock] at e)⟩,hdue2,Xqb,bR2,World.ownsRow_nil _ _ _ _,hS.low,hS.rlow,hS.b9,by omega,hS.vrv⟩
 have hTk:=vTick B k vx tm s c (-1) (-1) rb f (.slice none 0 0) W2 hA2 hS.vtk hTr h50 M hM hMB (by decide) (by decide) (by decide) (by decide) hc f0 f1 now hn0 hn1
 have hnt:∀ {q:Nat} {t:TypeId} {cs:Array Value},BoxN W2 q t cs->t≠126->t≠100->t≠88->t≠144->q∉X8 k rb (.slice none 0 0) vx.due:=fun hB h1 h2 h3 h4 hm=>by
  simp only [X8,List.mem_append,List.mem_cons] at hm
  rcases hm with hm | e | e | e
  ·exact hW2.no hB h1 h2 hm
  ·exact hB.ne bR2 h3 e
  ·simp [Value.ownBlock] at e
  obtain⟨-,cs,hB'⟩:=Xm hdue2 (by simpa using e);exact hB.ne hB' h4 rfl
 have hs9:∀ q∈X8 k rb (.slice none 0 0) vx.due,9<=q:=fun q hm=>by
  simp only [X8,List.mem_append,List.mem_cons] at hm
  rcases hm with hm | rfl | e | e
  ·exact(hbs q hm).1
  ·exact hrb9
  ·simp [Value.ownBlock] at e
  exact Nat.le_trans hS.b9 (Xm hdue2 (by simpa using e)).1
 have h22:=bH2.cell 2 (v:=.pointer (some ⟨k.vb,0,none⟩)) rfl;clear hW1 bH1 bF1 hdue1 hSr bR1 bD1
 go_wp2_with (first
  | (go_at_call 46;refine hTk.mono ?_;rintro e w3 ⟨rfl,vx',v',b,l',f',hTs,hbq,hA3,htk3,hgo3,hcl3,hsp3⟩;have bH3:=hsp3.box bH2 (hnt bH2 (by decide) (by decide) (by decide) (by decide));have bF3:=hsp3.box bF2 (hnt bF2 (by decide) (by decide) (by decide) (by decide));obtain⟨fd3,fn3,hD3,-,-⟩:=hA3.wh.d;have g0:=bF3.cell 0 (v:=.int .i64 (-1)) rfl;have g1:=bF3.cell 1 (v:=.int .i64 (-1)) rfl;have g2:=bF3.cell 2 (v:=.int .i64 cc) rfl;have g3:=bF3.cell 3 (v:=.int .i64 dd) rfl;have hBa:=after hb k.db _ _ _ _ _ _ _ (-1) (-1) cc dd _ bH3 hD3.box;unfold Yn at hBa;have HS3:=Xb hsp3;clear hsp3)
  | (go_at_call 42;refine hBa.mono ?_;rintro e w4 ⟨rfl,bD4,hg4⟩;have HG4:=Xb hg4;clear hg4))
 have hg4:=Xa HG4;have hsp3:=Xa HS3;have hs4:Spares [k.db] w3 w4:=Spares.X6 hg4 (by simp);have bH4:=hs4.box bH3 (fun hm=>hne (List.mem_singleton.1 hm));have bR4:=hs4.box hA3.rbx (fun hm=>hA3.rbx.ne hD3.box (by decide) (List.mem_singleton.1 hm));have hW4:=hA3.wh.Xhl hs4 bD4
 have hrow4:=hs4.J2 hA3.row (fun g hg hm=>by
  obtain⟨-,cur,hB⟩:=Xm hA3.row hg
  exact hB.ne hD3.box (by decide) (List.mem_singleton.1 hm))
 have hdue4:=hs4.J2 hA3.due (fun g hg hm=>by
  obtain⟨-,cur,hB⟩:=Xm hA3.due hg
  exact hB.ne hD3.box (by decide) (List.mem_singleton.1 hm))
 have hsw:Spares (Xis k rb vx.due) w w4:=(hs2.trans hsp3).trans (hs4.mono (fun b hb=>by rw [List.mem_singleton.1 hb];exact hdb2));have hE4:Ja w4:=hS.err.below (hsw.below h9 (fun q hq=>hs9 q hq))
 have hSy:Sys B w4 hb rb ⟨k,vx',max tm now,b.s,b.c⟩:={ host:=bH4,wh:=hW4,err:=hE4,b9:=hS.b9,hlow:=hS.hlow,low:=hS.low,rvb:=⟨_,_,bR4⟩,rlow:=hS.rlow,vrv:=hA3.vrv,vtk:=htk3,due:=hdue4 }
 have hP4:Xky hb rb v' w4:=⟨bH4.cell 1 rfl,bR4.cell 0 rfl⟩
 clear HG4 HS3 hg4 hsp3 hs4 hW4 hA3 hdue4 bH3 hD3 bF3 g0 g1 g2 g3 hBa hTk hnt hs9 hA2 hE4 hW2 hs2 bH2 bF2 hdue2 h22 bR2 bH4 bR4 bD4;refine wp_region_held_drew (S:=Xky hb rb v') (by kernel_rfl) hP4 (fun hS0=>?_);refine Xt 0 ?v0 rfl ?y0 hS0 ?_
 case y0=>(rintro w ⟨q0,q1⟩;go_simp;try with_reducible rfl)
 refine Xt 1 ?v1 rfl ?y1 hS0 ?_
 case y1=>(rintro w ⟨q0,q1⟩;go_simp;try with_reducible rfl)
 refine Xt 2 ?v2 rfl ?y2 hS0 ?_
 case y2=>(rintro w ⟨q0,q1⟩;go_simp;try with_reducible rfl)
 refine Xt 3 ?v3 rfl ?y3 hS0 ?_
 case y3=>(rintro w ⟨q0,q1⟩;go_simp;try with_reducible rfl)
 refine Xt 4 ?v4 rfl ?y4 hS0 ?_
 case y4=>(rintro w ⟨q0,q1⟩;go_simp;try with_reducible rfl)
 refine Xt 5 ?v5 rfl ?y5 hS0 ?_
 case y5=>(rintro w ⟨q0,q1⟩;go_simp;try with_reducible rfl)
 refine Xt 6 ?v6 rfl ?y6 hS0 ?_
 case y6=>(rintro w ⟨q0,q1⟩;go_simp;try with_reducible rfl)
 refine Xt 7 ?v7 rfl ?y7 hS0 ?_
 case y7=>(rintro w ⟨q0,q1⟩;go_simp;try with_reducible rfl)
 refine Xh 8 rfl fun K hK=>?_;go_simp;refine(Xbw _).mono ?_;rintro e w5 ⟨rfl,hb5⟩;have hb45:Below w4.heap.size w4 w5:=((Below.refl _ w4).drew).trans hb5
 have hP5:Xky hb rb v' w5:=⟨cell_later hb45 hP4.1,cell_later hb45 hP4.2⟩
 refine hK.out _ _ hP5 (fun hS1=>?_);clear hK K;refine Xt 9 ?v9 rfl ?y9 hS1 ?_
 case y9=>(rintro w ⟨q0,q1⟩;go_simp;try with_reducible rfl)
 refine Xt 10 ?v10 rfl ?y10 hS1 ?_
 case y10=>(rintro w ⟨q0,q1⟩;go_simp;try with_reducible rfl)
 refine wpAnyH_done (by kernel_rfl) ?_ _;go_wp2;exact bodyPost_ret (v:=.tuple #[v',.int .i64 0]) (by simp [results,results22,go_sem]) rfl ⟨vx',v',b,rfl,hTs,hbq,hSy.below hb45,by simpa using ownsRow_below hrow4 hb45,hgo3,hcl3,hsw.trans (Spares.of_below hb45)⟩
theorem Jn.some {tm:Int} {a b:TS} (h:Jn tm a b):a.q ≠ []:=fun e=>by
 cases h with
 | fail hs hp hl ho hq=>rw [e] at hp;exact absurd hp.length_eq (by simp)
 | ok hs hp hl ho hq=>rw [e] at hp;exact absurd hp.length_eq (by simp)
def lea1 (at_:Int) (pd:Bool):Xc:=⟨1,1,0,at_,0,pd,[97,47,98],120⟩
end Go.Proofs
