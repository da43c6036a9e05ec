import Derived.Test.YtjbekgjdempbiaaGreatDoorJSq
import Derived.Test.YtjbekgjdempbiaaGreatDoorJCTkG
set_option maxRecDepth 100000
set_option maxHeartbeats 8000000
namespace Go.Proofs
open Go.RowKit Go.Sort Go.Lib Go.Shelf Go.Maps
theorem Tryz.Xdm (rb:Nat) (w:World):Sem.run prog (method 517 75 (.pointer (some ⟨rb,0,none⟩)) "Revoke") w=.ok (331,.pointer (some ⟨rb,0,none⟩)) w:=by kernel_rfl
abbrev Tryz.Xbs (vb nb:Nat) (rv:Value) (k u:Int) (W:World):Prop:=
 W.cell? ⟨vb,1,none⟩=some rv/\W.cell? ⟨nb,0,none⟩=some (.int .i64 k)/\W.cell? ⟨nb,1,none⟩=some (.int .u64 u)
theorem Tryz.Xbs.below {vb nb:Nat} {rv:Value} {k u:Int} {W W':World} (h:Xbs vb nb rv k u W) (hb:Below W.heap.size W W'):Xbs vb nb rv k u W':=
 ⟨cell_later hb h.1,cell_later hb h.2.1,cell_later hb h.2.2⟩
theorem Tryz.jErr (jb:Nat) (a b:Value) (w:World) (hJ:BoxN w jb 212 #[a,b,.nilIface]):Calls prog 72 #[.pointer (some ⟨jb,0,none⟩)] w fun e w'=>e=.returned .nilIface/\w'=w:=by
 have c2:=hJ.cell 2 (v:=.nilIface) rfl;go_enter func72,ntmps72;go_wp2;go_ret;exact⟨rfl,rfl⟩
theorem Tryz.Xkt (k:Blk) (vx:VX) (tm:Int) (s:VSt) (c:List UInt8) (l f:Int) (i:Item) (w:World) (hW:Whole w k vx tm s c l f) (hl:l<0) (hl1 : -999999990<=l) (hf:f<0) (hf1 : -999999990<=f) (hc:c.length<=900000000000) (hF:i.Fits s) :
  Calls prog 66 #[.pointer (some ⟨k.vb,0,none⟩),.slice (some ⟨w.heap.size,0,none⟩) 1 1] (w.alloc (.cells i.rec_.cells 135)) fun e w'=>e=.returned .nilIface/\Whole w' k vx tm (i.app s) (c++keepLine tm [i]) (l-2) (f-2)/\Spares k.turns w w'/\∃ b b',w.heap.size<=b/\w.heap.size<=b'/\Xk (fileN k.no) w' k.db k.md k.mn (some (b,c++keepLine tm [i])) (some (b',c++keepLine tm [i])) (.slice none 0 0) (l-2) (f-2):=by
 have hB:Below w.heap.size w (w.alloc (.cells i.rec_.cells 135)):=(Below.refl _ _).alloc (Nat.le_refl _) _;have bN:=BoxN.new w 135 i.rec_.cells;have hlt:=hW.lts
 have h:=Xmg k vx tm s c l f [i] w.heap.size 1 _ (hW.below hB) hl hl1 hf hf1 hc (fun a r hr j v hv=>by
  cases a with
  | succ a=>simp at hr
  | zero =>
   obtain rfl:i.rec_=r:=by simpa using hr
   have:=bN.cell j hv
   simpa using this) (by simp) (fun hm=>by have:=hlt _ hm;omega) (by simp) (by simp) ⟨hF,trivial⟩
 refine h.mono ?_;rintro e w' ⟨rfl,h1,h2,b,b',h3,h4,h5⟩;exact⟨rfl,h1,(Spares.of_below hB).trans h2,b,b',Nat.le_trans hB.size h3,Nat.le_trans hB.size h4,h5⟩
theorem Tryz.Xmw (B:Nat) (k:Blk) (vx:VX) (tm:Int) (s:VSt) (c:List UInt8) (l f:Int) (rb:Nat) (fl:Int) (v:Value) (xs:List Value) (q:List Xc) (w:World) (h:TAt B w k vx tm s c l f rb fl v xs q) (hl:l<0) (hl1 : -999999990<=l) (hf:f<0) (hf1 : -999999990<=f) (hc:c.length<=900000000000) (hx1:xs.length<=1000) (f0:0<=fl) (f1:fl<=18446744073709551615) (hodd:(fl % 2==1)=true)
  (kd:Int) (n:Nat) (hn:n<Xj) (uk un:Int) (it:Item) (hfit:it.Fits s)
  (hAb:∀ W,X0 W k.vb k.mt k.ml vx tm s.tn s.ln s.tks s.lks->Calls prog 134 #[.pointer (some ⟨k.vb,0,none⟩),nmV (kd,(n:Int))] W fun e w'=>e=.returned (nmV (uk,un))/\Below W.heap.size W w')
  (hFa:∀ W,X0 W k.vb k.mt k.ml vx tm s.tn s.ln s.tks s.lks->Calls prog 135 #[.pointer (some ⟨k.vb,0,none⟩),nmV (kd,(n:Int))] W fun e w'=>e=.returned (.agg it.rec_.cells)/\Below W.heap.size W w') :
  Calls prog 77 #[.pointer (some ⟨k.vb,0,none⟩),nmV (kd,(n:Int))] w fun e w'=>e=.returned .nilIface/\∃ g cap,TAt B w' k vx tm (it.app s) (c++keepLine tm [it]) (l-2) (f-2) rb (fl / 2) (.slice (some ⟨g,0,none⟩) (xs.length+1) cap) (xs ++ [.string ⟨(nmStr kd n).toArray⟩]) q/\(v.ownBlock=some g\/w.heap.size<=g)/\Spares (k.turns++rb :: v.ownBlock.toList) w w':=by
 have hB0:Below w.heap.size w (w.alloc (.cells #[.int .i64 kd,.int .u64 (n:Int)] 114)):=(Below.refl _ w).alloc (Nat.le_refl _) _;have bN:=BoxN.new w 114 #[.int .i64 kd,.int .u64 (n:Int)];have h0:=h.below hB0;have hJ:=jErr k.jb _ _ _ h0.wh.j;have j0:=h0.wh.v.va.v.cell 0 (v:=.pointer (some ⟨k.jb,0,none⟩)) (by rw [<- h0.wh.jn];rfl);have hA:=hAb _ h0.wh.v.va;have n0:=bN.cell 0 (v:=.int .i64 kd) rfl;have n1:=bN.cell 1 (v:=.int .u64 (n:Int)) rfl
 obtain⟨kl,hkl⟩:∃ kl,keepLine tm [it]=kl:=⟨_,rfl⟩
 rw [hkl];have Hkl:=Xb hkl;have Hkn:Hid (c++kl ≠ []):=Xb (by rw [<- hkl];exact Xbb c tm _);clear hkl;unfold nmV at *;go_enter func77,ntmps77
 go_wp2_with (first
  | (go_at_call 72;refine hJ.mono ?_;rintro e w1 ⟨rfl,rfl⟩)
  | (go_at_call 134;refine hA.mono ?_;rintro e w2 ⟨rfl,hb2⟩))
 have h2:=h0.below hb2;have bN2:=bN.below hb2 bN.lt;have hB2:Below w.heap.size w w2:=hB0.trans (hb2.mono hB0.size);have hB3:=hB2.alloc hB2.size (.cells #[.int .i64 uk,.int .u64 un] 114);have h3:=h2.below ((Below.refl _ w2).alloc (Nat.le_refl _) (.cells #[.int .i64 uk,.int .u64 un] 114));have bN3:=bN2.alloc (.cells #[.int .i64 uk,.int .u64 un] 114);have bU3:=BoxN.new w2 114 #[.int .i64 uk,.int .u64 un];have lU:w.heap.size<w2.heap.size:=bN2.lt
 obtain⟨ub,hub⟩:∃ ub,w2.heap.size=ub:=⟨_,rfl⟩
 rw [hub] at bU3 lU;rw [hub]
 obtain⟨W3,hW3⟩:∃ W3,w2.alloc (.cells #[.int .i64 uk,.int .u64 un] 114)=W3:=⟨_,rfl⟩
 rw [hW3] at hB3 h3 bN3 bU3;rw [hW3];clear hub hW3 h2 bN2 hB2 hb2 hA hJ j0 n0 n1 h0 bN hB0
 have hP3:Xbs k.vb w.heap.size (.iface 75 (.pointer (some ⟨rb,0,none⟩))) kd (n:Int) W3.drew:=⟨h3.wh.v.va.v.cell 1 (by rw [<- h3.vrv];rfl),bN3.cell 0 rfl,bN3.cell 1 rfl⟩
 have hm:=fun W=>Xdm rb W
 have hNS:=Zb kd n (by unfold Xj at hn;exact hn) W3.drew ((h3.below (Below.refl _ W3).drew).wh.v.va.env) h3.wh.v.va.six
 go_wp2_with fail
 refine wp_region_held_drew (S:=Xbs k.vb w.heap.size (.iface 75 (.pointer (some ⟨rb,0,none⟩))) kd (n:Int)) (by kernel_rfl) hP3 (fun hS0=>?_);refine Xt 0 ?rv0 rfl ?ry0 hS0 ?_
 case ry0=>(rintro w ⟨q0,q1,q2⟩;go_simp;try with_reducible rfl)
 refine Xt 1 ?rv1 rfl ?ry1 hS0 ?_
 case ry1=>(rintro w ⟨q0,q1,q2⟩;go_simp;try with_reducible rfl)
 refine Xt 2 ?rv2 rfl ?ry2 hS0 ?_
 case ry2=>(rintro w ⟨q0,q1,q2⟩;go_simp;try with_reducible rfl)
 refine Xt 3 ?rv3 rfl ?ry3 hS0 ?_
 case ry3=>(rintro w ⟨q0,q1,q2⟩;go_simp;try with_reducible rfl)
 refine Xt 4 ?rv4 rfl ?ry4 hS0 ?_
 case ry4=>(rintro w ⟨q0,q1,q2⟩;go_simp;try with_reducible rfl)
 refine Xt 6 ?rv6 rfl ?ry6 hS0 ?_
 case ry6=>(rintro w ⟨q0,q1,q2⟩;go_simp;try with_reducible rfl)
 refine Xt 7 ?rv7 rfl ?ry7 hS0 ?_
 case ry7=>(rintro w ⟨q0,q1,q2⟩;go_simp;try with_reducible rfl)
 refine Xh 5 rfl fun K hK=>?_;go_simp;refine hNS.mono ?_;rintro e w4 ⟨rfl,hb4⟩;have hb4':Below W3.heap.size W3 w4:=((Below.refl _ W3).drew).trans hb4;have hP4:=Xbs.below hP3 hb4;refine hK.out _ _ hP4 (fun hS2=>?_);clear hK K;refine Xh 8 rfl fun K hK=>?_;go_simp;have h4:=h3.below hb4';have bN4:=bN3.below hb4' bN3.lt;have bU4:=bU3.below hb4' bU3.lt;have hB4:Below w.heap.size w w4:=hB3.trans (hb4'.mono hB3.size);refine(Xfz B rb v xs.length xs fl f0 f1 (nmStr kd n) w4 h4.rbx h4.row h4.bw hx1).mono ?_;rintro e w5 ⟨rfl,g,cap,hRb,hRr,hrg,hwg,hs5⟩;have h5:=h4.asked hRb hRr hwg hs5
 have hno:∀ {b:Nat} {cs:Array Value},BoxN w4 b 114 cs->b∉rb :: v.ownBlock.toList:=fun hB hm=>h4.rvq.ne hB (by decide) (by decide) (by decide) (by
  rcases List.mem_cons.1 hm with e | hm
  ·rw [e];simp
  exact List.mem_cons_of_mem _ (List.mem_append_left _ hm))
 have bN5:=hs5.box bN4 (hno bN4);have bU5:=hs5.box bU4 (hno bU4)
 have hP5:Xbs k.vb w.heap.size (.iface 75 (.pointer (some ⟨rb,0,none⟩))) kd (n:Int) w5:=⟨h5.wh.v.va.v.cell 1 (by rw [<- h5.vrv];rfl),bN5.cell 0 rfl,bN5.cell 1 rfl⟩
 have hs05:Spares (rb :: v.ownBlock.toList) w w5:=(Spares.of_below hB4).trans hs5;have hwg':v.ownBlock=some g\/w.heap.size<=g:=hwg.imp id (fun h=>Nat.le_trans hB4.size h);rw [hodd];refine hK.out _ _ hP5 (fun hS3=>?_);clear hK K;refine Xt 9 ?rv9 rfl ?ry9 hS3 ?_
 case ry9=>(rintro w ⟨q0,q1,q2⟩;go_simp;try with_reducible rfl)
 refine wpAnyH_done (by kernel_rfl) ?_ _;go_simp;clear hS0 hS2 hS3 hP3 hP4 hP5 hs5 hwg hRb hRr hrg hno bN4 bU4 h4 hb4 hb4' h3 bN3 bU3 hNS hm hB3;have m0:=bN5.cell 0 (v:=.int .i64 kd) rfl;have m1:=bN5.cell 1 (v:=.int .u64 (n:Int)) rfl;have hF5:=hFa w5 h5.wh.v.va
 have hK:=fun W (hb:Below w5.heap.size w5 W)=>Xkt k vx tm s c l f it W (h5.wh.below hb) hl hl1 hf hf1 hc hfit
 have HE:=Xb h5;have Hs:=Xb hs05;have Hwg:=Xb hwg';rw [Xa Hkl] at hK;generalize it.rec_=r at *;obtain⟨r1,r2,r3,r4,r5,r6,r7,r8,r9,r10⟩:=r;unfold X7.cells Xi at *;simp only at hF5 hK;clear h5 hs05 hwg' hFa hAb Hkl
 go_wp2_with (first
  | (go_at_call 135;refine hF5.mono ?_;rintro e w6 ⟨rfl,hb6⟩;have hK6:=hK w6 hb6)
  | (go_at_call 66;refine hK6.mono ?_;rintro e w7 ⟨rfl,hW7,hs7,b,b',hb7,hb7',hD7⟩))
 go_ret;refine⟨rfl,g,cap,((Xa HE).below hb6).kept hW7 hD7 hb7 hb7' hs7 (Xa Hkn),Xa Hwg,((((Xa Hs).trans (Spares.of_below hb6)).mono (fun b hb=>List.mem_append_right _ hb)).trans (hs7.mono (fun b hb=>List.mem_append_left _ hb)))⟩
theorem Tryz.tryOk (B:Nat) (k:Blk) (vx:VX) (tm:Int) (s:VSt) (c:List UInt8) (l f:Int) (rb:Nat) (fl:Int) (v:Value) (xs:List Value) (q:List Xc) (w:World) (h:TAt B w k vx tm s c l f rb fl v xs q) (hl:l<0) (hl1 : -999999990<=l) (hf:f<0) (hf1 : -999999990<=f) (hc:c.length<=900000000000) (hx1:xs.length<=1000) (hq1:q.length<=100) (f0:0<=fl) (f1:fl<=18446744073709551615) (hodd:(fl % 2==1)=false)
  (tk:Bool) (kd:Int) (hkd:kdB tk=kd) (n:Nat) (hn:n<Xj) (uk un:Int) (a1 a2 at_ tr:Int) (pd:Bool) (s':VSt) (hs':(Item.gone tk n).app s=s')
  (hAb:∀ W,X0 W k.vb k.mt k.ml vx tm s.tn s.ln s.tks s.lks->Calls prog 134 #[.pointer (some ⟨k.vb,0,none⟩),nmV (kd,(n:Int))] W fun e w'=>e=.returned (nmV (uk,un))/\Below W.heap.size W w')
  (hUp:∀ W,X0 W k.vb k.mt k.ml vx tm s'.tn s'.ln s'.tks s'.lks->(Instr.lookup 120 (.map (some k.mt)) (nmV (uk,un)) false).run prog W=.ok (.agg #[.int .i64 a1,.int .u64 a2,.int .u64 at_,.int .i64 tr,.bool pd]) W)
  (go:Bool) (hgo:go=(pd&&decide (at_<=tm) && !(s'.tks.any (fun t=>t.ak==uk&&(t.au:Int)==un)||s'.lks.any (fun t=>t.ak==uk&&(t.au:Int)==un)))) (add:List Xc) (hadd:add=if go then [⟨at_,uk,un⟩] else []) :
  Calls prog 77 #[.pointer (some ⟨k.vb,0,none⟩),nmV (kd,(n:Int))] w fun e w'=>e=.returned .nilIface/\∃ g cap vx' ys,TAt B w' k vx' tm s' (c++keepLine tm [.gone tk n]) (l-2) (f-2) rb (fl / 2) (.slice (some ⟨g,0,none⟩) (xs.length+1) cap) (xs ++ [.string ⟨(nmStr kd n).toArray⟩]) ys/\vx'.tk=vx.tk/\ys.Perm (q++add)/\(v.ownBlock=some g\/w.heap.size<=g)/\(∀ d,vx'.due.ownBlock=some d->vx.due.ownBlock=some d\/w.heap.size<=d)/\Spares (X2 k rb v vx.due) w w':=by
 have HADD:=Xb hadd;clear hadd;have hB0:Below w.heap.size w (w.alloc (.cells #[.int .i64 kd,.int .u64 (n:Int)] 114)):=(Below.refl _ w).alloc (Nat.le_refl _) _;have bN:=BoxN.new w 114 #[.int .i64 kd,.int .u64 (n:Int)];have h0:=h.below hB0;have hJ:=jErr k.jb _ _ _ h0.wh.j;have j0:=h0.wh.v.va.v.cell 0 (v:=.pointer (some ⟨k.jb,0,none⟩)) (by rw [<- h0.wh.jn];rfl);have hA:=hAb _ h0.wh.v.va;have n0:=bN.cell 0 (v:=.int .i64 kd) rfl;have n1:=bN.cell 1 (v:=.int .u64 (n:Int)) rfl
 obtain⟨kl,hkl⟩:∃ kl,keepLine tm [.gone tk n]=kl:=⟨_,rfl⟩
 rw [hkl];have Hkl:=Xb hkl;have Hkn:Hid (c++kl ≠ []):=Xb (by rw [<- hkl];exact Xbb c tm _);clear hkl;unfold nmV at *;go_enter func77,ntmps77
 go_wp2_with (first
  | (go_at_call 72;refine hJ.mono ?_;rintro e w1 ⟨rfl,rfl⟩)
  | (go_at_call 134;refine hA.mono ?_;rintro e w2 ⟨rfl,hb2⟩))
 have h2:=h0.below hb2;have bN2:=bN.below hb2 bN.lt;have hB2:Below w.heap.size w w2:=hB0.trans (hb2.mono hB0.size);have hB3:=hB2.alloc hB2.size (.cells #[.int .i64 uk,.int .u64 un] 114);have h3:=h2.below ((Below.refl _ w2).alloc (Nat.le_refl _) (.cells #[.int .i64 uk,.int .u64 un] 114));have bN3:=bN2.alloc (.cells #[.int .i64 uk,.int .u64 un] 114);have bU3:=BoxN.new w2 114 #[.int .i64 uk,.int .u64 un];have lU:w.heap.size<w2.heap.size:=bN2.lt
 obtain⟨ub,hub⟩:∃ ub,w2.heap.size=ub:=⟨_,rfl⟩
 rw [hub] at bU3 lU;rw [hub]
 obtain⟨W3,hW3⟩:∃ W3,w2.alloc (.cells #[.int .i64 uk,.int .u64 un] 114)=W3:=⟨_,rfl⟩
 rw [hW3] at hB3 h3 bN3 bU3;rw [hW3];clear hub hW3 h2 bN2 hB2 hb2 hA hJ j0 n0 n1 h0 bN hB0
 have hP3:Xbs k.vb w.heap.size (.iface 75 (.pointer (some ⟨rb,0,none⟩))) kd (n:Int) W3.drew:=⟨h3.wh.v.va.v.cell 1 (by rw [<- h3.vrv];rfl),bN3.cell 0 rfl,bN3.cell 1 rfl⟩
 have hm:=fun W=>Xdm rb W
 have hNS:=Zb kd n (by unfold Xj at hn;exact hn) W3.drew ((h3.below (Below.refl _ W3).drew).wh.v.va.env) h3.wh.v.va.six
 go_wp2_with fail
 refine wp_region_held_drew (S:=Xbs k.vb w.heap.size (.iface 75 (.pointer (some ⟨rb,0,none⟩))) kd (n:Int)) (by kernel_rfl) hP3 (fun hS0=>?_);refine Xt 0 ?rv0 rfl ?ry0 hS0 ?_
 case ry0=>(rintro w ⟨q0,q1,q2⟩;go_simp;try with_reducible rfl)
 refine Xt 1 ?rv1 rfl ?ry1 hS0 ?_
 case ry1=>(rintro w ⟨q0,q1,q2⟩;go_simp;try with_reducible rfl)
 refine Xt 2 ?rv2 rfl ?ry2 hS0 ?_
 case ry2=>(rintro w ⟨q0,q1,q2⟩;go_simp;try with_reducible rfl)
 refine Xt 3 ?rv3 rfl ?ry3 hS0 ?_
 case ry3=>(rintro w ⟨q0,q1,q2⟩;go_simp;try with_reducible rfl)
 refine Xt 4 ?rv4 rfl ?ry4 hS0 ?_
 case ry4=>(rintro w ⟨q0,q1,q2⟩;go_simp;try with_reducible rfl)
 refine Xt 6 ?rv6 rfl ?ry6 hS0 ?_
 case ry6=>(rintro w ⟨q0,q1,q2⟩;go_simp;try with_reducible rfl)
 refine Xt 7 ?rv7 rfl ?ry7 hS0 ?_
 case ry7=>(rintro w ⟨q0,q1,q2⟩;go_simp;try with_reducible rfl)
 refine Xh 5 rfl fun K hK=>?_;go_simp;refine hNS.mono ?_;rintro e w4 ⟨rfl,hb4⟩;have hb4':Below W3.heap.size W3 w4:=((Below.refl _ W3).drew).trans hb4;have hP4:=Xbs.below hP3 hb4;refine hK.out _ _ hP4 (fun hS2=>?_);clear hK K;refine Xh 8 rfl fun K hK=>?_;go_simp;have h4:=h3.below hb4';have bN4:=bN3.below hb4' bN3.lt;have bU4:=bU3.below hb4' bU3.lt;have hB4:Below w.heap.size w w4:=hB3.trans (hb4'.mono hB3.size);refine(Xfz B rb v xs.length xs fl f0 f1 (nmStr kd n) w4 h4.rbx h4.row h4.bw hx1).mono ?_;rintro e w5 ⟨rfl,g,cap,hRb,hRr,hrg,hwg,hs5⟩;have h5:=h4.asked hRb hRr hwg hs5
 have hno:∀ {b:Nat} {cs:Array Value},BoxN w4 b 114 cs->b∉rb :: v.ownBlock.toList:=fun hB hm=>h4.rvq.ne hB (by decide) (by decide) (by decide) (by
  rcases List.mem_cons.1 hm with e | hm
  ·rw [e];simp
  exact List.mem_cons_of_mem _ (List.mem_append_left _ hm))
 have bN5:=hs5.box bN4 (hno bN4);have bU5:=hs5.box bU4 (hno bU4)
 have hP5:Xbs k.vb w.heap.size (.iface 75 (.pointer (some ⟨rb,0,none⟩))) kd (n:Int) w5:=⟨h5.wh.v.va.v.cell 1 (by rw [<- h5.vrv];rfl),bN5.cell 0 rfl,bN5.cell 1 rfl⟩
 have hs05:Spares (rb :: v.ownBlock.toList) w w5:=(Spares.of_below hB4).trans hs5;have hwg':v.ownBlock=some g\/w.heap.size<=g:=hwg.imp id (fun h=>Nat.le_trans hB4.size h);rw [hodd];refine hK.out _ _ hP5 (fun hS3=>?_);clear hK K;refine Xt 9 ?rv9 rfl ?ry9 hS3 ?_
 case ry9=>(rintro w ⟨q0,q1,q2⟩;go_simp;try with_reducible rfl)
 refine wpAnyH_done (by kernel_rfl) ?_ _;go_simp;clear hS0 hS2 hS3 hP3 hP4 hP5 hs5 hwg hRb hRr hrg hno bN4 bU4 h4 hb4 hb4' h3 bN3 bU3 hNS hm hB3;have m0:=bN5.cell 0 (v:=.int .i64 kd) rfl;have m1:=bN5.cell 1 (v:=.int .u64 (n:Int)) rfl
 have hK:=fun W (hb:Below w5.heap.size w5 W)=>Xkt k vx tm s c l f (.gone tk n) W (h5.wh.below hb) hl hl1 hf hf1 hc hn
 rw [Xa Hkl,hs'] at hK;have HE:=Xb h5;have Hs:=Xb hs05;have Hwg:=Xb hwg'
 have hQ:=fun W (hV:X0 W k.vb k.mt k.ml vx tm s'.tn s'.ln s'.tks s'.lks) (hr:W.ownsRow B 144 3 vx.due q.length (Yd q)) (hbw:B<=W.heap.size)=>Mf B k.vb k.mt k.ml vx tm s'.tn s'.ln s'.tks s'.lks W hV (uk,un) a1 a2 at_ tr pd (fun W' hb=>hUp W' (hV.below hb)) q hr h5.hp hbw hq1 go hgo
 have HG:=Xb hgo;unfold Item.rec_ X7.cells Xi at hK;simp only [hkd] at hK;unfold nmV at hQ;clear h5 hs05 hwg' hAb Hkl hgo hUp hkd
 go_wp2_with (first
  | (go_at_call 66;refine(hK _ (Below.refl _ _)).mono ?_;rintro e w7 ⟨rfl,hW7,hs7,b,b',hb7,hb7',hD7⟩;have h7:=(Xa HE).kept hW7 hD7 hb7 hb7' hs7 (Xa Hkn);have bU7:=hs7.box bU5 (by have:=(Xa HE).wh.no bU5 (by decide) (by decide);exact this);have u0:=bU7.cell 0 (v:=.int .i64 uk) rfl;have u1:=bU7.cell 1 (v:=.int .u64 un) rfl;have hQ7:=hQ w7 h7.wh.v.va h7.due h7.bw)
  | (go_at_call 130;refine hQ7.mono ?_;rintro e w8 ⟨rfl,h8⟩;have H8:=Xb h8;clear h8))
 go_ret;obtain⟨hno8,hgo8⟩:=Xa H8
 have hs57:Spares (X2 k rb v vx.due) w w7:=((Xa Hs).mono (fun b hb=>by
  simp only [X2,List.mem_append,List.mem_cons] at hb ⊢
  rcases hb with h | h
  ·exact .inr (.inl h)
  exact .inr (.inr (.inl h)))).trans (hs7.mono (fun b hb=>List.mem_append_left _ hb))
 have hz7:=hs57.size
 cases go with
 | false =>
  have hb8:=hno8 rfl;refine⟨rfl,g,cap,vx,q,h7.below hb8,rfl,by rw [Xa HADD];simp,Xa Hwg,fun d hd=>.inl hd,hs57.trans (Spares.of_below hb8)⟩
 | true =>
  obtain⟨g2,cap2,ys,hqv,hhp,hpm,hg2,hs8⟩:=hgo8 rfl;refine⟨rfl,g,cap,{ vx with due:=.slice (some ⟨g2,0,none⟩) ys.length cap2 },ys,h7.Xai hqv.v rfl rfl h7.wh.v.t0 h7.wh.v.t1 hqv.row hhp hs8,rfl,by rw [Xa HADD];exact hpm,Xa Hwg,fun d hd=>?_,hs57.trans (hs8.mono (fun b hb=>?_))⟩
  ·have e:g2=d:=by simpa [Value.ownBlock] using hd
   rcases hg2 with h | h
   ·exact .inl (by rw [h,e])
   exact .inr (by omega)
  rcases List.mem_cons.1 hb with rfl | hb
  ·simp [X2,Blk.turns]
  simp only [X2,List.mem_append,List.mem_cons];exact .inr (.inr (.inr hb))
end Go.Proofs
