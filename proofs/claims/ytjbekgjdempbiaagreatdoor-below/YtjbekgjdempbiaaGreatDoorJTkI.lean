import Derived.Test.YtjbekgjdempbiaaGreatDoorJTkG
set_option maxRecDepth 100000
set_option maxHeartbeats 8000000
namespace Go.Proofs
open Go.RowKit Go.Sort Go.Lib Go.Shelf Go.Maps
theorem Tryz.method_rv (rb:Nat) (w:World):Sem.run prog (method 517 75 (.pointer (some ⟨rb,0,none⟩)) "Revoke") w=.ok (331,.pointer (some ⟨rb,0,none⟩)) w:=by kernel_rfl
abbrev Tryz.TryP (vb nb:Nat) (rv:Value) (k u:Int) (W:World):Prop:=
 W.cell? ⟨vb,1,none⟩=some rv∧W.cell? ⟨nb,0,none⟩=some (.int .i64 k)∧W.cell? ⟨nb,1,none⟩=some (.int .u64 u)
theorem Tryz.TryP.below {vb nb:Nat} {rv:Value} {k u:Int} {W W':World} (h:TryP vb nb rv k u W) (hb:Below W.heap.size W W'):TryP vb nb rv k u W':=
 ⟨cell_later hb h.1,cell_later hb h.2.1,cell_later hb h.2.2⟩
theorem Tryz.jErr (jb:Nat) (a b:Value) (w:World) (hJ:BoxN w jb 212 #[a,b,.nilIface]):Calls prog 72 #[.pointer (some ⟨jb,0,none⟩)] w fun e w'=>e=.returned .nilIface∧w'=w:=by
 have c2:=hJ.cell 2 (v:=.nilIface) rfl;go_enter func72,ntmps72;go_wp2;go_ret;exact⟨rfl,rfl⟩
theorem Tryz.keep1D (k:Blk) (vx:VX) (tm:Int) (s:VSt) (c:List UInt8) (l f:Int) (i:Item) (w:World) (hW:Whole w k vx tm s c l f) (hl:l<0) (hl1 : -999999990≤l) (hf:f<0) (hf1 : -999999990≤f) (hc:c.length≤900000000000) (hF:i.Fits s) :
  Calls prog 66 #[.pointer (some ⟨k.vb,0,none⟩),.slice (some ⟨w.heap.size,0,none⟩) 1 1] (w.alloc (.cells i.rec_.cells 135)) fun e w'=>e=.returned .nilIface∧Whole w' k vx tm (i.app s) (c++keepLine tm [i]) (l-2) (f-2)∧Spares k.turns w w'∧∃ b b',w.heap.size≤b∧w.heap.size≤b'∧DiskAt w' k.db k.md k.mn (some (b,c++keepLine tm [i])) (some (b',c++keepLine tm [i])) (.slice none 0 0) (l-2) (f-2):=by
 have hB:Below w.heap.size w (w.alloc (.cells i.rec_.cells 135)):=(Below.refl _ _).alloc (Nat.le_refl _) _;have bN:=BoxN.new w 135 i.rec_.cells;have hlt:=hW.lts
 have h:=vKeepD k vx tm s c l f [i] w.heap.size 1 _ (hW.below hB) hl hl1 hf hf1 hc (fun a r hr j v hv=>by
  cases a with
  | succ a=>simp at hr
  | zero =>
   obtain rfl:i.rec_=r:=by simpa using hr
   have:=bN.cell j hv
   simpa using this) (by simp) (fun hm=>by have:=hlt _ hm;omega) (by simp) (by simp) ⟨hF,trivial⟩
 refine h.mono ?_;rintro e w' ⟨rfl,h1,h2,b,b',h3,h4,h5⟩;exact⟨rfl,h1,(Spares.of_below hB).trans h2,b,b',Nat.le_trans hB.size h3,Nat.le_trans hB.size h4,h5⟩
theorem Tryz.tryFail (B:Nat) (k:Blk) (vx:VX) (tm:Int) (s:VSt) (c:List UInt8) (l f:Int) (rb:Nat) (fl:Int) (v:Value) (xs:List Value) (q:List TurnD) (w:World) (h:TAt B w k vx tm s c l f rb fl v xs q) (hl:l<0) (hl1 : -999999990≤l) (hf:f<0) (hf1 : -999999990≤f) (hc:c.length≤900000000000) (hx1:xs.length≤1000) (f0:0≤fl) (f1:fl≤18446744073709551615) (hodd:(fl % 2==1)=true)
  (kd:Int) (n:Nat) (hn:n<u64lim) (uk un:Int) (it:Item) (hfit:it.Fits s)
  (hAb:∀ W,VaultAt W k.vb k.mt k.ml vx tm s.tn s.ln s.tks s.lks→Calls prog 134 #[.pointer (some ⟨k.vb,0,none⟩),nmV (kd,(n:Int))] W fun e w'=>e=.returned (nmV (uk,un))∧Below W.heap.size W w')
  (hFa:∀ W,VaultAt W k.vb k.mt k.ml vx tm s.tn s.ln s.tks s.lks→Calls prog 135 #[.pointer (some ⟨k.vb,0,none⟩),nmV (kd,(n:Int))] W fun e w'=>e=.returned (.agg it.rec_.cells)∧Below W.heap.size W w') :
  Calls prog 77 #[.pointer (some ⟨k.vb,0,none⟩),nmV (kd,(n:Int))] w fun e w'=>e=.returned .nilIface∧∃ g cap,TAt B w' k vx tm (it.app s) (c++keepLine tm [it]) (l-2) (f-2) rb (fl / 2) (.slice (some ⟨g,0,none⟩) (xs.length+1) cap) (xs ++ [.string ⟨(nmStr kd n).toArray⟩]) q∧(v.ownBlock=some g∨w.heap.size≤g)∧Spares (k.turns++rb :: v.ownBlock.toList) w w':=by
 have hB0:Below w.heap.size w (w.alloc (.cells #[.int .i64 kd,.int .u64 (n:Int)] 114)):=(Below.refl _ w).alloc (Nat.le_refl _) _;have bN:=BoxN.new w 114 #[.int .i64 kd,.int .u64 (n:Int)];have h0:=h.below hB0;have hJ:=jErr k.jb _ _ _ h0.wh.j;have j0:=h0.wh.v.va.v.cell 0 (v:=.pointer (some ⟨k.jb,0,none⟩)) (by rw [← h0.wh.jn];rfl);have hA:=hAb _ h0.wh.v.va;have n0:=bN.cell 0 (v:=.int .i64 kd) rfl;have n1:=bN.cell 1 (v:=.int .u64 (n:Int)) rfl
 obtain⟨kl,hkl⟩:∃ kl,keepLine tm [it]=kl:=⟨_,rfl⟩
 rw [hkl];have Hkl:=hid_intro hkl;clear hkl;unfold nmV at *;go_enter func77,ntmps77
 go_wp2_with (first
  | (go_at_call 72;refine hJ.mono ?_;rintro e w1 ⟨rfl,rfl⟩)
  | (go_at_call 134;refine hA.mono ?_;rintro e w2 ⟨rfl,hb2⟩))
 have h2:=h0.below hb2;have bN2:=bN.below hb2 bN.lt;have hB2:Below w.heap.size w w2:=hB0.trans (hb2.mono hB0.size);have hB3:=hB2.alloc hB2.size (.cells #[.int .i64 uk,.int .u64 un] 114);have h3:=h2.below ((Below.refl _ w2).alloc (Nat.le_refl _) (.cells #[.int .i64 uk,.int .u64 un] 114));have bN3:=bN2.alloc (.cells #[.int .i64 uk,.int .u64 un] 114);have bU3:=BoxN.new w2 114 #[.int .i64 uk,.int .u64 un];have lU:w.heap.size<w2.heap.size:=bN2.lt
 obtain⟨ub,hub⟩:∃ ub,w2.heap.size=ub:=⟨_,rfl⟩
 rw [hub] at bU3 lU;rw [hub]
 obtain⟨W3,hW3⟩:∃ W3,w2.alloc (.cells #[.int .i64 uk,.int .u64 un] 114)=W3:=⟨_,rfl⟩
 rw [hW3] at hB3 h3 bN3 bU3;rw [hW3];clear hub hW3 h2 bN2 hB2 hb2 hA hJ j0 n0 n1 h0 bN hB0
 have hP3:TryP k.vb w.heap.size (.iface 75 (.pointer (some ⟨rb,0,none⟩))) kd (n:Int) W3.drew:=⟨h3.wh.v.va.v.cell 1 (by rw [← h3.vrv];rfl),bN3.cell 0 rfl,bN3.cell 1 rfl⟩
 have hm:=fun W=>method_rv rb W
 have hNS:=nameString kd n (by unfold u64lim at hn;exact hn) W3.drew ((h3.below (Below.refl _ W3).drew).wh.v.va.env) h3.wh.v.va.six
 go_wp2_with fail
 refine wp_region_held_drew (S:=TryP k.vb w.heap.size (.iface 75 (.pointer (some ⟨rb,0,none⟩))) kd (n:Int)) (by kernel_rfl) hP3 (fun hS0=>?_);refine wpAnyH_take (i:=0) (v:=?rv0) rfl (by kernel_rfl) (by kernel_rfl) (by kernel_rfl) (fun _ _ _ h=>h) (Or.inl ⟨by kernel_rfl,?ry0⟩) hS0 ?_
 case ry0=>(intro w hSw;obtain⟨q0,q1,q2⟩:=hSw;go_simp;try with_reducible rfl)
 refine wpAnyH_take (i:=1) (v:=?rv1) rfl (by kernel_rfl) (by kernel_rfl) (by kernel_rfl) (fun _ _ _ h=>h) (Or.inl ⟨by kernel_rfl,?ry1⟩) hS0 ?_
 case ry1=>(intro w hSw;obtain⟨q0,q1,q2⟩:=hSw;go_simp;try with_reducible rfl)
 refine wpAnyH_take (i:=2) (v:=?rv2) rfl (by kernel_rfl) (by kernel_rfl) (by kernel_rfl) (fun _ _ _ h=>h) (Or.inl ⟨by kernel_rfl,?ry2⟩) hS0 ?_
 case ry2=>(intro w hSw;obtain⟨q0,q1,q2⟩:=hSw;go_simp;try with_reducible rfl)
 refine wpAnyH_take (i:=3) (v:=?rv3) rfl (by kernel_rfl) (by kernel_rfl) (by kernel_rfl) (fun _ _ _ h=>h) (Or.inl ⟨by kernel_rfl,?ry3⟩) hS0 ?_
 case ry3=>(intro w hSw;obtain⟨q0,q1,q2⟩:=hSw;go_simp;try with_reducible rfl)
 refine wpAnyH_take (i:=4) (v:=?rv4) rfl (by kernel_rfl) (by kernel_rfl) (by kernel_rfl) (fun _ _ _ h=>h) (Or.inl ⟨by kernel_rfl,?ry4⟩) hS0 ?_
 case ry4=>(intro w hSw;obtain⟨q0,q1,q2⟩:=hSw;go_simp;try with_reducible rfl)
 refine wpAnyH_take (i:=6) (v:=?rv6) rfl (by kernel_rfl) (by kernel_rfl) (by kernel_rfl) (fun _ _ _ h=>h) (Or.inl ⟨by kernel_rfl,?ry6⟩) hS0 ?_
 case ry6=>(intro w hSw;obtain⟨q0,q1,q2⟩:=hSw;go_simp;try with_reducible rfl)
 refine wpAnyH_take (i:=7) (v:=?rv7) rfl (by kernel_rfl) (by kernel_rfl) (by kernel_rfl) (fun _ _ _ h=>h) (Or.inl ⟨by kernel_rfl,?ry7⟩) hS0 ?_
 case ry7=>(intro w hSw;obtain⟨q0,q1,q2⟩:=hSw;go_simp;try with_reducible rfl)
 refine wpAnyH_ready (rs:=[5]) (by kernel_rfl) (by simp) ?_;refine AllReadyH.cons rfl (fun K hK=>?_) AllReadyH.nil;go_simp;refine hNS.mono ?_;rintro e w4 ⟨rfl,hb4⟩;have hb4':Below W3.heap.size W3 w4:=((Below.refl _ W3).drew).trans hb4;have hP4:=TryP.below hP3 hb4;refine hK.out _ _ hP4 (fun hS2=>?_);clear hK K;refine wpAnyH_ready (rs:=[8]) (by kernel_rfl) (by simp) ?_;refine AllReadyH.cons rfl (fun K hK=>?_) AllReadyH.nil;go_simp;have h4:=h3.below hb4';have bN4:=bN3.below hb4' bN3.lt;have bU4:=bU3.below hb4' bU3.lt;have hB4:Below w.heap.size w w4:=hB3.trans (hb4'.mono hB3.size);refine(rvRevoke B rb v xs.length xs fl f0 f1 (nmStr kd n) w4 h4.rbx h4.row h4.bw hx1).mono ?_;rintro e w5 ⟨rfl,g,cap,hRb,hRr,hrg,hwg,hs5⟩;have h5:=h4.asked hRb hRr hwg hs5
 have hno:∀ {b:Nat} {cs:Array Value},BoxN w4 b 114 cs→b∉rb :: v.ownBlock.toList:=fun hB hm=>h4.rvq.ne hB (by decide) (by decide) (by decide) (by
  rcases List.mem_cons.1 hm with e | hm
  ·rw [e];simp
  ·exact List.mem_cons_of_mem _ (List.mem_append_left _ hm))
 have bN5:=hs5.box bN4 (hno bN4);have bU5:=hs5.box bU4 (hno bU4)
 have hP5:TryP k.vb w.heap.size (.iface 75 (.pointer (some ⟨rb,0,none⟩))) kd (n:Int) w5:=⟨h5.wh.v.va.v.cell 1 (by rw [← h5.vrv];rfl),bN5.cell 0 rfl,bN5.cell 1 rfl⟩
 have hs05:Spares (rb :: v.ownBlock.toList) w w5:=(Spares.of_below hB4).trans hs5;have hwg':v.ownBlock=some g∨w.heap.size≤g:=hwg.imp id (fun h=>Nat.le_trans hB4.size h);rw [hodd];refine hK.out _ _ hP5 (fun hS3=>?_);clear hK K;refine wpAnyH_take (i:=9) (v:=?rv9) rfl (by kernel_rfl) (by kernel_rfl) (by kernel_rfl) (fun _ _ _ h=>h) (Or.inl ⟨by kernel_rfl,?ry9⟩) hS3 ?_
 case ry9=>(intro w hSw;obtain⟨q0,q1,q2⟩:=hSw;go_simp;try with_reducible rfl)
 refine wpAnyH_done (by kernel_rfl) ?_ _;go_simp;clear hS0 hS2 hS3 hP3 hP4 hP5 hs5 hwg hRb hRr hrg hno bN4 bU4 h4 hb4 hb4' h3 bN3 bU3 hNS hm hB3;have m0:=bN5.cell 0 (v:=.int .i64 kd) rfl;have m1:=bN5.cell 1 (v:=.int .u64 (n:Int)) rfl;have hF5:=hFa w5 h5.wh.v.va
 have hK:=fun W (hb:Below w5.heap.size w5 W)=>keep1D k vx tm s c l f it W (h5.wh.below hb) hl hl1 hf hf1 hc hfit
 have HE:=hid_intro h5;have Hs:=hid_intro hs05;have Hwg:=hid_intro hwg';rw [hid_elim Hkl] at hK;generalize it.rec_=r at *;obtain⟨r1,r2,r3,r4,r5,r6,r7,r8,r9,r10⟩:=r;unfold RecD.cells recCells at *;simp only at hF5 hK;clear h5 hs05 hwg' hFa hAb Hkl
 go_wp2_with (first
  | (go_at_call 135;refine hF5.mono ?_;rintro e w6 ⟨rfl,hb6⟩;have hK6:=hK w6 hb6)
  | (go_at_call 66;refine hK6.mono ?_;rintro e w7 ⟨rfl,hW7,hs7,b,b',hb7,hb7',hD7⟩))
 go_ret;refine⟨rfl,g,cap,((hid_elim HE).below hb6).kept hW7 hD7 hb7 hb7' hs7,hid_elim Hwg,((((hid_elim Hs).trans (Spares.of_below hb6)).mono (fun b hb=>List.mem_append_right _ hb)).trans (hs7.mono (fun b hb=>List.mem_append_left _ hb)))⟩
theorem Tryz.tryOk (B:Nat) (k:Blk) (vx:VX) (tm:Int) (s:VSt) (c:List UInt8) (l f:Int) (rb:Nat) (fl:Int) (v:Value) (xs:List Value) (q:List TurnD) (w:World) (h:TAt B w k vx tm s c l f rb fl v xs q) (hl:l<0) (hl1 : -999999990≤l) (hf:f<0) (hf1 : -999999990≤f) (hc:c.length≤900000000000) (hx1:xs.length≤1000) (hq1:q.length≤100) (f0:0≤fl) (f1:fl≤18446744073709551615) (hodd:(fl % 2==1)=false)
  (tk:Bool) (kd:Int) (hkd:kdB tk=kd) (n:Nat) (hn:n<u64lim) (uk un:Int) (a1 a2 at_ tr:Int) (pd:Bool) (s':VSt) (hs':(Item.gone tk n).app s=s')
  (hAb:∀ W,VaultAt W k.vb k.mt k.ml vx tm s.tn s.ln s.tks s.lks→Calls prog 134 #[.pointer (some ⟨k.vb,0,none⟩),nmV (kd,(n:Int))] W fun e w'=>e=.returned (nmV (uk,un))∧Below W.heap.size W w')
  (hUp:∀ W,VaultAt W k.vb k.mt k.ml vx tm s'.tn s'.ln s'.tks s'.lks→(Instr.lookup 120 (.map (some k.mt)) (nmV (uk,un)) false).run prog W=.ok (.agg #[.int .i64 a1,.int .u64 a2,.int .u64 at_,.int .i64 tr,.bool pd]) W)
  (go:Bool) (hgo:go=(pd&&decide (at_≤tm) && !(s'.tks.any (fun t=>t.ak==uk&&(t.au:Int)==un)||s'.lks.any (fun t=>t.ak==uk&&(t.au:Int)==un)))) (add:List TurnD) (hadd:add=if go then [⟨at_,uk,un⟩] else []) :
  Calls prog 77 #[.pointer (some ⟨k.vb,0,none⟩),nmV (kd,(n:Int))] w fun e w'=>e=.returned .nilIface∧∃ g cap vx' ys,TAt B w' k vx' tm s' (c++keepLine tm [.gone tk n]) (l-2) (f-2) rb (fl / 2) (.slice (some ⟨g,0,none⟩) (xs.length+1) cap) (xs ++ [.string ⟨(nmStr kd n).toArray⟩]) ys∧vx'.tk=vx.tk∧ys.Perm (q++add)∧(v.ownBlock=some g∨w.heap.size≤g)∧(∀ d,vx'.due.ownBlock=some d→vx.due.ownBlock=some d∨w.heap.size≤d)∧Spares (tickBs k rb v vx.due) w w':=by
 have HADD:=hid_intro hadd;clear hadd;have hB0:Below w.heap.size w (w.alloc (.cells #[.int .i64 kd,.int .u64 (n:Int)] 114)):=(Below.refl _ w).alloc (Nat.le_refl _) _;have bN:=BoxN.new w 114 #[.int .i64 kd,.int .u64 (n:Int)];have h0:=h.below hB0;have hJ:=jErr k.jb _ _ _ h0.wh.j;have j0:=h0.wh.v.va.v.cell 0 (v:=.pointer (some ⟨k.jb,0,none⟩)) (by rw [← h0.wh.jn];rfl);have hA:=hAb _ h0.wh.v.va;have n0:=bN.cell 0 (v:=.int .i64 kd) rfl;have n1:=bN.cell 1 (v:=.int .u64 (n:Int)) rfl
 obtain⟨kl,hkl⟩:∃ kl,keepLine tm [.gone tk n]=kl:=⟨_,rfl⟩
 rw [hkl];have Hkl:=hid_intro hkl;clear hkl;unfold nmV at *;go_enter func77,ntmps77
 go_wp2_with (first
  | (go_at_call 72;refine hJ.mono ?_;rintro e w1 ⟨rfl,rfl⟩)
  | (go_at_call 134;refine hA.mono ?_;rintro e w2 ⟨rfl,hb2⟩))
 have h2:=h0.below hb2;have bN2:=bN.below hb2 bN.lt;have hB2:Below w.heap.size w w2:=hB0.trans (hb2.mono hB0.size);have hB3:=hB2.alloc hB2.size (.cells #[.int .i64 uk,.int .u64 un] 114);have h3:=h2.below ((Below.refl _ w2).alloc (Nat.le_refl _) (.cells #[.int .i64 uk,.int .u64 un] 114));have bN3:=bN2.alloc (.cells #[.int .i64 uk,.int .u64 un] 114);have bU3:=BoxN.new w2 114 #[.int .i64 uk,.int .u64 un];have lU:w.heap.size<w2.heap.size:=bN2.lt
 obtain⟨ub,hub⟩:∃ ub,w2.heap.size=ub:=⟨_,rfl⟩
 rw [hub] at bU3 lU;rw [hub]
 obtain⟨W3,hW3⟩:∃ W3,w2.alloc (.cells #[.int .i64 uk,.int .u64 un] 114)=W3:=⟨_,rfl⟩
 rw [hW3] at hB3 h3 bN3 bU3;rw [hW3];clear hub hW3 h2 bN2 hB2 hb2 hA hJ j0 n0 n1 h0 bN hB0
 have hP3:TryP k.vb w.heap.size (.iface 75 (.pointer (some ⟨rb,0,none⟩))) kd (n:Int) W3.drew:=⟨h3.wh.v.va.v.cell 1 (by rw [← h3.vrv];rfl),bN3.cell 0 rfl,bN3.cell 1 rfl⟩
 have hm:=fun W=>method_rv rb W
 have hNS:=nameString kd n (by unfold u64lim at hn;exact hn) W3.drew ((h3.below (Below.refl _ W3).drew).wh.v.va.env) h3.wh.v.va.six
 go_wp2_with fail
 refine wp_region_held_drew (S:=TryP k.vb w.heap.size (.iface 75 (.pointer (some ⟨rb,0,none⟩))) kd (n:Int)) (by kernel_rfl) hP3 (fun hS0=>?_);refine wpAnyH_take (i:=0) (v:=?rv0) rfl (by kernel_rfl) (by kernel_rfl) (by kernel_rfl) (fun _ _ _ h=>h) (Or.inl ⟨by kernel_rfl,?ry0⟩) hS0 ?_
 case ry0=>(intro w hSw;obtain⟨q0,q1,q2⟩:=hSw;go_simp;try with_reducible rfl)
 refine wpAnyH_take (i:=1) (v:=?rv1) rfl (by kernel_rfl) (by kernel_rfl) (by kernel_rfl) (fun _ _ _ h=>h) (Or.inl ⟨by kernel_rfl,?ry1⟩) hS0 ?_
 case ry1=>(intro w hSw;obtain⟨q0,q1,q2⟩:=hSw;go_simp;try with_reducible rfl)
 refine wpAnyH_take (i:=2) (v:=?rv2) rfl (by kernel_rfl) (by kernel_rfl) (by kernel_rfl) (fun _ _ _ h=>h) (Or.inl ⟨by kernel_rfl,?ry2⟩) hS0 ?_
 case ry2=>(intro w hSw;obtain⟨q0,q1,q2⟩:=hSw;go_simp;try with_reducible rfl)
 refine wpAnyH_take (i:=3) (v:=?rv3) rfl (by kernel_rfl) (by kernel_rfl) (by kernel_rfl) (fun _ _ _ h=>h) (Or.inl ⟨by kernel_rfl,?ry3⟩) hS0 ?_
 case ry3=>(intro w hSw;obtain⟨q0,q1,q2⟩:=hSw;go_simp;try with_reducible rfl)
 refine wpAnyH_take (i:=4) (v:=?rv4) rfl (by kernel_rfl) (by kernel_rfl) (by kernel_rfl) (fun _ _ _ h=>h) (Or.inl ⟨by kernel_rfl,?ry4⟩) hS0 ?_
 case ry4=>(intro w hSw;obtain⟨q0,q1,q2⟩:=hSw;go_simp;try with_reducible rfl)
 refine wpAnyH_take (i:=6) (v:=?rv6) rfl (by kernel_rfl) (by kernel_rfl) (by kernel_rfl) (fun _ _ _ h=>h) (Or.inl ⟨by kernel_rfl,?ry6⟩) hS0 ?_
 case ry6=>(intro w hSw;obtain⟨q0,q1,q2⟩:=hSw;go_simp;try with_reducible rfl)
 refine wpAnyH_take (i:=7) (v:=?rv7) rfl (by kernel_rfl) (by kernel_rfl) (by kernel_rfl) (fun _ _ _ h=>h) (Or.inl ⟨by kernel_rfl,?ry7⟩) hS0 ?_
 case ry7=>(intro w hSw;obtain⟨q0,q1,q2⟩:=hSw;go_simp;try with_reducible rfl)
 refine wpAnyH_ready (rs:=[5]) (by kernel_rfl) (by simp) ?_;refine AllReadyH.cons rfl (fun K hK=>?_) AllReadyH.nil;go_simp;refine hNS.mono ?_;rintro e w4 ⟨rfl,hb4⟩;have hb4':Below W3.heap.size W3 w4:=((Below.refl _ W3).drew).trans hb4;have hP4:=TryP.below hP3 hb4;refine hK.out _ _ hP4 (fun hS2=>?_);clear hK K;refine wpAnyH_ready (rs:=[8]) (by kernel_rfl) (by simp) ?_;refine AllReadyH.cons rfl (fun K hK=>?_) AllReadyH.nil;go_simp;have h4:=h3.below hb4';have bN4:=bN3.below hb4' bN3.lt;have bU4:=bU3.below hb4' bU3.lt;have hB4:Below w.heap.size w w4:=hB3.trans (hb4'.mono hB3.size);refine(rvRevoke B rb v xs.length xs fl f0 f1 (nmStr kd n) w4 h4.rbx h4.row h4.bw hx1).mono ?_;rintro e w5 ⟨rfl,g,cap,hRb,hRr,hrg,hwg,hs5⟩;have h5:=h4.asked hRb hRr hwg hs5
 have hno:∀ {b:Nat} {cs:Array Value},BoxN w4 b 114 cs→b∉rb :: v.ownBlock.toList:=fun hB hm=>h4.rvq.ne hB (by decide) (by decide) (by decide) (by
  rcases List.mem_cons.1 hm with e | hm
  ·rw [e];simp
  ·exact List.mem_cons_of_mem _ (List.mem_append_left _ hm))
 have bN5:=hs5.box bN4 (hno bN4);have bU5:=hs5.box bU4 (hno bU4)
 have hP5:TryP k.vb w.heap.size (.iface 75 (.pointer (some ⟨rb,0,none⟩))) kd (n:Int) w5:=⟨h5.wh.v.va.v.cell 1 (by rw [← h5.vrv];rfl),bN5.cell 0 rfl,bN5.cell 1 rfl⟩
 have hs05:Spares (rb :: v.ownBlock.toList) w w5:=(Spares.of_below hB4).trans hs5;have hwg':v.ownBlock=some g∨w.heap.size≤g:=hwg.imp id (fun h=>Nat.le_trans hB4.size h);rw [hodd];refine hK.out _ _ hP5 (fun hS3=>?_);clear hK K;refine wpAnyH_take (i:=9) (v:=?rv9) rfl (by kernel_rfl) (by kernel_rfl) (by kernel_rfl) (fun _ _ _ h=>h) (Or.inl ⟨by kernel_rfl,?ry9⟩) hS3 ?_
 case ry9=>(intro w hSw;obtain⟨q0,q1,q2⟩:=hSw;go_simp;try with_reducible rfl)
 refine wpAnyH_done (by kernel_rfl) ?_ _;go_simp;clear hS0 hS2 hS3 hP3 hP4 hP5 hs5 hwg hRb hRr hrg hno bN4 bU4 h4 hb4 hb4' h3 bN3 bU3 hNS hm hB3;have m0:=bN5.cell 0 (v:=.int .i64 kd) rfl;have m1:=bN5.cell 1 (v:=.int .u64 (n:Int)) rfl
 have hK:=fun W (hb:Below w5.heap.size w5 W)=>keep1D k vx tm s c l f (.gone tk n) W (h5.wh.below hb) hl hl1 hf hf1 hc hn
 rw [hid_elim Hkl,hs'] at hK;have HE:=hid_intro h5;have Hs:=hid_intro hs05;have Hwg:=hid_intro hwg'
 have hQ:=fun W (hV:VaultAt W k.vb k.mt k.ml vx tm s'.tn s'.ln s'.tks s'.lks) (hr:W.ownsRow B 144 3 vx.due q.length (flatQ q)) (hbw:B≤W.heap.size)=>queueTok_any B k.vb k.mt k.ml vx tm s'.tn s'.ln s'.tks s'.lks W hV (uk,un) a1 a2 at_ tr pd (fun W' hb=>hUp W' (hV.below hb)) q hr h5.hp hbw hq1 go hgo
 have HG:=hid_intro hgo;unfold Item.rec_ RecD.cells recCells at hK;simp only [hkd] at hK;unfold nmV at hQ;clear h5 hs05 hwg' hAb Hkl hgo hUp hkd
 go_wp2_with (first
  | (go_at_call 66;refine(hK _ (Below.refl _ _)).mono ?_;rintro e w7 ⟨rfl,hW7,hs7,b,b',hb7,hb7',hD7⟩;have h7:=(hid_elim HE).kept hW7 hD7 hb7 hb7' hs7;have bU7:=hs7.box bU5 (by have:=(hid_elim HE).wh.no bU5 (by decide) (by decide);exact this);have u0:=bU7.cell 0 (v:=.int .i64 uk) rfl;have u1:=bU7.cell 1 (v:=.int .u64 un) rfl;have hQ7:=hQ w7 h7.wh.v.va h7.due h7.bw)
  | (go_at_call 130;refine hQ7.mono ?_;rintro e w8 ⟨rfl,h8⟩;have H8:=hid_intro h8;clear h8))
 go_ret;obtain⟨hno8,hgo8⟩:=hid_elim H8
 have hs57:Spares (tickBs k rb v vx.due) w w7:=((hid_elim Hs).mono (fun b hb=>by
  simp only [tickBs,List.mem_append,List.mem_cons] at hb ⊢
  rcases hb with h | h
  ·exact .inr (.inl h)
  ·exact .inr (.inr (.inl h)))).trans (hs7.mono (fun b hb=>List.mem_append_left _ hb))
 have hz7:=hs57.size
 cases go with
 | false =>
  have hb8:=hno8 rfl;refine⟨rfl,g,cap,vx,q,h7.below hb8,rfl,by rw [hid_elim HADD];simp,hid_elim Hwg,fun d hd=>.inl hd,hs57.trans (Spares.of_below hb8)⟩
 | true =>
  obtain⟨g2,cap2,ys,hqv,hhp,hpm,hg2,hs8⟩:=hgo8 rfl;refine⟨rfl,g,cap,{ vx with due:=.slice (some ⟨g2,0,none⟩) ys.length cap2 },ys,h7.queued hqv.v rfl rfl h7.wh.v.t0 h7.wh.v.t1 hqv.row hhp hs8,rfl,by rw [hid_elim HADD];exact hpm,hid_elim Hwg,fun d hd=>?_,hs57.trans (hs8.mono (fun b hb=>?_))⟩
  ·have e:g2=d:=by simpa [Value.ownBlock] using hd
   rcases hg2 with h | h
   ·exact .inl (by rw [h,e])
   ·exact .inr (by omega)
  ·rcases List.mem_cons.1 hb with rfl | hb
   ·simp [tickBs,Blk.turns]
   ·simp only [tickBs,List.mem_append,List.mem_cons];exact .inr (.inr (.inr hb))
section
variable {W:World} {vb mt ml:Nat} {vx:VX} {tm tn ln:Int} {tks:List TokE} {lks:List LeaE}
theorem Tryz.VaultAt.look1T (h:VaultAt W vb mt ml vx tm tn ln tks lks) {t:TokE} (ht:t∈tks) :
  (Instr.lookup 120 (.map (some mt)) (nmV (1,(t.n:Int))) false).run prog W=.ok (.agg t.cells) W:=by
 obtain⟨n,_,hm⟩:=h.held.mapT;exact nmType.look1_hit h.ok.ksT.1 (wfNm (.inl rfl) (h.ok.limT t ht).1) hm underlying120 (zeroTok _) (ksGet_of_mem h.ok.ksT.1 (List.mem_reverse.2 (List.mem_map.2 ⟨t,ht,rfl⟩)))
theorem Tryz.VaultAt.look1L (h:VaultAt W vb mt ml vx tm tn ln tks lks) {t:LeaE} (ht:t∈lks) :
  (Instr.lookup 121 (.map (some ml)) (nmV (2,(t.n:Int))) false).run prog W=.ok (.agg t.cells) W:=by
 obtain⟨n,_,hm⟩:=h.held.mapL;exact nmType.look1_hit h.ok.ksL.1 (wfNm (.inr rfl) (h.ok.limL t ht).1) hm underlying121 (zeroLea _) (ksGet_of_mem h.ok.ksL.1 (List.mem_reverse.2 (List.mem_map.2 ⟨t,ht,rfl⟩)))
end
section
variable {B:Nat} {W W':World} {k:Blk} {vx:VX} {tm:Int} {s:VSt} {c:List UInt8} {l f:Int} {rb:Nat} {fl:Int} {v:Value} {xs:List Value} {q:List TurnD}
theorem Tryz.TAt.own (h:TAt B W k vx tm s c l f rb fl v xs q) {row:Option Nat} (hg:W.grownBy W' row) (hr:∀ r,row=some r→(6≤r∧k.mt≠r∧k.ml≠r∧k.md≠r∧k.mn≠r)∧∃ o:Obj,W.heap[r]? = some o∧o.isCells=false):TAt B W' k vx tm s c l f rb fl v xs q:=by
 have hS:Spares row.toList W W':=Spares.of_grown' hg (fun b hb=>by rw [hb];simp)
 have nb:∀ {b:Nat} {t:TypeId} {cs:Array Value},BoxN W b t cs→b∉row.toList:=fun {b} {t} {cs} hB hm=>by
  obtain⟨-,o,ho,hc⟩:=hr b (by simpa using hm);rw [show W.heap[b]? = _ from hB] at ho;cases ho;cases hc
 obtain⟨fd,fn,hd,⟨e1,e2⟩,hs⟩:=h.sep
 have hmt:k.mt∉row.toList:=fun hm=>(hr _ (by simpa using hm)).1.2.1 rfl
 have hml:k.ml∉row.toList:=fun hm=>(hr _ (by simpa using hm)).1.2.2.1 rfl
 have hmd:k.md∉row.toList:=fun hm=>(hr _ (by simpa using hm)).1.2.2.2.1 rfl
 have hmn:k.mn∉row.toList:=fun hm=>(hr _ (by simpa using hm)).1.2.2.2.2 rfl
 have hD:=hd.spared hS (nb hd.box) hmd hmn (fun p hp=>nb (hd.sd p hp)) (fun p hp=>nb (hd.sn p hp))
 have hrow:∀ {e:TypeId} {sz n:Nat} {v:Value} {xs:List Value},W.ownsRow B e sz v n xs→W'.ownsRow B e sz v n xs:=fun ho=>hS.row' ho (fun g hg=>by
  obtain⟨-,cs,h2⟩:=row_box ho hg
  exact nb h2)
 exact { h with wh:={ h.wh with v:=h.wh.v.spared hS (nb h.wh.v.va.v) hmt hml (fun b hb=>(hr b (by simpa using hb)).1.1),j:=hS.box h.wh.j (nb h.wh.j),d:=⟨fd,fn,hD,e1,e2⟩ },sep:=⟨fd,fn,hD,⟨e1,e2⟩,hs⟩,due:=hrow h.due,rbx:=hS.box h.rbx (nb h.rbx),row:=hrow h.row,bw:=Nat.le_trans h.bw hS.size }
end
def dueT (s:VSt) (tm:Int) (t:TokE):List TurnD:=if t.pd&&decide (t.at_≤tm) && !(s.tks.any (fun x=>x.ak==1&&(x.au:Int)==(t.n:Int))||s.lks.any (fun x=>x.ak==1&&(x.au:Int)==(t.n:Int))) then [⟨t.at_,1,t.n⟩] else []
def dueL (tm:Int) (t:LeaE):List TurnD:=if t.at_≤tm then [⟨t.at_,2,t.n⟩] else []
def Tryz.QAt (B:Nat) (w:World) (k:Blk) (vx:VX) (tm:Int) (s:VSt) (c:List UInt8) (l f:Int) (rb:Nat) (fl:Int) (v:Value) (xs:List Value) (zs:List TurnD) (V:World):Prop:=
 ∃ vx' q,q.Perm zs∧TAt B V k vx' tm s c l f rb fl v xs q∧vx'.tk=vx.tk∧vx'.jn=vx.jn∧(∀ d,vx'.due.ownBlock=some d→vx.due.ownBlock=some d∨w.heap.size≤d)∧Spares (k.vb :: vx.due.ownBlock.toList) w V
section
variable {B:Nat} {w V V':World} {k:Blk} {vx:VX} {tm:Int} {s:VSt} {c:List UInt8} {l f:Int} {rb:Nat} {fl:Int} {v:Value} {xs:List Value} {zs:List TurnD}
theorem Tryz.QAt.own (h:QAt B w k vx tm s c l f rb fl v xs zs V) (hw:k.mt<w.heap.size∧k.ml<w.heap.size∧k.md<w.heap.size∧k.mn<w.heap.size∧6≤w.heap.size) {row:Option Nat} (hg:V.grownBy V' row) (hr:∀ r,row=some r→w.heap.size≤r∧∃ o:Obj,V.heap[r]? = some o∧o.isCells=false):QAt B w k vx tm s c l f rb fl v xs zs V':=by
 obtain⟨vx',q,h1,h2,h3,h4,h5,h6⟩:=h;refine⟨vx',q,h1,h2.own hg (fun r e=>⟨?_,(hr r e).2⟩),h3,h4,h5,⟨hg.os.trans h6.os,hg.tape.trans h6.tape,hg.output.trans h6.output,Nat.le_trans h6.size hg.size,fun j hj hn=>(hg.block j (Nat.lt_of_lt_of_le hj h6.size) (fun e=>by have:=(hr j e.symm).1;omega)).trans (h6.block j hj hn)⟩⟩;have:=(hr r e).1
 refine⟨?_,?_,?_,?_,?_⟩ <;> omega
theorem Tryz.QAt.below (h:QAt B w k vx tm s c l f rb fl v xs zs V) (hb:Below V.heap.size V V'):QAt B w k vx tm s c l f rb fl v xs zs V':=by
 obtain⟨vx',q,h1,h2,h3,h4,h5,h6⟩:=h;exact⟨vx',q,h1,h2.below hb,h3,h4,h5,h6.trans (Spares.of_below hb)⟩
theorem Tryz.TAt.pushed {vx':VX} {q:List TurnD} (h:TAt B V k vx' tm s c l f rb fl v xs q) (hp:q.Perm zs) (htk:vx'.tk=vx.tk) (hjn:vx'.jn=vx.jn) (hd:∀ d,vx'.due.ownBlock=some d→vx.due.ownBlock=some d∨w.heap.size≤d) (hS:Spares (k.vb :: vx.due.ownBlock.toList) w V) {g cap:Nat} {ys:List TurnD} {t:TurnD} (hq:QV B k.vb (vaultC vx' tm k.mt k.ml s.tn s.ln) g cap ys V') (hH:Heap ys) (hpm:ys.Perm (q ++ [t])) (hg:vx'.due.ownBlock=some g∨V.heap.size≤g) (hs:Spares (k.vb :: vx'.due.ownBlock.toList) V V'):QAt B w k vx tm s c l f rb fl v xs (zs ++ [t]) V':=by
 have hz:=hS.size;refine⟨{ vx' with due:=.slice (some ⟨g,0,none⟩) ys.length cap },ys,hpm.trans (List.Perm.append_right _ hp),h.queued hq.v rfl rfl h.wh.v.t0 h.wh.v.t1 hq.row hH hs,htk,hjn,fun d hd'=>?_,?_⟩
 ·have e:g=d:=by simpa [Value.ownBlock] using hd'
  subst e
  rcases hg with hg | hg
  ·exact hd g hg
  ·exact .inr (by omega)
 ·refine⟨hs.os.trans hS.os,hs.tape.trans hS.tape,hs.output.trans hS.output,Nat.le_trans hS.size hs.size,fun j hj hn=>(hs.block j (Nat.lt_of_lt_of_le hj hS.size) (fun hm=>?_)).trans (hS.block j hj hn)⟩
  rcases List.mem_cons.1 hm with e | hm
  ·exact hn (by rw [e];simp)
  ·rcases hd j (by simpa using hm) with h | h
   ·exact hn (List.mem_cons_of_mem _ (by simpa using h))
   ·omega
theorem Tryz.QAt.tok (h:QAt B w k vx tm s c l f rb fl v xs zs V) (hz:zs.length≤100) (t:TokE) (ht:t∈s.tks) :
  Calls prog 130 #[.pointer (some ⟨k.vb,0,none⟩),nmV (1,(t.n:Int))] V fun e V'=>e=.returned (.tuple #[])∧QAt B w k vx tm s c l f rb fl v xs (zs++dueT s tm t) V'∧∃ bs,Spares bs V V'∧∀ b∈bs,∃ t cs,BoxN V b t cs∧(t=126∨t=144):=by
 obtain⟨vx',q,h1,h2,h3,h4,h5,h6⟩:=h
 have hlk:=fun W' (hb:Below V.heap.size V W')=>(h2.wh.v.va.below hb).look1T ht
 unfold TokE.cells at hlk
 obtain⟨go,hgo⟩:∃ go,go=(t.pd&&decide (t.at_≤tm) && !(s.tks.any (fun x=>x.ak==1&&(x.au:Int)==(t.n:Int))||s.lks.any (fun x=>x.ak==1&&(x.au:Int)==(t.n:Int)))):=⟨_,rfl⟩
 refine(queueTok_any B k.vb k.mt k.ml vx' tm s.tn s.ln s.tks s.lks V h2.wh.v.va (1,(t.n:Int)) t.ak t.au t.at_ t.tr t.pd hlk q h2.due h2.hp h2.bw (by rw [h1.length_eq];exact hz) go hgo).mono ?_;rintro e V' ⟨rfl,hno,hyes⟩;refine⟨rfl,?_⟩
 have hdu:dueT s tm t=if go then [⟨t.at_,1,t.n⟩] else []:=by rw [hgo];rfl
 rw [hdu]
 cases go with
 | false =>
  have hb:=hno rfl;exact⟨by simpa using⟨vx',q,h1,h2.below hb,h3,h4,h5,h6.trans (Spares.of_below hb)⟩,[],Spares.of_below hb,by simp⟩
 | true =>
  obtain⟨g,cap,ys,hq,hH,hpm,hg,hs⟩:=hyes rfl;refine⟨h2.pushed h1 h3 h4 h5 h6 hq hH hpm hg hs,_,hs,fun b hb=>?_⟩
  rcases List.mem_cons.1 hb with rfl | hb
  ·exact⟨_,_,h2.wh.v.va.v,.inl rfl⟩
  ·obtain⟨-,cs,hB⟩:=row_box h2.due (g:=b) (by simpa using hb)
   exact⟨_,_,hB,.inr rfl⟩
end
end Go.Proofs
