import Derived.Test.YtjbekgjdempbiaaGreatDoorJCCntA
set_option maxRecDepth 100000
set_option maxHeartbeats 8000000
namespace Go.Proofs
open Go.RowKit Go.Sort Go.Lib Go.Shelf Go.Maps
theorem Y6 {H:Type} {P:Program} {k:TypeId} {R:Value->Option (DataW H × List MemPlace)} {D:DataW H} {W W':World} {b n:Nat} (h:W.ownsMap P k R b n D) (hb:Below W.heap.size W W'):W'.ownsMap P k R b n D:=
 h.kept (row:=none) ⟨hb.os,hb.tape,hb.output,hb.size,fun k hk _=>hb.block k hk⟩ (by simp)
abbrev Xb0 (vb rb fo mp:Nat) (c0 c1 c2 c3 c4 c5 c6 c7 c8 c9:Value) (W:World):Prop:=W.cell? ⟨vb,fo,none⟩=some (.map (some mp))/\Z5 W rb c0 c1 c2 c3 c4 c5 c6 c7 c8 c9
theorem Xb0.below {vb rb fo mp:Nat} {c0 c1 c2 c3 c4 c5 c6 c7 c8 c9:Value} {W W':World} (h:Xb0 vb rb fo mp c0 c1 c2 c3 c4 c5 c6 c7 c8 c9 W) (hb:Below W.heap.size W W'):Xb0 vb rb fo mp c0 c1 c2 c3 c4 c5 c6 c7 c8 c9 W':=⟨cell_later hb h.1,h.2.below hb⟩
theorem Tryz.Xm8 (vb mt ml:Nat) (vx:VX) (tm:Int) (tn ln:Nat) (tks:List Xe) (lks:List Xd) (w:World) (hV:Yb w vb mt ml vx tm tn ln tks lks) (kind last:Int) (pth:List UInt8) (t:Xe) (hok:Xbr t) (hf:U7 t tks) (hl:tks.length<500) (h1:t.n<Xj) (h2:t.au<Xj) :
  Calls prog 148 #[.pointer (some ⟨vb,0,none⟩),.agg (Xi kind 1 t.n t.ak t.au t.pd t.at_ t.tr last pth)] w fun e w'=>e=.returned (.tuple #[])/\Yb w' vb mt ml vx tm (max tn t.n) ln (Yl t tks) lks/\Spares [vb,mt] w w':=by
 have hOf:=fun W=>Xne kind 1 t.n t.ak t.au t.pd t.at_ t.tr last pth W
 have hSt:=fun W (hH:Ui W mt ml tks lks)=>storeT hH hV.va.ok hf hl h1 h2
 unfold nmV Xe.cells at hSt;unfold Xi at hOf ⊢;have bR0:=BoxN.new w 135 #[.int .i64 kind,.int .i64 1,.int .u64 t.n,.int .i64 t.ak,.int .u64 t.au,.bool t.pd,.int .u64 t.at_,.int .i64 t.tr,.int .u64 last,.string ⟨pth.toArray⟩];have hB0:Below w.heap.size w (w.alloc (.cells #[.int .i64 kind,.int .i64 1,.int .u64 t.n,.int .i64 t.ak,.int .u64 t.au,.bool t.pd,.int .u64 t.at_,.int .i64 t.tr,.int .u64 last,.string ⟨pth.toArray⟩] 135)):=(Below.refl _ w).alloc (Nat.le_refl _) _;have hV0:=hV.below hB0;have hU:=Xko vb mt ml vx tm tn ln t.n _ hV0.va.v;unfold Xig Xl9 at hU;have lV:=hV.va.v.lt;have lH:=hV.va.held.lt;have hne:=hV.nes;go_enter func148,ntmps148
 go_wp2_with (go_at_call 149;refine hU.mono ?_;rintro e w1 ⟨rfl,bV1,hS1⟩;have bR1:=hS1.box bR0 (by simp;omega);have y1:=bR1.cell 1 (v:=.int .i64 1) rfl)
 have hz1:=hS1.size
 have hH1:Ui w1 mt ml tks lks:=by
  obtain⟨⟨n1,k1,m1⟩,⟨n2,k2,m2⟩⟩:=hV0.va.held;exact⟨⟨n1,k1,hS1.map m1 (by simpa using hne.1)⟩,⟨n2,k2,hS1.map m2 (by simpa using hne.2)⟩⟩
 have hP1:Xb0 vb w.heap.size 3 mt (.int .i64 kind) (.int .i64 1) (.int .u64 t.n) (.int .i64 t.ak) (.int .u64 t.au) (.bool t.pd) (.int .u64 t.at_) (.int .i64 t.tr) (.int .u64 last) (.string ⟨pth.toArray⟩) w1.drew:=⟨bV1.cell 3 rfl,bR1.Xag⟩
 have Hz1:=Xb hz1;clear hz1 hU y1
 go_region_held3 (Xb0 vb w.heap.size 3 mt (.int .i64 kind) (.int .i64 1) (.int .u64 t.n) (.int .i64 t.ak) (.int .u64 t.au) (.bool t.pd) (.int .u64 t.at_) (.int .i64 t.tr) (.int .u64 last) (.string ⟨pth.toArray⟩)) (first
  | with_reducible exact hP1
  | with_reducible exact hP2
  | with_reducible exact hP4
  | with_reducible assumption) (first
  | (go_at_call 187;refine(hOf _).mono ?_;rintro e w2 ⟨rfl,hb2⟩;have hP2:=Xb0.below hP1 hb2;have hB2:Below w1.heap.size w1 w2:=(Below.refl _ w1).drew.trans hb2;obtain⟨w4,hrun,hM4,hg4⟩:=hSt w2 (hH1.keeps (KeepsT.below (bad:=fun _=>false) hB2));have bV4:=(bV1.below hB2 bV1.lt).kept hg4 (by intro e;injection e with e;exact hne.1 e.symm);have bR4:=(bR1.below hB2 bR1.lt).kept hg4 (by intro e;injection e with e;omega);have hP4:Xb0 vb w.heap.size 3 mt (.int .i64 kind) (.int .i64 1) (.int .u64 t.n) (.int .i64 t.ak) (.int .u64 t.au) (.bool t.pd) (.int .u64 t.at_) (.int .i64 t.tr) (.int .u64 last) (.string ⟨pth.toArray⟩) w4:=⟨bV4.cell 3 rfl,bR4.Xag⟩))
 all_goals
  have hsp:Spares [vb,mt] w w4:=(((Spares.of_below hB0).trans (hS1.mono (by simp))).trans (Spares.of_below hB2)).trans (Spares.X4 hg4 (by simp))
  have hF:Hid (Yb w4 vb mt ml vx tm (max tn t.n) ln (Yl t tks) lks):=Xb (by
   have hb6:=hsp.below (B:=6) hV.va.six (fun b hb=>by
    have h9:=hV.v9;have h9':=hV.m9
    rcases List.mem_cons.1 hb with rfl | hb
    ·omega
    rw [List.mem_singleton.1 hb];omega)
   have hm:((max tn t.n:Nat):Int)=max (tn:Int) t.n:=by omega
   obtain⟨n2,k2,m2⟩:=hH1.mapL;have m4:=(Y6 m2 hB2).kept hg4 (by intro e;injection e with e;exact hV.mne e.symm);refine⟨⟨?_,⟨hM4,⟨n2,k2,m4⟩⟩,hV.va.ok.putT hf hl h1 h2,hV.va.env.below hb6 (Nat.le_refl _),Nat.le_trans hV.va.six hsp.size⟩,fun x hx=>?_,hV.nl,hV.t0,hV.t1,fun x hx=>?_,hV.okL,hV.mne,hV.v9,hV.m9,hV.l9⟩
   ·rw [hm];exact bV4
   ·rcases Z0 hV.va.ok.incT hx with rfl | hx
    ·omega
    have:=hV.nt x hx;omega
   rcases Z0 hV.va.ok.incT hx with rfl | hx
   ·exact hok
   exact hV.okT x hx)
  clear hrun hM4 hg4 hP4 hP2 hP1 bV4 bR4 bV1 bR1 hSt hOf;go_wp2
  go_end0
  exact⟨rfl,Xa hF,hsp⟩
theorem Tryz.Xnd (vb mt ml:Nat) (vx:VX) (tm:Int) (tn ln:Nat) (tks:List Xe) (lks:List Xd) (w:World) (hV:Yb w vb mt ml vx tm tn ln tks lks) (kind:Int) (t:Xd) (hok:Ul t) (hf:U3 t lks) (hl:lks.length<500) (h1:t.n<Xj) (h2:t.au<Xj) :
  Calls prog 148 #[.pointer (some ⟨vb,0,none⟩),.agg (Xi kind 2 t.n t.ak t.au t.pd t.at_ t.tr t.last t.pth)] w fun e w'=>e=.returned (.tuple #[])/\Yb w' vb mt ml vx tm tn (max ln t.n) tks (Yf t lks)/\Spares [vb,ml] w w':=by
 have hOf:=fun W=>Xm6 kind 2 t.n t.ak t.au t.pd t.at_ t.tr t.last t.pth W
 have hSt:=fun W (hH:Ui W mt ml tks lks)=>Xov hH hV.va.ok hf hl h1 h2
 unfold nmV Xd.cells at hSt;unfold Xi at hOf ⊢;have bR0:=BoxN.new w 135 #[.int .i64 kind,.int .i64 2,.int .u64 t.n,.int .i64 t.ak,.int .u64 t.au,.bool t.pd,.int .u64 t.at_,.int .i64 t.tr,.int .u64 t.last,.string ⟨t.pth.toArray⟩];have hB0:Below w.heap.size w (w.alloc (.cells #[.int .i64 kind,.int .i64 2,.int .u64 t.n,.int .i64 t.ak,.int .u64 t.au,.bool t.pd,.int .u64 t.at_,.int .i64 t.tr,.int .u64 t.last,.string ⟨t.pth.toArray⟩] 135)):=(Below.refl _ w).alloc (Nat.le_refl _) _;have hV0:=hV.below hB0;have hU:=Xl8 vb mt ml vx tm tn ln t.n _ hV0.va.v;unfold Xif Xlf at hU;have lV:=hV.va.v.lt;have lH:=hV.va.held.lt;have hne:=hV.nes;go_enter func148,ntmps148
 go_wp2_with (go_at_call 149;refine hU.mono ?_;rintro e w1 ⟨rfl,bV1,hS1⟩;have bR1:=hS1.box bR0 (by simp;omega);have y1:=bR1.cell 1 (v:=.int .i64 2) rfl)
 have hz1:=hS1.size
 have hH1:Ui w1 mt ml tks lks:=by
  obtain⟨⟨n1,k1,m1⟩,⟨n2,k2,m2⟩⟩:=hV0.va.held;exact⟨⟨n1,k1,hS1.map m1 (by simpa using hne.1)⟩,⟨n2,k2,hS1.map m2 (by simpa using hne.2)⟩⟩
 have hP1:Xb0 vb w.heap.size 4 ml (.int .i64 kind) (.int .i64 2) (.int .u64 t.n) (.int .i64 t.ak) (.int .u64 t.au) (.bool t.pd) (.int .u64 t.at_) (.int .i64 t.tr) (.int .u64 t.last) (.string ⟨t.pth.toArray⟩) w1.drew:=⟨bV1.cell 4 rfl,bR1.Xag⟩
 have Hz1:=Xb hz1;clear hz1 hU y1
 go_region_held3 (Xb0 vb w.heap.size 4 ml (.int .i64 kind) (.int .i64 2) (.int .u64 t.n) (.int .i64 t.ak) (.int .u64 t.au) (.bool t.pd) (.int .u64 t.at_) (.int .i64 t.tr) (.int .u64 t.last) (.string ⟨t.pth.toArray⟩)) (first
  | with_reducible exact hP1
  | with_reducible exact hP2
  | with_reducible exact hP4
  | with_reducible assumption) (first
  | (go_at_call 188;refine(hOf _).mono ?_;rintro e w2 ⟨rfl,hb2⟩;have hP2:=Xb0.below hP1 hb2;have hB2:Below w1.heap.size w1 w2:=(Below.refl _ w1).drew.trans hb2;obtain⟨w4,hrun,hM4,hg4⟩:=hSt w2 (hH1.keeps (KeepsT.below (bad:=fun _=>false) hB2));have bV4:=(bV1.below hB2 bV1.lt).kept hg4 (by intro e;injection e with e;exact hne.2 e.symm);have bR4:=(bR1.below hB2 bR1.lt).kept hg4 (by intro e;injection e with e;omega);have hP4:Xb0 vb w.heap.size 4 ml (.int .i64 kind) (.int .i64 2) (.int .u64 t.n) (.int .i64 t.ak) (.int .u64 t.au) (.bool t.pd) (.int .u64 t.at_) (.int .i64 t.tr) (.int .u64 t.last) (.string ⟨t.pth.toArray⟩) w4:=⟨bV4.cell 4 rfl,bR4.Xag⟩))
 all_goals
  have hsp:Spares [vb,ml] w w4:=(((Spares.of_below hB0).trans (hS1.mono (by simp))).trans (Spares.of_below hB2)).trans (Spares.X4 hg4 (by simp))
  have hF:Hid (Yb w4 vb mt ml vx tm tn (max ln t.n) tks (Yf t lks)):=Xb (by
   have hb6:=hsp.below (B:=6) hV.va.six (fun b hb=>by
    have h9:=hV.v9;have h9':=hV.l9
    rcases List.mem_cons.1 hb with rfl | hb
    ·omega
    rw [List.mem_singleton.1 hb];omega)
   have hm:((max ln t.n:Nat):Int)=max (ln:Int) t.n:=by omega
   obtain⟨n2,k2,m2⟩:=hH1.mapT;have m4:=(Y6 m2 hB2).kept hg4 (by intro e;injection e with e;exact hV.mne e);refine⟨⟨?_,⟨⟨n2,k2,m4⟩,hM4⟩,hV.va.ok.putL hf hl h1 h2,hV.va.env.below hb6 (Nat.le_refl _),Nat.le_trans hV.va.six hsp.size⟩,hV.nt,fun x hx=>?_,hV.t0,hV.t1,hV.okT,fun x hx=>?_,hV.mne,hV.v9,hV.m9,hV.l9⟩
   ·rw [hm];exact bV4
   ·rcases Jf hV.va.ok.incL hx with rfl | hx
    ·omega
    have:=hV.nl x hx;omega
   rcases Jf hV.va.ok.incL hx with rfl | hx
   ·exact hok
   exact hV.okL x hx)
  clear hrun hM4 hg4 hP4 hP2 hP1 bV4 bR4 bV1 bR1 hSt hOf;go_wp2
  go_end0
  exact⟨rfl,Xa hF,hsp⟩
end Go.Proofs
