import Derived.Test.YtjbekgjdempbiaaGreatDoorJFndD
import Derived.Test.YtjbekgjdempbiaaGreatDoorJNext
set_option maxRecDepth 100000
set_option maxHeartbeats 8000000
namespace Go.Proofs
open Go.RowKit Go.Sort Go.Lib Go.Shelf Go.Maps Go.WideMaps
theorem spares_new {bs bs':List Nat} {W W' W'':World} (h:Below W.heap.size W W') (h':Spares bs' W' W'') (hg:∀ b∈bs',b∈bs∨W.heap.size≤b):Spares bs W W'':=
 ⟨h'.os.trans h.os,h'.tape.trans h.tape,h'.output.trans h.output,Nat.le_trans h.size h'.size,fun k hk hn=>(h'.block k (Nat.lt_of_lt_of_le hk h.size) (fun e=>by
  rcases hg k e with e | e
  ·exact hn e
  ·omega)).trans (h.block k hk)⟩
theorem spares_grown {bs:List Nat} {W W' W'':World} {b:Nat} (h:Spares bs W W') (hg:W'.grownBy W'' (some b)) (hb:W.heap.size≤b):Spares bs W W'':=
 ⟨hg.os.trans h.os,hg.tape.trans h.tape,hg.output.trans h.output,Nat.le_trans h.size hg.size,fun k hk hn=>(hg.block k (Nat.lt_of_lt_of_le hk h.size) (fun e=>by injection e with e;omega)).trans (h.block k hk hn)⟩
theorem Tryz.VFull.reJ {W:World} {vb mt ml:Nat} {vx:VX} {tm:Int} {tn ln:Nat} {tks:List TokE} {lks:List LeaE} (h:VFull W vb mt ml vx tm tn ln tks lks) (j:Value):VFull (W.setCell ⟨vb,0,none⟩ j) vb mt ml { vx with jn:=j } tm tn ln tks lks:=by
 have hS:Spares [vb] W (W.setCell ⟨vb,0,none⟩ j):=(Spares.of_below (Below.refl _ W)).set (by simp) _ _;have bV:BoxN (W.setCell ⟨vb,0,none⟩ j) vb 126 (vaultC { vx with jn:=j } tm mt ml tn ln):=h.va.v.set 0 j;obtain⟨n1,k1,m1⟩:=h.va.held.mapT;obtain⟨n2,k2,m2⟩:=h.va.held.mapL;have hb6:=hS.below (B:=6) h.va.six (fun b hb=>by rw [List.mem_singleton.1 hb];have:=h.v9;omega);exact⟨⟨bV,⟨⟨n1,k1,hS.map m1 (by simpa using h.nes.1)⟩,⟨n2,k2,hS.map m2 (by simpa using h.nes.2)⟩⟩,h.va.ok,h.va.env.below hb6 (Nat.le_refl _),Nat.le_trans h.va.six hS.size⟩,h.nt,h.nl,h.t0,h.t1,h.okT,h.okL,h.mne,h.v9,h.m9,h.l9⟩
theorem tmL_le:∀(ls:List LineD) (tm:Int),tm≤tmL tm ls∧∀ l∈ls,l.tm≤tmL tm ls
 | [],_=>⟨Int.le_refl _,fun _ h=>by cases h⟩
 | a :: ls,tm=>by
  obtain⟨h1,h2⟩:=tmL_le ls (max tm a.tm);have e:tmL tm (a :: ls)=tmL (max tm a.tm) ls:=rfl;rw [e];refine⟨by omega,fun l hl=>?_⟩
  rcases List.mem_cons.1 hl with rfl | hl
  ·omega
  ·exact h2 l hl
theorem Tryz.open_one (db md mn rb bd b:Nat) (l f now:Int) (ls:List LineD) (hok:OkL ls rootS) (hnel:ls ≠ []) (hlen:(textL ls).length<4294967281) (w:World) (hD:DiskAt w db md mn (some (bd,textL ls)) (some (b,textL ls)) (.slice none 0 0) l f) (hl:l<0) (hl1 : -1000000000≤l) (hf:f<0) (hf1 : -1000000000≤f) (hE:Env w) (h9:9≤w.heap.size) (hG:ErrT w) (t0:0≤now) (t1:now≤18446744073709551615) (d9:9≤db∧9≤md∧9≤mn) :
  Calls prog 55 #[diskV db,.iface 75 (.pointer (some ⟨rb,0,none⟩)),.int .u64 now] w fun e w'=>∃ vb mt ml jb,e=.returned (.tuple #[.pointer (some ⟨vb,0,none⟩),.nilIface])∧Whole w' ⟨vb,mt,ml,jb,db,md,mn⟩ ⟨.pointer (some ⟨jb,0,none⟩),.iface 75 (.pointer (some ⟨rb,0,none⟩)),false,.slice none 0 0⟩ (tmL now ls) (playL ls rootS) (textL ls) (l-1) (f-1)∧(w.heap.size≤vb∧w.heap.size≤mt∧w.heap.size≤ml∧w.heap.size≤jb)∧Spares [db] w w':=by
 have hmkT:∀ W,(Instr.makeMap 120 none).run prog W=.ok (.map (some W.heap.size)) (W.alloc (.map #[] 0)):=fun W=>run_makeMap _ W
 have hmkL:∀ W,(Instr.makeMap 121 none).run prog W=.ok (.map (some W.heap.size)) (W.alloc (.map #[] 0)):=fun W=>run_makeMap _ W
 have hR:=fun W=>root W
 unfold nmV at hR;have hM:=World.ownsMap_made w prog 114 valR;have hB0:Below w.heap.size w (w.alloc (.map #[] 0)):=(Below.refl _ w).alloc (Nat.le_refl _) _;have lD:=hD.lt;have lbd:=(hD.sd _ rfl).lt;have lbn:=(hD.sn _ rfl).lt;simp only at lbd lbn
 have hO:=fun W vb mt ml vx (hb:Below w.heap.size w W) (hV:VF W vb mt ml vx (now,rootS)) (q1:w.heap.size≤vb) (q2:w.heap.size≤mt) (q3:w.heap.size≤ml)=>jOpen_one db md mn b vb mt ml (some (bd,textL ls)) l f vx now rootS ls hok hnel hlen W (hD.below hb) hl hl1 hf hf1 hV (Nat.le_trans h9 hb.size) (hG.below (hb.mono h9)) d9.1 (by simp;omega) (by simp;omega) (by simp;omega) (fun q hq=>by cases hq;simp;omega) (by simp;omega)
 have hlog:Hid (Log (tmL now ls) (playL ls rootS) (textL ls)):=hid_intro ⟨ls,hok,rfl,rfl,(tmL_le ls now).2⟩;generalize textL ls=txt at *;generalize playL ls rootS=s' at *;generalize tmL now ls=tm' at *;unfold diskV at hO ⊢;go_enter func55,ntmps55
 go_wp2_with (first
  | (go_at_call 85;refine(hR _).mono ?_;rintro e w1 ⟨rfl,hb1⟩;have hM1:=ownsMap_below hM hb1;have hB1:=hB0.trans (hb1.mono (by simp));obtain⟨w2,hrun,hM2,hT2⟩:=hM1.store keyedName underlying120 (by decide) (key:=nmV (1,0)) (val:=rootV) (nmType.keyOf ⟨by decide,by decide⟩) (d:=.held rootV) (ps:=[]) rfl;have hB2:=hB1.grown hT2.grown hB1.size (fun q hq=>by cases hq;omega);have hB4:=hB2.alloc hB2.size (.map #[] 0);have hB5:=hB4.alloc hB4.size (.cells #[.pointer none,.iface 75 (.pointer (some ⟨rb,0,none⟩)),.int .u64 now,.map (some w.heap.size),.map (some w2.heap.size),.int .u64 0,.int .u64 0,.bool false,.slice none 0 0] 126);unfold nmV rootV at hrun)
  | fail)
 have hz2:=hB2.size;have lM2:=hM2.lt;have hMl5:=(World.ownsMap_made w2 prog 114 valR).alloc (.cells #[.pointer none,.iface 75 (.pointer (some ⟨rb,0,none⟩)),.int .u64 now,.map (some w.heap.size),.map (some w2.heap.size),.int .u64 0,.int .u64 0,.bool false,.slice none 0 0] 126);have hMt5:=(hM2.alloc (.map #[] 0)).alloc (.cells #[.pointer none,.iface 75 (.pointer (some ⟨rb,0,none⟩)),.int .u64 now,.map (some w.heap.size),.map (some w2.heap.size),.int .u64 0,.int .u64 0,.bool false,.slice none 0 0] 126);rw [show ((DataW.map []).put (Lit.string (nmB (1,0))) (.held rootV))=mapD ([rootE].map TokE.key).reverse from rootMap] at hMt5;have bV5:=BoxN.new (w2.alloc (.map #[] 0)) 126 #[.pointer none,.iface 75 (.pointer (some ⟨rb,0,none⟩)),.int .u64 now,.map (some w.heap.size),.map (some w2.heap.size),.int .u64 0,.int .u64 0,.bool false,.slice none 0 0];rw [World.size_alloc] at bV5
 have hV5:VF ((w2.alloc (.map #[] 0)).alloc (.cells #[.pointer none,.iface 75 (.pointer (some ⟨rb,0,none⟩)),.int .u64 now,.map (some w.heap.size),.map (some w2.heap.size),.int .u64 0,.int .u64 0,.bool false,.slice none 0 0] 126)) (w2.heap.size+1) w.heap.size w2.heap.size ⟨.pointer none,.iface 75 (.pointer (some ⟨rb,0,none⟩)),false,.slice none 0 0⟩ (now,rootS):=
  { va:=⟨bV5,⟨⟨_,by decide,hMt5⟩,⟨0,by decide,hMl5⟩⟩,rootOk,hE.below hB5 (by omega),by have:=hB5.size;omega⟩,nt:=fun t ht=>by rw [List.mem_singleton.1 ht];exact Nat.le_refl _,nl:=fun l hl=>(by cases hl),t0:=t0,t1:=t1,okT:=fun t ht=>by rw [List.mem_singleton.1 ht];exact⟨by decide,by decide,by decide,by decide,.inr (.inr ⟨rfl,rfl⟩)⟩,okL:=fun l hl=>(by cases hl),mne:=by show w.heap.size≠w2.heap.size;omega,v9:=by show 9≤w2.heap.size+1;omega,m9:=h9,l9:=by show 9≤w2.heap.size;omega }
 have hO5:=hO _ _ _ _ _ hB5 hV5 (by omega) (Nat.le_refl _) (by omega)
 have hz5:((w2.alloc (.map #[] 0)).alloc (.cells #[.pointer none,.iface 75 (.pointer (some ⟨rb,0,none⟩)),.int .u64 now,.map (some w.heap.size),.map (some w2.heap.size),.int .u64 0,.int .u64 0,.bool false,.slice none 0 0] 126)).heap.size=w2.heap.size+1+1:=by simp
 generalize (w2.alloc (.map #[] 0)).alloc (.cells #[.pointer none,.iface 75 (.pointer (some ⟨rb,0,none⟩)),.int .u64 now,.map (some w.heap.size),.map (some w2.heap.size),.int .u64 0,.int .u64 0,.bool false,.slice none 0 0] 126)=W5 at *;rw [hz5] at hO5;clear hO hV5 bV5 hMt5 hMl5 hrun hM2 hT2 hM1 hM;refine hO5.mono ?_;rintro e w6 ⟨rfl,bJ6,hV6,hD6,hS6⟩;have v0:=hV6.va.v.cell 0 (v:=.pointer none) rfl;have v0f:=hV6.va.v.frozen 0;have hV7:=hV6.reJ (.pointer (some ⟨w2.heap.size+1+1,0,none⟩));have hS7:Spares [w2.heap.size+1] w6 (w6.setCell ⟨w2.heap.size+1,0,none⟩ (.pointer (some ⟨w2.heap.size+1+1,0,none⟩))):=(Spares.of_below (Below.refl _ _)).set (by simp) _ _;have bJ7:=hS7.box bJ6 (by simp);have hD7:=hD6.spared hS7 (by simp;omega) (by simp;omega) (by simp;omega) (fun q hq=>by cases hq;simp;omega) (fun q hq=>by cases hq;simp;omega)
 have hSp:Spares [db] w (w6.setCell ⟨w2.heap.size+1,0,none⟩ (.pointer (some ⟨w2.heap.size+1+1,0,none⟩))):=spares_new hB5 ((hS6.mono (bs':=[db,w2.heap.size+1,w.heap.size,w2.heap.size]) (by simp)).trans (hS7.mono (by simp))) (fun b hb=>by
  simp only [List.mem_cons,List.not_mem_nil,or_false] at hb ⊢
  omega)
 go_wp2
 exact bodyPost_ret (v:=.tuple #[.pointer (some ⟨w2.heap.size+1,0,none⟩),.nilIface]) (by simp [results,results55,go_sem]) rfl ⟨w2.heap.size+1,w.heap.size,w2.heap.size,w2.heap.size+1+1,rfl,
  { v:=hV7,jn:=rfl,j:=bJ7,d:=⟨_,_,hD7,rfl,rfl⟩,j9:=by show 9≤w2.heap.size+1+1;omega,d9:=d9.1,md9:=d9.2.1,mn9:=d9.2.2,ne1:=by show md≠w.heap.size∧md≠w2.heap.size∧mn≠w.heap.size∧mn≠w2.heap.size;omega,log:=hid_elim hlog },by omega,hSp⟩
end Go.Proofs
namespace Go.Proofs
open Go.RowKit Go.Sort Go.Lib Go.Shelf Go.Maps
abbrev HostP (hb db rb:Nat) (W:World):Prop:=W.cell? ⟨hb,0,none⟩=some (.pointer (some ⟨db,0,none⟩))∧W.cell? ⟨hb,1,none⟩=some (.pointer (some ⟨rb,0,none⟩))
theorem HostP.drew {hb db rb:Nat} {W:World} (h:HostP hb db rb W):HostP hb db rb W.drew:=h
theorem Tryz.hOpen0 (B hb db rb md mn:Nat) (vv ra rc:Value) (l f:Int) (now c d:Int) (w:World) (hH:BoxN w hb 78 #[.pointer (some ⟨db,0,none⟩),.pointer (some ⟨rb,0,none⟩),vv]) (hD:DiskAt w db md mn none none (.slice none 0 0) l f) (hR:BoxN w rb 88 #[ra,rc]) (hlo:B≤hb∧B≤db∧B≤rb∧B≤md∧B≤mn) (hBw:B≤w.heap.size) (b9:9≤B) (hE:Env w) (hG:ErrT w) (t0:0≤now) (t1:now≤18446744073709551615) :
  Calls prog 33 #[.pointer (some ⟨hb,0,none⟩),.int .u64 now,fallV (-1) (-1) c d] w fun e w'=>e=.returned (.int .i64 0)∧(∃ k vx,Sys B w' hb rb ⟨k,vx,now,⟨0,0,[rootE],[]⟩,[]⟩)∧Below B w w':=by
 obtain⟨lo1,lo2,lo3,lo4,lo5⟩:=hlo;have hne:=hH.ne hD.box (by decide);have hnr:=hH.ne hR (by decide);have hnd:=hD.box.ne hR (by decide);have lH:=hH.lt;have lD:=hD.lt;have bF:=BoxN.new w 29 #[.int .i64 (-1),.int .i64 (-1),.int .i64 c,.int .i64 d];have hB0:Below w.heap.size w (w.alloc (.cells #[.int .i64 (-1),.int .i64 (-1),.int .i64 c,.int .i64 d] 29)):=(Below.refl _ w).alloc (Nat.le_refl _) _;have hBf:=before hb db _ _ _ _ _ _ _ _ (-1) (-1) c d _ (hH.alloc (.cells #[.int .i64 (-1),.int .i64 (-1),.int .i64 c,.int .i64 d] 29)) (hD.box.alloc _)
 have hO:=fun W (hD':DiskAt W db md mn none none (.slice none 0 0) (-1) (-1)) (hb':Below B w W)=>open_nil db md mn rb (-1) (-1) now W hD' (hE.below hb' (by omega)) (by have:=hb'.size;omega) (hG.below (hb'.mono b9)) t0 t1 ⟨by omega,by omega,by omega⟩
 unfold fallV at hBf ⊢;go_enter func33,ntmps33
 go_wp2_with (go_at_call 40;refine hBf.mono ?_;rintro e w1 ⟨rfl,bD1,hg1⟩)
 have bH1:=(hH.alloc (.cells #[.int .i64 (-1),.int .i64 (-1),.int .i64 c,.int .i64 d] 29)).kept hg1 (by intro e;injection e with e;exact hne e);have bR1:=(hR.alloc (.cells #[.int .i64 (-1),.int .i64 (-1),.int .i64 c,.int .i64 d] 29)).kept hg1 (by intro e;injection e with e;exact hnd e.symm);have bF1:=bF.kept hg1 (by intro e;injection e with e;omega);have hD1:=(hD.below hB0).cells (Spares.of_grown hg1 (by simp)) bD1;have hB1:Below B w w1:=(hB0.mono hBw).grown hg1 (by simp;omega) (fun q hq=>by cases hq;exact lo2)
 have hP1:HostP hb db rb w1:=⟨bH1.cell 0 rfl,bH1.cell 1 rfl⟩
 have l1:=bH1.lt;have hO1:=hO w1.drew (hD1.below (Below.refl _ _).drew) hB1.drew;unfold diskV at hO1;clear hBf hO
 go_region_held3 (HostP hb db rb) (first
  | with_reducible exact HostP.drew hP1
  | with_reducible assumption) (first | (go_at_call 55;refine hO1.mono ?_;rintro e w2 ⟨vb,mt,ml,jb,rfl,hW2,hlo2,hb2⟩;have bH2:=BoxN.below (W:=w1.drew) bH1 hb2 bH1.lt;have hP2:HostP hb db rb w2:=⟨bH2.cell 0 rfl,bH2.cell 1 rfl⟩))
 have hz1:w1.drew.heap.size=w1.heap.size:=rfl;have bF2:=BoxN.below (W:=w1.drew) bF1 hb2 bF1.lt;have bR2:=BoxN.below (W:=w1.drew) bR1 hb2 bR1.lt;have hB2:Below B w w2:=hB1.drew.trans (hb2.mono (by have:=hB1.size;omega));have hS3:Spares [hb] w2 (w2.setCell ⟨hb,2,none⟩ (.pointer (some ⟨vb,0,none⟩))):=(Spares.of_below (Below.refl _ _)).set (by simp) _ _;have bH3:=bH2.set 2 (.pointer (some ⟨vb,0,none⟩));have bF3:=hS3.box bF2 (by simp;omega);have bR3:=hS3.box bR2 (by simpa using Ne.symm hnr)
 have hW3:=hW2.spared hS3 (fun b hb'=>by
  obtain⟨fd,fn,hd,-,-⟩:=hW2.d;obtain⟨n3,-,m3⟩:=hd.dm;obtain⟨n4,-,m4⟩:=hd.nm;have hz:=hlo2;simp only [Blk.turns,List.mem_cons,List.not_mem_nil,or_false] at hb';simp only [List.mem_singleton]
  rcases hb' with rfl | rfl | rfl | rfl | rfl | rfl
  ·omega
  ·omega
  ·omega
  ·exact Ne.symm hne
  ·exact BoxN.ne_map' bH2 m3
  ·exact BoxN.ne_map' bH2 m4) (by simp;omega) (fun b x hx=>by simpa using hx.ne bH2 (by decide)) (by simp;omega)
 have hB3:=hB2.setCell (p:=⟨hb,2,none⟩) lo1 (.pointer (some ⟨vb,0,none⟩));obtain⟨fd3,fn3,hD3,-,-⟩:=hW3.d;have hBa:=after hb db _ _ _ _ _ _ _ (-1) (-1) c d _ bH3 hD3.box;have fz:=bH2.frozen 2;have h2:=bH2.cell 2 (v:=vv) rfl;have g0:=bF2.cell 0 (v:=.int .i64 (-1)) rfl;have g1:=bF2.cell 1 (v:=.int .i64 (-1)) rfl;have g2:=bF2.cell 2 (v:=.int .i64 c) rfl;have g3:=bF2.cell 3 (v:=.int .i64 d) rfl
 have nF:w.heap.size≠hb:=by omega
 unfold fallV at hBa;have HW3:=hid_intro hW3;clear hW3 hW2 hD3
 go_wp2_with (first
  | (go_at_call 42;refine hBa.mono ?_;rintro e w4 ⟨rfl,bD4,hg4⟩)
  | (go_at_call 43;refine(told_nil _).mono ?_;rintro e w5 ⟨rfl,hb5⟩))
 go_ret;have kH:=bH3.kept hg4 (by intro e;injection e with e;exact hne e);have kR:=bR3.kept hg4 (by intro e;injection e with e;exact hnd e.symm);have hW4:=(hid_elim HW3).setLF (Spares.of_grown hg4 (by simp)) bD4;have hB4:=hB3.grown hg4 (by have:=hB3.size;omega) (fun q hq=>by cases hq;exact lo2);have hz:=hlo2
 have hSys:Sys B w4 hb rb ⟨⟨vb,mt,ml,jb,db,md,mn⟩,⟨.pointer (some ⟨jb,0,none⟩),.iface 75 (.pointer (some ⟨rb,0,none⟩)),false,.slice none 0 0⟩,now,⟨0,0,[rootE],[]⟩,[]⟩:={
  host:=kH,wh:=hW4,err:=hG.below (hB4.mono b9),b9:=b9,hlow:=lo1,
  low:=fun b hb'=>by
   have:=hB1.size;simp only [Blk.turns,List.mem_cons,List.not_mem_nil,or_false] at hb'
   omega,
  rvb:=⟨_,_,kR⟩,rlow:=lo3,vrv:=rfl,vtk:=rfl,due:=World.ownsRow_nil _ _ _ _ }
 exact⟨rfl,⟨_,_,hSys.below hb5⟩,hB4.trans (hb5.mono (by have:=hB4.size;omega))⟩
end Go.Proofs
namespace Go.Proofs
open Go.RowKit Go.Sort Go.Lib Go.Shelf Go.Maps Go.WideMaps
theorem Tryz.up_one (db md n b:Nat) (m2 p l f dn:Value) (w:World) (hD:BoxN w db 100 #[.map (some md),m2,p,l,f,dn]) (hown:w.ownsMap prog 9 valR md n (fileD (some b))) :
  Calls prog 56 #[.pointer (some ⟨db,0,none⟩)] w fun e w'=>e=.returned (.tuple #[])∧∃ b2,w.heap.size≤b2∧w'.ownsMap prog 9 valR b2 1 (fileD (some b))∧BoxN w' db 100 #[.map (some md),.map (some b2),.slice none 0 0,l,f,.bool false]∧Spares [db] w w':=by
 have hmk:∀ W,(Instr.makeMap 97 none).run prog W=.ok (.map (some W.heap.size)) (W.alloc (.map #[] 0)):=fun W=>run_makeMap _ W
 have d0:=hD.cell 0 (v:=.map (some md)) rfl;have d1:=hD.cell 1 (v:=m2) rfl;have f1:=hD.frozen 1;have lD:=hD.lt;have lM:=hown.lt;go_enter func56,ntmps56;have hne:=hD.ne_map hown;have hown1:=(hown.setCell (a:=⟨db,1,none⟩) hne (.map (some w.heap.size))).alloc (.map #[] 0)
 go_wp2_with (first
  | (at_range;refine wpList_range_own _ rfl _ 97 rfl 9 101 (string_keyed underlying9) underlying97 _ md n _ rfl hown1 ?_;intro w1 hrg hg1 hs1)
  | go_in)
 have bD1:BoxN w1 db 100 #[.map (some md),.map (some w.heap.size),p,l,f,dn]:=((hD.set 1 (.map (some w.heap.size))).alloc (.map #[] 0)).kept hg1 (by simp);have hMn0:=World.ownsMap_made (w.setCell ⟨db,1,none⟩ (.map (some w.heap.size))) prog 9 valR;have hMn1:=hMn0.kept hg1 (by simp);rw [World.size_setCell] at hMn1;have hS1:Spares [db] w w1:=(((Spares.of_below (Below.refl _ w)).set (by simp) 1 (.map (some w.heap.size))).alloc (.map #[] 0)).trans ⟨hg1.os,hg1.tape,hg1.output,hg1.size,fun k hk _=>hg1.block k hk (by simp)⟩
 have hs1':w1.heap.size=w.heap.size+1+1:=by simpa using hs1
 have HS:=hid_intro hS1
 have hrr:((w.setCell ⟨db,1,none⟩ (.map (some w.heap.size))).alloc (.map #[] 0)).heap.size=w.heap.size+1:=by simp
 rw [hrr] at hrg ⊢;clear hS1 hg1 hs1 hown1 hown d0 d1 f1 hMn0;refine wp_loop_rounds 2 ?_;rw [rounds_succ]
 go_wp2_with (first
  | (at_next;refine wpList_next_ranges _ rfl _ rfl 9 (string_keyed underlying9) valR Value.string (fun v:Value=>v) (fun key kl hk=>by obtain⟨x,hx,_⟩:=string_of_keyOf underlying9 hk;exact⟨x,hx⟩) (fun v _ _=>⟨v,rfl⟩) md _ n _ _ _ rfl hrg ?_ ?_)
  | go_in)
 ·intro _ h0
  have h1:=h0 (.string jName);rw [fileD_has] at h1;cases h1
 ·intro x c kl y yp w' cnt' hk hl hv hat hrg2 hlt hgr hsz hen
  obtain rfl:=file_left hl;obtain⟨x',hx,hx2,-⟩:=string_of_keyOf underlying9 hk
  obtain rfl:x=x':=by cases hx;rfl
  have hxj:x=⟨#[106,111,117,114,110,97,108]⟩:=by
   have h3:jName=x.data.toList:=by injection hx2
   apply ByteArray.ext;rw [← Array.toArray_toList (xs:=x.data),← h3];rfl
  subst hxj
  have hcb:c=ptrV b:=by
   have h4:=hat (.lit (.bool true));rw [fileD_at] at h4;simp only at h4
   have h5:valR c=some (.held (ptrV b),yp):=by rw [h4];exact hv
   exact valR_held h5
  subst hcb;have bD2:=bD1.kept hgr (by intro e;injection e with e;omega);have hMn2:=hMn1.kept hgr (by intro e;injection e with e;omega);obtain⟨w3,hrun,hM3,hg3⟩:=storeF (o:=none) hMn2 (by omega) b;have bD3:=bD2.kept hg3 (by intro e;injection e with e;omega);have hrg3:=hrg2.kept hg3 (by intro e;injection e with e;omega) (by intro e;injection e with e;omega);have hS3:Spares [db] w w3:=spares_grown (spares_grown (hid_elim HS) hgr (by omega)) hg3 (by omega);unfold ptrV at hrun hen;have e1:=bD2.cell 1 (v:=.map (some w.heap.size)) rfl;clear hk hl hv hat hrg hrg2 hgr hlt hx hx2 hMn1 hMn2 hg3 HS;go_wp2;have k2:=bD3.cell 2 (v:=p) rfl;have k5:=bD3.cell 5 (v:=dn) rfl;have k2f:=bD3.frozen 2;have k5f:=bD3.frozen 5;clear hen hrun e1;rw [rounds_succ]
  go_wp2_with (first
   | (at_next;refine wpList_next_ranges _ rfl _ rfl 9 (string_keyed underlying9) valR (fun v:Value=>v) (fun v:Value=>v) (fun v _ _=>⟨v,rfl⟩) (fun v _ _=>⟨v,rfl⟩) md _ n _ _ _ rfl hrg3 ?_ ?_)
   | go_in)
  ·intro _ _
   clear hrg3;go_wp2
   go_end0
   have hnn:=bD3.ne_map hM3;exact⟨rfl,_,Nat.le_refl _,(hM3.setCell (a:=⟨db,2,none⟩) hnn _).setCell (a:=⟨db,5,none⟩) hnn _,(bD3.set 2 _).set 5 _,(hS3.set (by simp) _ _).set (by simp) _ _⟩
  ·intro x c kl y yp w'' cnt'' _ h2 h3
   obtain rfl:=file_left h2;exact absurd h3 (by decide)
theorem Tryz.pPick1 (c:Int) (h0 : -9223372036854775808≤c) (h1:c≤9223372036854775807) (w:World):Calls prog 97 #[.int .i64 c,.int .i64 1] w fun e w'=>(∃ z:Int,e=.returned (.int .i64 z))∧w'=w:=by
 by_cases hc:c<0
 ·go_enter func97,ntmps97
  go_wp2;go_ret;exact⟨⟨_,rfl⟩,rfl⟩
 ·go_enter func97,ntmps97
  go_wp2;go_ret;exact⟨⟨_,rfl⟩,rfl⟩
theorem Tryz.crash_one (db md mn b:Nat) (c:List UInt8) (fn:Option (Nat × List UInt8)) (l f:Int) (ke pa:Int) (p0 : -9223372036854775808≤pa) (p1:pa≤9223372036854775807) (w:World) (hD:DiskAt w db md mn (some (b,c)) fn (.slice none 0 0) l f) :
  Calls prog 54 #[.pointer (some ⟨db,0,none⟩),.int .i64 ke,.int .i64 pa] w fun e w'=>e=.returned (.tuple #[])∧∃ mn',w.heap.size≤mn'∧DiskAt w' db md mn' (some (b,c)) (some (b,c)) (.slice none 0 0) (-1) (-1)∧Spares [db] w w':=by
 have hP:=fun W=>pPick1 pa p0 p1 W
 have hmk:∀ W,(Instr.makeMap 170 none).run prog W=.ok (.map (some W.heap.size)) (W.alloc (.map #[] 0)):=fun W=>run_makeMap _ W
 have d2:=hD.box.cell 2 (v:=.slice none 0 0) rfl;have d3:=hD.box.cell 3 (v:=.int .i64 l) rfl;have d4:=hD.box.cell 4 (v:=.int .i64 f) rfl;have f3:=hD.box.frozen 3;have f4:=hD.box.frozen 4;have lD:=hD.lt;obtain⟨n,hn,hm⟩:=hD.dm
 change w.ownsMap prog 9 valR md n (fileD (some b)) at hm
 have hU:=fun W (hS:Spares [db] w W) (bD:BoxN W db 100 #[.map (some md),.map (some mn),.slice none 0 0,.int .i64 (-1),.int .i64 (-1),.bool false])=>up_one db md n b _ _ _ _ _ W bD (hS.map hm (by have:=hD.box.ne_map hm;simpa using this))
 have hS1:Spares [db] w (((w.setCell ⟨db,3,none⟩ (.int .i64 (-1))).setCell ⟨db,4,none⟩ (.int .i64 (-1))).alloc (.map #[] 0)):=(((Spares.of_below (Below.refl _ w)).set (by simp) _ _).set (by simp) _ _).alloc (.map #[] 0);have bD1:BoxN (((w.setCell ⟨db,3,none⟩ (.int .i64 (-1))).setCell ⟨db,4,none⟩ (.int .i64 (-1))).alloc (.map #[] 0)) db 100 #[.map (some md),.map (some mn),.slice none 0 0,.int .i64 (-1),.int .i64 (-1),.bool false]:=((hD.box.set 3 _).set 4 _).alloc (.map #[] 0);go_enter func54,ntmps54
 go_wp2_with (go_at_call 97;refine(hP _).mono ?_;rintro e w1 ⟨⟨z,rfl⟩,rfl⟩)
 refine wp_loop_rounds 1 ?_;rw [rounds_succ]
 go_wp2_with (go_at_call 56;refine(hU _ hS1 bD1).mono ?_;rintro e w2 ⟨rfl,mn',hge,hM2,bD2,hS2⟩)
 go_end0
 have hS3:=hS1.trans hS2;have hz1:=hS1.size;have hdb:=hD.box.ne_map hm;have bS:=hS3.box (hD.sd _ rfl) (by have:=(hD.sd _ rfl).ne hD.box (by decide);simpa using this);exact⟨rfl,mn',Nat.le_trans hz1 hge,⟨bD2,⟨n,hn,hS3.map hm (by simpa using hdb)⟩,⟨1,by omega,hM2⟩,fun q hq=>by cases hq;exact bS,fun q hq=>by cases hq;exact bS,by omega⟩,hS3⟩
theorem Tryz.hLose_one (hb db rb md mn b:Nat) (vv:Value) (c:List UInt8) (fn:Option (Nat × List UInt8)) (l f:Int) (ke pa:Int) (p0 : -9223372036854775808≤pa) (p1:pa≤9223372036854775807) (w:World) (hH:BoxN w hb 78 #[.pointer (some ⟨db,0,none⟩),.pointer (some ⟨rb,0,none⟩),vv]) (hD:DiskAt w db md mn (some (b,c)) fn (.slice none 0 0) l f) :
  Calls prog 32 #[.pointer (some ⟨hb,0,none⟩),.int .i64 ke,.int .i64 pa] w fun e w'=>e=.returned (.tuple #[])∧BoxN w' hb 78 #[.pointer (some ⟨db,0,none⟩),.pointer (some ⟨rb,0,none⟩),.pointer none]∧∃ mn',w.heap.size≤mn'∧DiskAt w' db md mn' (some (b,c)) (some (b,c)) (.slice none 0 0) (-1) (-1)∧Spares [hb,db] w w':=by
 have hne:=hH.ne hD.box (by decide);have h0:=hH.cell 0 (v:=.pointer (some ⟨db,0,none⟩)) rfl;have h2:=hH.cell 2 (v:=vv) rfl;have f2:=hH.frozen 2;obtain⟨n,hn,hm⟩:=hD.dm;obtain⟨n',hn',hm'⟩:=hD.nm;have hS1:Spares [hb] w (w.setCell ⟨hb,2,none⟩ (.pointer none)):=(Spares.of_below (Below.refl _ w)).set (by simp) _ _;have bH1:=hH.set 2 (.pointer none);have hD1:=hD.spared hS1 (by simpa using Ne.symm hne) (by simpa using hH.ne_map hm) (by simpa using hH.ne_map hm') (fun q hq=>by have:=(hD.sd q hq).ne hH (by decide);simpa using this) (fun q hq=>by have:=(hD.sn q hq).ne hH (by decide);simpa using this);have hC:=crash_one db md mn b c fn l f ke pa p0 p1 _ hD1;go_enter func32,ntmps32
 go_wp2_with (go_at_call 54;refine hC.mono ?_;rintro e w2 ⟨rfl,mn',hge,hD2,hS2⟩)
 go_end0
 exact⟨rfl,hS2.box bH1 (by simpa using hne),mn',by simpa using hge,hD2,(hS1.mono (by simp)).trans (hS2.mono (by simp))⟩
theorem Tryz.hOpen_one (B hb db rb md mn bd b:Nat) (vv ra rc:Value) (l f:Int) (now c d:Int) (ls:List LineD) (hok:OkL ls rootS) (hnel:ls ≠ []) (hlen:(textL ls).length<4294967281) (w:World) (hH:BoxN w hb 78 #[.pointer (some ⟨db,0,none⟩),.pointer (some ⟨rb,0,none⟩),vv]) (hD:DiskAt w db md mn (some (bd,textL ls)) (some (b,textL ls)) (.slice none 0 0) l f) (hR:BoxN w rb 88 #[ra,rc]) (hlo:B≤hb∧B≤db∧B≤rb∧B≤md∧B≤mn) (hBw:B≤w.heap.size) (b9:9≤B) (hE:Env w) (hG:ErrT w) (t0:0≤now) (t1:now≤18446744073709551615) :
  Calls prog 33 #[.pointer (some ⟨hb,0,none⟩),.int .u64 now,fallV (-1) (-1) c d] w fun e w'=>e=.returned (.int .i64 0)∧(∃ k vx,Sys B w' hb rb ⟨k,vx,tmL now ls,playL ls rootS,textL ls⟩)∧Below B w w'∧Spares [hb,db] w w':=by
 obtain⟨lo1,lo2,lo3,lo4,lo5⟩:=hlo;have hne:=hH.ne hD.box (by decide);have hnr:=hH.ne hR (by decide);have hnd:=hD.box.ne hR (by decide);have lH:=hH.lt;have lD:=hD.lt;have bF:=BoxN.new w 29 #[.int .i64 (-1),.int .i64 (-1),.int .i64 c,.int .i64 d];have hB0:Below w.heap.size w (w.alloc (.cells #[.int .i64 (-1),.int .i64 (-1),.int .i64 c,.int .i64 d] 29)):=(Below.refl _ w).alloc (Nat.le_refl _) _;have hBf:=before hb db _ _ _ _ _ _ _ _ (-1) (-1) c d _ (hH.alloc (.cells #[.int .i64 (-1),.int .i64 (-1),.int .i64 c,.int .i64 d] 29)) (hD.box.alloc _)
 have hO:=fun W (hD':DiskAt W db md mn (some (bd,textL ls)) (some (b,textL ls)) (.slice none 0 0) (-1) (-1)) (hb':Below B w W)=>open_one db md mn rb bd b (-1) (-1) now ls hok hnel hlen W hD' (by decide) (by decide) (by decide) (by decide) (hE.below hb' (by omega)) (by have:=hb'.size;omega) (hG.below (hb'.mono b9)) t0 t1 ⟨by omega,by omega,by omega⟩
 unfold fallV at hBf ⊢;go_enter func33,ntmps33
 go_wp2_with (go_at_call 40;refine hBf.mono ?_;rintro e w1 ⟨rfl,bD1,hg1⟩)
 have bH1:=(hH.alloc (.cells #[.int .i64 (-1),.int .i64 (-1),.int .i64 c,.int .i64 d] 29)).kept hg1 (by intro e;injection e with e;exact hne e);have bR1:=(hR.alloc (.cells #[.int .i64 (-1),.int .i64 (-1),.int .i64 c,.int .i64 d] 29)).kept hg1 (by intro e;injection e with e;exact hnd e.symm);have bF1:=bF.kept hg1 (by intro e;injection e with e;omega);have hD1:=(hD.below hB0).cells (Spares.of_grown hg1 (by simp)) bD1;have hB1:Below B w w1:=(hB0.mono hBw).grown hg1 (by simp;omega) (fun q hq=>by cases hq;exact lo2)
 have hP1:HostP hb db rb w1:=⟨bH1.cell 0 rfl,bH1.cell 1 rfl⟩
 have l1:=bH1.lt;have hO1:=hO w1.drew (hD1.below (Below.refl _ _).drew) hB1.drew;unfold diskV at hO1;clear hBf hO
 go_region_held3 (HostP hb db rb) (first
  | with_reducible exact HostP.drew hP1
  | with_reducible assumption) (first | (go_at_call 55;refine hO1.mono ?_;rintro e w2 ⟨vb,mt,ml,jb,rfl,hW2,hlo2,hb2⟩;have bH2:=Spares.box (W:=w1.drew) hb2 bH1 (by simpa using hne);have hP2:HostP hb db rb w2:=⟨bH2.cell 0 rfl,bH2.cell 1 rfl⟩))
 have hz1:w1.drew.heap.size=w1.heap.size:=rfl;have bF2:=Spares.box (W:=w1.drew) hb2 bF1 (by simp;omega);have bR2:=Spares.box (W:=w1.drew) hb2 bR1 (by simpa using Ne.symm hnd);have hB2:Below B w w2:=hB1.drew.trans (hb2.below (by have:=hB1.size;omega) (fun b hb=>by rw [List.mem_singleton.1 hb];exact lo2));have hS3:Spares [hb] w2 (w2.setCell ⟨hb,2,none⟩ (.pointer (some ⟨vb,0,none⟩))):=(Spares.of_below (Below.refl _ _)).set (by simp) _ _;have bH3:=bH2.set 2 (.pointer (some ⟨vb,0,none⟩));have bF3:=hS3.box bF2 (by simp;omega);have bR3:=hS3.box bR2 (by simpa using Ne.symm hnr)
 have hW3:=hW2.spared hS3 (fun b hb'=>by
  obtain⟨fd,fn,hd,-,-⟩:=hW2.d;obtain⟨n3,-,m3⟩:=hd.dm;obtain⟨n4,-,m4⟩:=hd.nm;have hz:=hlo2;simp only [Blk.turns,List.mem_cons,List.not_mem_nil,or_false] at hb';simp only [List.mem_singleton]
  rcases hb' with rfl | rfl | rfl | rfl | rfl | rfl
  ·omega
  ·omega
  ·omega
  ·exact Ne.symm hne
  ·exact BoxN.ne_map' bH2 m3
  ·exact BoxN.ne_map' bH2 m4) (by simp;omega) (fun b x hx=>by simpa using hx.ne bH2 (by decide)) (by simp;omega)
 have hB3:=hB2.setCell (p:=⟨hb,2,none⟩) lo1 (.pointer (some ⟨vb,0,none⟩));obtain⟨fd3,fn3,hD3,-,-⟩:=hW3.d;have hBa:=after hb db _ _ _ _ _ _ _ (-1) (-1) c d _ bH3 hD3.box;have fz:=bH2.frozen 2;have h2:=bH2.cell 2 (v:=vv) rfl;have g0:=bF2.cell 0 (v:=.int .i64 (-1)) rfl;have g1:=bF2.cell 1 (v:=.int .i64 (-1)) rfl;have g2:=bF2.cell 2 (v:=.int .i64 c) rfl;have g3:=bF2.cell 3 (v:=.int .i64 d) rfl
 have nF:w.heap.size≠hb:=by omega
 unfold fallV at hBa;have HW3:=hid_intro hW3;clear hW3 hW2 hD3
 go_wp2_with (first
  | (go_at_call 42;refine hBa.mono ?_;rintro e w4 ⟨rfl,bD4,hg4⟩)
  | (go_at_call 43;refine(told_nil _).mono ?_;rintro e w5 ⟨rfl,hb5⟩))
 go_ret;have kH:=bH3.kept hg4 (by intro e;injection e with e;exact hne e);have kR:=bR3.kept hg4 (by intro e;injection e with e;exact hnd e.symm);have hW4:=(hid_elim HW3).setLF (Spares.of_grown hg4 (by simp)) bD4;have hB4:=hB3.grown hg4 (by have:=hB3.size;omega) (fun q hq=>by cases hq;exact lo2);have hz:=hlo2
 have hSys:Sys B w4 hb rb ⟨⟨vb,mt,ml,jb,db,md,mn⟩,⟨.pointer (some ⟨jb,0,none⟩),.iface 75 (.pointer (some ⟨rb,0,none⟩)),false,.slice none 0 0⟩,tmL now ls,playL ls rootS,textL ls⟩:={
  host:=kH,wh:=hW4,err:=hG.below (hB4.mono b9),b9:=b9,hlow:=lo1,
  low:=fun b hb'=>by
   have:=hB1.size;simp only [Blk.turns,List.mem_cons,List.not_mem_nil,or_false] at hb'
   omega,
  rvb:=⟨_,_,kR⟩,rlow:=lo3,vrv:=rfl,vtk:=rfl,due:=World.ownsRow_nil _ _ _ _ }
 have hSp:Spares [hb,db] w w4:=((((Spares.of_below (bs:=[hb,db]) hB0).trans (Spares.of_grown hg1 (by simp))).drew).trans (hb2.mono (by simp))).trans ((hS3.mono (by simp)).trans (Spares.of_grown hg4 (by simp)));exact⟨rfl,⟨_,_,hSys.below hb5⟩,hB4.trans (hb5.mono (by have:=hB4.size;omega)),hSp.trans (Spares.of_below hb5)⟩
end Go.Proofs
namespace Go.Proofs
open Go.RowKit Go.Sort Go.Lib Go.Shelf Go.Maps
attribute [local go_sem] Oper.semAt_some
end Go.Proofs
