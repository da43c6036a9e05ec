import Derived.Test.YtjbekgjdempbiaaGreatDoorJKtD
import Derived.Test.YtjbekgjdempbiaaGreatDoorJLogA
set_option maxRecDepth 100000
set_option maxHeartbeats 8000000
namespace Go.Proofs
open Go.RowKit Go.Sort Go.Lib Go.Shelf Go.Maps Go.WideMaps
theorem Tryz.Mx.spared {W W':World} {bs:List Nat} {db md mn:Nat} {fd fn:Option (Nat × List UInt8)} {p:Value} {l f:Int} {dn:Bool} (h:Mx W db md mn fd fn p l f dn) (hs:Spares bs W W') (n1:db∉bs) (n2:md∉bs) (n3:mn∉bs) (n4:∀ q,fd=some q->q.1∉bs) (n5:∀ q,fn=some q->q.1∉bs):Mx W' db md mn fd fn p l f dn:=by
 obtain⟨n,hn,hm⟩:=h.dm;obtain⟨n',hn',hm'⟩:=h.nm;exact⟨hs.box h.box n1,⟨n,hn,hs.map hm n2⟩,⟨n',hn',hs.map hm' n3⟩,fun q hq=>hs.box (h.sd q hq) (n4 q hq),fun q hq=>hs.box (h.sn q hq) (n5 q hq),h.ne⟩
theorem Tryz.Xva (db md mn b:Nat) (c:List UInt8) (fn:Option (Nat × List UInt8)) (l f:Int) (dn:Bool) (ke pa:Int) (p0 : -9223372036854775808<=pa) (p1:pa<=9223372036854775807) (w:World) (hD:Mx w db md mn (some (b,c)) fn (.slice none 0 0) l f dn) :
  Calls prog 54 #[.pointer (some ⟨db,0,none⟩),.int .i64 ke,.int .i64 pa] w fun e w'=>e=.returned (.tuple #[])/\∃ mn',w.heap.size<=mn'/\Xj w' db md mn' (some (b,c)) (some (b,c)) (.slice none 0 0) (-1) (-1)/\Spares [db] w w':=by
 have hP:=fun W=>Xmc pa p0 p1 W
 have hmk:∀ W,(Instr.makeMap 170 none).run prog W=.ok (.map (some W.heap.size)) (W.alloc (.map #[] 0)):=fun W=>run_makeMap _ W
 have d2:=hD.box.cell 2 (v:=.slice none 0 0) rfl;have d3:=hD.box.cell 3 (v:=.int .i64 l) rfl;have d4:=hD.box.cell 4 (v:=.int .i64 f) rfl;have f3:=hD.box.frozen 3;have f4:=hD.box.frozen 4;have lD:=hD.box.lt;obtain⟨n,hn,hm⟩:=hD.dm
 change w.ownsMap prog 9 Ye md n (Zp (some b)) at hm
 have lM:=hm.lt
 have hU:=fun W (hS:Spares [db] w W) (bD:BoxN W db 100 #[.map (some md),.map (some mn),.slice none 0 0,.int .i64 (-1),.int .i64 (-1),.bool dn])=>Xps db md n b _ _ _ _ _ W bD (hS.map hm (by have:=hD.box.ne_map hm;simpa using this))
 have hS1:Spares [db] w (((w.setCell ⟨db,3,none⟩ (.int .i64 (-1))).setCell ⟨db,4,none⟩ (.int .i64 (-1))).alloc (.map #[] 0)):=(((Spares.of_below (Below.refl _ w)).set (by simp) _ _).set (by simp) _ _).alloc (.map #[] 0);have bD1:BoxN (((w.setCell ⟨db,3,none⟩ (.int .i64 (-1))).setCell ⟨db,4,none⟩ (.int .i64 (-1))).alloc (.map #[] 0)) db 100 #[.map (some md),.map (some mn),.slice none 0 0,.int .i64 (-1),.int .i64 (-1),.bool dn]:=((hD.box.set 3 _).set 4 _).alloc (.map #[] 0);go_enter func54,ntmps54
 go_wp2_with (go_at_call 97;refine(hP _).mono ?_;rintro e w1 ⟨⟨z,rfl⟩,rfl⟩)
 refine wp_loop_rounds 1 ?_;rw [rounds_succ]
 go_wp2_with (go_at_call 56;refine(hU _ hS1 bD1).mono ?_;rintro e w2 ⟨rfl,mn',hge,hM2,bD2,hS2⟩)
 go_end0
 have hS3:=hS1.trans hS2;have hz1:=hS1.size;have hdb:=hD.box.ne_map hm;have bS:=hS3.box (hD.sd _ rfl) (by have:=(hD.sd _ rfl).ne hD.box (by decide);simpa using this);exact⟨rfl,mn',Nat.le_trans hz1 hge,⟨bD2,⟨n,hn,hS3.map hm (by simpa using hdb)⟩,⟨1,by omega,hM2⟩,fun q hq=>by cases hq;exact bS,fun q hq=>by cases hq;exact bS,by omega⟩,hS3⟩
theorem Tryz.Xqh (B hb db rb md mn:Nat) (fd fn:Option (Nat × List UInt8)) (vv ra rc:Value) (l f:Int) (now a a' c d tm:Int) (s:VSt) (x:List UInt8) (w:World) (hH:BoxN w hb 78 #[.pointer (some ⟨db,0,none⟩),.pointer (some ⟨rb,0,none⟩),vv]) (hD:Xj w db md mn fd fn (.slice none 0 0) l f) (hR:BoxN w rb 88 #[ra,rc]) (hlo:B<=hb/\B<=db/\B<=rb/\B<=md/\B<=mn) (hBw:B<=w.heap.size) (b9:9<=B) (hG:Ja w)
  (hO:∀ W,Xj W db md mn fd fn (.slice none 0 0) a a'->Below B w W->Calls prog 55 #[Yg db,.iface 75 (.pointer (some ⟨rb,0,none⟩)),.int .u64 now] W fun e w'=>∃ vb mt ml jb,e=.returned (.tuple #[.pointer (some ⟨vb,0,none⟩),.nilIface])/\(∃ l' f':Int,Whole w' ⟨vb,mt,ml,jb,db,md,mn⟩ ⟨.pointer (some ⟨jb,0,none⟩),.iface 75 (.pointer (some ⟨rb,0,none⟩)),false,.slice none 0 0⟩ tm s x l' f')/\(W.heap.size<=vb/\W.heap.size<=mt/\W.heap.size<=ml/\W.heap.size<=jb)/\Spares [db] W w') :
  Calls prog 33 #[.pointer (some ⟨hb,0,none⟩),.int .u64 now,Yo a a' c d] w fun e w'=>e=.returned (.int .i64 0)/\(∃ k vx,Sys B w' hb rb ⟨k,vx,tm,s,x⟩)/\Below B w w'/\Spares [hb,db] w w':=by
 obtain⟨lo1,lo2,lo3,lo4,lo5⟩:=hlo;have hne:=hH.ne hD.box (by decide);have hnr:=hH.ne hR (by decide);have hnd:=hD.box.ne hR (by decide);have lH:=hH.lt;have lD:=hD.lt;have bF:=BoxN.new w 29 #[.int .i64 a,.int .i64 a',.int .i64 c,.int .i64 d];have hB0:Below w.heap.size w (w.alloc (.cells #[.int .i64 a,.int .i64 a',.int .i64 c,.int .i64 d] 29)):=(Below.refl _ w).alloc (Nat.le_refl _) _;have hBf:=before hb db _ _ _ _ _ _ _ _ a a' c d _ (hH.alloc (.cells #[.int .i64 a,.int .i64 a',.int .i64 c,.int .i64 d] 29)) (hD.box.alloc _);unfold Yo at hBf ⊢;go_enter func33,ntmps33
 go_wp2_with (go_at_call 40;refine hBf.mono ?_;rintro e w1 ⟨rfl,bD1,hg1⟩)
 have bH1:=(hH.alloc (.cells #[.int .i64 a,.int .i64 a',.int .i64 c,.int .i64 d] 29)).kept hg1 (by intro e;injection e with e;exact hne e);have bR1:=(hR.alloc (.cells #[.int .i64 a,.int .i64 a',.int .i64 c,.int .i64 d] 29)).kept hg1 (by intro e;injection e with e;exact hnd e.symm);have bF1:=bF.kept hg1 (by intro e;injection e with e;omega);have hD1:=(hD.below hB0).cells (Spares.X6 hg1 (by simp)) bD1;have hB1:Below B w w1:=(hB0.mono hBw).grown hg1 (by simp;omega) (fun q hq=>by cases hq;exact lo2)
 have hP1:U2 hb db rb w1:=⟨bH1.cell 0 rfl,bH1.cell 1 rfl⟩
 have l1:=bH1.lt;have hO1:=hO w1.drew (hD1.below (Below.refl _ _).drew) hB1.drew;unfold Yg at hO1;clear hBf hO
 go_region_held3 (U2 hb db rb) (first
  | with_reducible exact U2.drew hP1
  | with_reducible assumption) (first | (go_at_call 55;refine hO1.mono ?_;rintro e w2 ⟨vb,mt,ml,jb,rfl,⟨l2,f2,hW2⟩,hlo2,hb2⟩;have bH2:=Spares.box (W:=w1.drew) hb2 bH1 (by simpa using hne);have hP2:U2 hb db rb w2:=⟨bH2.cell 0 rfl,bH2.cell 1 rfl⟩))
 have hz1:w1.drew.heap.size=w1.heap.size:=rfl;have bF2:=Spares.box (W:=w1.drew) hb2 bF1 (by simp;omega);have bR2:=Spares.box (W:=w1.drew) hb2 bR1 (by simpa using Ne.symm hnd);have hB2:Below B w w2:=hB1.drew.trans (hb2.below (by have:=hB1.size;omega) (fun b hb=>by rw [List.mem_singleton.1 hb];exact lo2));have hS3:Spares [hb] w2 (w2.setCell ⟨hb,2,none⟩ (.pointer (some ⟨vb,0,none⟩))):=(Spares.of_below (Below.refl _ _)).set (by simp) _ _;have bH3:=bH2.set 2 (.pointer (some ⟨vb,0,none⟩));have bF3:=hS3.box bF2 (by simp;omega);have bR3:=hS3.box bR2 (by simpa using Ne.symm hnr)
 have hW3:=hW2.spared hS3 (fun b hb'=>by
  obtain⟨fd,fn,hd,-,-⟩:=hW2.d;obtain⟨n3,-,m3⟩:=hd.dm;obtain⟨n4,-,m4⟩:=hd.nm;have hz:=hlo2;simp only [Blk.turns,List.mem_cons,List.not_mem_nil,or_false] at hb';simp only [List.mem_singleton]
  rcases hb' with rfl | rfl | rfl | rfl | rfl | rfl
  ·omega
  ·omega
  ·omega
  ·exact Ne.symm hne
  ·exact BoxN.Xw bH2 m3
  exact BoxN.Xw bH2 m4) (by simp;omega) (fun b x hx=>by simpa using hx.ne bH2 (by decide)) (by simp;omega)
 have hB3:=hB2.setCell (p:=⟨hb,2,none⟩) lo1 (.pointer (some ⟨vb,0,none⟩));obtain⟨fd3,fn3,hD3,-,-⟩:=hW3.d;have hBa:=after hb db _ _ _ _ _ _ _ a a' c d _ bH3 hD3.box;have fz:=bH2.frozen 2;have h2:=bH2.cell 2 (v:=vv) rfl;have g0:=bF2.cell 0 (v:=.int .i64 a) rfl;have g1:=bF2.cell 1 (v:=.int .i64 a') rfl;have g2:=bF2.cell 2 (v:=.int .i64 c) rfl;have g3:=bF2.cell 3 (v:=.int .i64 d) rfl
 have nF:w.heap.size≠hb:=by omega
 unfold Yo at hBa;have HW3:=Xb hW3;clear hW3 hW2 hD3
 go_wp2_with (first
  | (go_at_call 42;refine hBa.mono ?_;rintro e w4 ⟨rfl,bD4,hg4⟩)
  | (go_at_call 43;refine(Xci _).mono ?_;rintro e w5 ⟨rfl,hb5⟩))
 go_ret;have kH:=bH3.kept hg4 (by intro e;injection e with e;exact hne e);have kR:=bR3.kept hg4 (by intro e;injection e with e;exact hnd e.symm);have hW4:=(Xa HW3).Xhl (Spares.X6 hg4 (by simp)) bD4;have hB4:=hB3.grown hg4 (by have:=hB3.size;omega) (fun q hq=>by cases hq;exact lo2);have hz:=hlo2
 have hSys:Sys B w4 hb rb ⟨⟨vb,mt,ml,jb,db,md,mn⟩,⟨.pointer (some ⟨jb,0,none⟩),.iface 75 (.pointer (some ⟨rb,0,none⟩)),false,.slice none 0 0⟩,tm,s,x⟩:={
  host:=kH,wh:=hW4,err:=hG.below (hB4.mono b9),b9:=b9,hlow:=lo1,
  low:=fun b hb'=>by
   have:=hB1.size;simp only [Blk.turns,List.mem_cons,List.not_mem_nil,or_false] at hb'
   omega,
  rvb:=⟨_,_,kR⟩,rlow:=lo3,vrv:=rfl,vtk:=rfl,due:=World.ownsRow_nil _ _ _ _ }
 have hSp:Spares [hb,db] w w4:=((((Spares.of_below (bs:=[hb,db]) hB0).trans (Spares.X6 hg1 (by simp))).drew).trans (hb2.mono (by simp))).trans ((hS3.mono (by simp)).trans (Spares.X6 hg4 (by simp)));exact⟨rfl,⟨_,_,hSys.below hb5⟩,hB4.trans (hb5.mono (by have:=hB4.size;omega)),hSp.trans (Spares.of_below hb5)⟩
theorem Tryz.Xv9 (B hb db rb md mn bd b:Nat) (vv ra rc:Value) (l f:Int) (now a a' c d:Int) (ha:a≠0) (ha':a'≠0) (ls:List Yd) (hok:OkL ls rootS) (hnel:ls ≠ []) (hlen:(textL ls).length<4294967281) (w:World) (hH:BoxN w hb 78 #[.pointer (some ⟨db,0,none⟩),.pointer (some ⟨rb,0,none⟩),vv]) (hD:Xj w db md mn (some (bd,textL ls)) (some (b,textL ls)) (.slice none 0 0) l f) (hR:BoxN w rb 88 #[ra,rc]) (hlo:B<=hb/\B<=db/\B<=rb/\B<=md/\B<=mn) (hBw:B<=w.heap.size) (b9:9<=B) (hE:Env w) (hG:Ja w) (t0:0<=now) (t1:now<=18446744073709551615) :
  Calls prog 33 #[.pointer (some ⟨hb,0,none⟩),.int .u64 now,Yo a a' c d] w fun e w'=>e=.returned (.int .i64 0)/\(∃ k vx,Sys B w' hb rb ⟨k,vx,tmL now ls,playL ls rootS,textL ls⟩)/\Below B w w'/\Spares [hb,db] w w':=
 Xqh B hb db rb md mn _ _ vv ra rc l f now a a' c d _ _ _ w hH hD hR hlo hBw b9 hG (fun W hD' hb'=>Xwf db md mn rb bd b a a' now ls hok hnel hlen W hD' ha ha' (hE.below hb' (by omega)) (by have:=hb'.size;omega) (hG.below (hb'.mono b9)) t0 t1 ⟨by omega,by omega,by omega⟩)
theorem Tryz.Xvr (hb db rb md mn bd b:Nat) (x:List UInt8) (a a' c d l2 f2:Int) (d0 : -9223372036854775808<=d) (d1:d<=9223372036854775807) (W:World) (bH3:BoxN W hb 78 #[.pointer (some ⟨db,0,none⟩),.pointer (some ⟨rb,0,none⟩),.pointer none]) (hD3:Mx W db md mn (some (bd,x)) (some (b,x)) (.slice none 0 0) l2 f2 (a==0)) :
  Calls prog 42 #[.pointer (some ⟨hb,0,none⟩),Yo a a' c d] W fun e w'=>e=.returned (.tuple #[])/\BoxN w' hb 78 #[.pointer (some ⟨db,0,none⟩),.pointer (some ⟨rb,0,none⟩),.pointer none]/\(∃ mn' b',(mn'=mn\/W.heap.size<=mn')/\Xj w' db md mn' (some (bd,x)) (some (b',x)) (.slice none 0 0) (-1) (-1))/\Spares [hb,db] W w':=by
 have hne:=bH3.ne hD3.box (by decide)
 by_cases ha:a=0
 ·rw [show (a==0)=true by simpa using ha] at hD3
  refine(Xv7 hb db md W.heap.size (some (bd,x)) (some (bd,x)) _ _ _ _ _ _ _ a a' c d _ bH3 hD3.box (fun W' hSW bW=>?_)).mono ?_
  ·have hDW:=hD3.spared hSW (by simpa using Ne.symm hne) (by obtain⟨n3,-,m3⟩:=hD3.dm;simpa using BoxN.Xw bH3 m3) (by obtain⟨n3,-,m3⟩:=hD3.nm;simpa using BoxN.Xw bH3 m3) (fun q hq=>by simpa using(hD3.sd q hq).ne bH3 (by decide)) (fun q hq=>by simpa using(hD3.sn q hq).ne bH3 (by decide))
   refine(Xva db md mn bd x _ l2 f2 true c d d0 d1 W' hDW).mono ?_;rintro e w' ⟨rfl,mn',hmn,hD',hS'⟩;exact⟨rfl,mn',Nat.le_trans hSW.size hmn,hD',hS'⟩
  rintro e w' ⟨rfl,bH',⟨mn',hmn,hD'⟩,hS'⟩;exact⟨rfl,bH',⟨mn',bd,.inr hmn,hD'⟩,hS'⟩
 rw [show (a==0)=false by simpa using ha] at hD3;refine(after hb db _ _ _ _ _ _ _ a a' c d _ bH3 hD3.box).mono ?_;rintro e w' ⟨rfl,bD',hg'⟩;exact⟨rfl,bH3.kept hg' (by intro e;injection e with e;exact hne e),⟨mn,b,.inl rfl,hD3.at.cells (Spares.X6 hg' (by simp)) bD'⟩,Spares.X6 hg' (by simp)⟩
theorem Tryz.Xvc (B hb db rb md mn bd b:Nat) (vv ra rc:Value) (l f:Int) (now a a' c d:Int) (d0 : -9223372036854775808<=d) (d1:d<=9223372036854775807) (n:Int) (hn:n=7\/n=8) (hev:evD a a'=.iface 33 (.int .i64 n)) (ls:List Yd) (hok:OkL ls rootS) (hnel:ls ≠ []) (hlen:(textL ls).length<4294967281) (w:World) (hH:BoxN w hb 78 #[.pointer (some ⟨db,0,none⟩),.pointer (some ⟨rb,0,none⟩),vv]) (hD:Xj w db md mn (some (bd,textL ls)) (some (b,textL ls)) (.slice none 0 0) l f) (hR:BoxN w rb 88 #[ra,rc]) (hlo:B<=hb/\B<=db/\B<=rb/\B<=md/\B<=mn) (hBw:B<=w.heap.size) (b9:9<=B) (hE:Env w) (hG:Ja w) (t0:0<=now) (t1:now<=18446744073709551615) :
  Calls prog 33 #[.pointer (some ⟨hb,0,none⟩),.int .u64 now,Yo a a' c d] w fun e w'=>e=.returned (.int .i64 n)/\BoxN w' hb 78 #[.pointer (some ⟨db,0,none⟩),.pointer (some ⟨rb,0,none⟩),.pointer none]/\(∃ mn' b',(mn'=mn\/w.heap.size<=mn')/\Xj w' db md mn' (some (bd,textL ls)) (some (b',textL ls)) (.slice none 0 0) (-1) (-1))/\Below B w w'/\Spares [hb,db] w w':=by
 obtain⟨lo1,lo2,lo3,lo4,lo5⟩:=hlo;have hne:=hH.ne hD.box (by decide);have hnr:=hH.ne hR (by decide);have hnd:=hD.box.ne hR (by decide);have lH:=hH.lt;have lD:=hD.lt;have bF:=BoxN.new w 29 #[.int .i64 a,.int .i64 a',.int .i64 c,.int .i64 d];have hB0:Below w.heap.size w (w.alloc (.cells #[.int .i64 a,.int .i64 a',.int .i64 c,.int .i64 d] 29)):=(Below.refl _ w).alloc (Nat.le_refl _) _;have hBf:=before hb db _ _ _ _ _ _ _ _ a a' c d _ (hH.alloc (.cells #[.int .i64 a,.int .i64 a',.int .i64 c,.int .i64 d] 29)) (hD.box.alloc _)
 have hO:=fun W (hD':Xj W db md mn (some (bd,textL ls)) (some (b,textL ls)) (.slice none 0 0) a a') (hb':Below B w W)=>openE db md mn rb bd b a a' now ls hok hnel hlen W hD' n hev (hE.below hb' (by omega)) (by have:=hb'.size;omega) (hG.below (hb'.mono b9)) t0 t1 ⟨by omega,by omega,by omega⟩
 unfold Yo at hBf ⊢;go_enter func33,ntmps33
 go_wp2_with (go_at_call 40;refine hBf.mono ?_;rintro e w1 ⟨rfl,bD1,hg1⟩)
 have bH1:=(hH.alloc (.cells #[.int .i64 a,.int .i64 a',.int .i64 c,.int .i64 d] 29)).kept hg1 (by intro e;injection e with e;exact hne e);have bR1:=(hR.alloc (.cells #[.int .i64 a,.int .i64 a',.int .i64 c,.int .i64 d] 29)).kept hg1 (by intro e;injection e with e;exact hnd e.symm);have bF1:=bF.kept hg1 (by intro e;injection e with e;omega);have hD1:=(hD.below hB0).cells (Spares.X6 hg1 (by simp)) bD1;have hB1:Below B w w1:=(hB0.mono hBw).grown hg1 (by simp;omega) (fun q hq=>by cases hq;exact lo2)
 have hP1:U2 hb db rb w1:=⟨bH1.cell 0 rfl,bH1.cell 1 rfl⟩
 have l1:=bH1.lt;have hO1:=hO w1.drew (hD1.below (Below.refl _ _).drew) hB1.drew;unfold Yg at hO1;clear hBf hO
 go_region_held3 (U2 hb db rb) (first
  | with_reducible exact U2.drew hP1
  | with_reducible assumption) (first | (go_at_call 55;refine hO1.mono ?_;rintro e w2 ⟨rfl,⟨l2,f2,hD2⟩,hb2⟩;have bH2:=Spares.box (W:=w1.drew) hb2 bH1 (by simpa using hne);have hP2:U2 hb db rb w2:=⟨bH2.cell 0 rfl,bH2.cell 1 rfl⟩))
 have hz1:w1.drew.heap.size=w1.heap.size:=rfl;have bF2:=Spares.box (W:=w1.drew) hb2 bF1 (by simp;omega);have bR2:=Spares.box (W:=w1.drew) hb2 bR1 (by simpa using Ne.symm hnd);have hB2:Below B w w2:=hB1.drew.trans (hb2.below (by have:=hB1.size;omega) (fun b hb=>by rw [List.mem_singleton.1 hb];exact lo2));have hS3:Spares [hb] w2 ((w2.setCell ⟨hb,2,none⟩ (.pointer none)).setCell ⟨hb,2,none⟩ (.pointer none)):=((Spares.of_below (Below.refl _ _)).set (by simp) _ _).set (by simp) _ _;have bH3:=(bH2.set 2 (.pointer none)).set 2 (.pointer none);have hD3:=hD2.spared hS3 (by simpa using Ne.symm hne) (by obtain⟨n3,-,m3⟩:=hD2.dm;simpa using BoxN.Xw bH2 m3) (by obtain⟨n3,-,m3⟩:=hD2.nm;simpa using BoxN.Xw bH2 m3) (fun q hq=>by simpa using(hD2.sd q hq).ne bH2 (by decide)) (fun q hq=>by simpa using(hD2.sn q hq).ne bH2 (by decide));have hB3:Below B w ((w2.setCell ⟨hb,2,none⟩ (.pointer none)).setCell ⟨hb,2,none⟩ (.pointer none)):=(hB2.setCell (p:=⟨hb,2,none⟩) lo1 (.pointer none)).setCell (p:=⟨hb,2,none⟩) lo1 (.pointer none)
 have hTo:=fun W (hS:Spares [hb,db] ((w2.setCell ⟨hb,2,none⟩ (.pointer none)).setCell ⟨hb,2,none⟩ (.pointer none)) W)=>Vg n (.inr (by rcases hn with rfl | rfl <;> simp [Mm])) W (hG.below ((hB3.trans (hS.below (Nat.le_trans hBw hB3.size) (fun q hq=>by simp at hq;omega))).mono b9))
 have fz:=bH2.frozen 2;have h2:=bH2.cell 2 (v:=vv) rfl;have g0:=bF2.cell 0 (v:=.int .i64 a) rfl;have g1:=bF2.cell 1 (v:=.int .i64 a') rfl;have g2:=bF2.cell 2 (v:=.int .i64 c) rfl;have g3:=bF2.cell 3 (v:=.int .i64 d) rfl
 have nF:w.heap.size≠hb:=by omega
 have hn0:¬ n=0:=by omega
 simp only [Jf,if_neg hn0] at hTo;have hAf:=Xvr hb db rb md mn bd b (textL ls) a a' c d l2 f2 d0 d1 _ bH3 hD3;unfold Yo at hAf;have HB3:=Xb hB3;clear hD3 hD2 hO1 hD1 hB3
 go_wp2_with (first
  | (go_at_call 42;refine hAf.mono ?_;rintro e w4 ⟨rfl,bH4,hD4,hS4⟩)
  | (go_at_call 43;refine(hTo _ hS4).mono ?_;rintro e w5 ⟨rfl,hb5⟩))
 go_ret;obtain⟨mn',b',hmn,hD4⟩:=hD4;have hB4:=(Xa HB3).trans (hS4.below (Nat.le_trans hBw (Xa HB3).size) (fun q hq=>by simp at hq;omega));have hSp:Spares [hb,db] w w4:=((((Spares.of_below (bs:=[hb,db]) hB0).trans (Spares.X6 hg1 (by simp))).drew).trans (hb2.mono (by simp))).trans ((hS3.mono (by simp)).trans hS4)
 have hmn':mn'=mn\/w.heap.size<=mn':=by
  rcases hmn with h | h
  ·exact .inl h
  exact .inr (Nat.le_trans (Xa HB3).size h)
 exact⟨rfl,bH4.below hb5 bH4.lt,⟨mn',b',hmn',hD4.below hb5⟩,hB4.trans (hb5.mono (Nat.le_trans hBw hB4.size)),hSp.trans (Spares.of_below hb5)⟩
theorem Tryz.up0 (db b n:Nat) (m2 p l f dn:Value) (w:World) (hD:BoxN w db 100 #[.map (some b),m2,p,l,f,dn]) (hown:w.ownsMap prog 9 Ye b n (.map [])) :
  Calls prog 56 #[.pointer (some ⟨db,0,none⟩)] w fun e w'=>e=.returned (.tuple #[])/\(∃ b2,w.heap.size<=b2/\w'.ownsMap prog 9 Ye b2 0 (.map [])/\BoxN w' db 100 #[.map (some b),.map (some b2),.slice none 0 0,l,f,.bool false])/\w.grownBy w' (some db):=by
 have hmk:∀ W,(Instr.makeMap 97 none).run prog W=.ok (.map (some W.heap.size)) (W.alloc (.map #[] 0)):=fun W=>run_makeMap _ W
 have d0:=hD.cell 0 (v:=.map (some b)) rfl;have d1:=hD.cell 1 (v:=m2) rfl;have d2:=hD.cell 2 (v:=p) rfl;have d5:=hD.cell 5 (v:=dn) rfl;have f1:=hD.frozen 1;have f2:=hD.frozen 2;have f5:=hD.frozen 5;have lD:=hD.lt;go_enter func56,ntmps56;have hne:=hD.ne_map hown;have hown1:=(hown.setCell (a:=⟨db,1,none⟩) hne (.map (some w.heap.size))).alloc (.map #[] 0)
 go_wp2_with (first
  | (at_range;refine wpList_range_own _ rfl _ 97 rfl 9 101 (string_keyed underlying9) underlying97 _ b n _ rfl hown1 ?_;intro w1 hrg hg1 hs1)
  | go_in)
 have bD1:BoxN w1 db 100 #[.map (some b),.map (some w.heap.size),p,l,f,dn]:=((hD.set 1 (.map (some w.heap.size))).alloc (.map #[] 0)).kept hg1 (by simp);have hMn0:=World.ownsMap_made (w.setCell ⟨db,1,none⟩ (.map (some w.heap.size))) prog 9 Ye;have hMn1:=hMn0.kept hg1 (by simp);rw [World.size_setCell] at hMn1
 have hgr:w.grownBy w1 (some db):=⟨hg1.os,hg1.tape,hg1.output,by rw [hs1];simp;omega,fun k hk hnk=>by
  have hd:k≠db:=fun e=>hnk (by rw [e])
  rw [hg1.block k (by simp;omega) (by simp)]
  show (((w.setCell ⟨db,1,none⟩ (.map (some w.heap.size))).heap.push _)[k]?)=_
  rw [Array.getElem?_push_lt (by simpa using hk),<- Array.getElem?_eq_getElem,Yt _ _ _ _ _ hd]⟩
 have HG:=Xb hgr;clear hgr hg1 hs1 hown1 hown d0 d1 d2 d5 f1 f2 f5;have d2:=bD1.cell 2 (v:=p) rfl;have d5:=bD1.cell 5 (v:=dn) rfl;have f2:=bD1.frozen 2;have f5:=bD1.frozen 5;refine wp_loop_rounds 1 ?_;rw [rounds_succ]
 go_wp2_with (first
  | (at_next;refine wpList_next_ranges _ rfl _ rfl 9 (string_keyed underlying9) Ye (fun v:Value=>v) (fun v:Value=>v) (fun v _ _=>⟨v,rfl⟩) (fun v _ _=>⟨v,rfl⟩) b _ n _ _ _ rfl hrg ?_ ?_)
  | go_in)
 ·intro _ _
  clear hrg;go_wp2
  go_end0
  have hnn:=bD1.ne_map hMn1;exact⟨rfl,⟨_,Nat.le_refl _,(hMn1.setCell (a:=⟨db,2,none⟩) hnn _).setCell (a:=⟨db,5,none⟩) hnn _,(bD1.set 2 _).set 5 _⟩,(Xa HG).andThen (Xeu w1 db 2 5 _ _) (fun j e=>.inr e)⟩
 intro x c kl y yp w' cnt' _ h2;have h3:false=true:=h2;cases h3
theorem Tryz.Xvf (db md mn:Nat) (fn:Option (Nat × List UInt8)) (l f:Int) (ke pa:Int) (p0 : -9223372036854775808<=pa) (p1:pa<=9223372036854775807) (w:World) (hD:Xj w db md mn none fn (.slice none 0 0) l f) :
  Calls prog 54 #[.pointer (some ⟨db,0,none⟩),.int .i64 ke,.int .i64 pa] w fun e w'=>e=.returned (.tuple #[])/\∃ mn',w.heap.size<=mn'/\Xj w' db md mn' none none (.slice none 0 0) (-1) (-1)/\Spares [db] w w':=by
 have hP:=fun W=>Xmc pa p0 p1 W
 have hmk:∀ W,(Instr.makeMap 170 none).run prog W=.ok (.map (some W.heap.size)) (W.alloc (.map #[] 0)):=fun W=>run_makeMap _ W
 have d2:=hD.box.cell 2 (v:=.slice none 0 0) rfl;have d3:=hD.box.cell 3 (v:=.int .i64 l) rfl;have d4:=hD.box.cell 4 (v:=.int .i64 f) rfl;have f3:=hD.box.frozen 3;have f4:=hD.box.frozen 4;have lD:=hD.lt;obtain⟨n,hn,hm⟩:=hD.dm
 change w.ownsMap prog 9 Ye md n (.map []) at hm
 have lM:=hm.lt
 have hU:=fun W (hS:Spares [db] w W) (bD:BoxN W db 100 #[.map (some md),.map (some mn),.slice none 0 0,.int .i64 (-1),.int .i64 (-1),.bool false])=>up0 db md n _ _ _ _ _ W bD (hS.map hm (by have:=hD.box.ne_map hm;simpa using this))
 have hS1:Spares [db] w (((w.setCell ⟨db,3,none⟩ (.int .i64 (-1))).setCell ⟨db,4,none⟩ (.int .i64 (-1))).alloc (.map #[] 0)):=(((Spares.of_below (Below.refl _ w)).set (by simp) _ _).set (by simp) _ _).alloc (.map #[] 0);have bD1:BoxN (((w.setCell ⟨db,3,none⟩ (.int .i64 (-1))).setCell ⟨db,4,none⟩ (.int .i64 (-1))).alloc (.map #[] 0)) db 100 #[.map (some md),.map (some mn),.slice none 0 0,.int .i64 (-1),.int .i64 (-1),.bool false]:=((hD.box.set 3 _).set 4 _).alloc (.map #[] 0);go_enter func54,ntmps54
 go_wp2_with (go_at_call 97;refine(hP _).mono ?_;rintro e w1 ⟨⟨z,rfl⟩,rfl⟩)
 refine wp_loop_rounds 1 ?_;rw [rounds_succ]
 go_wp2_with (go_at_call 56;refine(hU _ hS1 bD1).mono ?_;rintro e w2 ⟨rfl,⟨mn',hge,hM2,bD2⟩,hg2⟩;have hS2:Spares [db] _ w2:=Spares.X6 hg2 (by simp))
 go_end0
 have hS3:=hS1.trans hS2;have hz1:=hS1.size;have hdb:=hD.box.ne_map hm;exact⟨rfl,mn',Nat.le_trans hz1 hge,⟨bD2,⟨n,hn,hS3.map hm (by simpa using hdb)⟩,⟨0,by omega,hM2⟩,fun q hq=>(by cases hq),fun q hq=>(by cases hq),by omega⟩,hS3⟩
theorem Tryz.Xuw (hb db rb md mn:Nat) (vv:Value) (fn:Option (Nat × List UInt8)) (l f:Int) (ke pa:Int) (p0 : -9223372036854775808<=pa) (p1:pa<=9223372036854775807) (w:World) (hH:BoxN w hb 78 #[.pointer (some ⟨db,0,none⟩),.pointer (some ⟨rb,0,none⟩),vv]) (hD:Xj w db md mn none fn (.slice none 0 0) l f) :
  Calls prog 32 #[.pointer (some ⟨hb,0,none⟩),.int .i64 ke,.int .i64 pa] w fun e w'=>e=.returned (.tuple #[])/\BoxN w' hb 78 #[.pointer (some ⟨db,0,none⟩),.pointer (some ⟨rb,0,none⟩),.pointer none]/\∃ mn',w.heap.size<=mn'/\Xj w' db md mn' none none (.slice none 0 0) (-1) (-1)/\Spares [hb,db] w w':=by
 have hne:=hH.ne hD.box (by decide);have h0:=hH.cell 0 (v:=.pointer (some ⟨db,0,none⟩)) rfl;have h2:=hH.cell 2 (v:=vv) rfl;have f2:=hH.frozen 2;obtain⟨n,hn,hm⟩:=hD.dm;obtain⟨n',hn',hm'⟩:=hD.nm;have hS1:Spares [hb] w (w.setCell ⟨hb,2,none⟩ (.pointer none)):=(Spares.of_below (Below.refl _ w)).set (by simp) _ _;have bH1:=hH.set 2 (.pointer none);have hD1:=hD.spared hS1 (by simpa using Ne.symm hne) (by simpa using hH.ne_map hm) (by simpa using hH.ne_map hm') (fun q hq=>by have:=(hD.sd q hq).ne hH (by decide);simpa using this) (fun q hq=>by have:=(hD.sn q hq).ne hH (by decide);simpa using this);have hC:=Xvf db md mn fn l f ke pa p0 p1 _ hD1;go_enter func32,ntmps32
 go_wp2_with (go_at_call 54;refine hC.mono ?_;rintro e w2 ⟨rfl,mn',hge,hD2,hS2⟩)
 go_end0
 exact⟨rfl,hS2.box bH1 (by simpa using hne),mn',by simpa using hge,hD2,(hS1.mono (by simp)).trans (hS2.mono (by simp))⟩
theorem Tryz.Xtb (B hb db rb md mn:Nat) (vv ra rc:Value) (l f:Int) (now a a' c d:Int) (w:World) (hH:BoxN w hb 78 #[.pointer (some ⟨db,0,none⟩),.pointer (some ⟨rb,0,none⟩),vv]) (hD:Xj w db md mn none none (.slice none 0 0) l f) (hR:BoxN w rb 88 #[ra,rc]) (hlo:B<=hb/\B<=db/\B<=rb/\B<=md/\B<=mn) (hBw:B<=w.heap.size) (b9:9<=B) (hE:Env w) (hG:Ja w) (t0:0<=now) (t1:now<=18446744073709551615) :
  Calls prog 33 #[.pointer (some ⟨hb,0,none⟩),.int .u64 now,Yo a a' c d] w fun e w'=>e=.returned (.int .i64 0)/\(∃ k vx,Sys B w' hb rb ⟨k,vx,now,⟨0,0,[rootE],[]⟩,[]⟩)/\Below B w w'/\Spares [hb,db] w w':=
 Xqh B hb db rb md mn _ _ vv ra rc l f now a a' c d _ _ _ w hH hD hR hlo hBw b9 hG (fun W hD' hb'=>(Xi9 db md mn rb a a' now W hD' (hE.below hb' (by omega)) (by have:=hb'.size;omega) (hG.below (hb'.mono b9)) t0 t1 ⟨by omega,by omega,by omega⟩).mono (fun e w' h=>by
  obtain⟨vb,mt,ml,jb,rfl,h1,h2,h3⟩:=h
  exact⟨vb,mt,ml,jb,rfl,⟨_,_,h1⟩,h2,Spares.of_below h3⟩))
structure Tryz.Dn (B:Nat) (W:World) (hb rb:Nat) (tm:Int) (s:VSt) (c:List UInt8):Prop where
 ex:∃ db md mn fd fn vv l f,BoxN W hb 78 #[.pointer (some ⟨db,0,none⟩),.pointer (some ⟨rb,0,none⟩),vv]/\Tryz.Xj W db md mn fd fn (.slice none 0 0) l f/\Fl fd c/\Fl fn c/\B<=db/\B<=md/\B<=mn
 rv:∃ ra rc,BoxN W rb 88 #[ra,rc]
 rlow:B<=rb
 hlow:B<=hb
 b9:9<=B
 bw:B<=W.heap.size
 env:Tryz.Env W
 err:Tryz.Ja W
 log:Log tm s c
 len:c.length<4294967281
theorem Tryz.Sys.dn {B hb rb:Nat} {σ:SS} {W:World} (h:Sys B W hb rb σ) (hbw:B<=W.heap.size) (hl:σ.c.length<4294967281):Dn B W hb rb σ.tm σ.s σ.c:=by
 obtain⟨fd,fn,hd,e1,e2⟩:=h.wh.d;exact⟨⟨_,_,_,fd,fn,_,_,_,h.host,hd,e1,e2,h.low _ (by simp [Blk.turns]),h.low _ (by simp [Blk.turns]),h.low _ (by simp [Blk.turns])⟩,h.rvb,h.rlow,h.hlow,h.b9,hbw,h.wh.v.va.env,h.err,h.wh.log,hl⟩
section
variable {B hb rb:Nat} {tm:Int} {s:VSt} {c:List UInt8} {W W':World}
theorem Tryz.Dn.other (h:Dn B W hb rb tm s c) {bs:List Nat} (hs:Spares bs W W') (hq:∀ b∈bs,X2 W b):Dn B W' hb rb tm s c:=by
 have hbx:∀ {b:Nat} {t:TypeId} {cs:Array Value},BoxN W b t cs->foreign t=false->b∉bs:=fun hB ht hm=>(hq _ hm).ne hB ht rfl
 obtain⟨db,md,mn,fd,fn,vv,l,f,hH,hd,e1,e2,l1⟩:=h.ex;obtain⟨ra,rc,hr⟩:=h.rv;obtain⟨n3,-,m3⟩:=hd.dm;obtain⟨n4,-,m4⟩:=hd.nm;have h9:9<=W.heap.size:=Nat.le_trans h.b9 h.bw;have hB9:Below 9 W W':=hs.below h9 (fun b hm=>(hq b hm).1)
 exact { h with
  ex:=⟨db,md,mn,fd,fn,vv,l,f,hs.box hH (hbx hH (by decide)),hd.spared hs (hbx hd.box (by decide)) (fun hm=>(hq _ hm).ne_map m3 rfl) (fun hm=>(hq _ hm).ne_map m4 rfl) (fun q hq'=>hbx (hd.sd q hq') (by decide)) (fun q hq'=>hbx (hd.sn q hq') (by decide)),e1,e2,l1⟩
  rv:=⟨ra,rc,hs.box hr (hbx hr (by decide))⟩
  bw:=Nat.le_trans h.bw hs.size
  env:=h.env.below hB9 (by decide)
  err:=h.err.below hB9 }
theorem Tryz.Dn.below (h:Dn B W hb rb tm s c) (hB:Below W.heap.size W W'):Dn B W' hb rb tm s c:=h.other (bs:=[]) (Spares.of_below hB) (by simp)
end
theorem Tryz.Xmw {B hb db:Nat} {W W':World} {cs ds:Array Value} (hH:BoxN W hb 78 cs) (hD:BoxN W db 100 ds) (h1:B<=hb) (h2:B<=db) (hs:Spares [hb,db] W W'):Z9 B W W':=⟨_,hs,fun b hm=>by
 simp only [List.mem_cons,List.not_mem_nil,or_false] at hm
 rcases hm with rfl | rfl
 ·exact⟨h1,fun hF=>hF.ne hH (by decide) rfl⟩
 exact⟨h2,fun hF=>hF.ne hD (by decide) rfl⟩⟩
theorem Tryz.Z9.below {B:Nat} {W W':World} (h:Z9 B W W') (hB:B<=W.heap.size):Below B W W':=by
 obtain⟨hs,h1,h2⟩:=h;exact h1.below hB (fun b hb=>(h2 b hb).1)
theorem Xb6 {fd:Option (Nat × List UInt8)} {c:List UInt8} (h:Fl fd c):(c = []/\fd=none)\/(c ≠ []/\∃ b,fd=some (b,c)):=by
 by_cases hc:c = []
 ·exact .inl ⟨hc,h.2 hc⟩
 exact .inr ⟨hc,Xc0 h.1 hc⟩
theorem Tryz.Xqo {B hb rb:Nat} {tm:Int} {s:VSt} {c:List UInt8} {w:World} (h:Dn B w hb rb tm s c) (ke pa:Int) (p0 : -9223372036854775808<=pa) (p1:pa<=9223372036854775807) :
  Calls prog 32 #[.pointer (some ⟨hb,0,none⟩),.int .i64 ke,.int .i64 pa] w fun e w'=>e=.returned (.tuple #[])/\Dn B w' hb rb tm s c/\Z9 B w w':=by
 obtain⟨db,md,mn,fd,fn,vv,l,f,hH,hd,e1,e2,l1,l2,l3⟩:=h.ex;obtain⟨ra,rc,hr⟩:=h.rv;have b9:=h.b9;have bw:=h.bw
 have fin:∀ w' (o:Option (Nat × List UInt8)) (mn':Nat),Fl o c->w.heap.size<=mn'->BoxN w' hb 78 #[.pointer (some ⟨db,0,none⟩),.pointer (some ⟨rb,0,none⟩),.pointer none]->Xj w' db md mn' o o (.slice none 0 0) (-1) (-1)->Spares [hb,db] w w'->Dn B w' hb rb tm s c/\Z9 B w w':=fun w' o mn' ho hmn bH hD hs=>by
  have hSp:=Xmw hH hd.box h.hlow l1 hs;have hB:=hSp.below bw;have hB9:=hB.mono b9;refine⟨{ h with ex:=⟨db,md,mn',o,o,_,_,_,bH,hD,ho,ho,l1,l2,by omega⟩,rv:=⟨ra,rc,hs.box hr ?_⟩,bw:=Nat.le_trans bw hB.size,env:=h.env.below hB9 (by decide),err:=h.err.below hB9 },hSp⟩;simp only [List.mem_cons,List.not_mem_nil,or_false,not_or];exact⟨Ne.symm (hH.ne hr (by decide)),Ne.symm (hd.box.ne hr (by decide))⟩
 rcases Xb6 e1 with⟨hc,rfl⟩ | ⟨hc,bd,rfl⟩
 ·refine(Xuw hb db rb md mn _ fn _ _ ke pa p0 p1 w hH hd).mono ?_
  rintro e w' ⟨rfl,bH,mn',hmn,hD,hs⟩;exact⟨rfl,fin w' none mn' (by rw [hc];exact Fl.none) hmn bH hD hs⟩
 refine(Xop hb db rb md mn bd _ c fn _ _ ke pa p0 p1 w hH hd).mono ?_;rintro e w' ⟨rfl,bH,mn',hmn,hD,hs⟩;exact⟨rfl,fin w' (some (bd,c)) mn' (Fl.some hc) hmn bH hD hs⟩
theorem Tryz.Xlq {B hb rb:Nat} {tm:Int} {s:VSt} {c:List UInt8} {w:World} (h:Dn B w hb rb tm s c) (now a a' ke pa:Int) (t0:0<=now) (t1:now<=18446744073709551615) (ha:c = []\/(a≠0/\a'≠0)) :
  Calls prog 33 #[.pointer (some ⟨hb,0,none⟩),.int .u64 now,Yo a a' ke pa] w fun e w'=>e=.returned (.int .i64 0)/\(∃ k vx T,(now<=T/\(T<=now\/T<=tm))/\Sys B w' hb rb ⟨k,vx,T,s,c⟩)/\Z9 B w w':=by
 obtain⟨db,md,mn,fd,fn,vv,l,f,hH,hd,e1,e2,l1,l2,l3⟩:=h.ex;obtain⟨ra,rc,hr⟩:=h.rv;obtain⟨ls,hok,hs,hcc,hle⟩:=h.log.ex;have hl:=h.len
 have lo:B<=hb/\B<=db/\B<=rb/\B<=md/\B<=mn:=⟨h.hlow,l1,h.rlow,l2,l3⟩
 rcases Xb6 e1 with⟨hc,rfl⟩ | ⟨hc,bd,rfl⟩
 ·obtain⟨-,rfl⟩:c = []/\fn=none:=by
   rcases Xb6 e2 with h2 | h2
   ·exact h2
   exact absurd hc h2.1
  subst hc
  have hnil:ls = []:=Classical.byContradiction fun hn=>Xbz hn hcc.symm
  subst hnil;refine(Xtb B hb db rb md mn _ ra rc _ _ now a a' ke pa w hH hd hr lo h.bw h.b9 h.env h.err t0 t1).mono ?_;rintro e w' ⟨rfl,⟨k,vx,hS⟩,-,hsp⟩;rw [show (⟨0,0,[rootE],[]⟩:VSt)=s from hs.symm] at hS;exact⟨rfl,⟨k,vx,now,⟨Int.le_refl _,.inl (Int.le_refl _)⟩,hS⟩,Xmw hH hd.box h.hlow l1 hsp⟩
 obtain⟨b,rfl⟩:∃ b,fn=some (b,c):=by
  rcases Xb6 e2 with h2 | h2
  ·exact absurd h2.1 hc
  exact h2.2
 have hnel:ls ≠ []:=fun e=>by rw [e] at hcc;exact hc hcc
 obtain⟨ha1,ha2⟩:a≠0/\a'≠0:=by
  rcases ha with e | e
  ·exact absurd e hc
  exact e
 subst hcc;refine(Xv9 B hb db rb md mn bd b _ ra rc _ _ now a a' ke pa ha1 ha2 ls hok hnel hl w hH hd hr lo h.bw h.b9 h.env h.err t0 t1).mono ?_;rintro e w' ⟨rfl,⟨k,vx,hS⟩,-,hsp⟩;rw [<- hs] at hS;refine⟨rfl,⟨k,vx,_,⟨(Xkt ls now).1,?_⟩,hS⟩,Xmw hH hd.box h.hlow l1 hsp⟩
 have key:∀(ls:List Yd) (t:Int),(∀ l∈ls,l.tm<=tm)->tmL t ls<=t\/tmL t ls<=tm:=fun ls=>by
  induction ls with
  | nil=>intro t _;exact .inl (Int.le_refl _)
  | cons x ls ih =>
   intro t hx;have h1:=hx x (by simp);have h2:=ih (max t x.tm) (fun l hl=>hx l (List.mem_cons_of_mem _ hl))
   show tmL (max t x.tm) ls<=t\/tmL (max t x.tm) ls<=tm
   omega
 exact key ls now hle
theorem Tryz.Xt0 {B hb rb:Nat} {tm:Int} {s:VSt} {c:List UInt8} (now a a' ke pa:Int) (t0:0<=now) (t1:now<=18446744073709551615) (p0 : -9223372036854775808<=pa) (p1:pa<=9223372036854775807) :
  ∃ n:Int,(n=0\/(n=8/\a=0)\/(n=7/\a'=0))/\∀ w,Dn B w hb rb tm s c->Calls prog 33 #[.pointer (some ⟨hb,0,none⟩),.int .u64 now,Yo a a' ke pa] w fun e w'=>e=.returned (.int .i64 n)/\Dn B w' hb rb (max tm now) s c/\Z9 B w w':=by
 by_cases hw:c = []\/(a≠0/\a'≠0)
 ·refine⟨0,.inl rfl,fun w h=>(Xlq h now a a' ke pa t0 t1 hw).mono ?_⟩
  rintro e w' ⟨rfl,⟨k,vx,T,hT,hS⟩,hsp⟩;have hd:=hS.dn (Nat.le_trans h.bw (hsp.below h.bw).size) h.len;exact⟨rfl,{ hd with log:=h.log.mono (by omega) },hsp⟩
 have hc:c ≠ []:=fun e=>hw (.inl e)
 obtain⟨n,hn,hev⟩:∃ n:Int,((n=8/\a=0)\/(n=7/\a'=0))/\evD a a'=.iface 33 (.int .i64 n):=by
  by_cases ha:a=0
  ·exact⟨8,.inl ⟨rfl,ha⟩,Xfl ha⟩
  have ha':a'=0:=Classical.byContradiction fun e=>hw (.inr ⟨ha,e⟩)
  exact⟨7,.inr ⟨rfl,ha'⟩,Xd8 ha ha'⟩
 refine⟨n,.inr hn,fun w h=>?_⟩;obtain⟨db,md,mn,fd,fn,vv,l,f,hH,hd,e1,e2,l1,l2,l3⟩:=h.ex;obtain⟨ra,rc,hr⟩:=h.rv;obtain⟨ls,hok,hs,hcc,hle⟩:=h.log.ex;obtain⟨bd,rfl⟩:=Xc0 e1.1 hc;obtain⟨b,rfl⟩:=Xc0 e2.1 hc;have hl:=h.len
 have hnel:ls ≠ []:=fun e=>by rw [e] at hcc;exact hc hcc
 have hlog:=h.log;subst hcc;refine(Xvc B hb db rb md mn bd b _ ra rc _ _ now a a' ke pa p0 p1 n (by omega) hev ls hok hnel hl w hH hd hr ⟨h.hlow,l1,h.rlow,l2,l3⟩ h.bw h.b9 h.env h.err t0 t1).mono ?_;rintro e w' ⟨rfl,bH,⟨mn',b',hmn,hD⟩,hB,hsp⟩;have hB9:=hB.mono h.b9;have bw:=h.bw;refine⟨rfl,{ h with ex:=⟨db,md,mn',_,_,_,_,_,bH,hD,Fl.some hc,Fl.some hc,l1,l2,by omega⟩,rv:=⟨ra,rc,hsp.box hr ?_⟩,bw:=Nat.le_trans bw hB.size,env:=h.env.below hB9 (by decide),err:=h.err.below hB9,log:=hlog.mono (by omega) },Xmw hH hd.box h.hlow l1 hsp⟩;simp only [List.mem_cons,List.not_mem_nil,or_false,not_or];exact⟨Ne.symm (hH.ne hr (by decide)),Ne.symm (hd.box.ne hr (by decide))⟩
def Xj3 (j:Nat):Int:=2 ^ (63-j)
theorem Xpb {j:Nat} (h:j<62):Xj3 j / 2=Xj3 (j+1)/\(Xj3 j % 2==1)=false:=by
 unfold Xj3;rw [show 63-j=(63-(j+1))+1 by omega,Int.pow_succ];generalize (2:Int) ^ (63-(j+1))=x
 constructor
 ·omega
 simp
theorem Tryz.Xvj {B wb hb rb ra g cap N tn ln nt nl:Nat} {k:Blk} {vx:VX} {tm:Int} {b a0:TS} {L:List ThingD} {v:Value} (w:World) (b9:9<=B) (hBw:B<=w.heap.size) (hbw:B<=wb) (hra:B<=ra) (hS:Sys B w hb rb ⟨k,vx,tm,b.s,b.c⟩) (hrow:w.ownsRow B 9 1 v b.cl.length (b.cl.map fun p=>.string ⟨(nmStr p.1 p.2).toArray⟩)) (hR:Xk B w ra g cap L tm ((tn+1:Nat):Int) ((ln+1:Nat):Int)) (bW:BoxN w wb 69 #[.pointer (some ⟨hb,0,none⟩),.pointer (some ⟨ra,0,none⟩),.pointer none,.bool false,.bool false])
  (hT:Tk tm ((48*N:Nat):Int) b a0 L []) (hfl:a0.fl=Xj3 0) (hcl:a0.cl.length=0) (h48:b.cl.length<=48) (hs0:a0.s.tn=tn/\a0.s.ln=ln/\a0.s.tks.length<=nt/\a0.s.lks.length<=nl) :
  Calls prog 103 #[.pointer (some ⟨wb,0,none⟩),v] w fun e w'=>e=.returned (.bool true)/\∃ g' cap' L' xs,Sys B w' hb rb ⟨k,vx,tm,b.s,b.c⟩/\Xk B w' ra g' cap' L' tm ((tn+1:Nat):Int) ((ln+1:Nat):Int)/\BoxN w' wb 69 #[.pointer (some ⟨hb,0,none⟩),.pointer (some ⟨ra,0,none⟩),.pointer none,.bool false,.bool false]/\Tk tm ((48*N:Nat):Int) b b L' xs/\(b.s.tn=tn/\b.s.ln=ln/\b.s.tks.length<=nt/\b.s.lks.length<=nl)/\Below B w w':=by
 obtain⟨p,ccap,rfl,hcs⟩:=Ur (xs:=b.cl.map fun p=>nmStr p.1 p.2) (by rw [List.map_map];exact hrow) (by simp)
 obtain⟨n,hnn⟩:∃ n,b.cl.length=n:=⟨_,rfl⟩
 rw [List.length_map,hnn];rw [List.length_map,hnn] at hrow;rw [hnn] at h48;have Hnn:=Xb hnn;have Hrow:=Xb hrow;have HS:=Xb hS;have HT0:=Xb hT;have Hs0:=Xb hs0;have Hf0:=Xb hfl
 have hpl:∀ q,p=some ⟨q,0,none⟩->q<w.heap.size:=fun q e=>by
  obtain⟨-,cs,hc⟩:=Xm hrow (g:=q) (by rw [e];rfl);exact hc.lt
 have lra:=hR.v.lt;have lgg:=hR.glt;clear hnn hcs hS hT hs0 hfl hrow;go_enter func103,ntmps103;go_wp2
 go_loopw [5,6] (fun tv iv wr=>∃(j:Nat) (a:TS) (L':List ThingD) (xs:List (List UInt8)) (g' cap':Nat),j<=n/\iv=.int .i64 j/\a.cl.length=j/\Hid (a.fl=Xj3 j)/\Hid (Tk tm ((48*N:Nat):Int) b a L' xs)/\wr.ownsRow w.heap.size 9 1 tv j (xs.map fun x=>.string ⟨x.toArray⟩)/\Xk B wr ra g' cap' L' tm ((tn+1:Nat):Int) ((ln+1:Nat):Int)/\(g'=g\/w.heap.size<=g')/\BoxN wr wb 69 #[.pointer (some ⟨hb,0,none⟩),.pointer (some ⟨ra,0,none⟩),.pointer none,.bool false,.bool false]/\Spares [ra,g] w wr/\Hid (a.s.tn=tn/\a.s.ln=ln/\a.s.tks.length<=nt/\a.s.lks.length<=nl)) (fun _ iv _=>n-(intOf iv).toNat)
 case atStart=>exact⟨0,a0,L,[],g,cap,Nat.zero_le _,rfl,hcl,Hf0,HT0,World.ownsRow_nil _ _ _ _,hR,.inl rfl,bW,Spares.of_below (Below.refl _ _),Hs0⟩
 case round =>
  obtain⟨j,a,L',xs,g',cap',hj,rfl,haj,Hfl,HT,hrow,hRr,hg',bWr,hspr,Hs⟩:=hrel;have hxl:xs.length=j:=(Xa HT).len.trans haj;have hDu:=rDue B ra g' cap' L' tm _ _ xs u5 wr hRr (Ur hrow hxl) (by omega);have c1:=bWr.cell 1 (v:=.pointer (some ⟨ra,0,none⟩)) rfl
  by_cases hjn:j<n
  ·obtain⟨c,i,th,kd,nm,hi,hdue,hcn,hid,hi0,⟨hm,ht0,ht1⟩,hcf,hccl,hcs,hbr⟩:=(Xa HT).step (by have:=Xa Hnn;omega)
   rw [hdue] at hDu;simp only [Xkl] at hDu;have hil:i<L'.length:=(List.getElem?_eq_some_iff.1 hi).1;have hlim:=hRr.lim
   have hrc:∃ q,p=some ⟨q,0,none⟩/\q<wr.heap.size/\wr.cell? ⟨q,j,none⟩=some (.string ⟨th.id.toArray⟩):=by
    have hr:=hspr.J2 (Xa Hrow) (fun g'' e=>by
     obtain⟨-,cs,hc⟩:=Xm (Xa Hrow) (g:=g'') e;obtain⟨cc,hg2⟩:=hR.Xbn;simp only [List.mem_cons,List.not_mem_nil,or_false,not_or]
     exact⟨hc.ne hR.v (by decide),hc.ne hg2 (by decide)⟩)
    obtain⟨p2,cap2,e2,h2⟩:=Ur (xs:=b.cl.map fun p=>nmStr p.1 p.2) (by rw [List.map_map];exact hr) (by rw [List.length_map];exact Xa Hnn);cases e2;have:=h2 j (nmStr kd nm) (by rw [List.getElem?_map,<- haj,hcn];rfl);rw [<- hid] at this;exact this
   obtain⟨q,rfl,hq,hqc⟩:=hrc;have hnum:=hRr.num th hm
   have hId:=fun W=>rId th hnum W
   obtain⟨len,hlen⟩:∃ len,L'.length=len:=⟨_,rfl⟩
   have Hlen:=Xb hlen;rw [hlen] at hil hlim;clear hlen;obtain⟨hf2,hodd⟩:=Xpb (j:=j) (by omega)
   have hTc:Hid (Tk tm ((48*N:Nat):Int) b c (L'.eraseIdx i) (xs ++ [th.id])):=Xb (by
    rcases hbr with⟨e1,-⟩ | ⟨-,h2⟩
    ·rw [Xa Hfl,hodd] at e1;cases e1
    exact h2)
   have Hfc:Hid (c.fl=Xj3 (j+1)):=Xb (by rw [hcf,Xa Hfl,hf2]);have Hcs:=Xb hcs;have Hi:=Xb hi;simp only [ThingD.cells] at hId;clear hbr hcs hm hdue hid hcn hcf hf2 hodd
   obtain⟨idv,hidv⟩:∃ idv,th.id=idv:=⟨_,rfl⟩
   rw [hidv] at hqc;have Hidv:=Xb hidv;simp only [hidv] at hId;clear hidv;have bWl:=bWr.lt;have lra':=hRr.v.lt;have lgr:=hRr.glt
   have hj63:((j:Int) != 63)=true:=by simp;omega
   obtain⟨i0,hi',hz0,hz1,hz2⟩:=info_parts Xbo
   have hrl:∀ x,u5.ownBlock=some x->w.heap.size<=x/\x<wr.heap.size:=fun x e=>by obtain⟨h1,cs,hc⟩:=Xm hrow (g:=x) e;exact⟨h1,hc.lt⟩
   go_wp2_with (first
    | (go_at_call 104;refine hDu.mono ?_;rintro e w4 ⟨rfl,hb4⟩;have bW4:=bWr.below hb4 bWr.lt;have hR4:=hRr.below hb4;have d1:=bW4.cell 1 (v:=.pointer (some ⟨ra,0,none⟩)) rfl;have e0:=hR4.v.cell 0 (v:=.slice (some ⟨g',0,none⟩) len cap') (by rw [<- Xa Hlen];rfl);obtain⟨x0,x1,x2,x3,x4,x5,x6,x7⟩:=hR4.cells (Xa Hi);have qc4:=(hb4.cell (p:=⟨q,j,none⟩) hq).trans hqc)
    | (go_at_call 105;refine(hId _).mono ?_;rintro e w5 ⟨rfl,hb5⟩;have bW5:=bW4.below hb5 bW4.lt;have hR5:=hR4.below hb5;have qc5:=(hb5.cell (p:=⟨q,j,none⟩) (Nat.lt_of_lt_of_le hq hb4.size)).trans qc4;have d15:=bW5.cell 1 (v:=.pointer (some ⟨ra,0,none⟩)) rfl;have hrow5:=ownsRow_below (ownsRow_below hrow hb4) hb5;have bS5:=BoxN.new w5 9 #[.string ⟨idv.toArray⟩];have hsz5:=hb5.size)
    | (at_builtin;refine wpList_append_lies _ rfl _ _ 40 rfl w.heap.size 9 i0 _ 1 16 underlying40 hi' hz0 hz1 hz2 rfl (by decide) u5 j _ rfl (hrow5.alloc _) ⟨w5.heap.size,0,none⟩ 1 1 [.string ⟨idv.toArray⟩] rfl rfl (World.news_of_block bS5) (by simp [Value.oneCell']) (by omega) (by unfold maxLen;omega) (by omega) (by have:=hspr.size;have:=hb4.size;simp;omega) _ rfl ?_;intro g8 cap8 w8 hown hgrow hat hlt;have sp8:Spares u5.ownBlock.toList w5 w8:=((Spares.of_below (Below.refl _ w5)).alloc _).trans (Spares.Vz hgrow (fun r e=>by rw [e];simp));have hR8:=hR5.Zz sp8 (fun hm=>by obtain⟨-,cs,hc⟩:=Xm hrow5 (g:=ra) (by simpa using hm);exact hc.ne hR5.v (by decide) rfl) (fun hm=>by obtain⟨-,cs,hc⟩:=Xm hrow5 (g:=g') (by simpa using hm);obtain⟨cc,hg2⟩:=hR5.Xbn;exact hc.ne hg2 (by decide) rfl);have bW8:=sp8.box bW5 (fun hm=>by obtain⟨-,cs,hc⟩:=Xm hrow5 (g:=wb) (by simpa using hm);exact hc.ne bW5 (by decide) rfl);have d18:=bW8.cell 1 (v:=.pointer (some ⟨ra,0,none⟩)) rfl;have l8:=sp8.size;have Hown:=Xb hown;have hlt8:=hlt;clear hown hgrow hat hlt)
    | (go_at_call 107;refine(Xg5 B ra g' cap' L' tm _ _ w8 hR8 (by have:=hspr.size;have:=hb4.size;omega) hra i hi0 (by rw [Xa Hlen];exact hil)).mono ?_;rintro e w9 ⟨g7,cap7,rfl,hR9,hge9,hb9,hsp9⟩))
   go_roundw
   case rel =>
    have hw4:=hb4.size;have hwr:=hspr.size;obtain⟨-,cs8,hc8⟩:=Xm (Xa Hown) (g:=g8) rfl;obtain⟨cc8,hgb8⟩:=hR8.Xbn
    have hrow9:=hsp9.J2 (Xa Hown) (fun x hx hm=>by
     obtain rfl:g8=x:=by simpa [Value.ownBlock] using hx
     simp only [List.mem_cons,List.not_mem_nil,or_false] at hm
     rcases hm with e | e
     ·exact hc8.ne hR8.v (by decide) e
     exact hc8.ne hgb8 (by decide) e)
    have bW9:=hsp9.box bW8 (fun hm=>by
     simp only [List.mem_cons,List.not_mem_nil,or_false] at hm
     rcases hm with e | e
     ·exact bW8.ne hR8.v (by decide) e
     exact bW8.ne hgb8 (by decide) e)
    have hsp:Spares [ra,g] w w9:=(((hspr.trans (Spares.of_below hb4)).trans (Spares.of_below hb5)).Xnw sp8 (fun x hx=>.inr (hrl x (by simpa using hx)).1)).Xnw hsp9 (fun x hx=>by
     simp only [List.mem_cons,List.not_mem_nil,or_false] at hx ⊢
     rcases hx with rfl | rfl
     ·exact .inl (.inl rfl)
     rcases hg' with e | e
     ·exact .inl (.inr e)
     exact .inr e)
    obtain⟨y1,y2,y3,y4⟩:=Xa Hs;obtain⟨v1,v2,v3,v4⟩:=Xa Hcs;exact⟨j+1,c,_,_,g7,cap7,hjn,rfl,by omega,Hfc,hTc,by rw [List.map_append,List.map_cons,List.map_nil,Xa Hidv];exact hrow9,hR9,.inr (by omega),bW9,hsp,Xb ⟨v1.trans y1,v2.trans y2,by omega,by omega⟩⟩
   case measure=>simp [intOf];omega
  obtain⟨hab,hdn⟩:=(Xa HT).stop (by have:=Xa Hnn;omega);rw [hdn] at hDu;simp only [Xkl] at hDu;rw [hab] at HT Hs;clear hab;obtain⟨f1,f2⟩:=hR.foreign b9 (by omega)
  have hSr:Sys B wr hb rb ⟨k,vx,tm,b.s,b.c⟩:=(Y9 B hb rb _).other (Xa HS) hspr (fun x hx=>by
   simp only [List.mem_cons,List.not_mem_nil,or_false] at hx
   rcases hx with rfl | rfl
   ·exact f1
   exact f2)
  have hlk:=fun W (hb4:Below wr.heap.size wr W)=>looks B wb hb ra g' cap' k.vb k.mt k.ml vx tm b.s.tn b.s.ln _ _ b.s.tks b.s.lks L' _ _ _ _ _ _ W (bWr.below hb4 bWr.lt) (hSr.below hb4).host (hSr.below hb4).wh.v.va (hRr.below hb4) (Xa HT).inv.rel
  go_wp2_with (first
   | (go_at_call 104;refine hDu.mono ?_;rintro e w4 ⟨rfl,hb4⟩;have c14:=(bWr.below hb4 bWr.lt).cell 1 (v:=.pointer (some ⟨ra,0,none⟩)) rfl)
   | (go_at_call 38;refine(hlk _ hb4).mono ?_;rintro e w5 ⟨rfl,hb5⟩))
  go_ret;have hb45:=hb4.trans (hb5.mono hb4.size)
  exact⟨rfl,g',cap',L',xs,hSr.below hb45,hRr.below hb45,bWr.below hb45 bWr.lt,Xa HT,Xa Hs,(hspr.below hBw (fun x hx=>by
   simp only [List.mem_cons,List.not_mem_nil,or_false] at hx;have:=hR.Xpf
   rcases hx with rfl | rfl <;> omega)).trans (hb45.mono (Nat.le_trans hBw hspr.size))⟩
end Go.Proofs
