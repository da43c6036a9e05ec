import Derived.Test.YtjbekgjdempbiaaGreatDoorJHOpen
import Derived.Test.YtjbekgjdempbiaaGreatDoorJRel
import Derived.Test.YtjbekgjdempbiaaGreatDoorJStr
import Derived.Test.YtjbekgjdempbiaaGreatDoorJRefH
import Derived.Laws.OwnMore
import Derived.BigQuiet
import Derived.BigRegion
import Derived.WalkMore
import Derived.Deep.RegionHeld3
set_option maxRecDepth 100000
set_option maxHeartbeats 8000000
namespace Go.Proofs
open Go.RowKit Go.Sort Go.Lib Go.Shelf Go.Maps Go.WideMaps
theorem Tryz.up_one (db md n b:Nat) (m2 p l f dn:Value) (w:World) (hD:BoxN w db 100 #[.map (some md),m2,p,l,f,dn]) (hown:w.ownsMap prog 9 valR md n (fileD (some b))) :
  Calls prog 56 #[.pointer (some ⟨db,0,none⟩)] w fun e w'=>e=.returned (.tuple #[])∧∃ b2,w.heap.size≤b2∧w'.ownsMap prog 9 valR b2 1 (fileD (some b))∧BoxN w' db 100 #[.map (some md),.map (some b2),.slice none 0 0,l,f,.bool false]∧Spares [db] w w':=by
 have hmk:∀ W,(Instr.makeMap 97 none).run prog W=.ok (.map (some W.heap.size)) (W.alloc (.map #[] 0)):=fun W=>run_makeMap _ W
 have d0:=hD.cell 0 (v:=.map (some md)) rfl;have d1:=hD.cell 1 (v:=m2) rfl;have f1:=hD.frozen 1;have lD:=hD.lt;have lM:=hown.lt;go_enter func56,ntmps56;have hne:=hD.ne_map hown;have hown1:=(hown.setCell (a:=⟨db,1,none⟩) hne (.map (some w.heap.size))).alloc (.map #[] 0)
 go_wp2_with (first
  | (at_range;refine wpList_range_own _ rfl _ 97 rfl 9 101 (string_keyed underlying9) underlying97 _ md n _ rfl hown1 ?_;intro w1 hrg hg1 hs1)
  | go_in)
 have bD1:BoxN w1 db 100 #[.map (some md),.map (some w.heap.size),p,l,f,dn]:=((hD.set 1 (.map (some w.heap.size))).alloc (.map #[] 0)).kept hg1 (by simp);have hMn0:=World.ownsMap_made (w.setCell ⟨db,1,none⟩ (.map (some w.heap.size))) prog 9 valR;have hMn1:=hMn0.kept hg1 (by simp);rw [World.size_setCell] at hMn1;have hS1:Spares [db] w w1:=(((Spares.of_below (Below.refl _ w)).set (by simp) 1 (.map (some w.heap.size))).alloc (.map #[] 0)).trans ⟨hg1.os,hg1.tape,hg1.output,hg1.size,fun k hk _=>hg1.block k hk (by simp)⟩
 have hs1':w1.heap.size=w.heap.size+1+1:=by simpa using hs1
 have HS:=hid_intro hS1
 have hrr:((w.setCell ⟨db,1,none⟩ (.map (some w.heap.size))).alloc (.map #[] 0)).heap.size=w.heap.size+1:=by simp
 rw [hrr] at hrg ⊢;clear hS1 hg1 hs1 hown1 hown d0 d1 f1 hMn0;refine wp_loop_rounds 2 ?_;rw [rounds_succ]
 go_wp2_with (first
  | (at_next;refine wpList_next_ranges _ rfl _ rfl 9 (string_keyed underlying9) valR Value.string (fun v:Value=>v) (fun key kl hk=>by obtain⟨x,hx,_⟩:=string_of_keyOf underlying9 hk;exact⟨x,hx⟩) (fun v _ _=>⟨v,rfl⟩) md _ n _ _ _ rfl hrg ?_ ?_)
  | go_in)
 ·intro _ h0
  have h1:=h0 (.string jName);rw [fileD_has] at h1;cases h1
 ·intro x c kl y yp w' cnt' hk hl hv hat hrg2 hlt hgr hsz hen
  obtain rfl:=file_left hl;obtain⟨x',hx,hx2,-⟩:=string_of_keyOf underlying9 hk
  obtain rfl:x=x':=by cases hx;rfl
  have hxj:x=⟨#[106,111,117,114,110,97,108]⟩:=by
   have h3:jName=x.data.toList:=by injection hx2
   apply ByteArray.ext;rw [← Array.toArray_toList (xs:=x.data),← h3];rfl
  subst hxj
  have hcb:c=ptrV b:=by
   have h4:=hat (.lit (.bool true));rw [fileD_at] at h4;simp only at h4
   have h5:valR c=some (.held (ptrV b),yp):=by rw [h4];exact hv
   exact valR_held h5
  subst hcb;have bD2:=bD1.kept hgr (by intro e;injection e with e;omega);have hMn2:=hMn1.kept hgr (by intro e;injection e with e;omega);obtain⟨w3,hrun,hM3,hg3⟩:=storeF (o:=none) hMn2 (by omega) b;have bD3:=bD2.kept hg3 (by intro e;injection e with e;omega);have hrg3:=hrg2.kept hg3 (by intro e;injection e with e;omega) (by intro e;injection e with e;omega);have hS3:Spares [db] w w3:=spares_grown (spares_grown (hid_elim HS) hgr (by omega)) hg3 (by omega);unfold ptrV at hrun hen;have e1:=bD2.cell 1 (v:=.map (some w.heap.size)) rfl;clear hk hl hv hat hrg hrg2 hgr hlt hx hx2 hMn1 hMn2 hg3 HS;go_wp2;have k2:=bD3.cell 2 (v:=p) rfl;have k5:=bD3.cell 5 (v:=dn) rfl;have k2f:=bD3.frozen 2;have k5f:=bD3.frozen 5;clear hen hrun e1;rw [rounds_succ]
  go_wp2_with (first
   | (at_next;refine wpList_next_ranges _ rfl _ rfl 9 (string_keyed underlying9) valR (fun v:Value=>v) (fun v:Value=>v) (fun v _ _=>⟨v,rfl⟩) (fun v _ _=>⟨v,rfl⟩) md _ n _ _ _ rfl hrg3 ?_ ?_)
   | go_in)
  ·intro _ _
   clear hrg3;go_wp2
   go_end0
   have hnn:=bD3.ne_map hM3;exact⟨rfl,_,Nat.le_refl _,(hM3.setCell (a:=⟨db,2,none⟩) hnn _).setCell (a:=⟨db,5,none⟩) hnn _,(bD3.set 2 _).set 5 _,(hS3.set (by simp) _ _).set (by simp) _ _⟩
  ·intro x c kl y yp w'' cnt'' _ h2 h3
   obtain rfl:=file_left h2;exact absurd h3 (by decide)
theorem Tryz.pPick1 (c:Int) (h0 : -9223372036854775808≤c) (h1:c≤9223372036854775807) (w:World):Calls prog 97 #[.int .i64 c,.int .i64 1] w fun e w'=>(∃ z:Int,e=.returned (.int .i64 z))∧w'=w:=by
 by_cases hc:c<0
 ·go_enter func97,ntmps97
  go_wp2;go_ret;exact⟨⟨_,rfl⟩,rfl⟩
 ·go_enter func97,ntmps97
  go_wp2;go_ret;exact⟨⟨_,rfl⟩,rfl⟩
theorem Tryz.crash_one (db md mn b:Nat) (c:List UInt8) (fn:Option (Nat × List UInt8)) (l f:Int) (ke pa:Int) (p0 : -9223372036854775808≤pa) (p1:pa≤9223372036854775807) (w:World) (hD:DiskAt w db md mn (some (b,c)) fn (.slice none 0 0) l f) :
  Calls prog 54 #[.pointer (some ⟨db,0,none⟩),.int .i64 ke,.int .i64 pa] w fun e w'=>e=.returned (.tuple #[])∧∃ mn',w.heap.size≤mn'∧DiskAt w' db md mn' (some (b,c)) (some (b,c)) (.slice none 0 0) (-1) (-1)∧Spares [db] w w':=by
 have hP:=fun W=>pPick1 pa p0 p1 W
 have hmk:∀ W,(Instr.makeMap 170 none).run prog W=.ok (.map (some W.heap.size)) (W.alloc (.map #[] 0)):=fun W=>run_makeMap _ W
 have d2:=hD.box.cell 2 (v:=.slice none 0 0) rfl;have d3:=hD.box.cell 3 (v:=.int .i64 l) rfl;have d4:=hD.box.cell 4 (v:=.int .i64 f) rfl;have f3:=hD.box.frozen 3;have f4:=hD.box.frozen 4;have lD:=hD.lt;obtain⟨n,hn,hm⟩:=hD.dm
 change w.ownsMap prog 9 valR md n (fileD (some b)) at hm
 have hU:=fun W (hS:Spares [db] w W) (bD:BoxN W db 100 #[.map (some md),.map (some mn),.slice none 0 0,.int .i64 (-1),.int .i64 (-1),.bool false])=>up_one db md n b _ _ _ _ _ W bD (hS.map hm (by have:=hD.box.ne_map hm;simpa using this))
 have hS1:Spares [db] w (((w.setCell ⟨db,3,none⟩ (.int .i64 (-1))).setCell ⟨db,4,none⟩ (.int .i64 (-1))).alloc (.map #[] 0)):=(((Spares.of_below (Below.refl _ w)).set (by simp) _ _).set (by simp) _ _).alloc (.map #[] 0);have bD1:BoxN (((w.setCell ⟨db,3,none⟩ (.int .i64 (-1))).setCell ⟨db,4,none⟩ (.int .i64 (-1))).alloc (.map #[] 0)) db 100 #[.map (some md),.map (some mn),.slice none 0 0,.int .i64 (-1),.int .i64 (-1),.bool false]:=((hD.box.set 3 _).set 4 _).alloc (.map #[] 0);go_enter func54,ntmps54
 go_wp2_with (go_at_call 97;refine(hP _).mono ?_;rintro e w1 ⟨⟨z,rfl⟩,rfl⟩)
 refine wp_loop_rounds 1 ?_;rw [rounds_succ]
 go_wp2_with (go_at_call 56;refine(hU _ hS1 bD1).mono ?_;rintro e w2 ⟨rfl,mn',hge,hM2,bD2,hS2⟩)
 go_end0
 have hS3:=hS1.trans hS2;have hz1:=hS1.size;have hdb:=hD.box.ne_map hm;have bS:=hS3.box (hD.sd _ rfl) (by have:=(hD.sd _ rfl).ne hD.box (by decide);simpa using this);exact⟨rfl,mn',Nat.le_trans hz1 hge,⟨bD2,⟨n,hn,hS3.map hm (by simpa using hdb)⟩,⟨1,by omega,hM2⟩,fun q hq=>by cases hq;exact bS,fun q hq=>by cases hq;exact bS,by omega⟩,hS3⟩
theorem Tryz.hLose_one (hb db rb md mn b:Nat) (vv:Value) (c:List UInt8) (fn:Option (Nat × List UInt8)) (l f:Int) (ke pa:Int) (p0 : -9223372036854775808≤pa) (p1:pa≤9223372036854775807) (w:World) (hH:BoxN w hb 78 #[.pointer (some ⟨db,0,none⟩),.pointer (some ⟨rb,0,none⟩),vv]) (hD:DiskAt w db md mn (some (b,c)) fn (.slice none 0 0) l f) :
  Calls prog 32 #[.pointer (some ⟨hb,0,none⟩),.int .i64 ke,.int .i64 pa] w fun e w'=>e=.returned (.tuple #[])∧BoxN w' hb 78 #[.pointer (some ⟨db,0,none⟩),.pointer (some ⟨rb,0,none⟩),.pointer none]∧∃ mn',w.heap.size≤mn'∧DiskAt w' db md mn' (some (b,c)) (some (b,c)) (.slice none 0 0) (-1) (-1)∧Spares [hb,db] w w':=by
 have hne:=hH.ne hD.box (by decide);have h0:=hH.cell 0 (v:=.pointer (some ⟨db,0,none⟩)) rfl;have h2:=hH.cell 2 (v:=vv) rfl;have f2:=hH.frozen 2;obtain⟨n,hn,hm⟩:=hD.dm;obtain⟨n',hn',hm'⟩:=hD.nm;have hS1:Spares [hb] w (w.setCell ⟨hb,2,none⟩ (.pointer none)):=(Spares.of_below (Below.refl _ w)).set (by simp) _ _;have bH1:=hH.set 2 (.pointer none);have hD1:=hD.spared hS1 (by simpa using Ne.symm hne) (by simpa using hH.ne_map hm) (by simpa using hH.ne_map hm') (fun q hq=>by have:=(hD.sd q hq).ne hH (by decide);simpa using this) (fun q hq=>by have:=(hD.sn q hq).ne hH (by decide);simpa using this);have hC:=crash_one db md mn b c fn l f ke pa p0 p1 _ hD1;go_enter func32,ntmps32
 go_wp2_with (go_at_call 54;refine hC.mono ?_;rintro e w2 ⟨rfl,mn',hge,hD2,hS2⟩)
 go_end0
 exact⟨rfl,hS2.box bH1 (by simpa using hne),mn',by simpa using hge,hD2,(hS1.mono (by simp)).trans (hS2.mono (by simp))⟩
theorem Tryz.hOpen_one (B hb db rb md mn bd b:Nat) (vv ra rc:Value) (l f:Int) (now c d:Int) (ls:List LineD) (hok:OkL ls rootS) (hnel:ls ≠ []) (hlen:(textL ls).length<4294967281) (w:World) (hH:BoxN w hb 78 #[.pointer (some ⟨db,0,none⟩),.pointer (some ⟨rb,0,none⟩),vv]) (hD:DiskAt w db md mn (some (bd,textL ls)) (some (b,textL ls)) (.slice none 0 0) l f) (hR:BoxN w rb 88 #[ra,rc]) (hlo:B≤hb∧B≤db∧B≤rb∧B≤md∧B≤mn) (hBw:B≤w.heap.size) (b9:9≤B) (hE:Env w) (hG:ErrT w) (t0:0≤now) (t1:now≤18446744073709551615) :
  Calls prog 33 #[.pointer (some ⟨hb,0,none⟩),.int .u64 now,fallV (-1) (-1) c d] w fun e w'=>e=.returned (.int .i64 0)∧(∃ k vx,Sys B w' hb rb ⟨k,vx,tmL now ls,playL ls rootS,textL ls⟩)∧Below B w w'∧Spares [hb,db] w w':=by
 obtain⟨lo1,lo2,lo3,lo4,lo5⟩:=hlo;have hne:=hH.ne hD.box (by decide);have hnr:=hH.ne hR (by decide);have hnd:=hD.box.ne hR (by decide);have lH:=hH.lt;have lD:=hD.lt;have bF:=BoxN.new w 29 #[.int .i64 (-1),.int .i64 (-1),.int .i64 c,.int .i64 d];have hB0:Below w.heap.size w (w.alloc (.cells #[.int .i64 (-1),.int .i64 (-1),.int .i64 c,.int .i64 d] 29)):=(Below.refl _ w).alloc (Nat.le_refl _) _;have hBf:=before hb db _ _ _ _ _ _ _ _ (-1) (-1) c d _ (hH.alloc (.cells #[.int .i64 (-1),.int .i64 (-1),.int .i64 c,.int .i64 d] 29)) (hD.box.alloc _)
 have hO:=fun W (hD':DiskAt W db md mn (some (bd,textL ls)) (some (b,textL ls)) (.slice none 0 0) (-1) (-1)) (hb':Below B w W)=>open_one db md mn rb bd b (-1) (-1) now ls hok hnel hlen W hD' (by decide) (by decide) (by decide) (by decide) (hE.below hb' (by omega)) (by have:=hb'.size;omega) (hG.below (hb'.mono b9)) t0 t1 ⟨by omega,by omega,by omega⟩
 unfold fallV at hBf ⊢;go_enter func33,ntmps33
 go_wp2_with (go_at_call 40;refine hBf.mono ?_;rintro e w1 ⟨rfl,bD1,hg1⟩)
 have bH1:=(hH.alloc (.cells #[.int .i64 (-1),.int .i64 (-1),.int .i64 c,.int .i64 d] 29)).kept hg1 (by intro e;injection e with e;exact hne e);have bR1:=(hR.alloc (.cells #[.int .i64 (-1),.int .i64 (-1),.int .i64 c,.int .i64 d] 29)).kept hg1 (by intro e;injection e with e;exact hnd e.symm);have bF1:=bF.kept hg1 (by intro e;injection e with e;omega);have hD1:=(hD.below hB0).cells (Spares.of_grown hg1 (by simp)) bD1;have hB1:Below B w w1:=(hB0.mono hBw).grown hg1 (by simp;omega) (fun q hq=>by cases hq;exact lo2)
 have hP1:HostP hb db rb w1:=⟨bH1.cell 0 rfl,bH1.cell 1 rfl⟩
 have l1:=bH1.lt;have hO1:=hO w1.drew (hD1.below (Below.refl _ _).drew) hB1.drew;unfold diskV at hO1;clear hBf hO
 go_region_held3 (HostP hb db rb) (first
  | with_reducible exact HostP.drew hP1
  | with_reducible assumption) (first | (go_at_call 55;refine hO1.mono ?_;rintro e w2 ⟨vb,mt,ml,jb,rfl,hW2,hlo2,hb2⟩;have bH2:=Spares.box (W:=w1.drew) hb2 bH1 (by simpa using hne);have hP2:HostP hb db rb w2:=⟨bH2.cell 0 rfl,bH2.cell 1 rfl⟩))
 have hz1:w1.drew.heap.size=w1.heap.size:=rfl;have bF2:=Spares.box (W:=w1.drew) hb2 bF1 (by simp;omega);have bR2:=Spares.box (W:=w1.drew) hb2 bR1 (by simpa using Ne.symm hnd);have hB2:Below B w w2:=hB1.drew.trans (hb2.below (by have:=hB1.size;omega) (fun b hb=>by rw [List.mem_singleton.1 hb];exact lo2));have hS3:Spares [hb] w2 (w2.setCell ⟨hb,2,none⟩ (.pointer (some ⟨vb,0,none⟩))):=(Spares.of_below (Below.refl _ _)).set (by simp) _ _;have bH3:=bH2.set 2 (.pointer (some ⟨vb,0,none⟩));have bF3:=hS3.box bF2 (by simp;omega);have bR3:=hS3.box bR2 (by simpa using Ne.symm hnr)
 have hW3:=hW2.spared hS3 (fun b hb'=>by
  obtain⟨fd,fn,hd,-,-⟩:=hW2.d;obtain⟨n3,-,m3⟩:=hd.dm;obtain⟨n4,-,m4⟩:=hd.nm;have hz:=hlo2;simp only [Blk.turns,List.mem_cons,List.not_mem_nil,or_false] at hb';simp only [List.mem_singleton]
  rcases hb' with rfl | rfl | rfl | rfl | rfl | rfl
  ·omega
  ·omega
  ·omega
  ·exact Ne.symm hne
  ·exact BoxN.ne_map' bH2 m3
  ·exact BoxN.ne_map' bH2 m4) (by simp;omega) (fun b x hx=>by simpa using hx.ne bH2 (by decide)) (by simp;omega)
 have hB3:=hB2.setCell (p:=⟨hb,2,none⟩) lo1 (.pointer (some ⟨vb,0,none⟩));obtain⟨fd3,fn3,hD3,-,-⟩:=hW3.d;have hBa:=after hb db _ _ _ _ _ _ _ (-1) (-1) c d _ bH3 hD3.box;have fz:=bH2.frozen 2;have h2:=bH2.cell 2 (v:=vv) rfl;have g0:=bF2.cell 0 (v:=.int .i64 (-1)) rfl;have g1:=bF2.cell 1 (v:=.int .i64 (-1)) rfl;have g2:=bF2.cell 2 (v:=.int .i64 c) rfl;have g3:=bF2.cell 3 (v:=.int .i64 d) rfl
 have nF:w.heap.size≠hb:=by omega
 unfold fallV at hBa;have HW3:=hid_intro hW3;clear hW3 hW2 hD3
 go_wp2_with (first
  | (go_at_call 42;refine hBa.mono ?_;rintro e w4 ⟨rfl,bD4,hg4⟩)
  | (go_at_call 43;refine(told_nil _).mono ?_;rintro e w5 ⟨rfl,hb5⟩))
 go_ret;have kH:=bH3.kept hg4 (by intro e;injection e with e;exact hne e);have kR:=bR3.kept hg4 (by intro e;injection e with e;exact hnd e.symm);have hW4:=(hid_elim HW3).setLF (Spares.of_grown hg4 (by simp)) bD4;have hB4:=hB3.grown hg4 (by have:=hB3.size;omega) (fun q hq=>by cases hq;exact lo2);have hz:=hlo2
 have hSys:Sys B w4 hb rb ⟨⟨vb,mt,ml,jb,db,md,mn⟩,⟨.pointer (some ⟨jb,0,none⟩),.iface 75 (.pointer (some ⟨rb,0,none⟩)),false,.slice none 0 0⟩,tmL now ls,playL ls rootS,textL ls⟩:={
  host:=kH,wh:=hW4,err:=hG.below (hB4.mono b9),b9:=b9,hlow:=lo1,
  low:=fun b hb'=>by
   have:=hB1.size;simp only [Blk.turns,List.mem_cons,List.not_mem_nil,or_false] at hb'
   omega,
  rvb:=⟨_,_,kR⟩,rlow:=lo3,vrv:=rfl,vtk:=rfl,due:=World.ownsRow_nil _ _ _ _ }
 have hSp:Spares [hb,db] w w4:=((((Spares.of_below (bs:=[hb,db]) hB0).trans (Spares.of_grown hg1 (by simp))).drew).trans (hb2.mono (by simp))).trans ((hS3.mono (by simp)).trans (Spares.of_grown hg4 (by simp)));exact⟨rfl,⟨_,_,hSys.below hb5⟩,hB4.trans (hb5.mono (by have:=hB4.size;omega)),hSp.trans (Spares.of_below hb5)⟩
end Go.Proofs
namespace Go.Proofs
open Go.RowKit Go.Sort Go.Lib Go.Shelf Go.Maps
attribute [local go_sem] Oper.semAt_some
end Go.Proofs
namespace Go.Proofs
open Go.RowKit Go.Sort
structure TurnD where
 at_:Int
 k:Int
 n:Int
def TurnD.cells (t:TurnD):Array Value:=#[.int .u64 t.at_,.int .i64 t.k,.int .u64 t.n]
def cmpT (x y:TurnD):Int:=orI (cmpI x.at_ y.at_) (orI (cmpI y.k x.k) (cmpI x.n y.n))
theorem Tryz.cmpOr3 (a b c:Int) (blk:Nat) (w:World) (h0:w.cell? ⟨blk,0,none⟩=some (.int .i64 a)) (h1:w.cell? ⟨blk,1,none⟩=some (.int .i64 b)) (h2:w.cell? ⟨blk,2,none⟩=some (.int .i64 c)) :
  Calls prog 333 #[.slice (some ⟨blk,0,none⟩) 3 3] w fun e w'=>e=.returned (.int .i64 (orI a (orI b c)))∧w'=w:=by
 obtain⟨r,hr⟩:∃ r,orI a (orI b c)=r:=⟨_,rfl⟩
 rw [hr]
 by_cases ha:a=0
 ·have ha':(a != 0)=false:=by simp [ha]
  by_cases hb:b=0
  ·have hb':(b != 0)=false:=by simp [hb]
   by_cases hc:c=0
   ·have hc':(c != 0)=false:=by simp [hc]
    have hfin:Hid (r=0):=hid_intro (by rw [← hr];simp [orI,ha,hb,hc]);clear ha hb hc hr;go_enter func333,ntmps333;go_wp2;refine wp_loop_rounds 4 ?_;rw [rounds_succ];go_wp2;rw [rounds_succ];go_wp2;rw [rounds_succ];go_wp2;rw [rounds_succ];go_wp2;go_ret;exact⟨ret_int (hid_elim hfin).symm,rfl⟩
   ·have hc':(c != 0)=true:=by simp [hc]
    have hfin:Hid (r=c):=hid_intro (by rw [← hr];simp [orI,ha,hb]);clear ha hb hc hr;go_enter func333,ntmps333;go_wp2;refine wp_loop_rounds 4 ?_;rw [rounds_succ];go_wp2;rw [rounds_succ];go_wp2;rw [rounds_succ];go_wp2;go_ret;exact⟨ret_int (hid_elim hfin).symm,rfl⟩
  ·have hb':(b != 0)=true:=by simp [hb]
   have hfin:Hid (r=b):=hid_intro (by rw [← hr];simp [orI,ha,hb]);clear ha hb hr;go_enter func333,ntmps333;go_wp2;refine wp_loop_rounds 4 ?_;rw [rounds_succ];go_wp2;rw [rounds_succ];go_wp2;go_ret;exact⟨ret_int (hid_elim hfin).symm,rfl⟩
 ·have ha':(a != 0)=true:=by simp [ha]
  have hfin:Hid (r=a):=hid_intro (by rw [← hr];simp [orI,ha]);clear ha hr;go_enter func333,ntmps333;go_wp2;refine wp_loop_rounds 4 ?_;rw [rounds_succ];go_wp2;go_ret;exact⟨ret_int (hid_elim hfin).symm,rfl⟩
structure Tryz.CmpP (B:Nat) (x1 x2 x3 y1 y2 y3:Int) (W:World):Prop where
 a0:W.cell? ⟨B,0,none⟩=some (.int .u64 x1)
 a1:W.cell? ⟨B,1,none⟩=some (.int .i64 x2)
 a2:W.cell? ⟨B,2,none⟩=some (.int .u64 x3)
 b0:W.cell? ⟨B+1,0,none⟩=some (.int .u64 y1)
 b1:W.cell? ⟨B+1,1,none⟩=some (.int .i64 y2)
 b2:W.cell? ⟨B+1,2,none⟩=some (.int .u64 y3)
theorem Tryz.CmpP.alloc {B:Nat} {x1 x2 x3 y1 y2 y3:Int} {W:World} (h:CmpP B x1 x2 x3 y1 y2 y3 W) (o:Obj):CmpP B x1 x2 x3 y1 y2 y3 (W.alloc o):=
 ⟨(World.cell?_alloc_some _ _ _ (by rw [h.a0];rfl)).trans h.a0,(World.cell?_alloc_some _ _ _ (by rw [h.a1];rfl)).trans h.a1,(World.cell?_alloc_some _ _ _ (by rw [h.a2];rfl)).trans h.a2,
  (World.cell?_alloc_some _ _ _ (by rw [h.b0];rfl)).trans h.b0,(World.cell?_alloc_some _ _ _ (by rw [h.b1];rfl)).trans h.b1,(World.cell?_alloc_some _ _ _ (by rw [h.b2];rfl)).trans h.b2⟩
theorem Tryz.turnCmp (x y:TurnD) (w:World):Calls prog 337 #[.agg x.cells,.agg y.cells] w fun e w'=>e=.returned (.int .i64 (cmpT x y))∧Grew w w':=by
 have hN:Hid (cmpT x y=orI (cmpI x.at_ y.at_) (orI (cmpI y.k x.k) (cmpI x.n y.n))):=hid_intro rfl
 have ha:=fun W=>cmpU64 x.at_ y.at_ W
 have hk:=fun W=>cmpKind y.k x.k W
 have hu:=fun W=>cmpU64 x.n y.n W
 generalize cmpI x.at_ y.at_=a at *;generalize cmpI y.k x.k=b at *;generalize cmpI x.n y.n=c at *;generalize cmpT x y=r at *;obtain⟨x1,x2,x3⟩:=x;obtain⟨y1,y2,y3⟩:=y;simp only [TurnD.cells] at *;go_enter func337,ntmps337
 go_wp2_with fail
 have hP:CmpP w.heap.size x1 x2 x3 y1 y2 y3 ((w.alloc (.cells #[.int .u64 x1,.int .i64 x2,.int .u64 x3] 144)).alloc (.cells #[.int .u64 y1,.int .i64 y2,.int .u64 y3] 144)).drew:=by
  have b1:=(BoxN.new w 144 #[.int .u64 x1,.int .i64 x2,.int .u64 x3]).alloc (.cells #[.int .u64 y1,.int .i64 y2,.int .u64 y3] 144);have b2:=BoxN.new (w.alloc (.cells #[.int .u64 x1,.int .i64 x2,.int .u64 x3] 144)) 144 #[.int .u64 y1,.int .i64 y2,.int .u64 y3];rw [World.size_alloc] at b2;exact⟨b1.cell 0 rfl,b1.cell 1 rfl,b1.cell 2 rfl,b2.cell 0 rfl,b2.cell 1 rfl,b2.cell 2 rfl⟩
 refine wp_region_held_drew (S:=CmpP w.heap.size x1 x2 x3 y1 y2 y3) (by kernel_rfl) hP (fun hS0=>?_);refine wpAnyH_take (i:=0) (v:=?v0) rfl (by kernel_rfl) (by kernel_rfl) (by kernel_rfl) (fun _ _ _ h=>h) (Or.inl ⟨by rfl,?y0⟩) hS0 ?_
 case y0=>(intro w hSw;obtain⟨q0,q1,q2,q3,q4,q5⟩:=hSw;go_simp;try with_reducible rfl)
 refine wpAnyH_take (i:=1) (v:=?v1) rfl (by kernel_rfl) (by kernel_rfl) (by kernel_rfl) (fun _ _ _ h=>h) (Or.inl ⟨by rfl,?y1⟩) hS0 ?_
 case y1=>(intro w hSw;obtain⟨q0,q1,q2,q3,q4,q5⟩:=hSw;go_simp;try with_reducible rfl)
 refine wpAnyH_take (i:=2) (v:=?v2) rfl (by kernel_rfl) (by kernel_rfl) (by kernel_rfl) (fun _ _ _ h=>h) (Or.inl ⟨by rfl,?y2⟩) hS0 ?_
 case y2=>(intro w hSw;obtain⟨q0,q1,q2,q3,q4,q5⟩:=hSw;go_simp;try with_reducible rfl)
 refine wpAnyH_take (i:=3) (v:=?v3) rfl (by kernel_rfl) (by kernel_rfl) (by kernel_rfl) (fun _ _ _ h=>h) (Or.inl ⟨by rfl,?y3⟩) hS0 ?_
 case y3=>(intro w hSw;obtain⟨q0,q1,q2,q3,q4,q5⟩:=hSw;go_simp;try with_reducible rfl)
 refine wpAnyH_take (i:=5) (v:=?v5) rfl (by kernel_rfl) (by kernel_rfl) (by kernel_rfl) (fun _ _ _ h=>h) (Or.inl ⟨by rfl,?y5⟩) hS0 ?_
 case y5=>(intro w hSw;obtain⟨q0,q1,q2,q3,q4,q5⟩:=hSw;go_simp;try with_reducible rfl)
 refine wpAnyH_take (i:=6) (v:=?v6) rfl (by kernel_rfl) (by kernel_rfl) (by kernel_rfl) (fun _ _ _ h=>h) (Or.inl ⟨by rfl,?y6⟩) hS0 ?_
 case y6=>(intro w hSw;obtain⟨q0,q1,q2,q3,q4,q5⟩:=hSw;go_simp;try with_reducible rfl)
 refine wpAnyH_take (i:=7) (v:=?v7) rfl (by kernel_rfl) (by kernel_rfl) (by kernel_rfl) (fun _ _ _ h=>h) (Or.inl ⟨by rfl,?y7⟩) hS0 ?_
 case y7=>(intro w hSw;obtain⟨q0,q1,q2,q3,q4,q5⟩:=hSw;go_simp;try with_reducible rfl)
 refine wpAnyH_take (i:=8) (v:=?v8) rfl (by kernel_rfl) (by kernel_rfl) (by kernel_rfl) (fun _ _ _ h=>h) (Or.inl ⟨by rfl,?y8⟩) hS0 ?_
 case y8=>(intro w hSw;obtain⟨q0,q1,q2,q3,q4,q5⟩:=hSw;go_simp;try with_reducible rfl)
 refine wpAnyH_take (i:=9) (v:=?v9) rfl (by kernel_rfl) (by kernel_rfl) (by kernel_rfl) (fun _ _ _ h=>h) (Or.inl ⟨by rfl,?y9⟩) hS0 ?_
 case y9=>(intro w hSw;obtain⟨q0,q1,q2,q3,q4,q5⟩:=hSw;go_simp;try with_reducible rfl)
 refine wpAnyH_take (i:=10) (v:=?v10) rfl (by kernel_rfl) (by kernel_rfl) (by kernel_rfl) (fun _ _ _ h=>h) (Or.inl ⟨by rfl,?y10⟩) hS0 ?_
 case y10=>(intro w hSw;obtain⟨q0,q1,q2,q3,q4,q5⟩:=hSw;go_simp;try with_reducible rfl)
 refine wpAnyH_take (i:=12) (v:=?v12) rfl (by kernel_rfl) (by kernel_rfl) (by kernel_rfl) (fun _ _ _ h=>h) (Or.inl ⟨by rfl,?y12⟩) hS0 ?_
 case y12=>(intro w hSw;obtain⟨q0,q1,q2,q3,q4,q5⟩:=hSw;go_simp;try with_reducible rfl)
 refine wpAnyH_take (i:=13) (v:=?v13) rfl (by kernel_rfl) (by kernel_rfl) (by kernel_rfl) (fun _ _ _ h=>h) (Or.inl ⟨by rfl,?y13⟩) hS0 ?_
 case y13=>(intro w hSw;obtain⟨q0,q1,q2,q3,q4,q5⟩:=hSw;go_simp;try with_reducible rfl)
 refine wpAnyH_take (i:=14) (v:=?v14) rfl (by kernel_rfl) (by kernel_rfl) (by kernel_rfl) (fun _ _ _ h=>h) (Or.inl ⟨by rfl,?y14⟩) hS0 ?_
 case y14=>(intro w hSw;obtain⟨q0,q1,q2,q3,q4,q5⟩:=hSw;go_simp;try with_reducible rfl)
 refine wpAnyH_take (i:=15) (v:=?v15) rfl (by kernel_rfl) (by kernel_rfl) (by kernel_rfl) (fun _ _ _ h=>h) (Or.inl ⟨by rfl,?y15⟩) hS0 ?_
 case y15=>(intro w hSw;obtain⟨q0,q1,q2,q3,q4,q5⟩:=hSw;go_simp;try with_reducible rfl)
 refine wpAnyH_take (i:=16) (v:=?v16) rfl (by kernel_rfl) (by kernel_rfl) (by kernel_rfl) (fun _ _ _ h=>h) (Or.inl ⟨by rfl,?y16⟩) hS0 ?_
 case y16=>(intro w hSw;obtain⟨q0,q1,q2,q3,q4,q5⟩:=hSw;go_simp;try with_reducible rfl)
 refine wpAnyH_take (i:=17) (v:=?v17) rfl (by kernel_rfl) (by kernel_rfl) (by kernel_rfl) (fun _ _ _ h=>h) (Or.inl ⟨by rfl,?y17⟩) hS0 ?_
 case y17=>(intro w hSw;obtain⟨q0,q1,q2,q3,q4,q5⟩:=hSw;go_simp;try with_reducible rfl)
 refine wpAnyH_ready (rs:=[4]) (by kernel_rfl) (by simp) ?_;refine AllReadyH.cons rfl (fun K hK=>?_) AllReadyH.nil;go_simp;refine(ha _).mono ?_;rintro e w5 ⟨rfl,rfl⟩;refine hK.out _ _ hS0 (fun _=>?_);clear hK K;refine wpAnyH_ready (rs:=[11]) (by kernel_rfl) (by simp) ?_;refine AllReadyH.cons rfl (fun K hK=>?_) AllReadyH.nil;go_simp;refine(hk _).mono ?_;rintro e w5 ⟨rfl,rfl⟩;refine hK.out _ _ hS0 (fun _=>?_);clear hK K;refine wpAnyH_ready (rs:=[18]) (by kernel_rfl) (by simp) ?_;refine AllReadyH.cons rfl (fun K hK=>?_) AllReadyH.nil;go_simp;refine(hu _).mono ?_;rintro e w5 ⟨rfl,rfl⟩;refine hK.out _ _ hS0 (fun _=>?_);clear hK K;refine wpAnyH_ready (rs:=[19]) (by kernel_rfl) (by simp) ?_;refine AllReadyH.cons rfl (fun K hK=>?_) AllReadyH.nil;go_simp;refine hK.out _ _ (hS0.alloc _) (fun hS1=>?_);clear hK K;refine wpAnyH_ready (rs:=[20]) (by kernel_rfl) (by simp) ?_;refine AllReadyH.cons rfl (fun K hK=>?_) AllReadyH.nil;go_simp;refine(cmpOr3 a b c _ _ ?_ ?_ ?_).mono ?_
 ·go_simp
 ·go_simp
 ·go_simp
 rintro e w5 ⟨rfl,rfl⟩;refine hK.out _ _ hS1 (fun _=>?_);clear hK K;refine wpAnyH_ready (rs:=[21]) (by kernel_rfl) (by simp) ?_;refine AllReadyH.cons rfl (fun K hK=>?_) AllReadyH.nil;go_simp;refine hK.out _ _ hS1 (fun _=>?_);clear hK K;refine wpAnyH_done (by kernel_rfl) ?_ _;go_wp2;go_ret;exact⟨ret_int (hid_elim hN).symm,((((Grew.refl w).alloc _).alloc _).drew.alloc _)⟩
theorem Tryz.method_turn (x:TurnD) (w:World):Sem.run prog (method 517 144 (.agg x.cells) "Compare") w=.ok (337,.agg x.cells) w:=by kernel_rfl
def ltT (x y:TurnD):Prop:=x.at_<y.at_∨(x.at_=y.at_∧(y.k<x.k∨(x.k=y.k∧x.n<y.n)))
instance (x y:TurnD):Decidable (ltT x y):=by unfold ltT;exact inferInstance
theorem cmpI_neg {a b:Int}:cmpI a b<0↔a<b:=by
 unfold cmpI
 split <;> (try split) <;> omega
theorem cmpI_zero {a b:Int}:cmpI a b=0↔a=b:=by
 unfold cmpI
 split <;> (try split) <;> omega
theorem cmpT_neg (x y:TurnD):cmpT x y<0↔ltT x y:=by
 unfold cmpT ltT orI;have h1:=@cmpI_neg x.at_ y.at_;have h2:=@cmpI_zero x.at_ y.at_;have h3:=@cmpI_neg y.k x.k;have h4:=@cmpI_zero y.k x.k;have h5:=@cmpI_neg x.n y.n
 split
 ·split
  ·omega
  ·omega
 ·omega
theorem ltT_irr (x:TurnD):¬ ltT x x:=by unfold ltT;omega
theorem ltT_trans {x y z:TurnD} (h:ltT x y) (h':ltT y z):ltT x z:=by unfold ltT at *;omega
theorem ltT_asymm {x y:TurnD} (h:ltT x y):¬ ltT y x:=by unfold ltT at *;omega
def leT (x y:TurnD):Prop:=¬ ltT y x
theorem leT_refl (x:TurnD):leT x x:=ltT_irr x
theorem leT_trans {x y z:TurnD} (h:leT x y) (h':leT y z):leT x z:=by unfold leT ltT at *;omega
theorem leT_of_lt {x y:TurnD} (h:ltT x y):leT x y:=ltT_asymm h
abbrev par (i:Nat):Nat:=(i-1) / 2
def getT (xs:List TurnD) (i:Nat):TurnD:=xs.getD i ⟨0,0,0⟩
theorem getT_of {xs:List TurnD} {i:Nat} {t:TurnD} (h:xs[i]? = some t):getT xs i=t:=by
 unfold getT;simp [List.getD,h]
theorem getT_some {xs:List TurnD} {i:Nat} (h:i<xs.length):xs[i]? = some (getT xs i):=by
 unfold getT;simp [List.getD,h]
def swapT (xs:List TurnD) (i j:Nat):List TurnD:=(xs.set i (getT xs j)).set j (getT xs i)
theorem swapT_len (xs:List TurnD) (i j:Nat):(swapT xs i j).length=xs.length:=by simp [swapT]
theorem swapT_get {xs:List TurnD} {i j:Nat} (hi:i<xs.length) (hj:j<xs.length) (k:Nat):getT (swapT xs i j) k=if k=j then getT xs i else if k=i then getT xs j else getT xs k:=by
 have key:(swapT xs i j)[k]? = if k=j then some (getT xs i) else if k=i then some (getT xs j) else xs[k]?:=by
  unfold swapT;rw [List.getElem?_set,List.getElem?_set];simp only [List.length_set]
  by_cases e1:j=k
  ·subst e1
   simp [hj]
  ·by_cases e2:i=k
   ·subst e2
    simp [e1,hi,Ne.symm e1]
   ·simp [e1,e2,Ne.symm e1,Ne.symm e2]
 unfold getT at key ⊢;rw [List.getD_eq_getElem?_getD,key]
 split
 ·rfl
 ·split
  ·rfl
  ·rw [List.getD_eq_getElem?_getD]
theorem swapT_perm {xs:List TurnD} {i j:Nat} (hi:i<xs.length) (hj:j<xs.length):(swapT xs i j).Perm xs:=by
 unfold swapT;have e1:getT xs j=xs[j]:=getT_of (by simp [hj]);have e2:getT xs i=xs[i]:=getT_of (by simp [hi]);rw [e1,e2];exact List.set_set_perm hi hj
def Heap (xs:List TurnD):Prop:=∀ i,0<i→i<xs.length→leT (getT xs (par i)) (getT xs i)
theorem Heap.root {xs:List TurnD} (h:Heap xs):∀ i,i<xs.length→leT (getT xs 0) (getT xs i):=by
 intro i
 induction i using Nat.strongRecOn with
 | ind i ih =>
  intro hi
  by_cases h0:i=0
  ·subst h0;exact leT_refl _
  ·exact leT_trans (ih (par i) (by unfold par;omega) (by unfold par;omega)) (h i (by omega) hi)
theorem heap_nil:Heap []:=fun i _ h=>by simp at h
structure RiseH (xs:List TurnD) (a:Nat):Prop where
 lt:a<xs.length
 h1:∀ i,0<i→i<xs.length→i≠a→leT (getT xs (par i)) (getT xs i)
 h2:∀ i,0<i→i<xs.length→par i=a→0<a→leT (getT xs (par a)) (getT xs i)
theorem RiseH.start {xs:List TurnD} (h:Heap xs) (t:TurnD):RiseH (xs ++ [t]) xs.length:=by
 have hg:∀ i,i<xs.length→getT (xs ++ [t]) i=getT xs i:=fun i hi=>by
  unfold getT;rw [List.getD_eq_getElem?_getD,List.getD_eq_getElem?_getD,List.getElem?_append_left hi]
 refine⟨by simp,fun i h0 hi hne=>?_,fun i h0 hi hp _=>?_⟩
 ·have:i<xs.length:=by simp at hi;omega
  rw [hg i this,hg (par i) (by unfold par;omega)];exact h i h0 this
 ·simp at hi
  unfold par at hp;omega
theorem RiseH.done {xs:List TurnD} {a:Nat} (h:RiseH xs a) (hs:¬ ltT (getT xs a) (getT xs (par a))):Heap xs:=fun i h0 hi=>by
 by_cases e:i=a
 ·subst e;exact hs
 ·exact h.h1 i h0 hi e
theorem RiseH.step {xs:List TurnD} {a:Nat} (h:RiseH xs a) (ha:0<a) (hs:ltT (getT xs a) (getT xs (par a))):RiseH (swapT xs (par a) a) (par a):=by
 have hal:=h.lt
 have hpl:par a<xs.length:=by unfold par;omega
 have hpa:par a≠a:=by unfold par;omega
 refine⟨by rw [swapT_len];exact hpl,fun i h0 hi hne=>?_,fun i h0 hi hp h0p=>?_⟩
 ·rw [swapT_len] at hi
  rw [swapT_get hpl hal,swapT_get hpl hal]
  by_cases e:i=a
  ·subst e
   rw [if_neg hpa,if_pos rfl,if_pos rfl];exact leT_of_lt hs
  ·rw [if_neg e,if_neg hne]
   by_cases ep:par i=a
   ·rw [if_pos ep]
    exact h.h2 i h0 hi ep ha
   ·rw [if_neg ep]
    by_cases eq:par i=par a
    ·rw [if_pos eq]
     have:=h.h1 i h0 hi e;rw [eq] at this;exact leT_trans (leT_of_lt hs) this
    ·rw [if_neg eq]
     exact h.h1 i h0 hi e
 ·rw [swapT_len] at hi
  rw [swapT_get hpl hal,swapT_get hpl hal]
  have e1:par (par a)≠a:=by unfold par;omega
  have e2:par (par a)≠par a:=by unfold par at *;omega
  rw [if_neg e1,if_neg e2];have hup:=h.h1 (par a) h0p hpl hpa
  by_cases e:i=a
  ·subst e
   rw [if_pos rfl];exact hup
  ·rw [if_neg e]
   have hip:i≠par a:=by unfold par at *;omega
   rw [if_neg hip];have:=h.h1 i h0 hi e;rw [hp] at this;exact leT_trans hup this
structure FallH (xs:List TurnD) (a:Nat):Prop where
 h1:∀ i,0<i→i<xs.length→par i≠a→leT (getT xs (par i)) (getT xs i)
 h2:∀ i,0<i→i<xs.length→par i=a→0<a→leT (getT xs (par a)) (getT xs i)
def leastT (xs:List TurnD) (f:Nat):List Nat→Nat
 | []=>f
 | p :: ps=>leastT xs (if p<xs.length∧ltT (getT xs p) (getT xs f) then p else f) ps
theorem least2_le {xs:List TurnD} {a:Nat}:(leT (getT xs (leastT xs a [2*a+1,2*a+2])) (getT xs a))∧(2*a+1<xs.length→leT (getT xs (leastT xs a [2*a+1,2*a+2])) (getT xs (2*a+1)))∧(2*a+2<xs.length→leT (getT xs (leastT xs a [2*a+1,2*a+2])) (getT xs (2*a+2))):=by
 simp only [leastT]
 by_cases c1:2*a+1<xs.length∧ltT (getT xs (2*a+1)) (getT xs a)
 ·rw [if_pos c1]
  by_cases c2:2*a+2<xs.length∧ltT (getT xs (2*a+2)) (getT xs (2*a+1))
  ·rw [if_pos c2]
   exact⟨leT_of_lt (ltT_trans c2.2 c1.2),fun _=>leT_of_lt c2.2,fun _=>leT_refl _⟩
  ·rw [if_neg c2]
   exact⟨leT_of_lt c1.2,fun _=>leT_refl _,fun h h'=>c2 ⟨h,h'⟩⟩
 ·rw [if_neg c1]
  by_cases c2:2*a+2<xs.length∧ltT (getT xs (2*a+2)) (getT xs a)
  ·rw [if_pos c2]
   exact⟨leT_of_lt c2.2,fun h=>leT_trans (leT_of_lt c2.2) (fun h'=>c1 ⟨h,h'⟩),fun _=>leT_refl _⟩
  ·rw [if_neg c2]
   exact⟨leT_refl _,fun h h'=>c1 ⟨h,h'⟩,fun h h'=>c2 ⟨h,h'⟩⟩
theorem least2_mem {xs:List TurnD} {a:Nat}:leastT xs a [2*a+1,2*a+2]=a∨((leastT xs a [2*a+1,2*a+2]=2*a+1∨leastT xs a [2*a+1,2*a+2]=2*a+2)∧leastT xs a [2*a+1,2*a+2] < xs.length∧ltT (getT xs (leastT xs a [2*a+1,2*a+2])) (getT xs a)):=by
 simp only [leastT]
 by_cases c1:2*a+1<xs.length∧ltT (getT xs (2*a+1)) (getT xs a)
 ·rw [if_pos c1]
  by_cases c2:2*a+2<xs.length∧ltT (getT xs (2*a+2)) (getT xs (2*a+1))
  ·rw [if_pos c2]
   exact .inr ⟨.inr rfl,c2.1,ltT_trans c2.2 c1.2⟩
  ·rw [if_neg c2]
   exact .inr ⟨.inl rfl,c1⟩
 ·rw [if_neg c1]
  by_cases c2:2*a+2<xs.length∧ltT (getT xs (2*a+2)) (getT xs a)
  ·rw [if_pos c2]
   exact .inr ⟨.inr rfl,c2⟩
  ·rw [if_neg c2]
   exact .inl rfl
theorem FallH.done {xs:List TurnD} {a:Nat} (h:FallH xs a) (hs:leastT xs a [2*a+1,2*a+2]=a):Heap xs:=fun i h0 hi=>by
 by_cases e:par i=a
 ·obtain⟨-,l1,l2⟩:=@least2_le xs a
  rw [hs] at l1 l2;rw [e]
  have:i=2*a+1∨i=2*a+2:=by unfold par at e;omega
  rcases this with rfl | rfl
  ·exact l1 hi
  ·exact l2 hi
 ·exact h.h1 i h0 hi e
theorem FallH.step {xs:List TurnD} {a:Nat} (h:FallH xs a) (hs:leastT xs a [2*a+1,2*a+2]≠a):a<leastT xs a [2*a+1,2*a+2]∧leastT xs a [2*a+1,2*a+2] < xs.length∧FallH (swapT xs (leastT xs a [2*a+1,2*a+2]) a) (leastT xs a [2*a+1,2*a+2]):=by
 obtain⟨-,l1,l2⟩:=@least2_le xs a;obtain⟨hm,hl,hlt⟩:=(@least2_mem xs a).resolve_left hs;generalize leastT xs a [2*a+1,2*a+2]=c at *
 have hac:a<c:=by omega
 have hal:a<xs.length:=by omega
 have hpc:par c=a:=by unfold par;omega
 refine⟨hac,hl,fun i h0 hi hne=>?_,fun i h0 hi hp h0c=>?_⟩
 ·rw [swapT_len] at hi
  rw [swapT_get hl hal,swapT_get hl hal]
  by_cases e:i=a
  ·subst e
   have e1:par i≠i:=by unfold par;omega
   have e2:par i≠c:=hne;rw [if_neg e1,if_neg e2,if_pos rfl];exact h.h2 c (by omega) hl hpc (by omega)
  ·rw [if_neg e]
   by_cases ep:par i=a
   ·rw [if_pos ep]
    by_cases ec:i=c
    ·rw [if_pos ec]
     exact leT_of_lt hlt
    ·rw [if_neg ec]
     have:i=2*a+1∨i=2*a+2:=by unfold par at ep;omega
     rcases this with rfl | rfl
     ·exact l1 hi
     ·exact l2 hi
   ·rw [if_neg ep,if_neg hne]
    have ec:i≠c:=fun e'=>ep (by rw [e'];exact hpc)
    rw [if_neg ec];exact h.h1 i h0 hi ep
 ·rw [swapT_len] at hi
  rw [swapT_get hl hal,swapT_get hl hal,hpc,if_pos rfl]
  have e1:i≠a:=by unfold par at hp;omega
  have e2:i≠c:=by unfold par at hp;omega
  rw [if_neg e1,if_neg e2];have:=h.h1 i h0 hi (by omega);rw [hp] at this;exact this
theorem FallH.start {xs:List TurnD} (h:Heap xs):FallH ((swapT xs 0 (xs.length-1)).take (xs.length-1)) 0:=by
 refine⟨fun i h0 hi hne=>?_,fun i h0 hi hp h00=>by omega⟩
 have hi':i<xs.length-1:=by
  rw [List.length_take,swapT_len] at hi;omega
 have hg:∀ k,k<xs.length-1→getT ((swapT xs 0 (xs.length-1)).take (xs.length-1)) k=getT (swapT xs 0 (xs.length-1)) k:=fun k hk=>by
  unfold getT;rw [List.getD_eq_getElem?_getD,List.getD_eq_getElem?_getD,List.getElem?_take,if_pos hk]
 rw [hg i hi',hg (par i) (by unfold par;omega)];rw [swapT_get (by omega) (by omega),swapT_get (by omega) (by omega)]
 have e1:par i≠xs.length-1:=by unfold par;omega
 rw [if_neg e1,if_neg hne,if_neg (by omega),if_neg (by omega)];exact h i h0 (by omega)
theorem leastT_snoc (xs:List TurnD) (p:Nat):∀(os:List Nat) (f:Nat),leastT xs f (os ++ [p])=if p<xs.length∧ltT (getT xs p) (getT xs (leastT xs f os)) then p else leastT xs f os
 | [],f=>rfl
 | q :: os,f=>by
  simp only [List.cons_append,leastT];exact leastT_snoc xs p os _
theorem leastT_lt {xs:List TurnD}:∀ {os:List Nat} {f:Nat},f<xs.length→leastT xs f os<xs.length
 | [],f,h=>h
 | q :: os,f,h=>by
  simp only [leastT]
  by_cases c:q<xs.length∧ltT (getT xs q) (getT xs f)
  ·rw [if_pos c];exact leastT_lt c.1
  ·rw [if_neg c];exact leastT_lt h
structure Tryz.QP (vb g cap:Nat) (xs:List TurnD) (W:World):Prop where
 c:W.cell? ⟨vb,8,none⟩=some (.slice (some ⟨g,0,none⟩) xs.length cap)
 r:∀ i t,xs[i]? = some t→W.cell? ⟨g,i*3,none⟩=some (.int .u64 t.at_)∧W.cell? ⟨g,i*3+1,none⟩=some (.int .i64 t.k)∧W.cell? ⟨g,i*3+2,none⟩=some (.int .u64 t.n)
theorem cellB {W W':World} (h:Below W.heap.size W W') {a:Addr} {v:Value} (hc:W.cell? a=some v):W'.cell? a=some v:=
 (h.cell (World.block_lt_of_cell? W a hc)).trans hc
theorem Tryz.QP.below {vb g cap:Nat} {xs:List TurnD} {W W':World} (h:QP vb g cap xs W) (hb:Below W.heap.size W W'):QP vb g cap xs W':=
 ⟨cellB hb h.c,fun i t ht=>by obtain⟨a,b,c⟩:=h.r i t ht;exact⟨cellB hb a,cellB hb b,cellB hb c⟩⟩
abbrev Tryz.Q2P (vb g cap n i j:Nat) (x y:TurnD) (W:World):Prop:=
 W.cell? ⟨vb,8,none⟩=some (.slice (some ⟨g,0,none⟩) n cap)∧(W.cell? ⟨g,i*3,none⟩=some (.int .u64 x.at_)∧W.cell? ⟨g,i*3+1,none⟩=some (.int .i64 x.k)∧W.cell? ⟨g,i*3+2,none⟩=some (.int .u64 x.n))∧(W.cell? ⟨g,j*3,none⟩=some (.int .u64 y.at_)∧W.cell? ⟨g,j*3+1,none⟩=some (.int .i64 y.k)∧W.cell? ⟨g,j*3+2,none⟩=some (.int .u64 y.n))
theorem Tryz.QP.two {vb g cap i j:Nat} {x y:TurnD} {xs:List TurnD} {W:World} (h:QP vb g cap xs W) (hi:xs[i]? = some x) (hj:xs[j]? = some y):Q2P vb g cap xs.length i j x y W:=⟨h.c,h.r i x hi,h.r j y hj⟩
theorem Tryz.qLeast (vb g cap ob:Nat) (xs:List TurnD) (f:Nat) (os:List Nat) (w:World) (hQ:QP vb g cap xs w) (hO:∀ j p:Nat,os[j]? = some p→w.cell? ⟨ob,j,none⟩=some (.int .i64 (p:Int))) (hf:f<xs.length∨∀ p∈os,xs.length≤p) (hol:os.length≤10) (hop:∀ p∈os,p≤3000) :
  Calls prog 133 #[.pointer (some ⟨vb,8,none⟩),.int .i64 f,.slice (some ⟨ob,0,none⟩) os.length os.length] w fun e w'=>e=.returned (.int .i64 (leastT xs f os:Nat))∧Below w.heap.size w w':=by
 obtain⟨len,hlen⟩:∃ len,os.length=len:=⟨_,rfl⟩
 rw [hlen] at hol ⊢;have Hlen:=hid_intro hlen;clear hlen
 obtain⟨n,hnn⟩:∃ n,xs.length=n:=⟨_,rfl⟩
 have Hn:=hid_intro hnn;clear hnn;go_enter func133,ntmps133;go_wp2
 go_loopw [7,13] (fun l i wr=>∃ k ll:Nat,k≤len∧i=.int .i64 k∧l=.int .i64 ll∧Hid (ll=leastT xs f (os.take k))∧Below w.heap.size w wr) (fun _ i _=>len-(intOf i).toNat)
 case atStart=>exact⟨0,f,Nat.zero_le _,rfl,rfl,hid_intro rfl,Below.refl _ _⟩
 case round =>
  obtain⟨k,ll,hk,rfl,rfl,hll,hBw⟩:=hrel
  by_cases hkl:k<len
  ·obtain⟨p,hp⟩:∃ p,os[k]? = some p:=⟨os[k]'(by have:=hid_elim Hlen;omega),by have:=hid_elim Hlen;simp [this,hkl]⟩
   have ho:=cell_later hBw (hO k p hp);have hp3:=hop p (List.mem_of_getElem? hp);have hsn:=hid_intro (leastT_snoc xs p (os.take k) f);have htk:Hid (os.take (k+1)=os.take k ++ [p]):=hid_intro (by rw [List.take_add_one,hp];rfl);have hQw:=hQ.below hBw;have hc8:=hQw.c;rw [hid_elim Hn] at hc8
   by_cases hpn:p<n
   ·have hlx:ll<n:=by
     rw [hid_elim hll,← hid_elim Hn];exact leastT_lt (hf.resolve_right (fun h=>by have:=h p (List.mem_of_getElem? hp);have:=hid_elim Hn;omega))
    obtain⟨x,hx⟩:∃ x,xs[p]? = some x:=⟨getT xs p,getT_some (by rw [hid_elim Hn];exact hpn)⟩
    obtain⟨y,hy⟩:∃ y,xs[ll]? = some y:=⟨getT xs ll,getT_some (by rw [hid_elim Hn];exact hlx)⟩
    have hq2:=hQw.two hx hy;rw [hid_elim Hn] at hq2
    have hC:=fun W=>turnCmp x y W
    have hm:=fun W=>method_turn x W
    have hres:Hid (leastT xs f (os.take (k+1))=if cmpT x y<0 then p else ll):=hid_intro (by
     rw [hid_elim htk,hid_elim hsn,← hid_elim hll,getT_of hx,getT_of hy]
     by_cases hc:ltT x y
     ·rw [if_pos ⟨by rw [hid_elim Hn];exact hpn,hc⟩,if_pos ((cmpT_neg x y).2 hc)]
     ·rw [if_neg (fun h=>hc h.2),if_neg (fun h=>hc ((cmpT_neg x y).1 h))])
    obtain⟨c,hcc⟩:∃ c,cmpT x y=c:=⟨_,rfl⟩
    rw [hcc] at hres;simp only [hcc] at hC;obtain⟨x1,x2,x3⟩:=x;obtain⟨y1,y2,y3⟩:=y;simp only [TurnD.cells,Q2P] at hC hm hq2
    have hpi:(p:Int)<(n:Int):=by omega
    have hp0:(0:Int)≤(p:Int):=by omega
    have hli:(ll:Int)<(n:Int):=by omega
    have hl0:(0:Int)≤(ll:Int):=by omega
    have hq3:Q2P vb g cap n p ll ⟨x1,x2,x3⟩ ⟨y1,y2,y3⟩ wr.drew:=hq2;clear hcc hx hy hQw hc8 hp hsn htk hO hop hQ hf hq2
    go_wp2_with fail
    have hd1:decide ((p:Int)<(n:Int))=true:=decide_eq_true hpi
    go_region_held3 (Q2P vb g cap n p ll ⟨x1,x2,x3⟩ ⟨y1,y2,y3⟩) (first
     | with_reducible exact hq3
     | with_reducible exact hq5
     | with_reducible assumption) (first
     | (go_at_call 337;refine(hC _).mono ?_;rintro e w5 ⟨rfl,hg5⟩;have hb5:Below wr.heap.size wr w5:=((Below.refl _ wr).drew).trans (Grew.below hg5);have hq5:Q2P vb g cap n p ll ⟨x1,x2,x3⟩ ⟨y1,y2,y3⟩ w5:=⟨cellB hb5 hq3.1,⟨cellB hb5 hq3.2.1.1,cellB hb5 hq3.2.1.2.1,cellB hb5 hq3.2.1.2.2⟩,⟨cellB hb5 hq3.2.2.1,cellB hb5 hq3.2.2.2.1,cellB hb5 hq3.2.2.2.2⟩⟩))
    have hB5:=hBw.trans (hb5.mono hBw.size);clear hq5 hq3 hC hm
    by_cases hc0:c<0
    ·rw [if_pos hc0] at hres
     go_wp2;exact⟨⟨k+1,p,by omega,rfl,rfl,hid_intro (hid_elim hres).symm,hB5⟩,by simp [intOf];omega⟩
    ·rw [if_neg hc0] at hres
     go_wp2;exact⟨⟨k+1,ll,by omega,rfl,rfl,hid_intro (hid_elim hres).symm,hB5⟩,by simp [intOf];omega⟩
   ·have hpi:¬ (p:Int)<(n:Int):=by omega
    have hres:Hid (leastT xs f (os.take (k+1))=ll):=hid_intro (by
     rw [hid_elim htk,hid_elim hsn,if_neg (fun h=>hpn (by have:=h.1;rw [hid_elim Hn] at this;exact this)),← hid_elim hll])
    clear hsn htk hO hop hQ hf hQw hp
    go_wp2_with fail
    go_quiet (fail);go_wp2;exact⟨⟨k+1,ll,by omega,rfl,rfl,hid_intro (hid_elim hres).symm,below_drewN hBw _⟩,by simp [intOf];omega⟩
  ·obtain rfl:k=len:=by omega
   have hta:os.take k=os:=List.take_of_length_le (by have:=hid_elim Hlen;omega);rw [hta] at hll;go_wp2;go_ret;exact⟨ret_int (by rw [hid_elim hll]),hBw⟩
end Go.Proofs
