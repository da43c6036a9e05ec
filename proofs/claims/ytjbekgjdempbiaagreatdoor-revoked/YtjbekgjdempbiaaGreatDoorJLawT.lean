import Derived.Test.YtjbekgjdempbiaaGreatDoorJTkM
import Derived.Test.YtjbekgjdempbiaaGreatDoorJLawC
import Derived.Deep.RegionHeld3
import Derived.Test.YtjbekgjdempbiaaGreatDoorJRefQ0
import Derived.Deep.AppendLies
import Derived.Test.YtjbekgjdempbiaaGreatDoorJInvE
import Derived.Test.YtjbekgjdempbiaaGreatDoorJRefQ
import Derived.BigQuiet
set_option maxRecDepth 100000
set_option maxHeartbeats 8000000
namespace Go.Proofs
open Go.RowKit Go.Sort Go.Lib Go.Shelf Go.Maps Go.WideMaps
abbrev Tryz.CallsP (hb rb:Nat) (c:Value) (W:World):Prop:=W.cell? ⟨hb,1,none⟩=some (.pointer (some ⟨rb,0,none⟩))∧W.cell? ⟨rb,0,none⟩=some c
def htBs (k:Blk) (rb:Nat) (due:Value):List Nat:=tickBs k rb (.slice none 0 0) due
theorem Tryz.hTick (B hb rb:Nat) (σ:SS) (w:World) (hS:Sys B w hb rb σ) (hbw:B≤w.heap.size) (hTr:Tree σ.s) (h50:σ.s.tks.length+σ.s.lks.length≤50) (M:Int) (hM:M≤9000000000000000000) (hMB:TrB M σ.s) (hc:σ.c.length≤890000000000) (f now:Int) (f0:0≤f) (f1:f≤18446744073709551615) (hn0:0≤now) (hn1:now≤18446744073709551615) (cc dd:Int) :
  Calls prog 22 #[.pointer (some ⟨hb,0,none⟩),.int .u64 now,.int .u64 f,fallV (-1) (-1) cc dd] w fun e w'=>∃ vx' v' b,e=.returned (.tuple #[v',.int .i64 0])∧Tries (max σ.tm now) ⟨σ.s,σ.s.tks.flatMap (dueT σ.s (max σ.tm now))++σ.s.lks.flatMap (dueL (max σ.tm now)),f,σ.c,[]⟩ b∧b.q = []∧Sys B w' hb rb ⟨σ.k,vx',max σ.tm now,b.s,b.c⟩∧w'.ownsRow B 9 1 v' b.cl.length (b.cl.map fun p=>.string ⟨(nmStr p.1 p.2).toArray⟩)∧Going (max σ.tm now) (M+b.cl.length) b∧(b.cl.length≤150∧b.c.length≤σ.c.length+20000*b.cl.length∧b.s.tks.length+b.s.lks.length≤50)∧Spares (htBs σ.k rb σ.vx.due) w w':=by
 obtain⟨k,vx,tm,s,c⟩:=σ;simp only at hTr h50 hMB hc ⊢;obtain⟨fd,fn,hD,e1,e2⟩:=hS.wh.d;obtain⟨ra,rc,hR⟩:=hS.rvb;have hH:=hS.host;have hne:=hH.ne hD.box (by decide);have hrd:=hR.ne hD.box (by decide);have hbs:=hS.turns_host
 have hdb:k.db∈k.turns:=by simp [Blk.turns]
 have hdb2:k.db∈htBs k rb vx.due:=by simp [htBs,tickBs,Blk.turns]
 have lH:=hH.lt;have lD:=hD.box.lt;have lR:=hR.lt;have h9:=hS.nine;have hB0:Below w.heap.size w (w.alloc (.cells #[.int .i64 (-1),.int .i64 (-1),.int .i64 cc,.int .i64 dd] 29)):=(Below.refl _ w).alloc (Nat.le_refl _) _;have bF:=BoxN.new w 29 #[.int .i64 (-1),.int .i64 (-1),.int .i64 cc,.int .i64 dd];have h2:=hH.cell 2 (v:=.pointer (some ⟨k.vb,0,none⟩)) rfl;have hBf:=before hb k.db _ _ _ _ _ _ _ _ (-1) (-1) cc dd _ (hH.alloc (.cells #[.int .i64 (-1),.int .i64 (-1),.int .i64 cc,.int .i64 dd] 29)) (hD.box.alloc _);have hW0:=hS.wh.below hB0;unfold fallV at hBf ⊢;go_enter func22,ntmps22
 go_wp2_with (go_at_call 40;refine hBf.mono ?_;rintro e w1 ⟨rfl,bD1,hg1⟩)
 have hs1:Spares [k.db] w w1:=(Spares.of_below hB0).trans (Spares.of_grown hg1 (by simp));have bH1:=hs1.box hH (fun hm=>hne (List.mem_singleton.1 hm));have bR1:=hs1.box hR (fun hm=>hrd (List.mem_singleton.1 hm));have bF1:=bF.kept hg1 (by intro e;injection e with e;omega);have hW1:=hW0.setLF (Spares.of_grown hg1 (by simp)) bD1
 have hdue1:=hs1.row' hS.due (fun g hg hm=>by
  obtain⟨-,cur,hB⟩:=row_box hS.due hg
  exact hB.ne hD.box (by decide) (List.mem_singleton.1 hm))
 have r1:=bH1.cell 1 (v:=.pointer (some ⟨rb,0,none⟩)) rfl;have cc0:=bR1.cell 0 (v:=ra) rfl;have cc1:=bR1.cell 1 (v:=rc) rfl;have ff0:=bR1.frozen 0;have ff1:=bR1.frozen 1;have hHR:=bH1.ne bR1 (by decide);have hz1:=hs1.size;clear hBf hg1 h2 hB0 hW0
 go_region
 have bR2:BoxN ((w1.setCell ⟨rb,0,none⟩ (.slice none 0 0)).setCell ⟨rb,1,none⟩ (.int .u64 f)).drew rb 88 #[.slice none 0 0,.int .u64 f]:=(bR1.set 0 (.slice none 0 0)).set 1 (.int .u64 f);have hSr:Spares [rb] w1 ((w1.setCell ⟨rb,0,none⟩ (.slice none 0 0)).setCell ⟨rb,1,none⟩ (.int .u64 f)).drew:=(((Spares.of_below (Below.refl _ w1)).set (by simp) _ _).set (by simp) _ _).drew;clear r1 cc0 cc1 ff0 ff1;generalize ((w1.setCell ⟨rb,0,none⟩ (.slice none 0 0)).setCell ⟨rb,1,none⟩ (.int .u64 f)).drew=W2 at *;have hrb9:9≤rb:=Nat.le_trans hS.b9 hS.rlow;have hW2:=hW1.spared hSr (fun b hb hm=>Sys.turns_rev hS b hb (List.mem_singleton.1 hm)) (fun hm=>hW1.j.ne bR1 (by decide) (List.mem_singleton.1 hm)) (fun b x hx hm=>hx.ne bR1 (by decide) (List.mem_singleton.1 hm)) (fun b hb=>by rw [List.mem_singleton.1 hb];omega);have bH2:=hSr.box bH1 (fun hm=>hHR (List.mem_singleton.1 hm));have bF2:=hSr.box bF1 (fun hm=>bF1.ne bR1 (by decide) (List.mem_singleton.1 hm))
 have hdue2:=hSr.row' hdue1 (fun g hg hm=>by
  obtain⟨-,cur,hB⟩:=row_box hdue1 hg
  exact hB.ne bR1 (by decide) (List.mem_singleton.1 hm))
 have hz2:=hSr.size;have hs2:Spares (htBs k rb vx.due) w W2:=(hs1.mono (fun b hb=>by rw [List.mem_singleton.1 hb];exact hdb2)).trans (hSr.mono (fun b hb=>by rw [List.mem_singleton.1 hb];simp [htBs,tickBs]))
 have hA2:TAt B W2 k vx tm s c (-1) (-1) rb f (.slice none 0 0) [] []:=by
  obtain⟨fd2,fn2,hD2,d1,d2⟩:=hW2.d;exact⟨hW2,⟨fd2,fn2,hD2,⟨d1,d2⟩,(fun _ _ e=>by simp [Value.ownBlock] at e),(fun _ _ e=>by simp [Value.ownBlock] at e)⟩,hdue2,heap_nil,bR2,World.ownsRow_nil _ _ _ _,hS.low,hS.rlow,hS.b9,by omega,hS.vrv⟩
 have hTk:=vTick B k vx tm s c (-1) (-1) rb f (.slice none 0 0) W2 hA2 hS.vtk hTr h50 M hM hMB (by decide) (by decide) (by decide) (by decide) hc f0 f1 now hn0 hn1
 have hnt:∀ {q:Nat} {t:TypeId} {cs:Array Value},BoxN W2 q t cs→t≠126→t≠100→t≠88→t≠144→q∉tickBs k rb (.slice none 0 0) vx.due:=fun hB h1 h2 h3 h4 hm=>by
  simp only [tickBs,List.mem_append,List.mem_cons] at hm
  rcases hm with hm | e | e | e
  ·exact hW2.no hB h1 h2 hm
  ·exact hB.ne bR2 h3 e
  ·simp [Value.ownBlock] at e
  ·obtain⟨-,cs,hB'⟩:=row_box hdue2 (by simpa using e)
   exact hB.ne hB' h4 rfl
 have hs9:∀ q∈tickBs k rb (.slice none 0 0) vx.due,9≤q:=fun q hm=>by
  simp only [tickBs,List.mem_append,List.mem_cons] at hm
  rcases hm with hm | rfl | e | e
  ·exact(hbs q hm).1
  ·exact hrb9
  ·simp [Value.ownBlock] at e
  ·exact Nat.le_trans hS.b9 (row_box hdue2 (by simpa using e)).1
 have h22:=bH2.cell 2 (v:=.pointer (some ⟨k.vb,0,none⟩)) rfl;clear hW1 bH1 bF1 hdue1 hSr bR1 bD1
 go_wp2_with (first
  | (go_at_call 46;refine hTk.mono ?_;rintro e w3 ⟨rfl,vx',v',b,l',f',hTs,hbq,hA3,htk3,hgo3,hcl3,hsp3⟩;have bH3:=hsp3.box bH2 (hnt bH2 (by decide) (by decide) (by decide) (by decide));have bF3:=hsp3.box bF2 (hnt bF2 (by decide) (by decide) (by decide) (by decide));obtain⟨fd3,fn3,hD3,-,-⟩:=hA3.wh.d;have g0:=bF3.cell 0 (v:=.int .i64 (-1)) rfl;have g1:=bF3.cell 1 (v:=.int .i64 (-1)) rfl;have g2:=bF3.cell 2 (v:=.int .i64 cc) rfl;have g3:=bF3.cell 3 (v:=.int .i64 dd) rfl;have hBa:=after hb k.db _ _ _ _ _ _ _ (-1) (-1) cc dd _ bH3 hD3.box;unfold fallV at hBa;have HS3:=hid_intro hsp3;clear hsp3)
  | (go_at_call 42;refine hBa.mono ?_;rintro e w4 ⟨rfl,bD4,hg4⟩;have HG4:=hid_intro hg4;clear hg4))
 have hg4:=hid_elim HG4;have hsp3:=hid_elim HS3;have hs4:Spares [k.db] w3 w4:=Spares.of_grown hg4 (by simp);have bH4:=hs4.box bH3 (fun hm=>hne (List.mem_singleton.1 hm));have bR4:=hs4.box hA3.rbx (fun hm=>hA3.rbx.ne hD3.box (by decide) (List.mem_singleton.1 hm));have hW4:=hA3.wh.setLF hs4 bD4
 have hrow4:=hs4.row' hA3.row (fun g hg hm=>by
  obtain⟨-,cur,hB⟩:=row_box hA3.row hg
  exact hB.ne hD3.box (by decide) (List.mem_singleton.1 hm))
 have hdue4:=hs4.row' hA3.due (fun g hg hm=>by
  obtain⟨-,cur,hB⟩:=row_box hA3.due hg
  exact hB.ne hD3.box (by decide) (List.mem_singleton.1 hm))
 have hsw:Spares (htBs k rb vx.due) w w4:=(hs2.trans hsp3).trans (hs4.mono (fun b hb=>by rw [List.mem_singleton.1 hb];exact hdb2));have hE4:ErrT w4:=hS.err.below (hsw.below h9 (fun q hq=>hs9 q hq))
 have hSy:Sys B w4 hb rb ⟨k,vx',max tm now,b.s,b.c⟩:={ host:=bH4,wh:=hW4,err:=hE4,b9:=hS.b9,hlow:=hS.hlow,low:=hS.low,rvb:=⟨_,_,bR4⟩,rlow:=hS.rlow,vrv:=hA3.vrv,vtk:=htk3,due:=hdue4 }
 have hP4:CallsP hb rb v' w4:=⟨bH4.cell 1 rfl,bR4.cell 0 rfl⟩
 clear HG4 HS3 hg4 hsp3 hs4 hW4 hA3 hdue4 bH3 hD3 bF3 g0 g1 g2 g3 hBa hTk hnt hs9 hA2 hE4 hW2 hs2 bH2 bF2 hdue2 h22 bR2 bH4 bR4 bD4;refine wp_region_held_drew (S:=CallsP hb rb v') (by kernel_rfl) hP4 (fun hS0=>?_);refine wpAnyH_take (i:=0) (v:=?v0) rfl (by kernel_rfl) (by kernel_rfl) (by kernel_rfl) (fun _ _ _ h=>h) (Or.inl ⟨by rfl,?y0⟩) hS0 ?_
 case y0=>(intro w hSw;obtain⟨q0,q1⟩:=hSw;go_simp;try with_reducible rfl)
 refine wpAnyH_take (i:=1) (v:=?v1) rfl (by kernel_rfl) (by kernel_rfl) (by kernel_rfl) (fun _ _ _ h=>h) (Or.inl ⟨by rfl,?y1⟩) hS0 ?_
 case y1=>(intro w hSw;obtain⟨q0,q1⟩:=hSw;go_simp;try with_reducible rfl)
 refine wpAnyH_take (i:=2) (v:=?v2) rfl (by kernel_rfl) (by kernel_rfl) (by kernel_rfl) (fun _ _ _ h=>h) (Or.inl ⟨by rfl,?y2⟩) hS0 ?_
 case y2=>(intro w hSw;obtain⟨q0,q1⟩:=hSw;go_simp;try with_reducible rfl)
 refine wpAnyH_take (i:=3) (v:=?v3) rfl (by kernel_rfl) (by kernel_rfl) (by kernel_rfl) (fun _ _ _ h=>h) (Or.inl ⟨by rfl,?y3⟩) hS0 ?_
 case y3=>(intro w hSw;obtain⟨q0,q1⟩:=hSw;go_simp;try with_reducible rfl)
 refine wpAnyH_take (i:=4) (v:=?v4) rfl (by kernel_rfl) (by kernel_rfl) (by kernel_rfl) (fun _ _ _ h=>h) (Or.inl ⟨by rfl,?y4⟩) hS0 ?_
 case y4=>(intro w hSw;obtain⟨q0,q1⟩:=hSw;go_simp;try with_reducible rfl)
 refine wpAnyH_take (i:=5) (v:=?v5) rfl (by kernel_rfl) (by kernel_rfl) (by kernel_rfl) (fun _ _ _ h=>h) (Or.inl ⟨by rfl,?y5⟩) hS0 ?_
 case y5=>(intro w hSw;obtain⟨q0,q1⟩:=hSw;go_simp;try with_reducible rfl)
 refine wpAnyH_take (i:=6) (v:=?v6) rfl (by kernel_rfl) (by kernel_rfl) (by kernel_rfl) (fun _ _ _ h=>h) (Or.inl ⟨by rfl,?y6⟩) hS0 ?_
 case y6=>(intro w hSw;obtain⟨q0,q1⟩:=hSw;go_simp;try with_reducible rfl)
 refine wpAnyH_take (i:=7) (v:=?v7) rfl (by kernel_rfl) (by kernel_rfl) (by kernel_rfl) (fun _ _ _ h=>h) (Or.inl ⟨by rfl,?y7⟩) hS0 ?_
 case y7=>(intro w hSw;obtain⟨q0,q1⟩:=hSw;go_simp;try with_reducible rfl)
 refine wpAnyH_ready (rs:=[8]) (by kernel_rfl) (by simp) ?_;refine AllReadyH.cons rfl (fun K hK=>?_) AllReadyH.nil;go_simp;refine(told_nil _).mono ?_;rintro e w5 ⟨rfl,hb5⟩;have hb45:Below w4.heap.size w4 w5:=((Below.refl _ w4).drew).trans hb5
 have hP5:CallsP hb rb v' w5:=⟨cell_later hb45 hP4.1,cell_later hb45 hP4.2⟩
 refine hK.out _ _ hP5 (fun hS1=>?_);clear hK K;refine wpAnyH_take (i:=9) (v:=?v9) rfl (by kernel_rfl) (by kernel_rfl) (by kernel_rfl) (fun _ _ _ h=>h) (Or.inl ⟨by rfl,?y9⟩) hS1 ?_
 case y9=>(intro w hSw;obtain⟨q0,q1⟩:=hSw;go_simp;try with_reducible rfl)
 refine wpAnyH_take (i:=10) (v:=?v10) rfl (by kernel_rfl) (by kernel_rfl) (by kernel_rfl) (fun _ _ _ h=>h) (Or.inl ⟨by rfl,?y10⟩) hS1 ?_
 case y10=>(intro w hSw;obtain⟨q0,q1⟩:=hSw;go_simp;try with_reducible rfl)
 refine wpAnyH_done (by kernel_rfl) ?_ _;go_wp2;exact bodyPost_ret (v:=.tuple #[v',.int .i64 0]) (by simp [results,results22,go_sem]) rfl ⟨vx',v',b,rfl,hTs,hbq,hSy.below hb45,by simpa using ownsRow_below hrow4 hb45,hgo3,hcl3,hsw.trans (Spares.of_below hb45)⟩
end Go.Proofs
namespace Go.Proofs
open Go.RowKit Go.Sort Go.Lib Go.Shelf
theorem flatT_append (a b:List ThingD):flatT (a++b)=flatT a++flatT b:=by simp [flatT]
theorem flatT_take {L:List ThingD} (i:Nat) {j:Nat} {u:Value} (h:(flatT (L.take i))[j]? = some u):(flatT L)[j]? = some u:=by
 have hj:=(List.getElem?_eq_some_iff.1 h).1;rw [← List.take_append_drop i L,flatT_append,List.getElem?_append_left hj];exact h
theorem flatT_drop {L:List ThingD} {i:Nat} (hi:i≤L.length) {j:Nat} {u:Value} (h:(flatT (L.drop i))[j]? = some u):(flatT L)[i*8+j]? = some u:=by
 have e:(flatT (L.take i)).length=i*8:=by rw [flatT_length,List.length_take];congr 1;omega
 rw [← List.take_append_drop i L,flatT_append,List.getElem?_append_right (by omega),e,show i*8+j-i*8=j by omega];exact h
theorem two_grown {B vb g g1:Nat} {w w1 w2:World} (hB:B≤w.heap.size) (hvB:B≤vb) (h1:w.grownBy w1 (Value.slice none 0 0).ownBlock) (hg:w.heap.size≤g1) (h2:w1.grownBy w2 (some g1)) (v:Value) :
  Below B w (w2.setCell ⟨vb,0,none⟩ v)∧Spares [vb,g] w (w2.setCell ⟨vb,0,none⟩ v):=by
 have hk:∀ k,k<w.heap.size→w2.heap[k]? = w.heap[k]?:=fun k hk=>(h2.block k (Nat.lt_of_lt_of_le hk h1.size) (by intro e;injection e with e;omega)).trans (h1.block k hk (by simp [Value.ownBlock]))
 have b:Below w.heap.size w w2:=⟨h2.os.trans h1.os,h2.tape.trans h1.tape,h2.output.trans h1.output,Nat.le_trans h1.size h2.size,hk⟩
 exact⟨(b.mono hB).setCell (p:=⟨vb,0,none⟩) hvB v,(Spares.of_below b).set (by simp) _ _⟩
theorem Tryz.RVAt.erased {B:Nat} {w w2:World} {vb g cap g2 cap2 len1 i:Nat} {L:List ThingD} {tm tn ln:Int} {xs:List Value} {sv:Value} (h:RVAt B w vb g cap L tm tn ln) (hB:B≤w.heap.size) (hle:(L.eraseIdx i).length=len1) (hx:xs=flatT (L.eraseIdx i))
  (bV:BoxN w2 vb 108 #[sv,.int .u64 tm,.int .i64 tn,.int .i64 ln]) (hown:w2.ownsRow w.heap.size 105 8 (.slice (some ⟨g2,0,none⟩) len1 cap2) len1 xs) (hne:vb≠g2) :
  RVAt B (w2.setCell ⟨vb,0,none⟩ (.slice (some ⟨g2,0,none⟩) len1 cap2)) vb g2 cap2 (L.eraseIdx i) tm tn ln:=by
 subst hx;subst hle;refine⟨bV.set 0 _,?_,?_,fun x hx=>h.num x (List.mem_of_mem_eraseIdx hx),fun x hx=>h.ofs x (List.mem_of_mem_eraseIdx hx)⟩
 ·have hr:=hown.kept (grownBy_setCell' w2 vb (.slice (some ⟨g2,0,none⟩) (L.eraseIdx i).length cap2)) (.inr (by simp [Value.ownBlock];omega))
  obtain⟨h2,⟨e1,-⟩ | ⟨g',cap',cur,e1,e2,e3⟩⟩:=hr
  ·cases e1
  ·cases e1
   exact⟨h2,.inr ⟨g2,cap2,cur,rfl,Nat.le_trans hB e2,e3⟩⟩
 ·have:=h.lim
  have:=List.length_eraseIdx_le L i;omega
theorem ne_of_fresh {vb g n:Nat} (hl:vb<n) (h:(Value.slice none 0 0).ownBlock=some g∨g=n):vb≠g:=by
 rcases h with h | h
 ·cases h
 ·omega
theorem Tryz.rTried_ok (B:Nat) (vb g cap:Nat) (L:List ThingD) (tm tn ln:Int) (w:World) (h:RVAt B w vb g cap L tm tn ln) (hB:B≤w.heap.size) (hvB:B≤vb) (i:Nat) (hi0:0<i) (hil:i<L.length) :
  Calls prog 107 #[.pointer (some ⟨vb,0,none⟩),.int .i64 i,.bool true] w fun e w'=>∃ g' cap',e=.returned (.tuple #[])∧RVAt B w' vb g' cap' (L.eraseIdx i) tm tn ln∧vb≠g'∧Below B w w'∧Spares [vb,g] w w':=by
 obtain⟨i0,hi,hz0,hz1,hz2⟩:=info_parts thingInfo;have hlim:=h.lim;have lg:=h.glt;have lv:=h.v.lt;have v0:=h.v.cell 0 (v:=.slice (some ⟨g,0,none⟩) L.length cap) rfl
 have hcap:L.length≤cap:=by
  obtain⟨-,⟨e1,-⟩ | ⟨g',cap',cur,e1,e2,e3,e4,e5,e6,e7⟩⟩:=h.row
  ·cases e1
  ·cases e1;first | exact e4 | exact e5 | omega
 have hcs:=h.row.cells (g:=g) rfl
 have n1:∀ j u,(flatT (L.take i))[j]? = some u→w.cell? ((⟨g,0,none⟩:Addr).add j)=some u:=fun j u hu=>hcs j u (flatT_take i hu)
 have n2:∀ j u,(flatT (L.drop (i+1)))[j]? = some u→w.cell? ((⟨g,(i+1)*8,none⟩:Addr).add j)=some u:=fun j u hu=>by
  have:=hcs _ u (flatT_drop (by omega) hu);rw [Lib.add_plain] at this ⊢
  simpa using this
 have l1:(flatT (L.take i)).length=i*8:=by rw [flatT_length,List.length_take];congr 1;omega
 have l2:(flatT (L.drop (i+1))).length=(L.length-(i+1))*8:=by rw [flatT_length,List.length_drop]
 have N1:=hid_intro n1;have N2:=hid_intro n2;have L1:=hid_intro l1;have L2:=hid_intro l2
 have N3:=hid_intro (fun(w1:World) (hg:w.grownBy w1 (Value.slice none 0 0).ownBlock) (j:Nat) (u:Value) (hu:(flatT (L.drop (i+1)))[j]? = some u)=>show w1.cell? ((⟨g,(i+1)*8,none⟩:Addr).add j)=some u from by
  have e:=n2 j u hu;rw [Lib.add_plain] at e ⊢
  exact(hg.cell_far _ lg (by simp [Value.ownBlock])).trans e)
 clear n1 n2 l1 l2 hcs
 obtain⟨len,hlen⟩:∃ len,L.length=len:=⟨_,rfl⟩
 rw [hlen] at hil hlim v0 hcap L2;have Hlen:=hid_intro hlen
 obtain⟨len1,hl1⟩:∃ len1,len=len1+1:=⟨len-1,by omega⟩
 have Hl1:=hid_intro hl1;clear hl1;clear hlen;have hle:Hid ((L.eraseIdx i).length=len1):=hid_intro (by rw [List.length_eraseIdx_of_lt (by rw [hid_elim Hlen];omega),hid_elim Hlen];have:=hid_elim Hl1;omega);have hfe:Hid (flatT (L.take i)++flatT (L.drop (i+1))=flatT (L.eraseIdx i)):=hid_intro (by rw [List.eraseIdx_eq_take_drop_succ,flatT_append])
 by_cases hc:cap=i+1
 ·have hli:len=i+1:=by omega
  have hdn:Hid (flatT (L.drop (i+1)) = []):=hid_intro (by rw [List.drop_of_length_le (by rw [hid_elim Hlen];omega)];rfl);subst hc;subst hli;go_enter func107,ntmps107
  go_wp2_with (first
   | (at_builtin;refine wpList_append_lies _ rfl _ _ 106 rfl w.heap.size 105 i0 _ 8 72 underlying106 hi hz0 hz1 hz2 rfl (by decide) (.slice none 0 0) 0 [] rfl (World.ownsRow_nil _ _ _ _) ⟨g,0,none⟩ i (i+1) (flatT (L.take i)) rfl (hid_elim L1) (hid_elim N1) (flatT_one _) hi0 (by unfold maxLen;omega) (by omega) (Nat.le_refl _) _ rfl ?_;intro g1 cap1 w1 hown1 hgr1 hat1 hlt1;have bV1:=h.v.kept hgr1 (by simp [Value.ownBlock]);have d0:=bV1.cell 0 (v:=.slice (some ⟨g,0,none⟩) (i+1) (i+1)) (by rw [hid_elim Hlen];rfl);have Ho1:=hid_intro (show w1.ownsRow w.heap.size 105 8 (.slice (some ⟨g1,0,none⟩) i cap1) i (flatT (L.take i)) by simpa using hown1);have hvg1:vb≠g1:=ne_of_fresh lv hat1;have Hg1:=hid_intro hgr1;clear hown1 hgr1 hat1)
   | (at_builtin;refine wpList_append_own _ rfl _ _ 106 rfl w.heap.size 105 i0 _ 8 72 underlying106 hi hz0 hz1 hz2 rfl (by decide) (.slice (some ⟨g1,0,none⟩) i cap1) i _ rfl (hid_elim Ho1) ⟨g,0,none⟩ 0 0 [] rfl (by simp) (fun j u hu=>by simp at hu) (by simp) (by unfold maxLen;omega) (by omega) (hid_elim Hg1).size ?_;intro v2 w2 hown2 hgr2 hn2;clear hn2;rw [show i+0=len1 by have:=hid_elim Hl1;omega] at hown2;obtain⟨g2,cap2,rfl,hb2,hlt2⟩:=hown2.form (by have:=hid_elim Hl1;omega);have bV2:=bV1.kept hgr2 (by simpa [Value.ownBlock] using hvg1);have d2:=bV2.cell 0 (v:=.slice (some ⟨g,0,none⟩) (i+1) (i+1)) (by rw [hid_elim Hlen];rfl);have fz2:=bV2.frozen 0;have Ho2:=hid_intro hown2;have Hg2:=hid_intro hgr2;have HV2:=hid_intro bV2;clear hown2 hgr2 bV2))
  have hg1:=((hid_elim Ho1).lt g1 rfl).1
  have hvg2:vb≠g2:=by omega
  exact bodyPost_ret (v:=.tuple #[]) (by simp [results,results107,go_sem]) rfl ⟨g2,cap2,rfl,h.erased hB (hid_elim hle) (by rw [← hid_elim hfe,hid_elim hdn]) (hid_elim HV2) (hid_elim Ho2) hvg2,hvg2,two_grown hB hvB (hid_elim Hg1) hg1 (hid_elim Hg2) _⟩
 ·have hc':¬ i+1=cap:=by omega
  go_enter func107,ntmps107
  go_wp2_with (first
   | (at_builtin;refine wpList_append_lies _ rfl _ _ 106 rfl w.heap.size 105 i0 _ 8 72 underlying106 hi hz0 hz1 hz2 rfl (by decide) (.slice none 0 0) 0 [] rfl (World.ownsRow_nil _ _ _ _) ⟨g,0,none⟩ i cap (flatT (L.take i)) rfl (hid_elim L1) (hid_elim N1) (flatT_one _) hi0 (by unfold maxLen;omega) (by omega) (Nat.le_refl _) _ rfl ?_;intro g1 cap1 w1 hown1 hgr1 hat1 hlt1;have bV1:=h.v.kept hgr1 (by simp [Value.ownBlock]);have d0:=bV1.cell 0 (v:=.slice (some ⟨g,0,none⟩) len cap) (by rw [hid_elim Hlen];rfl);have Ho1:=hid_intro (show w1.ownsRow w.heap.size 105 8 (.slice (some ⟨g1,0,none⟩) i cap1) i (flatT (L.take i)) by simpa using hown1);have hvg1:vb≠g1:=ne_of_fresh lv hat1;have Hg1:=hid_intro hgr1;clear hown1 hgr1 hat1)
   | (at_builtin;refine wpList_append_own _ rfl _ _ 106 rfl w.heap.size 105 i0 _ 8 72 underlying106 hi hz0 hz1 hz2 rfl (by decide) (.slice (some ⟨g1,0,none⟩) i cap1) i _ rfl (hid_elim Ho1) ⟨g,(i+1)*8,none⟩ (len-(i+1)) (cap-(i+1)) (flatT (L.drop (i+1))) rfl (hid_elim L2) (hid_elim N3 w1 (hid_elim Hg1)) (flatT_one _) (by unfold maxLen;omega) (by omega) (hid_elim Hg1).size ?_;intro v2 w2 hown2 hgr2 hn2;clear hn2;rw [show i+(len-(i+1))=len1 by have:=hid_elim Hl1;omega] at hown2;obtain⟨g2,cap2,rfl,hb2,hlt2⟩:=hown2.form (by have:=hid_elim Hl1;omega);have bV2:=bV1.kept hgr2 (by simpa [Value.ownBlock] using hvg1);have d2:=bV2.cell 0 (v:=.slice (some ⟨g,0,none⟩) len cap) (by rw [hid_elim Hlen];rfl);have fz2:=bV2.frozen 0;have Ho2:=hid_intro hown2;have Hg2:=hid_intro hgr2;have HV2:=hid_intro bV2;clear hown2 hgr2 bV2))
  have hg1:=((hid_elim Ho1).lt g1 rfl).1
  have hvg2:vb≠g2:=by omega
  exact bodyPost_ret (v:=.tuple #[]) (by simp [results,results107,go_sem]) rfl ⟨g2,cap2,rfl,h.erased hB (hid_elim hle) (hid_elim hfe) (hid_elim HV2) (hid_elim Ho2) hvg2,hvg2,two_grown hB hvB (hid_elim Hg1) hg1 (hid_elim Hg2) _⟩
end Go.Proofs
namespace Go.Proofs
open Go.RowKit Go.Sort Go.Lib Go.Shelf Go.Maps Go.WideMaps
theorem strRow_of {W:World} {B n:Nat} {v:Value} {xs:List (List UInt8)} (h:W.ownsRow B 9 1 v n (xs.map fun x=>.string ⟨x.toArray⟩)) (hn:xs.length=n):StrRow W v xs:=by
 rcases h.2 with⟨rfl,h0⟩ | ⟨g,cap,cur,rfl,-,hB,-⟩
 ·obtain rfl:xs = []:=List.length_eq_zero_iff.1 (by omega)
  exact⟨none,0,rfl,fun k x hk=>by simp at hk⟩
 ·refine⟨some ⟨g,0,none⟩,cap,by rw [hn],fun k x hk=>⟨g,rfl,BoxN.lt (show BoxN W g 9 cur from hB),?_⟩⟩
  have hk':=(List.getElem?_eq_some_iff.1 hk).1;have:=h.cellAt k (by omega)
  simpa [List.getElem?_map,hk] using this
theorem Tryz.htBs_own {B hb rb:Nat} {σ:SS} {W:World} (h:Sys B W hb rb σ):∀ b∈htBs σ.k rb σ.vx.due,B≤b∧¬ Foreign W b:=fun b hm=>by
 obtain⟨ra,rc,hr⟩:=h.rvb;simp only [htBs,tickBs,List.mem_append,List.mem_cons] at hm
 rcases hm with hm | rfl | e | e
 ·exact⟨h.low b hm,h.turns_own b hm⟩
 ·exact⟨h.rlow,fun hF=>hF.ne hr (by decide) rfl⟩
 ·simp [Value.ownBlock] at e
 ·obtain⟨hlo,cs,hB⟩:=row_box h.due (g:=b) (by simpa using e)
  exact⟨hlo,fun hF=>hF.ne hB (by decide) rfl⟩
abbrev TickP (wb hb sb:Nat) (ff ke pa:Int) (W:World):Prop:=(W.cell? ⟨wb,0,none⟩=some (.pointer (some ⟨hb,0,none⟩))∧W.cell? ⟨sb,5,none⟩=some (.int .u64 ff))∧W.cell? ⟨sb,6,none⟩=some (.int .i64 (-1))∧W.cell? ⟨sb,7,none⟩=some (.int .i64 (-1))∧W.cell? ⟨sb,8,none⟩=some (.int .i64 ke)∧W.cell? ⟨sb,9,none⟩=some (.int .i64 pa)
theorem tries_tm {tm:Int} {a b:TS} (_:Tries tm a b):∃ t,t=tm:=⟨_,rfl⟩
theorem TickP.drew {wb hb sb:Nat} {ff ke pa:Int} {W:World} (h:TickP wb hb sb ff ke pa W):TickP wb hb sb ff ke pa W.drew:=h
theorem Spares.thenL {bs bs':List Nat} {W W' W'':World} (h:Spares bs W W') (h':Spares bs' W' W'') (hg:∀ b∈bs',b∈bs∨W.heap.size≤b):Spares bs W W'':=
 ⟨h'.os.trans h.os,h'.tape.trans h.tape,h'.output.trans h.output,Nat.le_trans h.size h'.size,fun k hk hn=>(h'.block k (Nat.lt_of_lt_of_le hk h.size) (fun e=>by
  rcases hg k e with e1 | e1
  ·exact hn e1
  ·omega)).trans (h.block k hk hn)⟩
theorem ne_row {W:World} {o:Obj} {v:Value} {wb g:Nat} (hat:v.ownBlock=some g∨g=(W.alloc o).heap.size) (hnr:some wb≠v.ownBlock) (hl:wb<W.heap.size):g≠wb:=by
 rcases hat with e | e
 ·exact fun e'=>hnr (by rw [e,e'])
 ·rw [World.size_alloc] at e;omega
section
variable {B wb S j g6 cap6 g7 cap7:Nat} {wr w3 w4 w5 w6 w7 w8:World} {u9:Value} {ys:List Value} {L' L2:List ThingD} {tmx tr lr:Int} {cs:Array Value}
theorem Tryz.tickRow (hb4:Below wr.heap.size wr w4) (hb5:Below w4.heap.size w4 w5) (hb6:Below w5.heap.size w5 w6) (hsp7:Spares [w5.heap.size,g6] w6 w7) (hR6:RVAt w5.heap.size w6 w5.heap.size g6 cap6 L' tmx tr lr) (hrow:wr.ownsRow S 9 1 u9 j ys) (bW6:BoxN w6 wb 69 cs) (hwb:wb<wr.heap.size) :
  w7.ownsRow S 9 1 u9 j ys∧BoxN w7 wb 69 cs∧some wb≠u9.ownBlock∧wr.heap.size≤w5.heap.size∧w5.heap.size<w7.heap.size:=by
 have h4:=hb4.size;have h5:=hb5.size;have gl:=hR6.glow
 have hrl:∀ x,u9.ownBlock=some x→x<wr.heap.size:=fun x e=>by obtain⟨-,cs,hc⟩:=row_box hrow (g:=x) e;exact hc.lt
 have bW7:=hsp7.box bW6 (by simp;omega);have hrow7:=hsp7.row' (ownsRow_below (ownsRow_below (ownsRow_below hrow hb4) hb5) hb6) (fun x e=>by have:=hrl x e;simp;omega);exact⟨hrow7,bW7,bW7.not_row (e:=9) (by decide) hrow7,by omega,Nat.lt_of_lt_of_le hR6.v.lt hsp7.size⟩
theorem Tryz.tickRound {id:List UInt8} {vv:Value} (hgrow:(w7.alloc (.cells #[.string ⟨id.toArray⟩] 9)).grownBy w8 u9.ownBlock) (hR7:RVAt w5.heap.size w7 w5.heap.size g7 cap7 L2 tmx tr lr) (h4:wr.heap.size≤w4.heap.size) (h5:w4.heap.size≤w5.heap.size) (hwr:w3.heap.size≤wr.heap.size) (hrow:wr.ownsRow w3.heap.size 9 1 u9 j ys) (hspr:Spares [wb] w3 wr) (hb4:Below wr.heap.size wr w4) (hb5:Below w4.heap.size w4 w5) (hb6:Below w5.heap.size w5 w6) (hsp7:Spares [w5.heap.size,g6] w6 w7) (hR6:RVAt w5.heap.size w6 w5.heap.size g6 cap6 L' tmx tr lr) (hwb:wb<wr.heap.size) {g8 cap8 n8:Nat} {zs:List Value} (hg8:g8≠wb) :
  (w8.ownsRow w3.heap.size 9 1 (.slice (some ⟨g8,0,none⟩) n8 cap8) n8 zs→(w8.setCell ⟨wb,1,none⟩ vv).ownsRow w3.heap.size 9 1 (.slice (some ⟨g8,0,none⟩) n8 cap8) n8 zs)∧RVAt w5.heap.size (w8.setCell ⟨wb,1,none⟩ vv) w5.heap.size g7 cap7 L2 tmx tr lr∧Spares [wb] w3 (w8.setCell ⟨wb,1,none⟩ vv):=by
 have hrl:∀ x,u9.ownBlock=some x→w3.heap.size≤x∧x<wr.heap.size:=fun x e=>by obtain⟨h,cs,hc⟩:=row_box hrow (g:=x) e;exact⟨h,hc.lt⟩
 have hs8:Spares (wb :: u9.ownBlock.toList) w7 (w8.setCell ⟨wb,1,none⟩ vv):=(((Spares.of_below (Below.refl _ w7)).alloc _).trans (Spares.of_grown' hgrow (fun b hb=>by rw [hb];simp))).set (by simp) _ _
 have hmem:∀ x,x∈wb :: u9.ownBlock.toList→x=wb∨w3.heap.size≤x∧x<wr.heap.size:=fun x hx=>by
  rcases List.mem_cons.1 hx with e | e
  ·exact .inl e
  ·exact .inr (hrl x (by simpa using e))
 have gl7:=hR7.glow;have gl6:=hR6.glow;refine⟨fun h=>h.kept (grown_set w8 wb 1 vv) (.inr (by simp [Value.ownBlock];exact hg8)),hR7.spares hs8 (fun hx=>?_) (fun hx=>?_),((((hspr.trans (Spares.of_below hb4)).trans (Spares.of_below hb5)).trans (Spares.of_below hb6)).thenL hsp7 (fun b hb=>?_)).thenL hs8 (fun b hb=>?_)⟩
 ·rcases hmem _ hx with e | e <;> omega
 ·rcases hmem _ hx with e | e <;> omega
 ·simp only [List.mem_cons,List.not_mem_nil,or_false] at hb
  right
  omega
 ·rcases hmem _ hb with e | e
  ·left;simp [e]
  ·exact .inr e.1
end
theorem Tryz.tickInv {w0 w wr:World} {B N wb hb rb ra' g' cap':Nat} {σ:SS} {L L':List ThingD} {xs:List (List UInt8)} {tmx ff:Int} {k:Blk} {vx':VX} {b:TS} (hI:Inv w0 B N wb hb w) (hn:Nums N σ L) (hB:Below B w wr)
  (hS:Sys B wr hb rb ⟨k,vx',tmx,b.s,b.c⟩) (hR:RVAt B wr ra' g' cap' L' tmx ((σ.s.tn+1:Nat):Int) ((σ.s.ln+1:Nat):Int)) (hW:BoxN wr wb 69 #[.pointer (some ⟨hb,0,none⟩),.pointer (some ⟨ra',0,none⟩),.pointer none,.bool false,.bool false]) (hra:B≤ra')
  (hTs:Tries tmx ⟨σ.s,σ.s.tks.flatMap (dueT σ.s tmx)++σ.s.lks.flatMap (dueL tmx),ff,σ.c,[]⟩ b) (hT:Tk tmx ((48*N:Nat):Int) b b L' xs) (f0:0≤ff) (f1:ff≤18446744073709551615) (hc:b.cl.length≤150∧b.c.length≤σ.c.length+20000*b.cl.length)
  (hs:b.s.tn=σ.s.tn∧b.s.ln=σ.s.ln∧b.s.tks.length≤σ.s.tks.length∧b.s.lks.length≤σ.s.lks.length):Inv w0 B (N+1) wb hb wr:=by
 obtain⟨s1,s2,s3,s4⟩:=hs;obtain⟨c1,c2⟩:=hc;have nt:=hn.nt;have nl:=hn.nl;have hmost:=(hTs.most (M:=((48*N:Nat):Int)) ⟨hn.al.tree,QOk.start hn.al.tree,QNz.start hn.al.tree,hn.al.tr,f0,f1⟩).2
 have hq0:(σ.s.tks.flatMap (dueT σ.s tmx)++σ.s.lks.flatMap (dueL tmx)).length≤σ.s.tks.length+σ.s.lks.length:=by
  have h1:=flatDue_len (dueT σ.s tmx) (fun x=>by unfold dueT;split <;> simp) σ.s.tks;have h2:=flatDue_len (dueL tmx) (fun x=>by unfold dueL;split <;> simp) σ.s.lks;rw [List.length_append];omega
 have hcl:b.cl.length≤48:=by
  simp only [List.length_nil] at hmost;omega
 have hpos:0<b.s.tks.length:=by
  obtain⟨x,x1,x2,-⟩:=hT.hd;obtain⟨z,hz,-⟩:=hT.inv.rel.tok_mem (List.mem_of_getElem? x1) x2;exact List.length_pos_of_mem hz
 refine⟨hI.bel.trans hB,Nat.le_trans hI.hB hB.size,hI.bw,⟨rb,_,ra',g',cap',L',hS,by rw [s1,s2];exact hR,hT.inv.rel,hW,⟨?_,?_,hpos,?_,?_,?_,⟨hT.go.tree,?_,hT.old⟩,hT.hd⟩,hra⟩⟩
 ·show b.s.tks.length≤10;omega
 ·show b.s.lks.length≤14;omega
 ·have:=hn.tn;show b.s.tn≤N+1;omega
 ·have:=hn.ln;show b.s.ln≤N+1;omega
 ·have:=hn.c;show b.c.length≤(N+1)*40000000;omega
 ·have:=hT.go.tr
  exact⟨fun x hx=>by have:=this.1 x hx;omega,fun x hx=>by have:=this.2 x hx;omega⟩
theorem Tryz.okTick {w0:World} {B N wb hb:Nat} (w:World) (hI:Inv w0 B N wb hb w) (hN:N<16384) (ss tt:List UInt8) (aa bb ff:Int) (ha0:0≤aa) (ha1:aa≤18446744073709551615) (hb0':0≤bb) (hf0:0≤ff) (hf1:ff≤18446744073709551615) (ke pa:Int) :
  Calls prog 61 #[.pointer (some ⟨wb,0,none⟩),.agg (StepD.cells ⟨8,ss,tt,aa,bb,ff,-1,-1,ke,pa⟩)] w fun e w'=>e=.returned (.bool true)∧Inv w0 B (N+1) wb hb w':=by
 obtain⟨rb,σ,ra,g,cap,L,hS,hR,hl,hW,hn,hra⟩:=hI.ex
 obtain⟨tm,htm⟩:∃ tm,tm=σ.tm:=⟨_,rfl⟩
 have t0:=hS.wh.v.t0;have t1:=hS.wh.v.t1;rw [← htm] at t0 t1;have lW:=hW.lt;have hb0:Below w.heap.size w (w.alloc (.cells (StepD.cells ⟨8,ss,tt,aa,bb,ff,-1,-1,ke,pa⟩) 72)):=(Below.refl _ w).alloc (Nat.le_refl _) _;have bS:=BoxN.new w 72 (StepD.cells ⟨8,ss,tt,aa,bb,ff,-1,-1,ke,pa⟩);have bW0:=hW.alloc (.cells (StepD.cells ⟨8,ss,tt,aa,bb,ff,-1,-1,ke,pa⟩) 72);have w1c:=bW0.cell 1 (v:=.pointer (some ⟨ra,0,none⟩)) rfl;have hR0:=hR.below hb0;have r1c:=hR0.v.cell 1 (v:=.int .u64 tm) (by rw [htm];rfl);have s3c:=bS.cell 3 (v:=.int .u64 aa) rfl;have s4c:=bS.cell 4 (v:=.int .u64 bb) rfl
 have hT:=fun(W:World) (now:Int) (hSW:Sys B W hb rb σ) (hbw:B≤W.heap.size) (h0:0≤now) (h1:now≤18446744073709551615)=>hTick B hb rb σ W hSW hbw hn.al.tree (by have:=hn.nt;have:=hn.nl;omega) ((48*N:Nat):Int) (by omega) hn.al.tr (by have:=hn.c;omega) ff now hf0 hf1 h0 h1 ke pa
 unfold fallV at hT;have b9:=hS.b9;have hBw:=hI.hB;have hbw:=hI.bw;have HI:=hid_intro hI;simp only [StepD.cells] at *
 have key:∃ now:Int,0≤now∧now≤18446744073709551615∧(bb % 2=1∧now=aa∨bb % 2=0∧now=IntKind.u64.wrap (σ.tm+aa)):=by
  by_cases hodd:bb % 2=1
  ·exact⟨aa,ha0,ha1,.inl ⟨hodd,rfl⟩⟩
  ·refine⟨_,?_,?_,.inr ⟨by omega,rfl⟩⟩
   ·rw [IntKind.wrap_u64];omega
   ·rw [IntKind.wrap_u64];omega
 obtain⟨now,n0,n1,hnow⟩:=key
 rcases hnow with⟨hodd,hnow⟩ | ⟨hodd,hnow⟩
 all_goals
  replace hnow:=hnow.symm;subst hnow;go_enter func61,ntmps61
  go_wp2_with fail
  go_quiet (fail)
  go_wp2_with fail
  have hb1:=below_drewN hb0 nq;have bS1:=bS.below (below_drewN (Below.refl _ _) nq) bS.lt;have bW1:=bW0.below (below_drewN (Below.refl _ _) nq) bW0.lt;have hR1:=hR.below hb1.drew;have hS1:=hS.below hb1.drew;generalize (w.alloc (.cells #[.int .i64 8,.string ⟨ss.toArray⟩,.string ⟨tt.toArray⟩,.int .u64 aa,.int .u64 bb,.int .u64 ff,.int .i64 (-1),.int .i64 (-1),.int .i64 ke,.int .i64 pa] 72)).drewN nq=w1 at *
  have hP1:TickP wb hb w.heap.size ff ke pa w1:=⟨⟨bW1.cell 0 rfl,bS1.cell 5 rfl⟩,bS1.cell 6 rfl,bS1.cell 7 rfl,bS1.cell 8 rfl,bS1.cell 9 rfl⟩
  have hTk:=hT w1.drew _ hS1 (by have:=hb1.size;exact Nat.le_trans hBw this) n0 n1
  have fW:Foreign w1.drew wb:=⟨by omega,_,_,bW1,by decide⟩
  have fS:Foreign w1.drew w.heap.size:=⟨by omega,_,_,bS1,by decide⟩
  obtain⟨fA,fG⟩:=hR1.foreign b9 (by omega);have hown:=htBs_own hS1;have HB1:=hid_intro hb1;clear hT w1c hR0 r1c s3c s4c bW0 bS hb0 hb1;simp only [TickP] at hP1
  go_region_held3 (TickP wb hb w.heap.size ff ke pa) (first
   | with_reducible exact TickP.drew hP1
   | with_reducible assumption) (first | (go_at_call 22;refine hTk.mono ?_;rintro e w2 ⟨vx',v',b,rfl,hTs,hbq,hS2,hrow2,hgo2,hcl2,hsp2⟩;have bW2:=Spares.box (W:=w1.drew) hsp2 bW1 (fun hx=>(hown _ hx).2 fW);have bS2:=Spares.box (W:=w1.drew) hsp2 bS1 (fun hx=>(hown _ hx).2 fS);have hP2:TickP wb hb w.heap.size ff ke pa w2:=⟨⟨bW2.cell 0 rfl,bS2.cell 5 rfl⟩,bS2.cell 6 rfl,bS2.cell 7 rfl,bS2.cell 8 rfl,bS2.cell 9 rfl⟩))
  have hR2:=hR1.spares hsp2 (fun hx=>(hown _ hx).2 fA) (fun hx=>(hown _ hx).2 fG);have hB2:Below B w w2:=((hid_elim HB1).mono hBw).drew.trans (hsp2.below (by have:=(hid_elim HB1).size;exact Nat.le_trans hBw this) (fun b hb=>(hown b hb).1));have HB2:=hid_intro hB2;have lra:=hR.v.lt;have lgg:=hR.glt
  have ngw:wb≠g:=fun e=>by obtain⟨c,hc⟩:=hR2.gbox;exact bW2.ne hc (by decide) e
  have nrw:wb≠ra:=bW2.ne hR2.v (by decide);obtain⟨⟨q0,q5⟩,-⟩:=hP2;obtain⟨tmx,etm⟩:=tries_tm hTs;rw [← etm] at hTs hS2 hgo2;have gg:=hR.glow;clear hsp2 hown fW fS fA fG hB2 hP1 HB1 bW1 bS1 hR1 hS1 hTk;have q12:=bW2.cell 1 (v:=.pointer (some ⟨ra,0,none⟩)) rfl
  have hrd:=fun g' (e:v'.ownBlock=some g')=>row_box hrow2 (g:=g') e
  go_upto_region 9 with(first
   | (go_at_call 102;refine(rTell B ra g cap L σ.tm _ _ _ w2 hR2 hra hR2.ne).mono ?_;rintro e w3 ⟨rfl,hR3,-,hsp3⟩;rw [← etm] at hR3;have bW3:=hsp3.box bW2 (by simp [ngw,nrw]);have bS3:=hsp3.box bS2 (by simp;omega);have q53:=bS3.cell 5 (v:=.int .u64 ff) rfl;have q13:=bW3.cell 1 (v:=.pointer (some ⟨ra,0,none⟩)) rfl))
  have hrow3:=hsp3.row' hrow2 (fun g' e=>by
   obtain⟨-,cs,hc⟩:=hrd g' e;obtain⟨c,hg2⟩:=hR2.gbox;simp only [List.mem_cons,List.not_mem_nil,or_false,not_or]
   exact⟨hc.ne hR2.v (by decide),hc.ne hg2 (by decide)⟩)
  obtain⟨p,ccap,rfl,hcs⟩:=strRow_of (xs:=b.cl.map fun p=>nmStr p.1 p.2) (by rw [List.map_map];exact hrow3) (by simp)
  have hS3:Sys B w3 hb rb ⟨σ.k,vx',tmx,b.s,b.c⟩:=(loneSys B hb rb _).other hS2 hsp3 (fun x hx=>by
   obtain⟨f1,f2⟩:=hR2.foreign b9 (by omega);simp only [List.mem_cons,List.not_mem_nil,or_false] at hx
   rcases hx with rfl | rfl
   ·exact f1
   ·exact f2)
  obtain⟨n,hnn⟩:∃ n,b.cl.length=n:=⟨_,rfl⟩
  rw [List.length_map,hnn];rw [List.length_map,hnn] at hrow3;have hst:=Tk.start (M:=((48*N:Nat):Int)) hTs hbq hn.al rfl ⟨hS.wh.v.va.ok,hS.wh.v.nt,hS.wh.v.nl⟩ hl hn.hd hf0 hf1
  have hB3:Below B w w3:=(hid_elim HB2).trans (hsp3.below (by have:=(hid_elim HB2).size;omega) (fun b hb=>by
   simp only [List.mem_cons,List.not_mem_nil,or_false] at hb
   rcases hb with rfl | rfl <;> omega))
  have hfin:=fun(wr:World) (ra' g' cap':Nat) (L':List ThingD) (xs:List (List UInt8)) (hb':Below B w wr) (hS':Sys B wr hb rb ⟨σ.k,vx',tmx,b.s,b.c⟩) (hR':RVAt B wr ra' g' cap' L' tmx ((σ.s.tn+1:Nat):Int) ((σ.s.ln+1:Nat):Int)) hW' hra' (hT:Tk tmx ((48*N:Nat):Int) b b L' xs) hs'=>tickInv (w:=w) hI hn hb' hS' hR' hW' hra' hTs hT hf0 hf1 ⟨hcl2.1,hcl2.2.1⟩ hs'
  have h150:=hcl2.1;rw [hnn] at h150
  have htm0:0≤tmx:=by rw [etm];omega
  have hN1:=hN;have Hrow:=hid_intro hrow3;have HS3:=hid_intro hS3;have Hst:=hid_intro hst;have HB3:=hid_intro hB3;have Hfin:=hid_intro hfin;have Hnn:=hid_intro hnn;have l3:w.heap.size≤w3.heap.size:=hB3.size;clear hfin hrow3 hS3 hst hB3 hS hS2 hrow2 hR hR2 HB2 bW2 bS2 bS3 hW hl hn hI HI hcl2 hbq hgo2 hTs hrd hcs q0 q5 q12 hsp3 q53 hnn q13;go_wp2
  go_loopw [8,9,10,11] (fun fv tv bp iv wr=>∃(j:Nat) (a:TS) (L':List ThingD) (xs:List (List UInt8)) (ra' g' cap' pb:Nat),j≤n∧iv=.int .i64 j∧fv=.int .u64 a.fl∧bp=.pointer (some ⟨pb,0,none⟩)∧a.cl.length=j∧Hid (Tk tmx ((48*N:Nat):Int) b a L' xs)∧wr.ownsRow w3.heap.size 9 1 tv j (xs.map fun x=>.string ⟨x.toArray⟩)∧RVAt B wr ra' g' cap' L' tmx ((σ.s.tn+1:Nat):Int) ((σ.s.ln+1:Nat):Int)∧B≤ra'∧BoxN wr wb 69 #[.pointer (some ⟨hb,0,none⟩),.pointer (some ⟨ra',0,none⟩),.pointer none,.bool false,.bool false]∧Spares [wb] w3 wr∧Hid (a.s.tn=σ.s.tn∧a.s.ln=σ.s.ln∧a.s.tks.length≤σ.s.tks.length∧a.s.lks.length≤σ.s.lks.length)) (fun _ _ _ iv _=>n-(intOf iv).toNat)
  case atStart=>exact⟨0,_,L,[],ra,g,cap,ra,Nat.zero_le _,rfl,rfl,rfl,rfl,Hst,World.ownsRow_nil _ _ _ _,hR3,hra,bW3,Spares.of_below (Below.refl _ _),hid_intro ⟨rfl,rfl,Nat.le_refl _,Nat.le_refl _⟩⟩
  case round =>
   obtain⟨j,a,L',xs,ra',g',cap',pb,hj,rfl,rfl,rfl,haj,HT,hrow,hRr,hra',bWr,hspr,Hs⟩:=hrel;have hxl:xs.length=j:=(hid_elim HT).len.trans haj;have hDu:=rDue B ra' g' cap' L' tmx _ _ xs u9 wr hRr (strRow_of hrow hxl) (by omega);have c1:=bWr.cell 1 (v:=.pointer (some ⟨ra',0,none⟩)) rfl
   by_cases hjn:j<n
   ·obtain⟨c,i,th,kd,nm,hi,hdue,hcn,hid,hi0,⟨hm,ht0,ht1⟩,hcf,hccl,hcs,hbr⟩:=(hid_elim HT).step (by have:=hid_elim Hnn;omega)
    rw [hdue] at hDu;simp only [dueV] at hDu;have hil:i<L'.length:=(List.getElem?_eq_some_iff.1 hi).1;have hlim:=hRr.lim
    have hrc:∃ q,p=some ⟨q,0,none⟩∧q<wr.heap.size∧wr.cell? ⟨q,j,none⟩=some (.string ⟨th.id.toArray⟩):=by
     have hr:=hspr.row' (hid_elim Hrow) (fun g'' e=>by
      obtain⟨-,cs,hc⟩:=row_box (hid_elim Hrow) (g:=g'') e;simp only [List.mem_cons,List.not_mem_nil,or_false]
      exact hc.ne bW3 (by decide))
     obtain⟨p2,cap2,e2,h2⟩:=strRow_of (xs:=b.cl.map fun p=>nmStr p.1 p.2) (by rw [List.map_map];exact hr) (by rw [List.length_map];exact hid_elim Hnn);cases e2;have:=h2 j (nmStr kd nm) (by rw [List.getElem?_map,← haj,hcn];rfl);rw [← hid] at this;exact this
    obtain⟨q,rfl,hq,hqc⟩:=hrc;have hnum:=hRr.num th hm
    have hId:=fun W=>rId th hnum W
    have lra':=hRr.v.lt
    obtain⟨len,hlen⟩:∃ len,L'.length=len:=⟨_,rfl⟩
    have Hlen:=hid_intro hlen;rw [hlen] at hil hlim;clear hlen;have Hbr:=hid_intro hbr;have Hcs:=hid_intro hcs;have Hi:=hid_intro hi;simp only [ThingD.cells] at hId;have hf0:0≤a.fl:=(hid_elim HT).go.f0;have hf1:a.fl≤18446744073709551615:=(hid_elim HT).go.f1
    have hft:th.tries<1000000:=by omega
    clear hbr hcs hm hdue hid hcn
    obtain⟨idv,hidv⟩:∃ idv,th.id=idv:=⟨_,rfl⟩
    rw [hidv] at hqc;have Hidv:=hid_intro hidv;simp only [hidv] at hId;clear hidv;have bWl:=bWr.lt
    have hrl:∀ x,u9.ownBlock=some x→x<wr.heap.size:=fun x e=>by obtain⟨-,cs,hc⟩:=row_box hrow (g:=x) e;exact hc.lt
    obtain⟨i0,hi',hz0,hz1,hz2⟩:=info_parts strInfo
    have hfl2:a.fl % 2=1∨a.fl % 2=0:=by omega
    rcases hfl2 with hfl | hfl
    ·have hfl':(a.fl % 2==1)=true:=by simp [hfl]
     go_wp2_with (first
      | (go_at_call 104;refine hDu.mono ?_;rintro e w4 ⟨rfl,hb4⟩;have bW4:=bWr.below hb4 bWr.lt;have hR4:=hRr.below hb4;have d1:=bW4.cell 1 (v:=.pointer (some ⟨ra',0,none⟩)) rfl;have d4:=bW4.cell 4 (v:=.bool false) rfl;have d3:=bW4.cell 3 (v:=.bool false) rfl;have e0:=hR4.v.cell 0 (v:=.slice (some ⟨g',0,none⟩) len cap') (by rw [← hid_elim Hlen];rfl);obtain⟨x0,x1,x2,x3,x4,x5,x6,x7⟩:=hR4.cells (hid_elim Hi);have qc4:=(hb4.cell (p:=⟨q,j,none⟩) hq).trans hqc)
      | (go_at_call 105;refine(hId _).mono ?_;rintro e w5 ⟨rfl,hb5⟩;have bW5:=bW4.below hb5 bW4.lt;have hR5:=hR4.below hb5;have qc5:=(hb5.cell (p:=⟨q,j,none⟩) (Nat.lt_of_lt_of_le hq hb4.size)).trans qc4;have d15:=bW5.cell 1 (v:=.pointer (some ⟨ra',0,none⟩)) rfl)
      | (go_at_call 106;refine(rCopy B ra' g' cap' L' tmx _ _ _ hR5 (by rw [hid_elim Hlen];omega)).mono ?_;rintro e w6 ⟨g6,cap6,rfl,hR6,hb6⟩;have bW6:=bW5.below hb6 bW5.lt)
      | (go_at_call 107;refine(rTried_fail _ _ g6 cap6 L' tmx _ _ _ hR6 hb6.size hR6.ne htm0 i th (hid_elim Hi) ht0 hft).mono ?_;rintro e w7 ⟨rfl,hR7,hb7,hsp7⟩;obtain⟨hrow7,bW7,hnr,l5,l7⟩:=tickRow hb4 hb5 hb6 hsp7 hR6 hrow bW6 bWr.lt;have bS7:=BoxN.new w7 9 #[.string ⟨idv.toArray⟩])
      | (at_builtin;refine wpList_append_lies _ rfl _ _ 40 rfl w3.heap.size 9 i0 _ 1 16 underlying40 hi' hz0 hz1 hz2 rfl (by decide) _ _ _ rfl (hrow7.alloc _) ⟨w7.heap.size,0,none⟩ 1 1 [.string ⟨idv.toArray⟩] rfl rfl (World.news_of_block bS7) (by simp [Value.oneCell']) (by omega) (by unfold maxLen;omega) (by omega) (by have:=hspr.size;simp;omega) _ rfl ?_;intro g8 cap8 w8 hown hgrow hat hlt;have bW8:=(bW7.alloc (.cells #[.string ⟨idv.toArray⟩] 9)).kept hgrow hnr;have fz:=bW8.frozen 1;have d18:=bW8.cell 1 (v:=.pointer (some ⟨ra',0,none⟩)) rfl;have hg8:=ne_row hat hnr bW7.lt;have Hown:=hid_intro hown;have Hgrow:=hid_intro hgrow;clear hown hgrow hat hlt))
     go_roundw
     case rel =>
      have hT':Tk tmx ((48*N:Nat):Int) b c (L'.set i (failAt tmx th)) (xs ++ [th.id]):=by
       rcases hid_elim Hbr with⟨e1,hT⟩ | ⟨e1,hT⟩
       ·first
        | exact hT
        | (rw [hfl'] at e1;cases e1)
       ·first
        | exact hT
        | (rw [hfl'] at e1;cases e1)
      obtain⟨z1,z2,z3⟩:=tickRound (hid_elim Hgrow) hR7 hb4.size hb5.size hspr.size hrow hspr hb4 hb5 hb6 hsp7 hR6 bWr.lt hg8;obtain⟨y1,y2,y3,y4⟩:=hid_elim Hs;obtain⟨v1,v2,v3,v4⟩:=hid_elim Hcs;exact⟨j+1,c,_,_,_,_,_,ra',hjn,rfl,by rw [hcf],rfl,by omega,hid_intro hT',by rw [List.map_append,List.map_cons,List.map_nil,hid_elim Hidv];exact z1 (hid_elim Hown),z2.lower (by omega),by omega,bW8.set 1 _,z3,hid_intro ⟨v1.trans y1,v2.trans y2,by omega,by omega⟩⟩
     case measure=>simp [intOf];omega
    ·have hfl':(a.fl % 2==1)=false:=by simp [hfl]
     go_wp2_with (first
      | (go_at_call 104;refine hDu.mono ?_;rintro e w4 ⟨rfl,hb4⟩;have bW4:=bWr.below hb4 bWr.lt;have hR4:=hRr.below hb4;have d1:=bW4.cell 1 (v:=.pointer (some ⟨ra',0,none⟩)) rfl;have d4:=bW4.cell 4 (v:=.bool false) rfl;have d3:=bW4.cell 3 (v:=.bool false) rfl;have e0:=hR4.v.cell 0 (v:=.slice (some ⟨g',0,none⟩) len cap') (by rw [← hid_elim Hlen];rfl);obtain⟨x0,x1,x2,x3,x4,x5,x6,x7⟩:=hR4.cells (hid_elim Hi);have qc4:=(hb4.cell (p:=⟨q,j,none⟩) hq).trans hqc)
      | (go_at_call 105;refine(hId _).mono ?_;rintro e w5 ⟨rfl,hb5⟩;have bW5:=bW4.below hb5 bW4.lt;have hR5:=hR4.below hb5;have qc5:=(hb5.cell (p:=⟨q,j,none⟩) (Nat.lt_of_lt_of_le hq hb4.size)).trans qc4;have d15:=bW5.cell 1 (v:=.pointer (some ⟨ra',0,none⟩)) rfl)
      | (go_at_call 106;refine(rCopy B ra' g' cap' L' tmx _ _ _ hR5 (by rw [hid_elim Hlen];omega)).mono ?_;rintro e w6 ⟨g6,cap6,rfl,hR6,hb6⟩;have bW6:=bW5.below hb6 bW5.lt)
      | (go_at_call 107;refine(rTried_ok _ _ g6 cap6 L' tmx _ _ _ hR6 hb6.size (Nat.le_refl _) i hi0 (by rw [hid_elim Hlen];exact hil)).mono ?_;rintro e w7 ⟨g7,cap7,rfl,hR7,-,hb7,hsp7⟩;obtain⟨hrow7,bW7,hnr,l5,l7⟩:=tickRow hb4 hb5 hb6 hsp7 hR6 hrow bW6 bWr.lt;have bS7:=BoxN.new w7 9 #[.string ⟨idv.toArray⟩])
      | (at_builtin;refine wpList_append_lies _ rfl _ _ 40 rfl w3.heap.size 9 i0 _ 1 16 underlying40 hi' hz0 hz1 hz2 rfl (by decide) _ _ _ rfl (hrow7.alloc _) ⟨w7.heap.size,0,none⟩ 1 1 [.string ⟨idv.toArray⟩] rfl rfl (World.news_of_block bS7) (by simp [Value.oneCell']) (by omega) (by unfold maxLen;omega) (by omega) (by have:=hspr.size;simp;omega) _ rfl ?_;intro g8 cap8 w8 hown hgrow hat hlt;have bW8:=(bW7.alloc (.cells #[.string ⟨idv.toArray⟩] 9)).kept hgrow hnr;have fz:=bW8.frozen 1;have d18:=bW8.cell 1 (v:=.pointer (some ⟨ra',0,none⟩)) rfl;have hg8:=ne_row hat hnr bW7.lt;have Hown:=hid_intro hown;have Hgrow:=hid_intro hgrow;clear hown hgrow hat hlt))
     go_roundw
     case rel =>
      have hT':Tk tmx ((48*N:Nat):Int) b c (L'.eraseIdx i) (xs ++ [th.id]):=by
       rcases hid_elim Hbr with⟨e1,hT⟩ | ⟨e1,hT⟩
       ·first
        | exact hT
        | (rw [hfl'] at e1;cases e1)
       ·first
        | exact hT
        | (rw [hfl'] at e1;cases e1)
      obtain⟨z1,z2,z3⟩:=tickRound (hid_elim Hgrow) hR7 hb4.size hb5.size hspr.size hrow hspr hb4 hb5 hb6 hsp7 hR6 bWr.lt hg8;obtain⟨y1,y2,y3,y4⟩:=hid_elim Hs;obtain⟨v1,v2,v3,v4⟩:=hid_elim Hcs;exact⟨j+1,c,_,_,_,_,_,ra',hjn,rfl,by rw [hcf],rfl,by omega,hid_intro hT',by rw [List.map_append,List.map_cons,List.map_nil,hid_elim Hidv];exact z1 (hid_elim Hown),z2.lower (by omega),by omega,bW8.set 1 _,z3,hid_intro ⟨v1.trans y1,v2.trans y2,by omega,by omega⟩⟩
     case measure=>simp [intOf];omega
   ·obtain⟨hab,hdn⟩:=(hid_elim HT).stop (by have:=hid_elim Hnn;omega)
    rw [hdn] at hDu;simp only [dueV] at hDu;rw [hab] at HT Hs;clear hab
    go_wp2_with (go_at_call 104;refine hDu.mono ?_;rintro e w4 ⟨rfl,hb4⟩)
    go_ret;have hw4:=hb4.size;have hw3:=hspr.size;exact⟨rfl,hid_elim Hfin w4 ra' g' cap' L' xs ((hid_elim HB3).trans ((hspr.below (by omega) (fun x hx=>by rw [List.mem_singleton.1 hx];exact hbw)).trans (hb4.mono (by omega)))) (((loneSys B hb rb _).other (hid_elim HS3) hspr (fun x hx=>by rw [List.mem_singleton.1 hx];exact⟨by omega,_,_,bW3,by decide⟩)).below hb4) (hRr.below hb4) (bWr.below hb4 bWr.lt) hra' (hid_elim HT) (hid_elim Hs)⟩
end Go.Proofs
