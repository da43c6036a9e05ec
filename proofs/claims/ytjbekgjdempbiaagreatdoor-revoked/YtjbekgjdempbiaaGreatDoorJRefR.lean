import Derived.Test.YtjbekgjdempbiaaGreatDoorJTkM
import Derived.Test.YtjbekgjdempbiaaGreatDoorJLawC
import Derived.Deep.RegionHeld3
import Derived.Test.YtjbekgjdempbiaaGreatDoorJRefK
import Derived.BigQuiet
import Derived.Test.YtjbekgjdempbiaaGreatDoorJRvF
import Derived.Deep.AppendLies
set_option maxRecDepth 100000
set_option maxHeartbeats 16000000
namespace Go.Proofs
open Go.RowKit Go.Sort Go.Lib Go.Shelf Go.Maps Go.WideMaps
abbrev Tryz.CallsP (hb rb:Nat) (c:Value) (W:World):Prop:=W.cell? ⟨hb,1,none⟩=some (.pointer (some ⟨rb,0,none⟩))∧W.cell? ⟨rb,0,none⟩=some c
def htBs (k:Blk) (rb:Nat) (due:Value):List Nat:=tickBs k rb (.slice none 0 0) due
theorem Tryz.hTick (B hb rb:Nat) (σ:SS) (w:World) (hS:Sys B w hb rb σ) (hbw:B≤w.heap.size) (hTr:Tree σ.s) (h50:σ.s.tks.length+σ.s.lks.length≤50) (M:Int) (hM:M≤9000000000000000000) (hMB:TrB M σ.s) (hc:σ.c.length≤890000000000) (f now:Int) (f0:0≤f) (f1:f≤18446744073709551615) (hn0:0≤now) (hn1:now≤18446744073709551615) (cc dd:Int) :
  Calls prog 22 #[.pointer (some ⟨hb,0,none⟩),.int .u64 now,.int .u64 f,fallV (-1) (-1) cc dd] w fun e w'=>∃ vx' v' b,e=.returned (.tuple #[v',.int .i64 0])∧Tries (max σ.tm now) ⟨σ.s,σ.s.tks.flatMap (dueT σ.s (max σ.tm now))++σ.s.lks.flatMap (dueL (max σ.tm now)),f,σ.c,[]⟩ b∧b.q = []∧Sys B w' hb rb ⟨σ.k,vx',max σ.tm now,b.s,b.c⟩∧w'.ownsRow B 9 1 v' b.cl.length (b.cl.map fun p=>.string ⟨(nmStr p.1 p.2).toArray⟩)∧Going (max σ.tm now) (M+b.cl.length) b∧(b.cl.length≤150∧b.c.length≤σ.c.length+20000*b.cl.length∧b.s.tks.length+b.s.lks.length≤50)∧Spares (htBs σ.k rb σ.vx.due) w w':=by
 obtain⟨k,vx,tm,s,c⟩:=σ;simp only at hTr h50 hMB hc ⊢;obtain⟨fd,fn,hD,e1,e2⟩:=hS.wh.d;obtain⟨ra,rc,hR⟩:=hS.rvb;have hH:=hS.host;have hne:=hH.ne hD.box (by decide);have hrd:=hR.ne hD.box (by decide);have hbs:=hS.turns_host
 have hdb:k.db∈k.turns:=by simp [Blk.turns]
 have hdb2:k.db∈htBs k rb vx.due:=by simp [htBs,tickBs,Blk.turns]
 have lH:=hH.lt;have lD:=hD.box.lt;have lR:=hR.lt;have h9:=hS.nine;have hB0:Below w.heap.size w (w.alloc (.cells #[.int .i64 (-1),.int .i64 (-1),.int .i64 cc,.int .i64 dd] 29)):=(Below.refl _ w).alloc (Nat.le_refl _) _;have bF:=BoxN.new w 29 #[.int .i64 (-1),.int .i64 (-1),.int .i64 cc,.int .i64 dd];have h2:=hH.cell 2 (v:=.pointer (some ⟨k.vb,0,none⟩)) rfl;have hBf:=before hb k.db _ _ _ _ _ _ _ _ (-1) (-1) cc dd _ (hH.alloc (.cells #[.int .i64 (-1),.int .i64 (-1),.int .i64 cc,.int .i64 dd] 29)) (hD.box.alloc _);have hW0:=hS.wh.below hB0;unfold fallV at hBf ⊢;go_enter func22,ntmps22
 go_wp2_with (go_at_call 40;refine hBf.mono ?_;rintro e w1 ⟨rfl,bD1,hg1⟩)
 have hs1:Spares [k.db] w w1:=(Spares.of_below hB0).trans (Spares.of_grown hg1 (by simp));have bH1:=hs1.box hH (fun hm=>hne (List.mem_singleton.1 hm));have bR1:=hs1.box hR (fun hm=>hrd (List.mem_singleton.1 hm));have bF1:=bF.kept hg1 (by intro e;injection e with e;omega);have hW1:=hW0.setLF (Spares.of_grown hg1 (by simp)) bD1
 have hdue1:=hs1.row' hS.due (fun g hg hm=>by
  obtain⟨-,cur,hB⟩:=row_box hS.due hg
  exact hB.ne hD.box (by decide) (List.mem_singleton.1 hm))
 have r1:=bH1.cell 1 (v:=.pointer (some ⟨rb,0,none⟩)) rfl;have cc0:=bR1.cell 0 (v:=ra) rfl;have cc1:=bR1.cell 1 (v:=rc) rfl;have ff0:=bR1.frozen 0;have ff1:=bR1.frozen 1;have hHR:=bH1.ne bR1 (by decide);have hz1:=hs1.size;clear hBf hg1 h2 hB0 hW0
 go_region
 have bR2:BoxN ((w1.setCell ⟨rb,0,none⟩ (.slice none 0 0)).setCell ⟨rb,1,none⟩ (.int .u64 f)).drew rb 88 #[.slice none 0 0,.int .u64 f]:=(bR1.set 0 (.slice none 0 0)).set 1 (.int .u64 f);have hSr:Spares [rb] w1 ((w1.setCell ⟨rb,0,none⟩ (.slice none 0 0)).setCell ⟨rb,1,none⟩ (.int .u64 f)).drew:=(((Spares.of_below (Below.refl _ w1)).set (by simp) _ _).set (by simp) _ _).drew;clear r1 cc0 cc1 ff0 ff1;generalize ((w1.setCell ⟨rb,0,none⟩ (.slice none 0 0)).setCell ⟨rb,1,none⟩ (.int .u64 f)).drew=W2 at *;have hrb9:9≤rb:=Nat.le_trans hS.b9 hS.rlow;have hW2:=hW1.spared hSr (fun b hb hm=>Sys.turns_rev hS b hb (List.mem_singleton.1 hm)) (fun hm=>hW1.j.ne bR1 (by decide) (List.mem_singleton.1 hm)) (fun b x hx hm=>hx.ne bR1 (by decide) (List.mem_singleton.1 hm)) (fun b hb=>by rw [List.mem_singleton.1 hb];omega);have bH2:=hSr.box bH1 (fun hm=>hHR (List.mem_singleton.1 hm));have bF2:=hSr.box bF1 (fun hm=>bF1.ne bR1 (by decide) (List.mem_singleton.1 hm))
 have hdue2:=hSr.row' hdue1 (fun g hg hm=>by
  obtain⟨-,cur,hB⟩:=row_box hdue1 hg
  exact hB.ne bR1 (by decide) (List.mem_singleton.1 hm))
 have hz2:=hSr.size;have hs2:Spares (htBs k rb vx.due) w W2:=(hs1.mono (fun b hb=>by rw [List.mem_singleton.1 hb];exact hdb2)).trans (hSr.mono (fun b hb=>by rw [List.mem_singleton.1 hb];simp [htBs,tickBs]))
 have hA2:TAt B W2 k vx tm s c (-1) (-1) rb f (.slice none 0 0) [] []:=by
  obtain⟨fd2,fn2,hD2,d1,d2⟩:=hW2.d;exact⟨hW2,⟨fd2,fn2,hD2,⟨d1,d2⟩,(fun _ _ e=>by simp [Value.ownBlock] at e),(fun _ _ e=>by simp [Value.ownBlock] at e)⟩,hdue2,heap_nil,bR2,World.ownsRow_nil _ _ _ _,hS.low,hS.rlow,hS.b9,by omega,hS.vrv⟩
 have hTk:=vTick B k vx tm s c (-1) (-1) rb f (.slice none 0 0) W2 hA2 hS.vtk hTr h50 M hM hMB (by decide) (by decide) (by decide) (by decide) hc f0 f1 now hn0 hn1
 have hnt:∀ {q:Nat} {t:TypeId} {cs:Array Value},BoxN W2 q t cs→t≠126→t≠100→t≠88→t≠144→q∉tickBs k rb (.slice none 0 0) vx.due:=fun hB h1 h2 h3 h4 hm=>by
  simp only [tickBs,List.mem_append,List.mem_cons] at hm
  rcases hm with hm | e | e | e
  ·exact hW2.no hB h1 h2 hm
  ·exact hB.ne bR2 h3 e
  ·simp [Value.ownBlock] at e
  ·obtain⟨-,cs,hB'⟩:=row_box hdue2 (by simpa using e)
   exact hB.ne hB' h4 rfl
 have hs9:∀ q∈tickBs k rb (.slice none 0 0) vx.due,9≤q:=fun q hm=>by
  simp only [tickBs,List.mem_append,List.mem_cons] at hm
  rcases hm with hm | rfl | e | e
  ·exact(hbs q hm).1
  ·exact hrb9
  ·simp [Value.ownBlock] at e
  ·exact Nat.le_trans hS.b9 (row_box hdue2 (by simpa using e)).1
 have h22:=bH2.cell 2 (v:=.pointer (some ⟨k.vb,0,none⟩)) rfl;clear hW1 bH1 bF1 hdue1 hSr bR1 bD1
 go_wp2_with (first
  | (go_at_call 46;refine hTk.mono ?_;rintro e w3 ⟨rfl,vx',v',b,l',f',hTs,hbq,hA3,htk3,hgo3,hcl3,hsp3⟩;have bH3:=hsp3.box bH2 (hnt bH2 (by decide) (by decide) (by decide) (by decide));have bF3:=hsp3.box bF2 (hnt bF2 (by decide) (by decide) (by decide) (by decide));obtain⟨fd3,fn3,hD3,-,-⟩:=hA3.wh.d;have g0:=bF3.cell 0 (v:=.int .i64 (-1)) rfl;have g1:=bF3.cell 1 (v:=.int .i64 (-1)) rfl;have g2:=bF3.cell 2 (v:=.int .i64 cc) rfl;have g3:=bF3.cell 3 (v:=.int .i64 dd) rfl;have hBa:=after hb k.db _ _ _ _ _ _ _ (-1) (-1) cc dd _ bH3 hD3.box;unfold fallV at hBa;have HS3:=hid_intro hsp3;clear hsp3)
  | (go_at_call 42;refine hBa.mono ?_;rintro e w4 ⟨rfl,bD4,hg4⟩;have HG4:=hid_intro hg4;clear hg4))
 have hg4:=hid_elim HG4;have hsp3:=hid_elim HS3;have hs4:Spares [k.db] w3 w4:=Spares.of_grown hg4 (by simp);have bH4:=hs4.box bH3 (fun hm=>hne (List.mem_singleton.1 hm));have bR4:=hs4.box hA3.rbx (fun hm=>hA3.rbx.ne hD3.box (by decide) (List.mem_singleton.1 hm));have hW4:=hA3.wh.setLF hs4 bD4
 have hrow4:=hs4.row' hA3.row (fun g hg hm=>by
  obtain⟨-,cur,hB⟩:=row_box hA3.row hg
  exact hB.ne hD3.box (by decide) (List.mem_singleton.1 hm))
 have hdue4:=hs4.row' hA3.due (fun g hg hm=>by
  obtain⟨-,cur,hB⟩:=row_box hA3.due hg
  exact hB.ne hD3.box (by decide) (List.mem_singleton.1 hm))
 have hsw:Spares (htBs k rb vx.due) w w4:=(hs2.trans hsp3).trans (hs4.mono (fun b hb=>by rw [List.mem_singleton.1 hb];exact hdb2));have hE4:ErrT w4:=hS.err.below (hsw.below h9 (fun q hq=>hs9 q hq))
 have hSy:Sys B w4 hb rb ⟨k,vx',max tm now,b.s,b.c⟩:={ host:=bH4,wh:=hW4,err:=hE4,b9:=hS.b9,hlow:=hS.hlow,low:=hS.low,rvb:=⟨_,_,bR4⟩,rlow:=hS.rlow,vrv:=hA3.vrv,vtk:=htk3,due:=hdue4 }
 have hP4:CallsP hb rb v' w4:=⟨bH4.cell 1 rfl,bR4.cell 0 rfl⟩
 clear HG4 HS3 hg4 hsp3 hs4 hW4 hA3 hdue4 bH3 hD3 bF3 g0 g1 g2 g3 hBa hTk hnt hs9 hA2 hE4 hW2 hs2 bH2 bF2 hdue2 h22 bR2 bH4 bR4 bD4;refine wp_region_held_drew (S:=CallsP hb rb v') (by kernel_rfl) hP4 (fun hS0=>?_);refine wpAnyH_take (i:=0) (v:=?v0) rfl (by kernel_rfl) (by kernel_rfl) (by kernel_rfl) (fun _ _ _ h=>h) (Or.inl ⟨by rfl,?y0⟩) hS0 ?_
 case y0=>(intro w hSw;obtain⟨q0,q1⟩:=hSw;go_simp;try with_reducible rfl)
 refine wpAnyH_take (i:=1) (v:=?v1) rfl (by kernel_rfl) (by kernel_rfl) (by kernel_rfl) (fun _ _ _ h=>h) (Or.inl ⟨by rfl,?y1⟩) hS0 ?_
 case y1=>(intro w hSw;obtain⟨q0,q1⟩:=hSw;go_simp;try with_reducible rfl)
 refine wpAnyH_take (i:=2) (v:=?v2) rfl (by kernel_rfl) (by kernel_rfl) (by kernel_rfl) (fun _ _ _ h=>h) (Or.inl ⟨by rfl,?y2⟩) hS0 ?_
 case y2=>(intro w hSw;obtain⟨q0,q1⟩:=hSw;go_simp;try with_reducible rfl)
 refine wpAnyH_take (i:=3) (v:=?v3) rfl (by kernel_rfl) (by kernel_rfl) (by kernel_rfl) (fun _ _ _ h=>h) (Or.inl ⟨by rfl,?y3⟩) hS0 ?_
 case y3=>(intro w hSw;obtain⟨q0,q1⟩:=hSw;go_simp;try with_reducible rfl)
 refine wpAnyH_take (i:=4) (v:=?v4) rfl (by kernel_rfl) (by kernel_rfl) (by kernel_rfl) (fun _ _ _ h=>h) (Or.inl ⟨by rfl,?y4⟩) hS0 ?_
 case y4=>(intro w hSw;obtain⟨q0,q1⟩:=hSw;go_simp;try with_reducible rfl)
 refine wpAnyH_take (i:=5) (v:=?v5) rfl (by kernel_rfl) (by kernel_rfl) (by kernel_rfl) (fun _ _ _ h=>h) (Or.inl ⟨by rfl,?y5⟩) hS0 ?_
 case y5=>(intro w hSw;obtain⟨q0,q1⟩:=hSw;go_simp;try with_reducible rfl)
 refine wpAnyH_take (i:=6) (v:=?v6) rfl (by kernel_rfl) (by kernel_rfl) (by kernel_rfl) (fun _ _ _ h=>h) (Or.inl ⟨by rfl,?y6⟩) hS0 ?_
 case y6=>(intro w hSw;obtain⟨q0,q1⟩:=hSw;go_simp;try with_reducible rfl)
 refine wpAnyH_take (i:=7) (v:=?v7) rfl (by kernel_rfl) (by kernel_rfl) (by kernel_rfl) (fun _ _ _ h=>h) (Or.inl ⟨by rfl,?y7⟩) hS0 ?_
 case y7=>(intro w hSw;obtain⟨q0,q1⟩:=hSw;go_simp;try with_reducible rfl)
 refine wpAnyH_ready (rs:=[8]) (by kernel_rfl) (by simp) ?_;refine AllReadyH.cons rfl (fun K hK=>?_) AllReadyH.nil;go_simp;refine(told_nil _).mono ?_;rintro e w5 ⟨rfl,hb5⟩;have hb45:Below w4.heap.size w4 w5:=((Below.refl _ w4).drew).trans hb5
 have hP5:CallsP hb rb v' w5:=⟨cell_later hb45 hP4.1,cell_later hb45 hP4.2⟩
 refine hK.out _ _ hP5 (fun hS1=>?_);clear hK K;refine wpAnyH_take (i:=9) (v:=?v9) rfl (by kernel_rfl) (by kernel_rfl) (by kernel_rfl) (fun _ _ _ h=>h) (Or.inl ⟨by rfl,?y9⟩) hS1 ?_
 case y9=>(intro w hSw;obtain⟨q0,q1⟩:=hSw;go_simp;try with_reducible rfl)
 refine wpAnyH_take (i:=10) (v:=?v10) rfl (by kernel_rfl) (by kernel_rfl) (by kernel_rfl) (fun _ _ _ h=>h) (Or.inl ⟨by rfl,?y10⟩) hS1 ?_
 case y10=>(intro w hSw;obtain⟨q0,q1⟩:=hSw;go_simp;try with_reducible rfl)
 refine wpAnyH_done (by kernel_rfl) ?_ _;go_wp2;exact bodyPost_ret (v:=.tuple #[v',.int .i64 0]) (by simp [results,results22,go_sem]) rfl ⟨vx',v',b,rfl,hTs,hbq,hSy.below hb45,by simpa using ownsRow_below hrow4 hb45,hgo3,hcl3,hsw.trans (Spares.of_below hb45)⟩
end Go.Proofs
namespace Go.Proofs
open Go.RowKit Go.Sort Go.Lib Go.Shelf
theorem Tryz.rDue (B:Nat) (vb g cap:Nat) (L:List ThingD) (tm tn ln:Int) (xs:List (List UInt8)) (tv:Value) (w:World) (h:RVAt B w vb g cap L tm tn ln) (hx:StrRow w tv xs) (hxl:xs.length≤100000) :
  Calls prog 104 #[.pointer (some ⟨vb,0,none⟩),tv] w fun e w'=>e=.returned (.int .i64 (dueV (dueI tm L xs)))∧Below w.heap.size w w':=by
 obtain⟨p,tcap,rfl,hxs⟩:=hx;have hlim:=h.lim
 obtain⟨len,hlen⟩:∃ len,L.length=len:=⟨_,rfl⟩
 rw [hlen] at hlim;have Hlen:=hid_intro hlen;clear hlen
 obtain⟨xn,hxn⟩:∃ xn,xs.length=xn:=⟨_,rfl⟩
 rw [hxn] at hxl ⊢;have Hxn:=hid_intro hxn;clear hxn;have Hxs:=hid_intro hxs;clear hxs;go_enter func104,ntmps104;go_wp2
 go_loopw [5,6] (fun bst i wr=>∃ k:Nat,k≤len∧i=.int .i64 k∧bst=.int .i64 (dueV (dueK (dueB tm L xs) L k))∧Below w.heap.size w wr) (fun _ i _=>len-(intOf i).toNat)
 case atStart=>exact⟨0,Nat.zero_le _,rfl,rfl,Below.refl _ _⟩
 case round =>
  obtain⟨k,hk,rfl,rfl,hB⟩:=hrel;have h':=h.below hB;have c0:=h'.v.cell 0 (v:=.slice (some ⟨g,0,none⟩) L.length cap) rfl;rw [hid_elim Hlen] at c0
  obtain⟨bo,hbo⟩:∃ bo,dueK (dueB tm L xs) L k=bo:=⟨_,rfl⟩
  have Hbo:=hid_intro hbo;rw [hbo];clear hbo
  obtain⟨bi,hbi⟩:∃ bi,dueV bo=bi:=⟨_,rfl⟩
  rw [hbi];have Hbi:=hid_intro hbi;clear hbi
  by_cases hkl:k<len
  ·obtain⟨t,ht⟩:∃ t,L[k]? = some t:=⟨L[k]'(by have:=hid_elim Hlen;omega),by simp [hid_elim Hlen,hkl]⟩
   obtain⟨x0,x1,x2,x3,x4,x5,x6,x7⟩:=h'.cells ht;have Ht:=hid_intro ht;have hn:=h.num t (List.mem_of_getElem? ht)
   have hID:=fun W=>rId t hn W
   have hS:=fun W (hb:Below w.heap.size w W)=>rState t vb tm W ((h.below hb).v.cell 1 (v:=.int .u64 tm) rfl)
   have hF:=fun W (hb:Below w.heap.size w W)=>rFree B vb g cap L tm tn ln (t.n:Int) W (h.below hb)
   have hv1:=fun W (hb:Below w.heap.size w W)=>(h.below hb).v.cell 1 (v:=.int .u64 tm) rfl
   simp only [ThingD.cells] at hID hS;have hskip:=hid_intro (fun(hp:dueB tm L xs t=false)=>(dueK_skip ht hp).trans (hid_elim Hbo));have hbd:Hid (dueB tm L xs t=(t.state tm==2&&(decide (t.at_≤tm)&&((!t.token||freeI t.n L) && !hasB xs t.id)))):=hid_intro rfl;clear ht;have bT:=BoxN.new wr 105 #[.bool t.token,.int .i64 t.n,.int .i64 t.of_,.string ⟨t.pth.toArray⟩,.int .u64 t.at_,.int .u64 t.last,.bool t.doomed,.int .i64 t.tries];have hB1:Below w.heap.size w (wr.alloc (.cells #[.bool t.token,.int .i64 t.n,.int .i64 t.of_,.string ⟨t.pth.toArray⟩,.int .u64 t.at_,.int .u64 t.last,.bool t.doomed,.int .i64 t.tries] 105)):=hB.alloc hB.size _
   have hst:t.state tm=1∨t.state tm=2:=by unfold ThingD.state;split <;> simp
   rcases hst with hst | hst
   ·have hp:=hid_intro (hid_elim hskip (by rw [hid_elim hbd,hst];rfl))
    simp only [hst] at hS;clear hst
    go_wp2_with (go_at_call 150;refine(hS _ hB1).mono ?_;rintro e w1 ⟨rfl,hb1⟩;obtain⟨y0,y1,y2,y3,y4,y5,y6,y7⟩:=(bT.below hb1 bT.lt).c8)
    go_quiet (fail);go_wp2
    go_roundw
    case rel=>exact⟨k+1,by omega,rfl,by rw [hid_elim hp,hid_elim Hbi],below_drewN (hB1.trans (hb1.mono hB1.size)) _⟩
    case measure=>simp [intOf];omega
   ·simp only [hst] at hS
    by_cases hat:t.at_≤tm
    ·have hat':¬ tm<t.at_:=by omega
     have hd:decide (tm<t.at_)=false:=by simpa using hat
     have hbd2:Hid (dueB tm L xs t=((!t.token||freeI t.n L) && !hasB xs t.id)):=hid_intro (by rw [hid_elim hbd,hst];simp [hat]);clear hst hbd hat
     go_wp2_with (go_at_call 150;refine(hS _ hB1).mono ?_;rintro e w1 ⟨rfl,hb1⟩;obtain⟨y0,y1,y2,y3,y4,y5,y6,y7⟩:=(bT.below hb1 bT.lt).c8;have yv:=hv1 w1 (hB1.trans (hb1.mono hB1.size)))
     go_quiet (fail);have hB2:Below w.heap.size w (w1.drewN nq):=below_drewN (hB1.trans (hb1.mono hB1.size)) _;have bT2:=(bT.below hb1 bT.lt).below (below_drewN (Below.refl w1.heap.size w1) nq) (bT.below hb1 bT.lt).lt;have hF2:=hF _ hB2;generalize w1.drewN nq=w2 at *;clear y0 y1 y2 y3 y4 y5 y6 y7 yv hb1 bT hB1 x0 x1 x2 x3 x4 x5 x6 x7 c0 hS hF h' hB hd hat';obtain⟨z0,z1,z2,z3,z4,z5,z6,z7⟩:=bT2.c8
     obtain⟨tk,htk⟩:∃ tk,t.token=tk:=⟨_,rfl⟩
     obtain⟨fr,hfr⟩:∃ fr,freeI t.n L=fr:=⟨_,rfl⟩
     rw [htk,hfr] at hbd2;rw [htk] at z0 bT2;rw [hfr] at hF2;simp only [htk] at hID;have Htk:=hid_intro htk;clear htk hfr
     have h3:(tk=false)∨(tk=true∧fr=true)∨(tk=true∧fr=false):=by cases tk <;> cases fr <;> simp
     rcases h3 with rfl | ⟨rfl,rfl⟩ | ⟨rfl,rfl⟩
     rotate_left 2
     ·have hp:=hid_intro (hid_elim hskip (by rw [hid_elim hbd2];rfl))
      go_wp2_with (go_at_call 152;refine hF2.mono ?_;rintro e w3 ⟨rfl,rfl⟩)
      go_roundw
      case rel=>exact⟨k+1,by omega,rfl,by rw [hid_elim hp,hid_elim Hbi],hB2⟩
      case measure=>simp [intOf];omega
     all_goals
      have hbd3:Hid (dueB tm L xs t = !hasB xs t.id):=hid_intro (by rw [hid_elim hbd2];simp);clear hbd2
      obtain⟨id,hid⟩:∃ id,t.id=id:=⟨_,rfl⟩
      rw [hid] at hbd3;simp only [hid] at hID;clear hid
      go_wp2_with (first
       | (go_at_call 152;refine hF2.mono ?_;rintro e w3 ⟨rfl,rfl⟩)
       | (go_at_call 105;refine(hID _).mono ?_;rintro e w4 ⟨rfl,hb4⟩))
      have hB4:Below w.heap.size w w4:=hB2.trans (hb4.mono hB2.size);have bT4:=bT2.below hb4 bT2.lt;clear z0 z1 z2 z3 z4 z5 z6 z7 hF2 hID hB2 hb4 bT2
      go_loopw [11,12] (fun d j wq=>∃ m:Nat,m≤xn∧j=.int .i64 m∧d=.bool (hasB (xs.take m) id)∧wq=w4) (fun _ j _=>xn-(intOf j).toNat)
      case atStart=>exact⟨0,Nat.zero_le _,rfl,rfl,rfl⟩
      case round =>
       obtain⟨m,hm,rfl,rfl,rfl⟩:=hrel
       by_cases hml:m<xn
       ·obtain⟨x,hx⟩:∃ x,xs[m]? = some x:=⟨xs[m]'(by have:=hid_elim Hxn;omega),by simp [hid_elim Hxn,hml]⟩
        obtain⟨q,hq,-,hqc⟩:=hid_elim Hxs m x hx;have hqc':=cell_later hB4 hqc;have hsn:=hid_intro (hasB_snoc (xs.take m) x id);have htk:=hid_intro (take_get hx);clear hqc hx;subst hq;generalize hasB (xs.take m) id=d at *
        cases d with
        | true =>
         go_wp2
         go_roundw
         case rel=>exact⟨m+1,by omega,rfl,by rw [hid_elim htk,hid_elim hsn];rfl,by first | rfl | trivial⟩
         case measure=>simp [intOf];omega
        | false =>
         by_cases he:x=id
         ·subst he
          go_wp2
          go_roundw
          case rel=>exact⟨m+1,by omega,rfl,by rw [hid_elim htk,hid_elim hsn];simp,by first | rfl | trivial⟩
          case measure=>simp [intOf];omega
         ·have hne:(x==id)=false:=by simpa using he
          clear he;go_wp2
          go_roundw
          case rel=>exact⟨m+1,by omega,rfl,by rw [hid_elim htk,hid_elim hsn,hne];rfl,by first | rfl | trivial⟩
          case measure=>simp [intOf];omega
       ·obtain rfl:m=xn:=by omega
        have htk:=hid_intro (take_all (Nat.le_of_eq (hid_elim Hxn)));rw [hid_elim htk];clear htk
        obtain⟨d,hd⟩:∃ d,hasB xs id=d:=⟨_,rfl⟩
        rw [hd] at hbd3 ⊢;clear hd
        cases d with
        | true =>
         have hp:=hid_intro (hid_elim hskip (by rw [hid_elim hbd3];rfl));go_wp2
         go_roundw
         case rel=>exact⟨k+1,by omega,rfl,by rw [hid_elim hp,hid_elim Hbi],hB4⟩
         case measure=>simp [intOf];omega
        | false =>
         have hp:Hid (dueB tm L xs t=true):=hid_intro (by rw [hid_elim hbd3];rfl);have h4:=h.below hB4;have c0:=h4.v.cell 0 (v:=.slice (some ⟨g,0,none⟩) L.length cap) rfl;rw [hid_elim Hlen] at c0;obtain⟨z0,z1,z2,z3,z4,z5,z6,z7⟩:=bT4.c8;clear hskip hbd3
         cases bo with
         | none =>
          have hr:=hid_intro (dueK_new (hid_elim Ht) (hid_elim hp) (hid_elim Hbo));obtain rfl:bi = -1:=(hid_elim Hbi).symm;clear Hbi
          as_aux_lemma =>
           go_wp2
           try simp only [List.append_eq,List.cons_append,List.nil_append]
           go_big_quiet (fail)
           go_wp2
           go_roundw
           case rel=>exact⟨k+1,by omega,rfl,by rw [hid_elim hr];rfl,below_drewN hB4 _⟩
           case measure=>simp [intOf];omega
         | some b =>
          obtain⟨hbk,hbl⟩:=dueK_lt _ _ _ (hid_elim Hbo)
          obtain⟨u,hu⟩:∃ u,L[b]? = some u:=⟨L[b],by simp [hbl]⟩
          have hr:=hid_intro (dueK_old (hid_elim Ht) (hid_elim hp) (hid_elim Hbo) hu);obtain rfl:bi=(b:Int):=(hid_elim Hbi).symm;clear Hbi;rw [hid_elim Hlen] at hbl;obtain⟨q0,q1,q2,q3,q4,q5,q6,q7⟩:=h4.cells hu
          have hnn:¬ (b:Int)<0:=by omega
          have hb0:decide ((b:Int)<0)=false:=decide_eq_false hnn;have hfb:=firstB_eq t u;rw [hid_elim Htk] at hfb;have hfb:=hid_intro hfb;clear q2 q3 q5 q6 q7 z2 z3 z5 z6 z7 hu h4 Ht hp;generalize firstB t u=fb at *;generalize t.at_=ta at *;generalize u.at_=ua at *;generalize t.n=tn' at *;generalize u.n=un at *;generalize u.token=utk at *
          by_cases h1:ta<ua
          ·have hf:Hid (fb=true):=hid_intro (by rw [hid_elim hfb];simp [h1])
           have h1':decide (ta<ua)=true:=by simpa using h1
           clear hfb
           as_aux_lemma =>
            go_wp2
            try simp only [List.append_eq,List.cons_append,List.nil_append]
            go_big_quiet (fail)
            go_wp2
            go_roundw
            case rel=>exact⟨k+1,by omega,rfl,by rw [hid_elim hr,hid_elim hf];rfl,below_drewN hB4 _⟩
            case measure=>simp [intOf];omega
          ·by_cases h2:ta=ua
           ·subst h2
            clear h1
            have hi:decide (ta<ta)=false:=by simp
            by_cases hn':(tn':Int)<un
            ·have hn2:decide ((tn':Int)<un)=true:=by simpa using hn'
             cases utk
             all_goals
              have e:=hid_elim hfb;simp only [hn2,hi] at e;have hf:=hid_intro (show fb=_ from e);clear e hfb hi
              as_aux_lemma =>
               go_wp2
               try simp only [List.append_eq,List.cons_append,List.nil_append]
               go_big_quiet (fail)
               go_wp2
               go_roundw
               case rel=>exact⟨k+1,by omega,rfl,by rw [hid_elim hr,hid_elim hf];simp [dueV],below_drewN hB4 _⟩
               case measure=>simp [intOf];omega
            ·have hn2:decide ((tn':Int)<un)=false:=by simpa using hn'
             cases utk
             all_goals
              have e:=hid_elim hfb;simp only [hn2,hi] at e;have hf:=hid_intro (show fb=_ from e);clear e hfb hi
              as_aux_lemma =>
               go_wp2
               try simp only [List.append_eq,List.cons_append,List.nil_append]
               go_big_quiet (fail)
               go_wp2
               go_roundw
               case rel=>exact⟨k+1,by omega,rfl,by rw [hid_elim hr,hid_elim hf];simp [dueV],below_drewN hB4 _⟩
               case measure=>simp [intOf];omega
           ·have hf:Hid (fb=false):=hid_intro (by rw [hid_elim hfb];simp [h1,h2])
            have h2':(ta==ua)=false:=by simpa using h2
            have h1':decide (ta<ua)=false:=by simpa using h1
            clear hfb h2
            as_aux_lemma =>
             go_wp2
             try simp only [List.append_eq,List.cons_append,List.nil_append]
             go_big_quiet (fail)
             go_wp2
             go_roundw
             case rel=>exact⟨k+1,by omega,rfl,by rw [hid_elim hr,hid_elim hf];rfl,below_drewN hB4 _⟩
             case measure=>simp [intOf];omega
    ·have hat':tm<t.at_:=by omega
     have hd:decide (tm<t.at_)=true:=by simpa using hat'
     have hp:=hid_intro (hid_elim hskip (by rw [hid_elim hbd,hst];simp [hat]));clear hst hbd hat
     go_wp2_with (go_at_call 150;refine(hS _ hB1).mono ?_;rintro e w1 ⟨rfl,hb1⟩;obtain⟨y0,y1,y2,y3,y4,y5,y6,y7⟩:=(bT.below hb1 bT.lt).c8;have yv:=hv1 w1 (hB1.trans (hb1.mono hB1.size)))
     go_quiet (fail);go_wp2
     go_roundw
     case rel=>exact⟨k+1,by omega,rfl,by rw [hid_elim hp,hid_elim Hbi],below_drewN (hB1.trans (hb1.mono hB1.size)) _⟩
     case measure=>simp [intOf];omega
  ·obtain rfl:k=len:=by omega
   go_wp2;go_ret;exact⟨by rw [← hid_elim Hbi,← hid_elim Hbo,dueI,hid_elim Hlen];rfl,hB⟩
theorem flatT_append (a b:List ThingD):flatT (a++b)=flatT a++flatT b:=by simp [flatT]
theorem flatT_take {L:List ThingD} (i:Nat) {j:Nat} {u:Value} (h:(flatT (L.take i))[j]? = some u):(flatT L)[j]? = some u:=by
 have hj:=(List.getElem?_eq_some_iff.1 h).1;rw [← List.take_append_drop i L,flatT_append,List.getElem?_append_left hj];exact h
theorem flatT_drop {L:List ThingD} {i:Nat} (hi:i≤L.length) {j:Nat} {u:Value} (h:(flatT (L.drop i))[j]? = some u):(flatT L)[i*8+j]? = some u:=by
 have e:(flatT (L.take i)).length=i*8:=by rw [flatT_length,List.length_take];congr 1;omega
 rw [← List.take_append_drop i L,flatT_append,List.getElem?_append_right (by omega),e,show i*8+j-i*8=j by omega];exact h
theorem two_grown {B vb g g1:Nat} {w w1 w2:World} (hB:B≤w.heap.size) (hvB:B≤vb) (h1:w.grownBy w1 (Value.slice none 0 0).ownBlock) (hg:w.heap.size≤g1) (h2:w1.grownBy w2 (some g1)) (v:Value) :
  Below B w (w2.setCell ⟨vb,0,none⟩ v)∧Spares [vb,g] w (w2.setCell ⟨vb,0,none⟩ v):=by
 have hk:∀ k,k<w.heap.size→w2.heap[k]? = w.heap[k]?:=fun k hk=>(h2.block k (Nat.lt_of_lt_of_le hk h1.size) (by intro e;injection e with e;omega)).trans (h1.block k hk (by simp [Value.ownBlock]))
 have b:Below w.heap.size w w2:=⟨h2.os.trans h1.os,h2.tape.trans h1.tape,h2.output.trans h1.output,Nat.le_trans h1.size h2.size,hk⟩
 exact⟨(b.mono hB).setCell (p:=⟨vb,0,none⟩) hvB v,(Spares.of_below b).set (by simp) _ _⟩
theorem Tryz.RVAt.erased {B:Nat} {w w2:World} {vb g cap g2 cap2 len1 i:Nat} {L:List ThingD} {tm tn ln:Int} {xs:List Value} {sv:Value} (h:RVAt B w vb g cap L tm tn ln) (hB:B≤w.heap.size) (hle:(L.eraseIdx i).length=len1) (hx:xs=flatT (L.eraseIdx i))
  (bV:BoxN w2 vb 108 #[sv,.int .u64 tm,.int .i64 tn,.int .i64 ln]) (hown:w2.ownsRow w.heap.size 105 8 (.slice (some ⟨g2,0,none⟩) len1 cap2) len1 xs) (hne:vb≠g2) :
  RVAt B (w2.setCell ⟨vb,0,none⟩ (.slice (some ⟨g2,0,none⟩) len1 cap2)) vb g2 cap2 (L.eraseIdx i) tm tn ln:=by
 subst hx;subst hle;refine⟨bV.set 0 _,?_,?_,fun x hx=>h.num x (List.mem_of_mem_eraseIdx hx),fun x hx=>h.ofs x (List.mem_of_mem_eraseIdx hx)⟩
 ·have hr:=hown.kept (grownBy_setCell' w2 vb (.slice (some ⟨g2,0,none⟩) (L.eraseIdx i).length cap2)) (.inr (by simp [Value.ownBlock];omega))
  obtain⟨h2,⟨e1,-⟩ | ⟨g',cap',cur,e1,e2,e3⟩⟩:=hr
  ·cases e1
  ·cases e1
   exact⟨h2,.inr ⟨g2,cap2,cur,rfl,Nat.le_trans hB e2,e3⟩⟩
 ·have:=h.lim
  have:=List.length_eraseIdx_le L i;omega
theorem ne_of_fresh {vb g n:Nat} (hl:vb<n) (h:(Value.slice none 0 0).ownBlock=some g∨g=n):vb≠g:=by
 rcases h with h | h
 ·cases h
 ·omega
theorem Tryz.rTried_ok (B:Nat) (vb g cap:Nat) (L:List ThingD) (tm tn ln:Int) (w:World) (h:RVAt B w vb g cap L tm tn ln) (hB:B≤w.heap.size) (hvB:B≤vb) (i:Nat) (hi0:0<i) (hil:i<L.length) :
  Calls prog 107 #[.pointer (some ⟨vb,0,none⟩),.int .i64 i,.bool true] w fun e w'=>∃ g' cap',e=.returned (.tuple #[])∧RVAt B w' vb g' cap' (L.eraseIdx i) tm tn ln∧vb≠g'∧Below B w w'∧Spares [vb,g] w w':=by
 obtain⟨i0,hi,hz0,hz1,hz2⟩:=info_parts thingInfo;have hlim:=h.lim;have lg:=h.glt;have lv:=h.v.lt;have v0:=h.v.cell 0 (v:=.slice (some ⟨g,0,none⟩) L.length cap) rfl
 have hcap:L.length≤cap:=by
  obtain⟨-,⟨e1,-⟩ | ⟨g',cap',cur,e1,e2,e3,e4,e5,e6,e7⟩⟩:=h.row
  ·cases e1
  ·cases e1;first | exact e4 | exact e5 | omega
 have hcs:=h.row.cells (g:=g) rfl
 have n1:∀ j u,(flatT (L.take i))[j]? = some u→w.cell? ((⟨g,0,none⟩:Addr).add j)=some u:=fun j u hu=>hcs j u (flatT_take i hu)
 have n2:∀ j u,(flatT (L.drop (i+1)))[j]? = some u→w.cell? ((⟨g,(i+1)*8,none⟩:Addr).add j)=some u:=fun j u hu=>by
  have:=hcs _ u (flatT_drop (by omega) hu);rw [Lib.add_plain] at this ⊢
  simpa using this
 have l1:(flatT (L.take i)).length=i*8:=by rw [flatT_length,List.length_take];congr 1;omega
 have l2:(flatT (L.drop (i+1))).length=(L.length-(i+1))*8:=by rw [flatT_length,List.length_drop]
 have N1:=hid_intro n1;have N2:=hid_intro n2;have L1:=hid_intro l1;have L2:=hid_intro l2
 have N3:=hid_intro (fun(w1:World) (hg:w.grownBy w1 (Value.slice none 0 0).ownBlock) (j:Nat) (u:Value) (hu:(flatT (L.drop (i+1)))[j]? = some u)=>show w1.cell? ((⟨g,(i+1)*8,none⟩:Addr).add j)=some u from by
  have e:=n2 j u hu;rw [Lib.add_plain] at e ⊢
  exact(hg.cell_far _ lg (by simp [Value.ownBlock])).trans e)
 clear n1 n2 l1 l2 hcs
 obtain⟨len,hlen⟩:∃ len,L.length=len:=⟨_,rfl⟩
 rw [hlen] at hil hlim v0 hcap L2;have Hlen:=hid_intro hlen
 obtain⟨len1,hl1⟩:∃ len1,len=len1+1:=⟨len-1,by omega⟩
 have Hl1:=hid_intro hl1;clear hl1;clear hlen;have hle:Hid ((L.eraseIdx i).length=len1):=hid_intro (by rw [List.length_eraseIdx_of_lt (by rw [hid_elim Hlen];omega),hid_elim Hlen];have:=hid_elim Hl1;omega);have hfe:Hid (flatT (L.take i)++flatT (L.drop (i+1))=flatT (L.eraseIdx i)):=hid_intro (by rw [List.eraseIdx_eq_take_drop_succ,flatT_append])
 by_cases hc:cap=i+1
 ·have hli:len=i+1:=by omega
  have hdn:Hid (flatT (L.drop (i+1)) = []):=hid_intro (by rw [List.drop_of_length_le (by rw [hid_elim Hlen];omega)];rfl);subst hc;subst hli;go_enter func107,ntmps107
  go_wp2_with (first
   | (at_builtin;refine wpList_append_lies _ rfl _ _ 106 rfl w.heap.size 105 i0 _ 8 72 underlying106 hi hz0 hz1 hz2 rfl (by decide) (.slice none 0 0) 0 [] rfl (World.ownsRow_nil _ _ _ _) ⟨g,0,none⟩ i (i+1) (flatT (L.take i)) rfl (hid_elim L1) (hid_elim N1) (flatT_one _) hi0 (by unfold maxLen;omega) (by omega) (Nat.le_refl _) _ rfl ?_;intro g1 cap1 w1 hown1 hgr1 hat1 hlt1;have bV1:=h.v.kept hgr1 (by simp [Value.ownBlock]);have d0:=bV1.cell 0 (v:=.slice (some ⟨g,0,none⟩) (i+1) (i+1)) (by rw [hid_elim Hlen];rfl);have Ho1:=hid_intro (show w1.ownsRow w.heap.size 105 8 (.slice (some ⟨g1,0,none⟩) i cap1) i (flatT (L.take i)) by simpa using hown1);have hvg1:vb≠g1:=ne_of_fresh lv hat1;have Hg1:=hid_intro hgr1;clear hown1 hgr1 hat1)
   | (at_builtin;refine wpList_append_own _ rfl _ _ 106 rfl w.heap.size 105 i0 _ 8 72 underlying106 hi hz0 hz1 hz2 rfl (by decide) (.slice (some ⟨g1,0,none⟩) i cap1) i _ rfl (hid_elim Ho1) ⟨g,0,none⟩ 0 0 [] rfl (by simp) (fun j u hu=>by simp at hu) (by simp) (by unfold maxLen;omega) (by omega) (hid_elim Hg1).size ?_;intro v2 w2 hown2 hgr2 hn2;clear hn2;rw [show i+0=len1 by have:=hid_elim Hl1;omega] at hown2;obtain⟨g2,cap2,rfl,hb2,hlt2⟩:=hown2.form (by have:=hid_elim Hl1;omega);have bV2:=bV1.kept hgr2 (by simpa [Value.ownBlock] using hvg1);have d2:=bV2.cell 0 (v:=.slice (some ⟨g,0,none⟩) (i+1) (i+1)) (by rw [hid_elim Hlen];rfl);have fz2:=bV2.frozen 0;have Ho2:=hid_intro hown2;have Hg2:=hid_intro hgr2;have HV2:=hid_intro bV2;clear hown2 hgr2 bV2))
  have hg1:=((hid_elim Ho1).lt g1 rfl).1
  have hvg2:vb≠g2:=by omega
  exact bodyPost_ret (v:=.tuple #[]) (by simp [results,results107,go_sem]) rfl ⟨g2,cap2,rfl,h.erased hB (hid_elim hle) (by rw [← hid_elim hfe,hid_elim hdn]) (hid_elim HV2) (hid_elim Ho2) hvg2,hvg2,two_grown hB hvB (hid_elim Hg1) hg1 (hid_elim Hg2) _⟩
 ·have hc':¬ i+1=cap:=by omega
  go_enter func107,ntmps107
  go_wp2_with (first
   | (at_builtin;refine wpList_append_lies _ rfl _ _ 106 rfl w.heap.size 105 i0 _ 8 72 underlying106 hi hz0 hz1 hz2 rfl (by decide) (.slice none 0 0) 0 [] rfl (World.ownsRow_nil _ _ _ _) ⟨g,0,none⟩ i cap (flatT (L.take i)) rfl (hid_elim L1) (hid_elim N1) (flatT_one _) hi0 (by unfold maxLen;omega) (by omega) (Nat.le_refl _) _ rfl ?_;intro g1 cap1 w1 hown1 hgr1 hat1 hlt1;have bV1:=h.v.kept hgr1 (by simp [Value.ownBlock]);have d0:=bV1.cell 0 (v:=.slice (some ⟨g,0,none⟩) len cap) (by rw [hid_elim Hlen];rfl);have Ho1:=hid_intro (show w1.ownsRow w.heap.size 105 8 (.slice (some ⟨g1,0,none⟩) i cap1) i (flatT (L.take i)) by simpa using hown1);have hvg1:vb≠g1:=ne_of_fresh lv hat1;have Hg1:=hid_intro hgr1;clear hown1 hgr1 hat1)
   | (at_builtin;refine wpList_append_own _ rfl _ _ 106 rfl w.heap.size 105 i0 _ 8 72 underlying106 hi hz0 hz1 hz2 rfl (by decide) (.slice (some ⟨g1,0,none⟩) i cap1) i _ rfl (hid_elim Ho1) ⟨g,(i+1)*8,none⟩ (len-(i+1)) (cap-(i+1)) (flatT (L.drop (i+1))) rfl (hid_elim L2) (hid_elim N3 w1 (hid_elim Hg1)) (flatT_one _) (by unfold maxLen;omega) (by omega) (hid_elim Hg1).size ?_;intro v2 w2 hown2 hgr2 hn2;clear hn2;rw [show i+(len-(i+1))=len1 by have:=hid_elim Hl1;omega] at hown2;obtain⟨g2,cap2,rfl,hb2,hlt2⟩:=hown2.form (by have:=hid_elim Hl1;omega);have bV2:=bV1.kept hgr2 (by simpa [Value.ownBlock] using hvg1);have d2:=bV2.cell 0 (v:=.slice (some ⟨g,0,none⟩) len cap) (by rw [hid_elim Hlen];rfl);have fz2:=bV2.frozen 0;have Ho2:=hid_intro hown2;have Hg2:=hid_intro hgr2;have HV2:=hid_intro bV2;clear hown2 hgr2 bV2))
  have hg1:=((hid_elim Ho1).lt g1 rfl).1
  have hvg2:vb≠g2:=by omega
  exact bodyPost_ret (v:=.tuple #[]) (by simp [results,results107,go_sem]) rfl ⟨g2,cap2,rfl,h.erased hB (hid_elim hle) (hid_elim hfe) (hid_elim HV2) (hid_elim Ho2) hvg2,hvg2,two_grown hB hvB (hid_elim Hg1) hg1 (hid_elim Hg2) _⟩
end Go.Proofs
