import Derived.Test.YtjbekgjdempbiaaGreatDoorJRefG
import Derived.Test.YtjbekgjdempbiaaGreatDoorJRefQ0
import Derived.Deep.RegionHeldLaw
import Derived.Deep.RegionLaw
import Derived.Deep.AppendLies
import Derived.Deep.RegionHeld3
import Derived.Test.YtjbekgjdempbiaaGreatDoorJRefA
import Derived.Test.YtjbekgjdempbiaaGreatDoorJMapOps
import Derived.Lib.AtoiErrMem
import Derived.Lib.ParseIntBCases
set_option maxRecDepth 100000
set_option maxHeartbeats 8000000
namespace Go.Proofs
open Go.RowKit Go.Sort Go.Lib Go.Shelf Go.Maps
theorem flatI_get:∀(xs:List InfoD) (k j:Nat) (t:InfoD),xs[k]? = some t→j<6→(flatI xs)[k*6+j]? = t.cells[j]?
 | [],_,_,_,h,_=>by simp at h
 | x :: xs,0,j,t,h,hj=>by
  obtain rfl:x=t:=by simpa using h
  show (x.cells.toList++flatI xs)[0*6+j]? = _
  rw [List.getElem?_append_left (by rw [InfoD.cells_size];omega)];simp
 | x :: xs,k+1,j,t,h,hj=>by
  show (x.cells.toList++flatI xs)[(k+1)*6+j]? = _
  rw [List.getElem?_append_right (by rw [InfoD.cells_size];omega),InfoD.cells_size,show (k+1)*6+j-6=k*6+j by omega];exact flatI_get xs k j t (by simpa using h) hj
theorem infoRow {B:Nat} {W:World} {g cap n:Nat} {e:TypeId} {xs:List InfoD} (h:W.ownsRow B e 6 (.slice (some ⟨g,0,none⟩) n cap) n (flatI xs)) {k:Nat} {t:InfoD} (hk:xs[k]? = some t) :
  W.cell? ⟨g,k*6,none⟩=some (.string ⟨t.id.toArray⟩)∧W.cell? ⟨g,k*6+1,none⟩=some (.int .i64 t.st)∧W.cell? ⟨g,k*6+2,none⟩=some (.int .u64 t.at_)∧W.cell? ⟨g,k*6+3,none⟩=some (.int .i64 t.tr)∧W.cell? ⟨g,k*6+4,none⟩=some (.string ⟨t.tok.toArray⟩)∧W.cell? ⟨g,k*6+5,none⟩=some (.string ⟨t.pth.toArray⟩):=by
 have c:∀ j,j<6→W.cell? ⟨g,k*6+j,none⟩=t.cells[j]?:=fun j hj=>by
  have hc:=h.cells (g:=g) rfl (k*6+j);have hs:j<t.cells.size:=hj;have:=hc (t.cells[j]) (by rw [flatI_get xs k j t hk hj];simp [hs]);rw [Lib.add_plain] at this;simp only [Nat.zero_add] at this;rw [this];simp [hs]
 exact⟨c 0 (by omega),c 1 (by omega),c 2 (by omega),c 3 (by omega),c 4 (by omega),c 5 (by omega)⟩
theorem Tryz.infoStruct:prog.underlying 49=some (.struct (prog.fieldsOf 49)):=by kernel_rfl
theorem Tryz.infoHeld:prog.stoodInHeld 49=false:=by kernel_rfl
theorem Tryz.infoNeq (x y:InfoD) (W:World):(binOp .neq 49 (.agg x.cells) (.agg y.cells)).run prog W=.ok (.bool (!(x.id==y.id&&x.st==y.st&&x.at_==y.at_&&x.tr==y.tr&&x.tok==y.tok&&x.pth==y.pth))) W:=by
 obtain⟨a0,a1,a2,a3,a4,a5⟩:=x;obtain⟨b0,b1,b2,b3,b4,b5⟩:=y;rw [run_neq_struct,run_equalIn_struct W 9999 _ _ _ infoStruct infoHeld];simp only [Program.fieldsOf,underlying49];simp [InfoD.cells,infoCells,Op.eqFields,go_sem]
 by_cases h0:a0=b0 <;> by_cases h1:a1=b1 <;> by_cases h2:a2=b2 <;> by_cases h3:a3=b3 <;> by_cases h4:a4=b4 <;> by_cases h5:a5=b5 <;> simp_all
theorem Tryz.sameInfos (B B' n m:Nat) (u v:Value) (xs ys:List InfoD) (w:World) (hA:w.ownsRow B 49 6 u n (flatI xs)) (hB:w.ownsRow B' 49 6 v m (flatI ys)) (hn:xs.length=n) (hm:ys.length=m) (hl:n≤1000) (hl':m≤1000) :
  Calls prog 58 #[u,v] w fun e w'=>∃ b,e=.returned (.bool b)∧(xs=ys→b=true)∧Below w.heap.size w w':=by
 have hU:∃ p c,u=.slice p n c:=by
  rcases hA.2 with⟨rfl,h0⟩ | ⟨g,cap,cur,rfl,_⟩
  ·exact⟨none,0,by rw [h0]⟩
  ·exact⟨_,_,rfl⟩
 have hV:∃ p c,v=.slice p m c:=by
  rcases hB.2 with⟨rfl,h0⟩ | ⟨g,cap,cur,rfl,_⟩
  ·exact⟨none,0,by rw [h0]⟩
  ·exact⟨_,_,rfl⟩
 obtain⟨p,c,rfl⟩:=hU;obtain⟨q,d,rfl⟩:=hV
 by_cases hnm:n=m
 ·subst hnm
  go_enter func58,ntmps58;go_wp2
  go_loopw [5] (fun i wr=>∃ k:Nat,k≤n∧i=.int .i64 k∧Below w.heap.size w wr) (fun i _=>n-(intOf i).toNat)
  case atStart=>exact⟨0,Nat.zero_le _,rfl,Below.refl _ _⟩
  case round =>
   obtain⟨k,hk,rfl,hBw⟩:=hrel
   by_cases hkn:k<n
   ·obtain⟨x,hx⟩:∃ x,xs[k]? = some x:=⟨xs[k]'(by omega),by simp⟩
    obtain⟨y,hy⟩:∃ y,ys[k]? = some y:=⟨ys[k]'(by omega),by simp⟩
    obtain⟨g,rfl⟩:∃ g,p=some ⟨g,0,none⟩:=by
     rcases hA.2 with⟨h,h0⟩ | ⟨g,_,_,h,_⟩
     ·omega
     ·simp at h;exact⟨g,h.1⟩
    obtain⟨g',rfl⟩:∃ g,q=some ⟨g,0,none⟩:=by
     rcases hB.2 with⟨h,h0⟩ | ⟨g,_,_,h,_⟩
     ·omega
     ·simp at h;exact⟨g,h.1⟩
    obtain⟨x0,x1,x2,x3,x4,x5⟩:=infoRow (ownsRow_below hA hBw) hx;obtain⟨y0,y1,y2,y3,y4,y5⟩:=infoRow (ownsRow_below hB hBw) hy;have hnq:=infoNeq x y;have hHx:=hid_intro hx;have hHy:=hid_intro hy;clear hx hy;obtain⟨a0,a1,a2,a3,a4,a5⟩:=x;obtain⟨b0,b1,b2,b3,b4,b5⟩:=y;simp only [InfoD.cells,infoCells] at hnq x0 x1 x2 x3 x4 x5 y0 y1 y2 y3 y4 y5
    obtain⟨bq,hbq⟩:∃ bq,(!(a0==b0&&a1==b1&&a2==b2&&a3==b3&&a4==b4&&a5==b5))=bq:=⟨_,rfl⟩
    rw [hbq] at hnq
    have hsame:Hid (xs=ys→bq=false):=hid_intro (fun e=>by
     have h1:=hid_elim hHx;have h2:=hid_elim hHy;rw [e,h2] at h1
     obtain⟨e0,e1,e2,e3,e4,e5⟩:b0=a0∧b1=a1∧b2=a2∧b3=a3∧b4=a4∧b5=a5:=by simpa using h1
     rw [← hbq,e0,e1,e2,e3,e4,e5]
     simp)
    clear hbq;cases bq
    ·go_wp2
     go_quiet (fail);go_wp2
     go_roundw
     case rel=>exact⟨k+1,by omega,rfl,below_drewN hBw _⟩
     case measure=>simp [intOf];omega
    ·go_wp2
     go_quiet (fail);go_wp2;go_ret;exact⟨false,rfl,fun e=>absurd (hid_elim hsame e) (by simp),below_drewN hBw _⟩
   ·obtain rfl:k=n:=by omega
    go_wp2;go_ret;exact⟨true,rfl,fun _=>rfl,hBw⟩
 ·have hne:((n:Int)==(m:Int))=false:=by simp;omega
  go_enter func58,ntmps58;go_wp2;go_ret;exact⟨false,rfl,fun e=>absurd (by rw [← hn,← hm,e]) hnm,Below.refl _ _⟩
end Go.Proofs
namespace Go.Proofs
open Go.RowKit Go.Sort Go.Lib Go.Shelf
def newTok (k m:Nat):ThingD:=⟨true,k,(m:Int),[],18446744073709551615,0,false,0⟩
abbrev cells3 (g vb i:Nat) (sl:Value) (k m:Nat) (W:World):Prop:=
 W.cell? ⟨vb,0,none⟩=some sl∧W.cell? ⟨vb,2,none⟩=some (.int .i64 k)∧W.cell? ⟨g,i*8+1,none⟩=some (.int .i64 m)
theorem cells3.below {g vb i:Nat} {sl:Value} {k m:Nat} {W W':World} (h:cells3 g vb i sl k m W) (hb:Below W.heap.size W W'):cells3 g vb i sl k m W':=
 ⟨cell_later hb h.1,cell_later hb h.2.1,cell_later hb h.2.2⟩
theorem Tryz.RVAt.made {B:Nat} {W:World} {vb g cap:Nat} {L:List ThingD} {tm ln:Int} {k:Nat} (h:RVAt B W vb g cap L tm k ln) (hne:vb≠g) (cs:Array Value) :
  BoxN (((W.setCell ⟨vb,2,none⟩ (.int .i64 (k+1))).alloc (.cells cs 105)).drew) vb 108 #[.slice (some ⟨g,0,none⟩) L.length cap,.int .u64 tm,.int .i64 (k+1),.int .i64 ln] ∧
  (((W.setCell ⟨vb,2,none⟩ (.int .i64 (k+1))).alloc (.cells cs 105)).drew).ownsRow B 105 8 (.slice (some ⟨g,0,none⟩) L.length cap) L.length (flatT L) ∧
  BoxN (((W.setCell ⟨vb,2,none⟩ (.int .i64 (k+1))).alloc (.cells cs 105)).drew) W.heap.size 105 cs:=by
 have lv:=h.v.lt;refine⟨?_,?_,?_⟩
 ·exact(h.v.set 2 _).alloc _
 ·have hr:(W.setCell ⟨vb,2,none⟩ (.int .i64 (k+1))).ownsRow B 105 8 (.slice (some ⟨g,0,none⟩) L.length cap) L.length (flatT L):=by
   obtain⟨h2,⟨e1,-⟩ | ⟨g',cap',cur,e1,e2,e3,e4⟩⟩:=h.row
   ·cases e1
   ·cases e1
    exact⟨h2,.inr ⟨g,cap,cur,rfl,e2,BoxN.other (W:=W) (t:=105) (cs:=cur) e3 (Ne.symm hne) 2 _,e4⟩⟩
  exact hr.alloc _
 ·have:=BoxN.new (W.setCell ⟨vb,2,none⟩ (.int .i64 (k+1))) 105 cs
  rw [World.size_setCell] at this;exact this
theorem Tryz.rCreate_ok (B:Nat) (vb g cap:Nat) (L:List ThingD) (tm ln:Int) (k:Nat) (id:List UInt8) (w:World) (h:RVAt B w vb g cap L tm k ln) (hvB:B≤vb) (hne:vb≠g) (hB:B≤w.heap.size) (hk:k<9223372036854775807) (hl:L.length<100)
  (i:Nat) (t:ThingD) (ht:L[i]? = some t) (hli:liveI tm id true L=i) (hc:countI true L≠10) :
  Calls prog 109 #[.pointer (some ⟨vb,0,none⟩),.string ⟨id.toArray⟩] w fun e w'=>∃ g' cap',e=.returned (.tuple #[.string ⟨(newTok k t.n).id.toArray⟩,.int .i64 0])∧RVAt B w' vb g' cap' (L ++ [newTok k t.n]) tm (k+1) ln∧vb≠g'∧Below B w w'∧Spares [vb,g] w w':=by
 obtain⟨i0,hi,hz0,hz1,hz2⟩:=info_parts thingInfo;have hL:=rLive B vb g cap L tm k ln id true w h;rw [hli] at hL
 have hC:=fun W (hb:Below w.heap.size w W)=>rCount B vb g cap L tm k ln true W (h.below hb)
 have hc':((countI true L:Int)==10)=false:=by rw [beq_eq_false_iff_ne];omega
 have hil:i<L.length:=(List.getElem?_eq_some_iff.1 ht).1
 have hS:=fun W (hb:Below w.heap.size w W)=>(show cells3 g vb i (.slice (some ⟨g,0,none⟩) L.length cap) k t.n W from ⟨(h.below hb).v.cell 0 rfl,(h.below hb).v.cell 2 rfl,((h.below hb).cells ht).2.1⟩)
 generalize countI true L=n at *
 have hnn:¬ (i:Int)<0:=by omega
 have lv:=h.v.lt;have lg:=h.glt;go_enter func109,ntmps109
 go_wp2_with (first
  | (go_at_call 154;refine hL.mono ?_;rintro e w1 ⟨rfl,hb1⟩)
  | (go_at_call 155;refine(hC _ hb1).mono ?_;rintro e w2 ⟨rfl,rfl⟩))
 rename_i w1 _
 have hsz:=hb1.size;have fv:=(h.below hb1).v.frozen 2;have lv2:=(h.below hb1).v.lt;have hM:=hid_intro ((h.below hb1).made hne #[.bool true,.int .i64 k,.int .i64 t.n,.string ⟨#[]⟩,.int .u64 18446744073709551615,.int .u64 0,.bool false,.int .i64 0])
 go_region_held3 (cells3 g vb i (.slice (some ⟨g,0,none⟩) L.length cap) k t.n) (first
   | with_reducible exact(hS _ hb1).below (Grew.below (Grew.refl _).drew)
   | with_reducible exact(hS _ hb1).below (Grew.below ((Grew.refl _).alloc _).drew)
   | with_reducible exact cells3.below (by assumption) (by assumption)
   | with_reducible exact cells3.below (by assumption) (Grew.below ((Grew.refl _).alloc _))) (fail)
 go_wp2;obtain⟨bV,hrow,bT⟩:=hid_elim hM;clear hM fv hS
 have hB9:Below B w (((w2.setCell ⟨vb,2,none⟩ (.int .i64 (k+1))).alloc (.cells #[.bool true,.int .i64 k,.int .i64 t.n,.string ⟨#[]⟩,.int .u64 18446744073709551615,.int .u64 0,.bool false,.int .i64 0] 105)).drew):=((((hb1.mono hB).setCell (p:=⟨vb,2,none⟩) hvB _).alloc (by simp;omega) _).drew)
 have hP9:Spares [vb,g] w (((w2.setCell ⟨vb,2,none⟩ (.int .i64 (k+1))).alloc (.cells #[.bool true,.int .i64 k,.int .i64 t.n,.string ⟨#[]⟩,.int .u64 18446744073709551615,.int .u64 0,.bool false,.int .i64 0] 105)).drew):=(((Spares.of_below hb1).set (by simp) _ _).alloc _).drew
 have hs9:(((w2.setCell ⟨vb,2,none⟩ (.int .i64 (k+1))).alloc (.cells #[.bool true,.int .i64 k,.int .i64 t.n,.string ⟨#[]⟩,.int .u64 18446744073709551615,.int .u64 0,.bool false,.int .i64 0] 105)).drew).heap.size=w2.heap.size+1:=by simp
 obtain⟨W9,hW9⟩:∃ W9,((w2.setCell ⟨vb,2,none⟩ (.int .i64 (k+1))).alloc (.cells #[.bool true,.int .i64 k,.int .i64 t.n,.string ⟨#[]⟩,.int .u64 18446744073709551615,.int .u64 0,.bool false,.int .i64 0] 105)).drew=W9:=⟨_,rfl⟩
 rw [hW9] at bV hrow bT hB9 hs9 hP9;rw [hW9];clear hW9;have Hs9:=hid_intro hs9
 have hB9s:B≤W9.heap.size:=by omega
 clear hs9;have lv9:=bV.lt;have lt9:=bT.lt;have v0:=bV.cell 0 (v:=.slice (some ⟨g,0,none⟩) L.length cap) rfl;have fv0:=bV.frozen 0;obtain⟨y0,y1,y2,y3,y4,y5,y6,y7⟩:=bT.c8;have hll:L.length<100:=hl
 go_region_law ((refine step_append_lies _ (by rfl) _ _ _ (by rfl) B 105 i0 _ 8 72 underlying106 hi hz0 hz1 hz2 rfl (by decide) _ _ _ (by rfl) (ownsRow_below hrow (by first | exact Grew.below ((Grew.refl _).alloc _) | exact Grew.below (((Grew.refl _).drewN _).alloc _))) ⟨W9.heap.size,0,none⟩ 1 1 [.bool true,.int .i64 k,.int .i64 t.n,.string ⟨#[]⟩,.int .u64 18446744073709551615,.int .u64 0,.bool false,.int .i64 0] (by rfl) rfl (World.news_of_block (heap_alloc_new _ _)) (by simp [Value.oneCell']) (by omega) (by unfold maxLen;omega) (by omega) (by simp;omega) _ rfl ?_;intro g' cap' w3 hown' hgrow hat hlt;have bV3:=(bV.below (B:=vb) (n₀:=W9.heap.size) (by first | exact Grew.below ((Grew.refl W9).alloc _) | exact Grew.below (((Grew.refl W9).drew).alloc _)) bV.lt).kept hgrow (by simp [Value.ownBlock,hne]);have d0:=bV3.cell 0 (v:=.slice (some ⟨g,0,none⟩) L.length cap) rfl;have d1:=bV3.frozen 0))
 all_goals
  have hvg:vb≠g':=by
   rcases hat with e | e
   ·have:g=g':=by simpa [Value.ownBlock] using e
    omega
   ·have:g'=W9.heap.size+1:=by simpa using e
    omega
  have lg2:g<w2.heap.size:=by omega
  have bT4:=((bT.below (B:=w2.heap.size) (n₀:=W9.heap.size) (Grew.below (((Grew.refl W9).alloc _).drew)) bT.lt).kept hgrow (by simp [Value.ownBlock];omega)).other (B':=vb) (by omega) 0 (.slice (some ⟨g',0,none⟩) (L.length+1) cap')
  have hbk:∀ q,(Value.slice (some ⟨g,0,none⟩) L.length cap).ownBlock=some q→B≤q:=by
   intro q hq
   have h1:g=q:=by simpa [Value.ownBlock] using hq
   have h2:=(h.row.lt g rfl).1;omega
  have hB3:Below B w w3:=((hB9.alloc hB9s _).drew).grown hgrow (by simp;omega) hbk;have hP3:Spares [vb,g] w w3:=((hP9.alloc _).drew).trans (Spares.of_grown (b:=g) hgrow (by simp))
  have hF:Hid (RVAt B (w3.setCell ⟨vb,0,none⟩ (.slice (some ⟨g',0,none⟩) (L.length+1) cap')) vb g' cap' (L ++ [newTok k t.n]) tm (k+1) ln∧Below B w (w3.setCell ⟨vb,0,none⟩ (.slice (some ⟨g',0,none⟩) (L.length+1) cap'))∧Spares [vb,g] w (w3.setCell ⟨vb,0,none⟩ (.slice (some ⟨g',0,none⟩) (L.length+1) cap'))):=hid_intro ⟨⟨by
    rw [List.length_append];exact bV3.set 0 _,by
    rw [List.length_append,flatT_snoc];exact hown'.kept (grownBy_setCell' w3 vb _) (.inr (by simp [Value.ownBlock];omega)),by
    rw [List.length_append];show L.length+1≤100;omega,fun x hx=>by
    rcases List.mem_append.1 hx with hx | hx
    ·exact h.num x hx
    ·rw [List.mem_singleton.1 hx];show k<_;omega,fun x hx=>by
    rcases List.mem_append.1 hx with hx | hx
    ·exact h.ofs x hx
    ·rw [List.mem_singleton.1 hx];exact .inr ⟨t.n,rfl,h.num t (List.mem_of_getElem? ht)⟩⟩,hB3.setCell (p:=⟨vb,0,none⟩) hvB _,hP3.set (by simp) _ _⟩
  have hs4:B≤(w3.setCell ⟨vb,0,none⟩ (.slice (some ⟨g',0,none⟩) (L.length+1) cap')).heap.size:=by have:=hB3.size;simp;omega
  have hID:=fun W=>rId (newTok k t.n) (show k<_ by omega) W
  obtain⟨nid,hnid⟩:∃ nid,(newTok k t.n).id=nid:=⟨_,rfl⟩
  rw [hnid] at hID;have Hn:=hid_intro hnid;clear hnid;simp only [newTok,ThingD.cells] at hID;clear hown' hgrow hat hlt bV3 d0 d1 hB3 hP3 hP9 bV hrow bT v0 fv0 y0 y1 y2 y3 y4 y5 y6 y7 hB9 hL hC;generalize w3.setCell ⟨vb,0,none⟩ (.slice (some ⟨g',0,none⟩) (L.length+1) cap')=W4 at *;obtain⟨y0,y1,y2,y3,y4,y5,y6,y7⟩:=bT4.c8
  go_wp2_with (go_at_call 105;refine(hID _).mono ?_;rintro e w5 ⟨rfl,hb5⟩)
  exact bodyPost_ret (v:=.tuple #[.string ⟨nid.toArray⟩,.int .i64 0]) (by simp [results,results109,go_sem]) rfl ⟨g',cap',by rw [hid_elim Hn],(hid_elim hF).1.below hb5,hvg,(hid_elim hF).2.1.trans (hb5.mono hs4),(hid_elim hF).2.2.trans (Spares.of_below hb5)⟩
def newLea (k m:Nat) (pth:List UInt8) (a l:Int):ThingD:=⟨false,k,(m:Int),pth,a,l,false,0⟩
abbrev cells4 (g vb i:Nat) (sl:Value) (tm:Int) (k m:Nat) (W:World):Prop:=
 W.cell? ⟨vb,0,none⟩=some sl∧W.cell? ⟨vb,1,none⟩=some (.int .u64 tm)∧W.cell? ⟨vb,3,none⟩=some (.int .i64 k)∧W.cell? ⟨g,i*8+1,none⟩=some (.int .i64 m)
theorem cells4.below {g vb i:Nat} {sl:Value} {tm:Int} {k m:Nat} {W W':World} (h:cells4 g vb i sl tm k m W) (hb:Below W.heap.size W W'):cells4 g vb i sl tm k m W':=
 ⟨cell_later hb h.1,cell_later hb h.2.1,cell_later hb h.2.2.1,cell_later hb h.2.2.2⟩
theorem Tryz.RVAt.made3 {B:Nat} {W:World} {vb g cap:Nat} {L:List ThingD} {tm tn:Int} {k:Nat} (h:RVAt B W vb g cap L tm tn k) (hne:vb≠g) (cs:Array Value) (q:Nat) :
  BoxN (((W.alloc (.cells cs 105)).drewN q).setCell ⟨vb,3,none⟩ (.int .i64 (k+1))) vb 108 #[.slice (some ⟨g,0,none⟩) L.length cap,.int .u64 tm,.int .i64 tn,.int .i64 (k+1)] ∧
  (((W.alloc (.cells cs 105)).drewN q).setCell ⟨vb,3,none⟩ (.int .i64 (k+1))).ownsRow B 105 8 (.slice (some ⟨g,0,none⟩) L.length cap) L.length (flatT L) ∧
  BoxN (((W.alloc (.cells cs 105)).drewN q).setCell ⟨vb,3,none⟩ (.int .i64 (k+1))) W.heap.size 105 cs:=by
 have lv:=h.v.lt;have hb:Below W.heap.size W ((W.alloc (.cells cs 105)).drewN q):=below_drewN ((Below.refl _ W).alloc (Nat.le_refl _) _) q;refine⟨?_,?_,?_⟩
 ·exact(h.v.below hb h.v.lt).set 3 _
 ·obtain⟨h2,⟨e1,-⟩ | ⟨g',cap',cur,e1,e2,e3,e4⟩⟩:=ownsRow_below h.row hb
  ·cases e1
  ·cases e1
   exact⟨h2,.inr ⟨g,cap,cur,rfl,e2,BoxN.other (W:=(W.alloc (.cells cs 105)).drewN q) (t:=105) (cs:=cur) e3 (Ne.symm hne) 3 _,e4⟩⟩
 ·exact BoxN.other (W:=(W.alloc (.cells cs 105)).drewN q) (BoxN.new W 105 cs) (by omega) 3 _
theorem Tryz.rIssue_ok (B:Nat) (vb g cap:Nat) (L:List ThingD) (tm tn:Int) (k:Nat) (id pth:List UInt8) (ttl most:Int) (w:World) (h:RVAt B w vb g cap L tm tn k) (hvB:B≤vb) (hne:vb≠g) (hB:B≤w.heap.size) (hk:k<9223372036854775807) (hl:L.length<100) (hp:pth.length≤9223372036854775807)
  (htm:0≤tm) (ht1:0≤ttl) (ht2:ttl≤18446744073709551615) (hm2:most≤18446744073709551615)
  (i:Nat) (t:ThingD) (ht:L[i]? = some t) (hli:liveI tm id true L=i) (he:issueE tm id pth ttl most L=0) (hat:tm<plusI tm ttl) :
  Calls prog 111 #[.pointer (some ⟨vb,0,none⟩),.string ⟨id.toArray⟩,.string ⟨pth.toArray⟩,.int .u64 ttl,.int .u64 most] w fun e w'=>∃ g' cap',e=.returned (.tuple #[.string ⟨(newLea k t.n pth (plusI tm ttl) (plusI tm most)).id.toArray⟩,.int .i64 0])∧RVAt B w' vb g' cap' (L ++ [newLea k t.n pth (plusI tm ttl) (plusI tm most)]) tm tn (k+1)∧vb≠g'∧Below B w w'∧Spares [vb,g] w w':=by
 obtain⟨i0,hi,hz0,hz1,hz2⟩:=info_parts thingInfo;have hL:=rLive B vb g cap L tm tn k id true w h;rw [hli] at hL
 have hC:=fun W (hb:Below w.heap.size w W)=>rCount B vb g cap L tm tn k false W (h.below hb)
 have hP:=fun W=>rPathed pth hp W
 unfold issueE at he
 have h1:¬ (i:Int)<0:=by omega
 rw [hli,if_neg h1] at he
 have h2:¬ pathI pth=false:=by intro e;rw [if_pos e] at he;omega
 rw [if_neg h2] at he
 have h3:¬ (ttl=0∨most<ttl):=by intro e;rw [if_pos e] at he;omega
 rw [if_neg h3] at he
 have h4:¬ countI false L=14:=by intro e;rw [if_pos e] at he;omega
 clear he
 have hm1:0≤most:=by omega
 have hA:=fun W=>rPlus tm ttl htm ht1 ht2 W
 have hA2:=fun W=>rPlus tm most htm hm1 hm2 W
 have hpt:pathI pth=true:=by simpa using h2
 rw [hpt] at hP
 have hc':((countI false L:Int)==14)=false:=by rw [beq_eq_false_iff_ne];omega
 have h0':(ttl==0)=false:=by simp;omega
 have h3':¬ most<ttl:=by omega
 have hil:i<L.length:=(List.getElem?_eq_some_iff.1 ht).1
 have hS:=fun W (hb:Below w.heap.size w W)=>(show cells4 g vb i (.slice (some ⟨g,0,none⟩) L.length cap) tm k t.n W from ⟨(h.below hb).v.cell 0 rfl,(h.below hb).v.cell 1 rfl,(h.below hb).v.cell 3 rfl,((h.below hb).cells ht).2.1⟩)
 clear h2 h3 h4 hpt;generalize countI false L=n at *;generalize plusI tm ttl=at0 at *;generalize plusI tm most=la0 at *;have lv:=h.v.lt;have lg:=h.glt;go_enter func111,ntmps111
 go_wp2_with (first
  | (go_at_call 154;refine hL.mono ?_;rintro e w1 ⟨rfl,hb1⟩)
  | (go_at_call 156;refine(hP _).mono ?_;rintro e w2 ⟨rfl,rfl⟩)
  | (go_at_call 155;refine(hC _ hb1).mono ?_;rintro e w3 ⟨rfl,rfl⟩;obtain⟨q0,q1,q2,q3⟩:=hS _ hb1)
  | (go_at_call_of 153 (Value.int .u64 ttl);refine(hA _).mono ?_;rintro e w4 ⟨rfl,rfl⟩)
  | (go_at_call_of 153 (Value.int .u64 most);refine(hA2 _).mono ?_;rintro e w5 ⟨rfl,rfl⟩))
 have hsz:=hb1.size;have fv:=(h.below hb1).v.frozen 3;have lv2:=(h.below hb1).v.lt
 go_region_held3 (cells4 g vb i (.slice (some ⟨g,0,none⟩) L.length cap) tm k t.n) (first
   | with_reducible exact(hS _ hb1).below (Grew.below (Grew.refl _).drew)
   | with_reducible exact(hS _ hb1).below (Grew.below ((Grew.refl _).alloc _).drew)
   | with_reducible exact cells4.below (by assumption) (by assumption)
   | with_reducible exact cells4.below (by assumption) (Grew.below ((Grew.refl _).alloc _))) (fail)
 go_wp2_with fail
 go_quiet (fail);go_wp2;obtain⟨bV,hrow,bT⟩:=(h.below hb1).made3 hne #[.bool false,.int .i64 k,.int .i64 t.n,.string ⟨pth.toArray⟩,.int .u64 at0,.int .u64 la0,.bool false,.int .i64 0] (1+nq);clear fv hS;have hB9:Below B w (((w5.alloc (.cells #[.bool false,.int .i64 k,.int .i64 t.n,.string ⟨pth.toArray⟩,.int .u64 at0,.int .u64 la0,.bool false,.int .i64 0] 105)).drewN (1+nq)).setCell ⟨vb,3,none⟩ (.int .i64 (k+1))):=(below_drewN ((hb1.mono hB).alloc (by omega) _) _).setCell (p:=⟨vb,3,none⟩) hvB _;have hP9:Spares [vb,g] w (((w5.alloc (.cells #[.bool false,.int .i64 k,.int .i64 t.n,.string ⟨pth.toArray⟩,.int .u64 at0,.int .u64 la0,.bool false,.int .i64 0] 105)).drewN (1+nq)).setCell ⟨vb,3,none⟩ (.int .i64 (k+1))):=(((Spares.of_below hb1).alloc _).trans (Spares.of_below (below_drewN (Below.refl _ _) (1+nq)))).set (by simp) _ _
 have hs9:(((w5.alloc (.cells #[.bool false,.int .i64 k,.int .i64 t.n,.string ⟨pth.toArray⟩,.int .u64 at0,.int .u64 la0,.bool false,.int .i64 0] 105)).drewN (1+nq)).setCell ⟨vb,3,none⟩ (.int .i64 (k+1))).heap.size=w5.heap.size+1:=by simp
 obtain⟨W9,hW9⟩:∃ W9,((w5.alloc (.cells #[.bool false,.int .i64 k,.int .i64 t.n,.string ⟨pth.toArray⟩,.int .u64 at0,.int .u64 la0,.bool false,.int .i64 0] 105)).drewN (1+nq)).setCell ⟨vb,3,none⟩ (.int .i64 (k+1))=W9:=⟨_,rfl⟩
 rw [hW9] at bV hrow bT hB9 hs9 hP9;rw [hW9];clear hW9;have Hs9:=hid_intro hs9
 have hB9s:B≤W9.heap.size:=by omega
 clear hs9;have lv9:=bV.lt;have lt9:=bT.lt;have v0:=bV.cell 0 (v:=.slice (some ⟨g,0,none⟩) L.length cap) rfl;have fv0:=bV.frozen 0;obtain⟨y0,y1,y2,y3,y4,y5,y6,y7⟩:=bT.c8;have hll:L.length<100:=hl
 go_region_law ((refine step_append_lies _ (by rfl) _ _ _ (by rfl) B 105 i0 _ 8 72 underlying106 hi hz0 hz1 hz2 rfl (by decide) _ _ _ (by rfl) (ownsRow_below hrow (by first | exact Grew.below ((Grew.refl _).alloc _) | exact Grew.below (((Grew.refl _).drewN _).alloc _))) ⟨W9.heap.size,0,none⟩ 1 1 [.bool false,.int .i64 k,.int .i64 t.n,.string ⟨pth.toArray⟩,.int .u64 at0,.int .u64 la0,.bool false,.int .i64 0] (by rfl) rfl (World.news_of_block (heap_alloc_new _ _)) (by simp [Value.oneCell']) (by omega) (by unfold maxLen;omega) (by omega) (by simp;omega) _ rfl ?_;intro g' cap' w6 hown' hgrow hat6 hlt;have bV3:=(bV.below (B:=vb) (n₀:=W9.heap.size) (by first | exact Grew.below ((Grew.refl W9).alloc _) | exact Grew.below (((Grew.refl W9).drew).alloc _)) bV.lt).kept hgrow (by simp [Value.ownBlock,hne]);have d0:=bV3.cell 0 (v:=.slice (some ⟨g,0,none⟩) L.length cap) rfl;have d1:=bV3.frozen 0))
 all_goals
  have hvg:vb≠g':=by
   rcases hat6 with e | e
   ·have:g=g':=by simpa [Value.ownBlock] using e
    omega
   ·have:g'=W9.heap.size+1:=by simpa using e
    omega
  have lg2:g<w5.heap.size:=by omega
  have bT4:=((bT.below (B:=w5.heap.size) (n₀:=W9.heap.size) (Grew.below (((Grew.refl W9).alloc _).drew)) bT.lt).kept hgrow (by simp [Value.ownBlock];omega)).other (B':=vb) (by omega) 0 (.slice (some ⟨g',0,none⟩) (L.length+1) cap')
  have hbk:∀ q,(Value.slice (some ⟨g,0,none⟩) L.length cap).ownBlock=some q→B≤q:=by
   intro q hq
   have h1:g=q:=by simpa [Value.ownBlock] using hq
   have h2:=(h.row.lt g rfl).1;omega
  have hB3:Below B w w6:=((hB9.alloc hB9s _).drew).grown hgrow (by simp;omega) hbk;have hP3:Spares [vb,g] w w6:=((hP9.alloc _).drew).trans (Spares.of_grown (b:=g) hgrow (by simp))
  have hF:Hid (RVAt B (w6.setCell ⟨vb,0,none⟩ (.slice (some ⟨g',0,none⟩) (L.length+1) cap')) vb g' cap' (L ++ [newLea k t.n pth at0 la0]) tm tn (k+1)∧Below B w (w6.setCell ⟨vb,0,none⟩ (.slice (some ⟨g',0,none⟩) (L.length+1) cap'))∧Spares [vb,g] w (w6.setCell ⟨vb,0,none⟩ (.slice (some ⟨g',0,none⟩) (L.length+1) cap'))):=hid_intro ⟨⟨by
    rw [List.length_append];exact bV3.set 0 _,by
    rw [List.length_append,flatT_snoc];exact hown'.kept (grownBy_setCell' w6 vb _) (.inr (by simp [Value.ownBlock];omega)),by
    rw [List.length_append];show L.length+1≤100;omega,fun x hx=>by
    rcases List.mem_append.1 hx with hx | hx
    ·exact h.num x hx
    ·rw [List.mem_singleton.1 hx];show k<_;omega,fun x hx=>by
    rcases List.mem_append.1 hx with hx | hx
    ·exact h.ofs x hx
    ·rw [List.mem_singleton.1 hx];exact .inr ⟨t.n,rfl,h.num t (List.mem_of_getElem? ht)⟩⟩,hB3.setCell (p:=⟨vb,0,none⟩) hvB _,hP3.set (by simp) _ _⟩
  have hs4:B≤(w6.setCell ⟨vb,0,none⟩ (.slice (some ⟨g',0,none⟩) (L.length+1) cap')).heap.size:=by have:=hB3.size;simp;omega
  have hID:=fun W=>rId (newLea k t.n pth at0 la0) (show k<_ by omega) W
  obtain⟨nid,hnid⟩:∃ nid,(newLea k t.n pth at0 la0).id=nid:=⟨_,rfl⟩
  rw [hnid] at hID;have Hn:=hid_intro hnid;clear hnid;simp only [newLea,ThingD.cells] at hID;clear hown' hgrow hat6 hlt bV3 d0 d1 hB3 hP3 hP9 bV hrow bT v0 fv0 y0 y1 y2 y3 y4 y5 y6 y7 hB9 hL hC hP hA hA2;generalize w6.setCell ⟨vb,0,none⟩ (.slice (some ⟨g',0,none⟩) (L.length+1) cap')=W4 at *;obtain⟨y0,y1,y2,y3,y4,y5,y6,y7⟩:=bT4.c8
  go_wp2_with (go_at_call 105;refine(hID _).mono ?_;rintro e w8 ⟨rfl,hb5⟩)
  exact bodyPost_ret (v:=.tuple #[.string ⟨nid.toArray⟩,.int .i64 0]) (by simp [results,results111,go_sem]) rfl ⟨g',cap',by rw [hid_elim Hn],(hid_elim hF).1.below hb5,hvg,(hid_elim hF).2.1.trans (hb5.mono hs4),(hid_elim hF).2.2.trans (Spares.of_below hb5)⟩
theorem Tryz.rIssue_late (B:Nat) (vb g cap:Nat) (L:List ThingD) (tm tn:Int) (k:Nat) (id pth:List UInt8) (ttl most:Int) (w:World) (h:RVAt B w vb g cap L tm tn k) (hp:pth.length≤9223372036854775807)
  (htm:0≤tm) (ht1:0≤ttl) (ht2:ttl≤18446744073709551615) (hm2:most≤18446744073709551615)
  (i:Nat) (t:ThingD) (ht:L[i]? = some t) (hli:liveI tm id true L=i) (he:issueE tm id pth ttl most L=0) (hat:¬ tm<plusI tm ttl) :
  Calls prog 111 #[.pointer (some ⟨vb,0,none⟩),.string ⟨id.toArray⟩,.string ⟨pth.toArray⟩,.int .u64 ttl,.int .u64 most] w fun e w'=>e=.returned (.tuple #[.string ⟨#[]⟩,.int .i64 3])∧Below w.heap.size w w':=by
 have hL:=rLive B vb g cap L tm tn k id true w h;rw [hli] at hL
 have hC:=fun W (hb:Below w.heap.size w W)=>rCount B vb g cap L tm tn k false W (h.below hb)
 have hP:=fun W=>rPathed pth hp W
 unfold issueE at he
 have h1:¬ (i:Int)<0:=by omega
 rw [hli,if_neg h1] at he
 have h2:¬ pathI pth=false:=by intro e;rw [if_pos e] at he;omega
 rw [if_neg h2] at he
 have h3:¬ (ttl=0∨most<ttl):=by intro e;rw [if_pos e] at he;omega
 rw [if_neg h3] at he
 have h4:¬ countI false L=14:=by intro e;rw [if_pos e] at he;omega
 clear he
 have hm1:0≤most:=by omega
 have hA:=fun W=>rPlus tm ttl htm ht1 ht2 W
 have hA2:=fun W=>rPlus tm most htm hm1 hm2 W
 have hpt:pathI pth=true:=by simpa using h2
 rw [hpt] at hP
 have hc':((countI false L:Int)==14)=false:=by rw [beq_eq_false_iff_ne];omega
 have h0':(ttl==0)=false:=by simp;omega
 have h3':¬ most<ttl:=by omega
 have hil:i<L.length:=(List.getElem?_eq_some_iff.1 ht).1
 have hS:=fun W (hb:Below w.heap.size w W)=>(show cells4 g vb i (.slice (some ⟨g,0,none⟩) L.length cap) tm k t.n W from ⟨(h.below hb).v.cell 0 rfl,(h.below hb).v.cell 1 rfl,(h.below hb).v.cell 3 rfl,((h.below hb).cells ht).2.1⟩)
 clear h2 h3 h4 hpt;generalize countI false L=n at *;generalize plusI tm ttl=at0 at *;generalize plusI tm most=la0 at *;have lv:=h.v.lt;have lg:=h.glt;go_enter func111,ntmps111
 go_wp2_with (first
  | (go_at_call 154;refine hL.mono ?_;rintro e w1 ⟨rfl,hb1⟩)
  | (go_at_call 156;refine(hP _).mono ?_;rintro e w2 ⟨rfl,rfl⟩)
  | (go_at_call 155;refine(hC _ hb1).mono ?_;rintro e w3 ⟨rfl,rfl⟩;obtain⟨q0,q1,q2,q3⟩:=hS _ hb1)
  | (go_at_call_of 153 (Value.int .u64 ttl);refine(hA _).mono ?_;rintro e w4 ⟨rfl,rfl⟩)
  | (go_at_call_of 153 (Value.int .u64 most);refine(hA2 _).mono ?_;rintro e w5 ⟨rfl,rfl⟩))
 have hsz:=hb1.size;have fv:=(h.below hb1).v.frozen 3;have lv2:=(h.below hb1).v.lt
 go_region_held3 (cells4 g vb i (.slice (some ⟨g,0,none⟩) L.length cap) tm k t.n) (first
   | with_reducible exact(hS _ hb1).below (Grew.below (Grew.refl _).drew)
   | with_reducible exact(hS _ hb1).below (Grew.below ((Grew.refl _).alloc _).drew)
   | with_reducible exact cells4.below (by assumption) (by assumption)
   | with_reducible exact cells4.below (by assumption) (Grew.below ((Grew.refl _).alloc _))) (fail)
 go_wp2_with fail
 go_quiet (fail);go_wp2;exact bodyPost_ret (v:=.tuple #[.string ⟨#[]⟩,.int .i64 3]) (by simp [results,results111,go_sem]) rfl ⟨rfl,by first | exact below_drewN (hb1.alloc hsz _) _ | exact below_drewN ((hb1.alloc hsz _).drew) _ | exact(hb1.alloc hsz _).drew⟩
end Go.Proofs
namespace Go.Proofs
open Go.RowKit Go.Sort Go.Lib Go.Shelf Go.Maps
attribute [local go_sem] Oper.semAt_some
def neverI:Int:=18446744073709551615
def minAt (xs:List InfoD):Int:=xs.foldl (fun m x=>min m x.at_) neverI
theorem minAt_snoc (xs:List InfoD) (x:InfoD):minAt (xs ++ [x])=min (minAt xs) x.at_:=by simp [minAt]
theorem Tryz.vNext (vb mt ml:Nat) (vx:VX) (tm tn ln:Int) (tks:List TokE) (lks:List LeaE) (w:World) (hV:VaultAt w vb mt ml vx tm tn ln tks lks) :
  CallsIn Fence.wide 9 prog 45 #[.pointer (some ⟨vb,0,none⟩)] w fun e w'=>e=.returned (.int .u64 (minAt (infosOf tm tks lks)))∧Below w.heap.size w w':=by
 have hfa:Fence.wide.fn 48:=trivial;refine callsIn_of_wp_marks func45 rfl trivial ?_ rfl;simp only [ntmps45,List.size_toArray,List.length_cons,List.length_nil,Nat.reduceAdd,Nat.reduceSub,Array.replicate_succ,Array.replicate_zero,List.push_toArray,List.append_toArray,List.nil_append,List.cons_append]
 gi_wp2_with (gi_at_call 48;refine(callsIn_wide.2 (vAll vb _)).mono ?_;rintro e w' ⟨rfl,rfl⟩)
 have bL:=(Boxed.new w 31 (.int .u64 neverI)).alloc (.cells #[.pointer (some ⟨vb,0,none⟩)] 76);have bV:=BoxN.new (w.alloc (.cells #[.int .u64 neverI] 31)) 76 #[.pointer (some ⟨vb,0,none⟩)];have hB0:Below w.heap.size w ((w.alloc (.cells #[.int .u64 neverI] 31)).alloc (.cells #[.pointer (some ⟨vb,0,none⟩)] 76)):=((Below.refl _ w).alloc (Nat.le_refl _) _).alloc (by simp) _
 have hsz:((w.alloc (.cells #[.int .u64 neverI] 31)).alloc (.cells #[.pointer (some ⟨vb,0,none⟩)] 76)).heap.size=w.heap.size+2:=by simp
 simp only [World.size_alloc] at bV;have hV0:=hV.below hB0
 obtain⟨W0,hW0⟩:∃ W0,(w.alloc (.cells #[.int .u64 neverI] 31)).alloc (.cells #[.pointer (some ⟨vb,0,none⟩)] 76)=W0:=⟨_,rfl⟩
 rw [hW0] at bV bL hB0 hsz hV0
 change Code.wpIn _ _ _ _ _ _ ((w.alloc (.cells #[.int .u64 neverI] 31)).alloc (.cells #[.pointer (some ⟨vb,0,none⟩)] 76))
 rw [hW0];clear hW0
 refine wpIn_rangeO (n:=9) (by omega) (gf:=78) (lb:=#[.pointer (some ⟨w.heap.size+1,0,none⟩)]) rfl enters78
  (vAll_seq 8 (by omega) badNext goodNext (w.heap.size+1) vb mt ml vx tm tn ln tks lks hV.ok W0 bV hV0.v hV0.held) keepsT_t keepsT_b (Below.refl _ _) (fun _=>rfl)
  (fun pre V=>Boxed V w.heap.size 31 (.int .u64 (minAt pre))∧Below w.heap.size w V)
  (fun _ _ _=>False)
  (OwnFrom.and (Own.from (boxed_own _ _ (fun pre:List InfoD=>.int .u64 (minAt pre))) _) (ownFrom_below (Nat.le_refl _) (by omega)))
  (fun _ _ _ _ _ hs _ _=>hs)
  (fun s V hs=>⟨hV.env.below hs.2 hV.six,Nat.le_trans hV.six hs.2.size⟩)
  ⟨bL,hB0⟩
  (fun x a' V=>∃ Bx,w.heap.size<Bx∧BoxN V Bx 49 x.cells∧a' = { tmps:=#[.pointer (some ⟨vb,0,none⟩),undef,.int .u64 0,.pointer (some ⟨w.heap.size,0,none⟩),.pointer (some ⟨Bx,0,none⟩),.pointer (some ⟨vb,0,none⟩),.func (.func 78) #[] #[.pointer (some ⟨w.heap.size+1,0,none⟩)],.agg x.cells,undef,undef,undef,undef,undef],defers:=[] })
  (fun x a' _ X Y row hs hg hr=>by obtain⟨Bx,h1,h2,h3⟩:=hs;exact⟨Bx,h1,boxN_own Bx 49 (fun(_:Unit)=>x.cells) () X Y row h2 hg (fun r e=>(hr r e).2),h3⟩)
  ?assign ?body ?done ?stop
 case assign =>
  rintro l pre x V K ⟨b1,hB1⟩ hK;obtain⟨id,st,at_,tr,tok,pth⟩:=x;simp only [InfoD.cells,infoCells]
  gi_wp2
  exact hK _ _ ((KeepsOthers.alloc _ _).from _) (KeepsT.alloc _ _) ⟨b1.alloc _,hB1.alloc hB1.size _⟩ ⟨V.heap.size,b1.lt,BoxN.new V 49 _,rfl⟩
 case body =>
  rintro l pre x a' V hl ⟨b1,hB1⟩ ⟨Bx,hBx,bX,rfl⟩ hlt;have hms:=minAt_snoc pre x;obtain⟨id,st,at_,tr,tok,pth⟩:=x;simp only [InfoD.cells,infoCells] at bX hms ⊢;have HM:=hid_intro hms;clear hms;generalize minAt pre=m at *;have c1:=b1.cell;have f1:=b1.frozen;have x2:=bX.cell 2 (v:=.int .u64 at_) rfl
  gi_wp2
  exact⟨(KeepsOthers.setCell _ _ _).from _,KeepsT.boxed_set b1 (by decide) _,by rw [show minAt _=_ from hid_elim HM];exact b1.set _,hB1.setCell (p:=⟨w.heap.size,0,none⟩) (Nat.le_refl _) _⟩
 case done =>
  rintro D zs V hD rfl ⟨b1,hB1⟩ hK;have cS:=b1.cell
  gi_wp2
  refine⟨by simp,.inl ⟨_,_,rfl,run_takeDeferred hK,?_⟩⟩;exact⟨_,results_tmp rfl _ _ _,rfl,hB1.trans (belowK_b (w:=w) (Nat.le_refl _) V D _ _ (by omega) hK rfl rfl)⟩
 case stop =>
  rintro D c pre V _ _ h _;exact h.elim
theorem Tryz.hNext (hb vb mt ml:Nat) (vx:VX) (tm tn ln:Int) (tks:List TokE) (lks:List LeaE) (w:World) (dv rv:Value) (hH:BoxN w hb 78 #[dv,rv,.pointer (some ⟨vb,0,none⟩)]) (hV:VaultAt w vb mt ml vx tm tn ln tks lks) :
  Calls prog 21 #[.pointer (some ⟨hb,0,none⟩)] w fun e w'=>e=.returned (.int .u64 (minAt (infosOf tm tks lks)))∧Below w.heap.size w w':=by
 have hN:=callsIn_wide.1 (vNext vb mt ml vx tm tn ln tks lks w hV);generalize minAt (infosOf tm tks lks)=m at *;have c2:=hH.cell 2 (v:=.pointer (some ⟨vb,0,none⟩)) rfl;go_enter func21,ntmps21
 go_wp2_with (go_at_call 45;refine hN.mono ?_;rintro e w' ⟨rfl,hb⟩)
 go_ret;exact⟨rfl,hb⟩
end Go.Proofs
namespace Go.Proofs
open Go.RowKit Go.Sort Go.Lib Go.Shelf
def kindI (c:UInt8):Int:=if c=116 then 1 else if c=108 then 2 else 0
def parseN:List UInt8→Int × Int
 | []=>(0,0)
 | c :: r=>match Lib.parseUintB 64 r with
  | .ok u=>if nmStr (kindI c) u=c :: r then (kindI c,(u:Int)) else (0,0)
  | _=>(0,0)
theorem Tryz.kindOf (c:UInt8) (w:World):Calls prog 119 #[.int .u8 c.toNat] w fun e w'=>e=.returned (.int .i64 (kindI c))∧w'=w:=by
 have h256:=c.toNat_lt
 by_cases h1:c=116
 ·subst h1
  go_enter func119,ntmps119;go_wp2;go_ret;exact⟨rfl,rfl⟩
 ·by_cases h2:c=108
  ·subst h2
   go_enter func119,ntmps119;go_wp2;go_ret;exact⟨rfl,rfl⟩
  ·have h1':((c.toNat:Int)==116)=false:=by
    simp;intro h;exact h1 (UInt8.toNat_inj.1 (by simpa using(by exact_mod_cast h:c.toNat=116)))
   have h2':((c.toNat:Int)==108)=false:=by
    simp;intro h;exact h2 (UInt8.toNat_inj.1 (by simpa using(by exact_mod_cast h:c.toNat=108)))
   have hfin:Hid (kindI c=0):=by show _=_;simp [kindI,h1,h2]
   generalize kindI c=r at *;generalize (c.toNat:Int)=z at *;clear h1 h2;go_enter func119,ntmps119;go_wp2;go_ret;exact⟨ret_int (show (0:Int)=r from (show r=0 from hfin).symm),rfl⟩
theorem bytes_tail (c:UInt8) (r:List UInt8):(⟨(c :: r).toArray⟩:ByteArray).extract 1 (r.length+1)=⟨r.toArray⟩:=by
 apply ByteArray.ext;rw [ByteArray.data_extract];simp
theorem parse_lt {r:List UInt8} {u:Nat} (h:Lib.parseUintB 64 r=.ok u):u<18446744073709551616:=by
 have:=Lib.parseUintB_le h;omega
theorem Tryz.parseBelow {w w':World} {s:ByteArray} (h:w'=w∨w'=Lib.bytesWorld w 5 s):Below w.heap.size w w':=by
 rcases h with rfl | rfl
 ·exact Below.refl _ _
 ·exact Lib.bytesWorld_below _ _ _
theorem Tryz.parse_nil (w:World):Calls prog 63 #[.string ⟨#[]⟩] w fun e w'=>e=.returned (.agg #[.int .i64 0,.int .u64 0])∧Below w.heap.size w w':=by
 go_enter func63,ntmps63;go_wp2;exact bodyPost_ret (v:=.agg #[.int .i64 0,.int .u64 0]) (by simp [results,results63,go_sem]) rfl ⟨rfl,(Below.refl _ _).alloc (Nat.le_refl _) _⟩
theorem Tryz.parse_ok (c:UInt8) (r:List UInt8) (u:Nat) (hp:Lib.parseUintB 64 r=.ok u) (hl:r.length≤1000000) (w:World) (hE:Env w) (h6:6≤w.heap.size) :
  Calls prog 63 #[.string ⟨(c :: r).toArray⟩] w fun e w'=>e=.returned (nmV (parseN (c :: r)))∧Below w.heap.size w w':=by
 have hpu:=fun W=>Any.strconv_ParseUint_10_at64_ok laysPu14 ⟨r.toArray⟩ (by simp [ByteArray.size];omega) u hp W
 change ∀ W,Calls prog 118 _ _ _ at hpu
 have hk:=fun W=>kindOf c W
 have hx:(⟨(c :: r).toArray⟩:ByteArray).extract 1 (r.length+1)=⟨r.toArray⟩:=bytes_tail c r;have hE1:Env (w.alloc (.cells #[.int .i64 0,.int .u64 0] 114)):=hE.below ((Below.refl _ w).alloc (Nat.le_refl _) _) h6;have hu64:u<18446744073709551616:=parse_lt hp
 have hS:=fun W hW h6=>nameString (kindI c) u hu64 W hW h6
 have hpn:Hid (parseN (c :: r)=if nmStr (kindI c) u=c :: r then (kindI c,(u:Int)) else (0,0)):=by show _=_;simp [parseN,hp]
 generalize parseN (c :: r)=pn at *;generalize kindI c=kc at *;go_enter func63,ntmps63
 go_wp2_with (first
  | (go_at_call 118;refine(hpu _).mono ?_;rintro e w1 ⟨rfl,hw1⟩;replace hw1:=parseBelow hw1)
  | (go_at_call 119;refine(hk _).mono ?_;rintro e w' ⟨rfl,rfl⟩))
 have hs1:=hw1.size;simp only [World.size_alloc] at hs1
 have hEW:=((hE1.below hw1 (by simp;omega)).below ((Below.refl _ _).alloc (Nat.le_refl _) (.cells #[.int .i64 kc,.int .u64 u] 114)) (by omega))
 have hb1:=((Below.refl w.heap.size w).alloc (Nat.le_refl _) (.cells #[.int .i64 0,.int .u64 0] 114)).trans (hw1.mono (by simp));have bR:=((BoxN.new w 114 #[.int .i64 0,.int .u64 0]).below hw1 (by simp)).alloc (.cells #[.int .i64 kc,.int .u64 u] 114);have bX:=BoxN.new w' 114 #[.int .i64 kc,.int .u64 u];refine(hS _ hEW (by simp;omega)).mono ?_;rintro e w2 ⟨rfl,hb2⟩;have hbF:=hb1.trans (((Below.refl _ _).alloc (by omega) (.cells #[.int .i64 kc,.int .u64 u] 114)).trans (hb2.mono (by simp;omega)));replace bR:=bR.below hb2 (by simp;omega);replace bX:=bX.below hb2 (by simp);have r0:=bR.cell 0 (v:=.int .i64 0) rfl;have r1:=bR.cell 1 (v:=.int .u64 0) rfl;have f0:=bR.frozen 0;have f1:=bR.frozen 1;have x0:=bX.cell 0 (v:=.int .i64 kc) rfl;have x1:=bX.cell 1 (v:=.int .u64 u) rfl;clear hS hpu hk hEW hE1 hE hb1;generalize nmStr kc u=tx at *
 by_cases hq:tx=c :: r
 ·have hq':(tx==c :: r)=true:=by simp [hq]
  have hfin:Hid (pn=(kc,(u:Int))):=by have h:=hpn;simp only [Hid] at h ⊢;rw [h,if_pos hq]
  clear hq hpn;go_wp2;refine bodyPost_ret (v:=.agg #[.int .i64 kc,.int .u64 u]) (by simp [results,results63,go_sem, *]) rfl ⟨by rw [show pn=_ from hfin];rfl,?_⟩;exact(hbF.setCell (p:=⟨w.heap.size,0,none⟩) (Nat.le_refl _) _).setCell (p:=⟨w.heap.size,1,none⟩) (Nat.le_refl _) _
 ·have hq':(tx==c :: r)=false:=by simp [hq]
  have hfin:Hid (pn=(0,0)):=by have h:=hpn;simp only [Hid] at h ⊢;rw [h,if_neg hq]
  clear hq hpn;go_wp2;refine bodyPost_ret (v:=.agg #[.int .i64 0,.int .u64 0]) (by simp [results,results63,go_sem, *]) rfl ⟨by rw [show pn=_ from hfin];rfl,?_⟩;exact(hbF.setCell (p:=⟨w.heap.size,0,none⟩) (Nat.le_refl _) _).setCell (p:=⟨w.heap.size,1,none⟩) (Nat.le_refl _) _
theorem Tryz.parse_bad (c:UInt8) (r:List UInt8) (hp:∀ u,Lib.parseUintB 64 r ≠ .ok u) (hl:r.length≤1000000) (w:World) (hE:Env w) (h6:6≤w.heap.size) :
  Calls prog 63 #[.string ⟨(c :: r).toArray⟩] w fun e w'=>e=.returned (nmV (parseN (c :: r)))∧Below w.heap.size w w':=by
 have hx:(⟨(c :: r).toArray⟩:ByteArray).extract 1 (r.length+1)=⟨r.toArray⟩:=bytes_tail c r;have hE1:Env (w.alloc (.cells #[.int .i64 0,.int .u64 0] 114)):=hE.below ((Below.refl _ w).alloc (Nat.le_refl _) _) h6
 have hpu:Calls prog 118 #[.string ⟨r.toArray⟩,.int .i64 10,.int .i64 64] (w.alloc (.cells #[.int .i64 0,.int .u64 0] 114)) fun e w'=>∃(z:Int) (tp:TypeId) (p:Value),e=.returned (.tuple #[.int .u64 z,.iface tp p])∧Below (w.heap.size+1) (w.alloc (.cells #[.int .i64 0,.int .u64 0] 114)) w':=by
  have hsz:(⟨r.toArray⟩:ByteArray).size≤281474976710656:=by simp [ByteArray.size];omega
  cases hpp:Lib.parseUintB 64 r with
  | ok u=>exact absurd hpp (hp u)
  | range =>
   obtain⟨tp,p,hv⟩:=hE1.rng;have h:=Any.strconv_ParseUint_10_at64_range_var laysPu14 ⟨r.toArray⟩ hsz hpp tp p _ hv
   exact h.mono fun e w' ⟨N,h1,_,_,h4⟩=>⟨_,_,_,h1,by simpa using h4⟩
  | _ =>
   obtain⟨tp,p,hv⟩:=hE1.syn;have h:=Any.strconv_ParseUint_10_at64_syntax_var laysPu14 ⟨r.toArray⟩ hsz hpp tp p _ hv
   exact h.mono fun e w' ⟨N,h1,_,_,h4⟩=>⟨_,_,_,h1,by simpa using h4⟩
 have hk:=fun W=>kindOf c W
 have hpn:Hid (parseN (c :: r)=(0,0)):=by
  show _=_
  cases hh:Lib.parseUintB 64 r with
  | ok u=>exact absurd hh (hp u)
  | _=>simp only [parseN,hh]
 generalize parseN (c :: r)=pn at *;generalize kindI c=kc at *;clear hp;go_enter func63,ntmps63
 go_wp2_with (first
  | (go_at_call 118;refine hpu.mono ?_;rintro e w1 ⟨z,tp,p,rfl,hw1⟩;have bR:=(BoxN.new w 114 #[.int .i64 0,.int .u64 0]).below hw1 (by simp);have hlt:=bR.lt;have r0:=bR.cell 0 (v:=.int .i64 0) rfl;have r1:=bR.cell 1 (v:=.int .u64 0) rfl;have f0:=bR.frozen 0;have f1:=bR.frozen 1)
  | (go_at_call 119;refine(hk _).mono ?_;rintro e w' ⟨rfl,rfl⟩))
 refine bodyPost_ret (v:=.agg #[.int .i64 0,.int .u64 0]) (by simp [results,results63,go_sem, *]) rfl ⟨by rw [show pn=_ from hpn];rfl,?_⟩;have hbF:=((Below.refl w.heap.size w).alloc (Nat.le_refl _) (.cells #[.int .i64 0,.int .u64 0] 114)).trans (hw1.mono (by omega));exact((hbF.setCell (p:=⟨w.heap.size,0,none⟩) (Nat.le_refl _) _).setCell (p:=⟨w.heap.size,1,none⟩) (Nat.le_refl _) _).alloc (by simp;omega) _
theorem Tryz.parse (s:ByteArray) (hl:s.size≤1000000) (w:World) (hE:Env w) (h6:6≤w.heap.size) :
  Calls prog 63 #[.string s] w fun e w'=>e=.returned (nmV (parseN s.data.toList))∧Below w.heap.size w w':=by
 obtain⟨⟨l⟩⟩:=s
 cases l with
 | nil=>exact parse_nil w
 | cons c r =>
  have hl':r.length≤1000000:=by simp [ByteArray.size] at hl;omega
  cases hp:Lib.parseUintB 64 r with
  | ok u=>exact parse_ok c r u hp hl' w hE h6
  | _=>exact parse_bad c r (by rw [hp];simp) hl' w hE h6
end Go.Proofs
