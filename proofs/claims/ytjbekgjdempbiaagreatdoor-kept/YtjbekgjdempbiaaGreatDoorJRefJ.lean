import Derived.Test.YtjbekgjdempbiaaGreatDoorJRefH
import Derived.Deep.RegionHeldLaw
import Derived.Deep.RegionLaw
import Derived.Deep.AppendLies
import Derived.Deep.RegionHeld3
set_option maxRecDepth 100000
set_option maxHeartbeats 8000000
namespace Go.Proofs
open Go.RowKit Go.Sort Go.Lib Go.Shelf
def Mu (k m:Nat):ThingD:=⟨true,k,(m:Int),[],18446744073709551615,0,false,0⟩
abbrev cells3 (g vb i:Nat) (sl:Value) (k m:Nat) (W:World):Prop:=
 W.cell? ⟨vb,0,none⟩=some sl/\W.cell? ⟨vb,2,none⟩=some (.int .i64 k)/\W.cell? ⟨g,i*8+1,none⟩=some (.int .i64 m)
theorem cells3.below {g vb i:Nat} {sl:Value} {k m:Nat} {W W':World} (h:cells3 g vb i sl k m W) (hb:Below W.heap.size W W'):cells3 g vb i sl k m W':=
 ⟨cell_later hb h.1,cell_later hb h.2.1,cell_later hb h.2.2⟩
theorem Tryz.Xk.made {B:Nat} {W:World} {vb g cap:Nat} {L:List ThingD} {tm ln:Int} {k:Nat} (h:Xk B W vb g cap L tm k ln) (hne:vb≠g) (cs:Array Value) :
  BoxN (((W.setCell ⟨vb,2,none⟩ (.int .i64 (k+1))).alloc (.cells cs 105)).drew) vb 108 #[.slice (some ⟨g,0,none⟩) L.length cap,.int .u64 tm,.int .i64 (k+1),.int .i64 ln] /\
  (((W.setCell ⟨vb,2,none⟩ (.int .i64 (k+1))).alloc (.cells cs 105)).drew).ownsRow B 105 8 (.slice (some ⟨g,0,none⟩) L.length cap) L.length (X9 L) /\
  BoxN (((W.setCell ⟨vb,2,none⟩ (.int .i64 (k+1))).alloc (.cells cs 105)).drew) W.heap.size 105 cs:=by
 have lv:=h.v.lt;refine⟨?_,?_,?_⟩
 ·exact(h.v.set 2 _).alloc _
 ·have hr:(W.setCell ⟨vb,2,none⟩ (.int .i64 (k+1))).ownsRow B 105 8 (.slice (some ⟨g,0,none⟩) L.length cap) L.length (X9 L):=by
   obtain⟨h2,⟨e1,-⟩ | ⟨g',cap',cur,e1,e2,e3,e4⟩⟩:=h.row
   ·cases e1
   cases e1;exact⟨h2,.inr ⟨g,cap,cur,rfl,e2,BoxN.other (W:=W) (t:=105) (cs:=cur) e3 (Ne.symm hne) 2 _,e4⟩⟩
  exact hr.alloc _
 have:=BoxN.new (W.setCell ⟨vb,2,none⟩ (.int .i64 (k+1))) 105 cs;rw [World.size_setCell] at this;exact this
theorem Tryz.Xk9 (B:Nat) (vb g cap:Nat) (L:List ThingD) (tm ln:Int) (k:Nat) (id:List UInt8) (w:World) (h:Xk B w vb g cap L tm k ln) (hvB:B<=vb) (hne:vb≠g) (hB:B<=w.heap.size) (hk:k<9223372036854775807) (hl:L.length<100)
  (i:Nat) (t:ThingD) (ht:L[i]? = some t) (hli:liveI tm id true L=i) (hc:countI true L≠10) :
  Calls prog 109 #[.pointer (some ⟨vb,0,none⟩),.string ⟨id.toArray⟩] w fun e w'=>∃ g' cap',e=.returned (.tuple #[.string ⟨(Mu k t.n).id.toArray⟩,.int .i64 0])/\Xk B w' vb g' cap' (L ++ [Mu k t.n]) tm (k+1) ln/\vb≠g'/\Below B w w'/\Spares [vb,g] w w':=by
 obtain⟨i0,hi,hz0,hz1,hz2⟩:=info_parts Xan;have hL:=Xby B vb g cap L tm k ln id true w h;rw [hli] at hL
 have hC:=fun W (hb:Below w.heap.size w W)=>Xe7 B vb g cap L tm k ln true W (h.below hb)
 have hc':((countI true L:Int)==10)=false:=by rw [beq_eq_false_iff_ne];omega
 have hil:i<L.length:=(List.getElem?_eq_some_iff.1 ht).1
 have hS:=fun W (hb:Below w.heap.size w W)=>(show cells3 g vb i (.slice (some ⟨g,0,none⟩) L.length cap) k t.n W from ⟨(h.below hb).v.cell 0 rfl,(h.below hb).v.cell 2 rfl,((h.below hb).cells ht).2.1⟩)
 generalize countI true L=n at *
 have hnn:¬ (i:Int)<0:=by omega
 have lv:=h.v.lt;have lg:=h.glt;go_enter func109,ntmps109
 go_wp2_with (first
  | (go_at_call 154;refine hL.mono ?_;rintro e w1 ⟨rfl,hb1⟩)
  | (go_at_call 155;refine(hC _ hb1).mono ?_;rintro e w2 ⟨rfl,rfl⟩))
 rename_i w1 _
 have hsz:=hb1.size;have fv:=(h.below hb1).v.frozen 2;have lv2:=(h.below hb1).v.lt;have hM:=Xb ((h.below hb1).made hne #[.bool true,.int .i64 k,.int .i64 t.n,.string ⟨#[]⟩,.int .u64 18446744073709551615,.int .u64 0,.bool false,.int .i64 0])
 go_region_held3 (cells3 g vb i (.slice (some ⟨g,0,none⟩) L.length cap) k t.n) (first
   | with_reducible exact(hS _ hb1).below (Xp.below (Xp.refl _).drew)
   | with_reducible exact(hS _ hb1).below (Xp.below ((Xp.refl _).alloc _).drew)
   | with_reducible exact cells3.below (by assumption) (by assumption)
   | with_reducible exact cells3.below (by assumption) (Xp.below ((Xp.refl _).alloc _))) (fail)
 go_wp2;obtain⟨bV,hrow,bT⟩:=Xa hM;clear hM fv hS
 have hB9:Below B w (((w2.setCell ⟨vb,2,none⟩ (.int .i64 (k+1))).alloc (.cells #[.bool true,.int .i64 k,.int .i64 t.n,.string ⟨#[]⟩,.int .u64 18446744073709551615,.int .u64 0,.bool false,.int .i64 0] 105)).drew):=((((hb1.mono hB).setCell (p:=⟨vb,2,none⟩) hvB _).alloc (by simp;omega) _).drew)
 have hP9:Spares [vb,g] w (((w2.setCell ⟨vb,2,none⟩ (.int .i64 (k+1))).alloc (.cells #[.bool true,.int .i64 k,.int .i64 t.n,.string ⟨#[]⟩,.int .u64 18446744073709551615,.int .u64 0,.bool false,.int .i64 0] 105)).drew):=(((Spares.of_below hb1).set (by simp) _ _).alloc _).drew
 have hs9:(((w2.setCell ⟨vb,2,none⟩ (.int .i64 (k+1))).alloc (.cells #[.bool true,.int .i64 k,.int .i64 t.n,.string ⟨#[]⟩,.int .u64 18446744073709551615,.int .u64 0,.bool false,.int .i64 0] 105)).drew).heap.size=w2.heap.size+1:=by simp
 obtain⟨W9,hW9⟩:∃ W9,((w2.setCell ⟨vb,2,none⟩ (.int .i64 (k+1))).alloc (.cells #[.bool true,.int .i64 k,.int .i64 t.n,.string ⟨#[]⟩,.int .u64 18446744073709551615,.int .u64 0,.bool false,.int .i64 0] 105)).drew=W9:=⟨_,rfl⟩
 rw [hW9] at bV hrow bT hB9 hs9 hP9;rw [hW9];clear hW9;have Hs9:=Xb hs9
 have hB9s:B<=W9.heap.size:=by omega
 clear hs9;have lv9:=bV.lt;have lt9:=bT.lt;have v0:=bV.cell 0 (v:=.slice (some ⟨g,0,none⟩) L.length cap) rfl;have fv0:=bV.frozen 0;obtain⟨y0,y1,y2,y3,y4,y5,y6,y7⟩:=bT.c8;have hll:L.length<100:=hl
 go_region_law ((refine step_append_lies _ (by rfl) _ _ _ (by rfl) B 105 i0 _ 8 72 underlying106 hi hz0 hz1 hz2 rfl (by decide) _ _ _ (by rfl) (ownsRow_below hrow (by first | exact Xp.below ((Xp.refl _).alloc _) | exact Xp.below (((Xp.refl _).drewN _).alloc _))) ⟨W9.heap.size,0,none⟩ 1 1 [.bool true,.int .i64 k,.int .i64 t.n,.string ⟨#[]⟩,.int .u64 18446744073709551615,.int .u64 0,.bool false,.int .i64 0] (by rfl) rfl (World.news_of_block (heap_alloc_new _ _)) (by simp [Value.oneCell']) (by omega) (by unfold maxLen;omega) (by omega) (by simp;omega) _ rfl ?_;intro g' cap' w3 hown' hgrow hat hlt;have bV3:=(bV.below (B:=vb) (n₀:=W9.heap.size) (by first | exact Xp.below ((Xp.refl W9).alloc _) | exact Xp.below (((Xp.refl W9).drew).alloc _)) bV.lt).kept hgrow (by simp [Value.ownBlock,hne]);have d0:=bV3.cell 0 (v:=.slice (some ⟨g,0,none⟩) L.length cap) rfl;have d1:=bV3.frozen 0))
 all_goals
  have hvg:vb≠g':=by
   rcases hat with e | e
   ·have:g=g':=by simpa [Value.ownBlock] using e
    omega
   have:g'=W9.heap.size+1:=by simpa using e
   omega
  have lg2:g<w2.heap.size:=by omega
  have bT4:=((bT.below (B:=w2.heap.size) (n₀:=W9.heap.size) (Xp.below (((Xp.refl W9).alloc _).drew)) bT.lt).kept hgrow (by simp [Value.ownBlock];omega)).other (B':=vb) (by omega) 0 (.slice (some ⟨g',0,none⟩) (L.length+1) cap')
  have hbk:∀ q,(Value.slice (some ⟨g,0,none⟩) L.length cap).ownBlock=some q->B<=q:=by
   intro q hq
   have h1:g=q:=by simpa [Value.ownBlock] using hq
   have h2:=(h.row.lt g rfl).1;omega
  have hB3:Below B w w3:=((hB9.alloc hB9s _).drew).grown hgrow (by simp;omega) hbk;have hP3:Spares [vb,g] w w3:=((hP9.alloc _).drew).trans (Spares.X6 (b:=g) hgrow (by simp))
  have hF:Hid (Xk B (w3.setCell ⟨vb,0,none⟩ (.slice (some ⟨g',0,none⟩) (L.length+1) cap')) vb g' cap' (L ++ [Mu k t.n]) tm (k+1) ln/\Below B w (w3.setCell ⟨vb,0,none⟩ (.slice (some ⟨g',0,none⟩) (L.length+1) cap'))/\Spares [vb,g] w (w3.setCell ⟨vb,0,none⟩ (.slice (some ⟨g',0,none⟩) (L.length+1) cap'))):=Xb ⟨⟨by
    rw [List.length_append];exact bV3.set 0 _,by
    rw [List.length_append,Xeg];exact hown'.kept (grownBy_setCell' w3 vb _) (.inr (by simp [Value.ownBlock];omega)),by
    rw [List.length_append];show L.length+1<=100;omega,fun x hx=>by
    rcases List.mem_append.1 hx with hx | hx
    ·exact h.num x hx
    ·rw [List.mem_singleton.1 hx];show k<_;omega,fun x hx=>by
    rcases List.mem_append.1 hx with hx | hx
    ·exact h.ofs x hx
    rw [List.mem_singleton.1 hx];exact .inr ⟨t.n,rfl,h.num t (List.mem_of_getElem? ht)⟩⟩,hB3.setCell (p:=⟨vb,0,none⟩) hvB _,hP3.set (by simp) _ _⟩
  have hs4:B<=(w3.setCell ⟨vb,0,none⟩ (.slice (some ⟨g',0,none⟩) (L.length+1) cap')).heap.size:=by have:=hB3.size;simp;omega
  have hID:=fun W=>rId (Mu k t.n) (show k<_ by omega) W
  obtain⟨nid,hnid⟩:∃ nid,(Mu k t.n).id=nid:=⟨_,rfl⟩
  rw [hnid] at hID;have Hn:=Xb hnid;clear hnid;simp only [Mu,ThingD.cells] at hID;clear hown' hgrow hat hlt bV3 d0 d1 hB3 hP3 hP9 bV hrow bT v0 fv0 y0 y1 y2 y3 y4 y5 y6 y7 hB9 hL hC;generalize w3.setCell ⟨vb,0,none⟩ (.slice (some ⟨g',0,none⟩) (L.length+1) cap')=W4 at *;obtain⟨y0,y1,y2,y3,y4,y5,y6,y7⟩:=bT4.c8
  go_wp2_with (go_at_call 105;refine(hID _).mono ?_;rintro e w5 ⟨rfl,hb5⟩)
  exact bodyPost_ret (v:=.tuple #[.string ⟨nid.toArray⟩,.int .i64 0]) (by simp [results,results109,go_sem]) rfl ⟨g',cap',by rw [Xa Hn],(Xa hF).1.below hb5,hvg,(Xa hF).2.1.trans (hb5.mono hs4),(Xa hF).2.2.trans (Spares.of_below hb5)⟩
def Mr (k m:Nat) (pth:List UInt8) (a l:Int):ThingD:=⟨false,k,(m:Int),pth,a,l,false,0⟩
abbrev Ux (g vb i:Nat) (sl:Value) (tm:Int) (k m:Nat) (W:World):Prop:=
 W.cell? ⟨vb,0,none⟩=some sl/\W.cell? ⟨vb,1,none⟩=some (.int .u64 tm)/\W.cell? ⟨vb,3,none⟩=some (.int .i64 k)/\W.cell? ⟨g,i*8+1,none⟩=some (.int .i64 m)
theorem Ux.below {g vb i:Nat} {sl:Value} {tm:Int} {k m:Nat} {W W':World} (h:Ux g vb i sl tm k m W) (hb:Below W.heap.size W W'):Ux g vb i sl tm k m W':=
 ⟨cell_later hb h.1,cell_later hb h.2.1,cell_later hb h.2.2.1,cell_later hb h.2.2.2⟩
theorem Tryz.Xk.made3 {B:Nat} {W:World} {vb g cap:Nat} {L:List ThingD} {tm tn:Int} {k:Nat} (h:Xk B W vb g cap L tm tn k) (hne:vb≠g) (cs:Array Value) (q:Nat) :
  BoxN (((W.alloc (.cells cs 105)).drewN q).setCell ⟨vb,3,none⟩ (.int .i64 (k+1))) vb 108 #[.slice (some ⟨g,0,none⟩) L.length cap,.int .u64 tm,.int .i64 tn,.int .i64 (k+1)] /\
  (((W.alloc (.cells cs 105)).drewN q).setCell ⟨vb,3,none⟩ (.int .i64 (k+1))).ownsRow B 105 8 (.slice (some ⟨g,0,none⟩) L.length cap) L.length (X9 L) /\
  BoxN (((W.alloc (.cells cs 105)).drewN q).setCell ⟨vb,3,none⟩ (.int .i64 (k+1))) W.heap.size 105 cs:=by
 have lv:=h.v.lt;have hb:Below W.heap.size W ((W.alloc (.cells cs 105)).drewN q):=below_drewN ((Below.refl _ W).alloc (Nat.le_refl _) _) q;refine⟨?_,?_,?_⟩
 ·exact(h.v.below hb h.v.lt).set 3 _
 ·obtain⟨h2,⟨e1,-⟩ | ⟨g',cap',cur,e1,e2,e3,e4⟩⟩:=ownsRow_below h.row hb
  ·cases e1
  cases e1;exact⟨h2,.inr ⟨g,cap,cur,rfl,e2,BoxN.other (W:=(W.alloc (.cells cs 105)).drewN q) (t:=105) (cs:=cur) e3 (Ne.symm hne) 3 _,e4⟩⟩
 exact BoxN.other (W:=(W.alloc (.cells cs 105)).drewN q) (BoxN.new W 105 cs) (by omega) 3 _
theorem Tryz.Xou (B:Nat) (vb g cap:Nat) (L:List ThingD) (tm tn:Int) (k:Nat) (id pth:List UInt8) (ttl most:Int) (w:World) (h:Xk B w vb g cap L tm tn k) (hvB:B<=vb) (hne:vb≠g) (hB:B<=w.heap.size) (hk:k<9223372036854775807) (hl:L.length<100) (hp:pth.length<=9223372036854775807)
  (htm:0<=tm) (ht1:0<=ttl) (ht2:ttl<=18446744073709551615) (hm2:most<=18446744073709551615)
  (i:Nat) (t:ThingD) (ht:L[i]? = some t) (hli:liveI tm id true L=i) (he:issueE tm id pth ttl most L=0) (hat:tm<plusI tm ttl) :
  Calls prog 111 #[.pointer (some ⟨vb,0,none⟩),.string ⟨id.toArray⟩,.string ⟨pth.toArray⟩,.int .u64 ttl,.int .u64 most] w fun e w'=>∃ g' cap',e=.returned (.tuple #[.string ⟨(Mr k t.n pth (plusI tm ttl) (plusI tm most)).id.toArray⟩,.int .i64 0])/\Xk B w' vb g' cap' (L ++ [Mr k t.n pth (plusI tm ttl) (plusI tm most)]) tm tn (k+1)/\vb≠g'/\Below B w w'/\Spares [vb,g] w w':=by
 obtain⟨i0,hi,hz0,hz1,hz2⟩:=info_parts Xan;have hL:=Xby B vb g cap L tm tn k id true w h;rw [hli] at hL
 have hC:=fun W (hb:Below w.heap.size w W)=>Xe7 B vb g cap L tm tn k false W (h.below hb)
 have hP:=fun W=>Xcc pth hp W
 unfold issueE at he
 have h1:¬ (i:Int)<0:=by omega
 rw [hli,if_neg h1] at he
 have h2:¬ pathI pth=false:=by intro e;rw [if_pos e] at he;omega
 rw [if_neg h2] at he
 have h3:¬ (ttl=0\/most<ttl):=by intro e;rw [if_pos e] at he;omega
 rw [if_neg h3] at he
 have h4:¬ countI false L=14:=by intro e;rw [if_pos e] at he;omega
 clear he
 have hm1:0<=most:=by omega
 have hA:=fun W=>Xgq tm ttl htm ht1 ht2 W
 have hA2:=fun W=>Xgq tm most htm hm1 hm2 W
 have hpt:pathI pth=true:=by simpa using h2
 rw [hpt] at hP
 have hc':((countI false L:Int)==14)=false:=by rw [beq_eq_false_iff_ne];omega
 have h0':(ttl==0)=false:=by simp;omega
 have h3':¬ most<ttl:=by omega
 have hil:i<L.length:=(List.getElem?_eq_some_iff.1 ht).1
 have hS:=fun W (hb:Below w.heap.size w W)=>(show Ux g vb i (.slice (some ⟨g,0,none⟩) L.length cap) tm k t.n W from ⟨(h.below hb).v.cell 0 rfl,(h.below hb).v.cell 1 rfl,(h.below hb).v.cell 3 rfl,((h.below hb).cells ht).2.1⟩)
 clear h2 h3 h4 hpt;generalize countI false L=n at *;generalize plusI tm ttl=at0 at *;generalize plusI tm most=la0 at *;have lv:=h.v.lt;have lg:=h.glt;go_enter func111,ntmps111
 go_wp2_with (first
  | (go_at_call 154;refine hL.mono ?_;rintro e w1 ⟨rfl,hb1⟩)
  | (go_at_call 156;refine(hP _).mono ?_;rintro e w2 ⟨rfl,rfl⟩)
  | (go_at_call 155;refine(hC _ hb1).mono ?_;rintro e w3 ⟨rfl,rfl⟩;obtain⟨q0,q1,q2,q3⟩:=hS _ hb1)
  | (go_at_call_of 153 (Value.int .u64 ttl);refine(hA _).mono ?_;rintro e w4 ⟨rfl,rfl⟩)
  | (go_at_call_of 153 (Value.int .u64 most);refine(hA2 _).mono ?_;rintro e w5 ⟨rfl,rfl⟩))
 have hsz:=hb1.size;have fv:=(h.below hb1).v.frozen 3;have lv2:=(h.below hb1).v.lt
 go_region_held3 (Ux g vb i (.slice (some ⟨g,0,none⟩) L.length cap) tm k t.n) (first
   | with_reducible exact(hS _ hb1).below (Xp.below (Xp.refl _).drew)
   | with_reducible exact(hS _ hb1).below (Xp.below ((Xp.refl _).alloc _).drew)
   | with_reducible exact Ux.below (by assumption) (by assumption)
   | with_reducible exact Ux.below (by assumption) (Xp.below ((Xp.refl _).alloc _))) (fail)
 go_wp2_with fail
 go_quiet (fail);go_wp2;obtain⟨bV,hrow,bT⟩:=(h.below hb1).made3 hne #[.bool false,.int .i64 k,.int .i64 t.n,.string ⟨pth.toArray⟩,.int .u64 at0,.int .u64 la0,.bool false,.int .i64 0] (1+nq);clear fv hS;have hB9:Below B w (((w5.alloc (.cells #[.bool false,.int .i64 k,.int .i64 t.n,.string ⟨pth.toArray⟩,.int .u64 at0,.int .u64 la0,.bool false,.int .i64 0] 105)).drewN (1+nq)).setCell ⟨vb,3,none⟩ (.int .i64 (k+1))):=(below_drewN ((hb1.mono hB).alloc (by omega) _) _).setCell (p:=⟨vb,3,none⟩) hvB _;have hP9:Spares [vb,g] w (((w5.alloc (.cells #[.bool false,.int .i64 k,.int .i64 t.n,.string ⟨pth.toArray⟩,.int .u64 at0,.int .u64 la0,.bool false,.int .i64 0] 105)).drewN (1+nq)).setCell ⟨vb,3,none⟩ (.int .i64 (k+1))):=(((Spares.of_below hb1).alloc _).trans (Spares.of_below (below_drewN (Below.refl _ _) (1+nq)))).set (by simp) _ _
 have hs9:(((w5.alloc (.cells #[.bool false,.int .i64 k,.int .i64 t.n,.string ⟨pth.toArray⟩,.int .u64 at0,.int .u64 la0,.bool false,.int .i64 0] 105)).drewN (1+nq)).setCell ⟨vb,3,none⟩ (.int .i64 (k+1))).heap.size=w5.heap.size+1:=by simp
 obtain⟨W9,hW9⟩:∃ W9,((w5.alloc (.cells #[.bool false,.int .i64 k,.int .i64 t.n,.string ⟨pth.toArray⟩,.int .u64 at0,.int .u64 la0,.bool false,.int .i64 0] 105)).drewN (1+nq)).setCell ⟨vb,3,none⟩ (.int .i64 (k+1))=W9:=⟨_,rfl⟩
 rw [hW9] at bV hrow bT hB9 hs9 hP9;rw [hW9];clear hW9;have Hs9:=Xb hs9
 have hB9s:B<=W9.heap.size:=by omega
 clear hs9;have lv9:=bV.lt;have lt9:=bT.lt;have v0:=bV.cell 0 (v:=.slice (some ⟨g,0,none⟩) L.length cap) rfl;have fv0:=bV.frozen 0;obtain⟨y0,y1,y2,y3,y4,y5,y6,y7⟩:=bT.c8;have hll:L.length<100:=hl
 go_region_law ((refine step_append_lies _ (by rfl) _ _ _ (by rfl) B 105 i0 _ 8 72 underlying106 hi hz0 hz1 hz2 rfl (by decide) _ _ _ (by rfl) (ownsRow_below hrow (by first | exact Xp.below ((Xp.refl _).alloc _) | exact Xp.below (((Xp.refl _).drewN _).alloc _))) ⟨W9.heap.size,0,none⟩ 1 1 [.bool false,.int .i64 k,.int .i64 t.n,.string ⟨pth.toArray⟩,.int .u64 at0,.int .u64 la0,.bool false,.int .i64 0] (by rfl) rfl (World.news_of_block (heap_alloc_new _ _)) (by simp [Value.oneCell']) (by omega) (by unfold maxLen;omega) (by omega) (by simp;omega) _ rfl ?_;intro g' cap' w6 hown' hgrow hat6 hlt;have bV3:=(bV.below (B:=vb) (n₀:=W9.heap.size) (by first | exact Xp.below ((Xp.refl W9).alloc _) | exact Xp.below (((Xp.refl W9).drew).alloc _)) bV.lt).kept hgrow (by simp [Value.ownBlock,hne]);have d0:=bV3.cell 0 (v:=.slice (some ⟨g,0,none⟩) L.length cap) rfl;have d1:=bV3.frozen 0))
 all_goals
  have hvg:vb≠g':=by
   rcases hat6 with e | e
   ·have:g=g':=by simpa [Value.ownBlock] using e
    omega
   have:g'=W9.heap.size+1:=by simpa using e
   omega
  have lg2:g<w5.heap.size:=by omega
  have bT4:=((bT.below (B:=w5.heap.size) (n₀:=W9.heap.size) (Xp.below (((Xp.refl W9).alloc _).drew)) bT.lt).kept hgrow (by simp [Value.ownBlock];omega)).other (B':=vb) (by omega) 0 (.slice (some ⟨g',0,none⟩) (L.length+1) cap')
  have hbk:∀ q,(Value.slice (some ⟨g,0,none⟩) L.length cap).ownBlock=some q->B<=q:=by
   intro q hq
   have h1:g=q:=by simpa [Value.ownBlock] using hq
   have h2:=(h.row.lt g rfl).1;omega
  have hB3:Below B w w6:=((hB9.alloc hB9s _).drew).grown hgrow (by simp;omega) hbk;have hP3:Spares [vb,g] w w6:=((hP9.alloc _).drew).trans (Spares.X6 (b:=g) hgrow (by simp))
  have hF:Hid (Xk B (w6.setCell ⟨vb,0,none⟩ (.slice (some ⟨g',0,none⟩) (L.length+1) cap')) vb g' cap' (L ++ [Mr k t.n pth at0 la0]) tm tn (k+1)/\Below B w (w6.setCell ⟨vb,0,none⟩ (.slice (some ⟨g',0,none⟩) (L.length+1) cap'))/\Spares [vb,g] w (w6.setCell ⟨vb,0,none⟩ (.slice (some ⟨g',0,none⟩) (L.length+1) cap'))):=Xb ⟨⟨by
    rw [List.length_append];exact bV3.set 0 _,by
    rw [List.length_append,Xeg];exact hown'.kept (grownBy_setCell' w6 vb _) (.inr (by simp [Value.ownBlock];omega)),by
    rw [List.length_append];show L.length+1<=100;omega,fun x hx=>by
    rcases List.mem_append.1 hx with hx | hx
    ·exact h.num x hx
    ·rw [List.mem_singleton.1 hx];show k<_;omega,fun x hx=>by
    rcases List.mem_append.1 hx with hx | hx
    ·exact h.ofs x hx
    rw [List.mem_singleton.1 hx];exact .inr ⟨t.n,rfl,h.num t (List.mem_of_getElem? ht)⟩⟩,hB3.setCell (p:=⟨vb,0,none⟩) hvB _,hP3.set (by simp) _ _⟩
  have hs4:B<=(w6.setCell ⟨vb,0,none⟩ (.slice (some ⟨g',0,none⟩) (L.length+1) cap')).heap.size:=by have:=hB3.size;simp;omega
  have hID:=fun W=>rId (Mr k t.n pth at0 la0) (show k<_ by omega) W
  obtain⟨nid,hnid⟩:∃ nid,(Mr k t.n pth at0 la0).id=nid:=⟨_,rfl⟩
  rw [hnid] at hID;have Hn:=Xb hnid;clear hnid;simp only [Mr,ThingD.cells] at hID;clear hown' hgrow hat6 hlt bV3 d0 d1 hB3 hP3 hP9 bV hrow bT v0 fv0 y0 y1 y2 y3 y4 y5 y6 y7 hB9 hL hC hP hA hA2;generalize w6.setCell ⟨vb,0,none⟩ (.slice (some ⟨g',0,none⟩) (L.length+1) cap')=W4 at *;obtain⟨y0,y1,y2,y3,y4,y5,y6,y7⟩:=bT4.c8
  go_wp2_with (go_at_call 105;refine(hID _).mono ?_;rintro e w8 ⟨rfl,hb5⟩)
  exact bodyPost_ret (v:=.tuple #[.string ⟨nid.toArray⟩,.int .i64 0]) (by simp [results,results111,go_sem]) rfl ⟨g',cap',by rw [Xa Hn],(Xa hF).1.below hb5,hvg,(Xa hF).2.1.trans (hb5.mono hs4),(Xa hF).2.2.trans (Spares.of_below hb5)⟩
theorem Tryz.Xkh (B:Nat) (vb g cap:Nat) (L:List ThingD) (tm tn:Int) (k:Nat) (id pth:List UInt8) (ttl most:Int) (w:World) (h:Xk B w vb g cap L tm tn k) (hp:pth.length<=9223372036854775807)
  (htm:0<=tm) (ht1:0<=ttl) (ht2:ttl<=18446744073709551615) (hm2:most<=18446744073709551615)
  (i:Nat) (t:ThingD) (ht:L[i]? = some t) (hli:liveI tm id true L=i) (he:issueE tm id pth ttl most L=0) (hat:¬ tm<plusI tm ttl) :
  Calls prog 111 #[.pointer (some ⟨vb,0,none⟩),.string ⟨id.toArray⟩,.string ⟨pth.toArray⟩,.int .u64 ttl,.int .u64 most] w fun e w'=>e=.returned (.tuple #[.string ⟨#[]⟩,.int .i64 3])/\Below w.heap.size w w':=by
 have hL:=Xby B vb g cap L tm tn k id true w h;rw [hli] at hL
 have hC:=fun W (hb:Below w.heap.size w W)=>Xe7 B vb g cap L tm tn k false W (h.below hb)
 have hP:=fun W=>Xcc pth hp W
 unfold issueE at he
 have h1:¬ (i:Int)<0:=by omega
 rw [hli,if_neg h1] at he
 have h2:¬ pathI pth=false:=by intro e;rw [if_pos e] at he;omega
 rw [if_neg h2] at he
 have h3:¬ (ttl=0\/most<ttl):=by intro e;rw [if_pos e] at he;omega
 rw [if_neg h3] at he
 have h4:¬ countI false L=14:=by intro e;rw [if_pos e] at he;omega
 clear he
 have hm1:0<=most:=by omega
 have hA:=fun W=>Xgq tm ttl htm ht1 ht2 W
 have hA2:=fun W=>Xgq tm most htm hm1 hm2 W
 have hpt:pathI pth=true:=by simpa using h2
 rw [hpt] at hP
 have hc':((countI false L:Int)==14)=false:=by rw [beq_eq_false_iff_ne];omega
 have h0':(ttl==0)=false:=by simp;omega
 have h3':¬ most<ttl:=by omega
 have hil:i<L.length:=(List.getElem?_eq_some_iff.1 ht).1
 have hS:=fun W (hb:Below w.heap.size w W)=>(show Ux g vb i (.slice (some ⟨g,0,none⟩) L.length cap) tm k t.n W from ⟨(h.below hb).v.cell 0 rfl,(h.below hb).v.cell 1 rfl,(h.below hb).v.cell 3 rfl,((h.below hb).cells ht).2.1⟩)
 clear h2 h3 h4 hpt;generalize countI false L=n at *;generalize plusI tm ttl=at0 at *;generalize plusI tm most=la0 at *;have lv:=h.v.lt;have lg:=h.glt;go_enter func111,ntmps111
 go_wp2_with (first
  | (go_at_call 154;refine hL.mono ?_;rintro e w1 ⟨rfl,hb1⟩)
  | (go_at_call 156;refine(hP _).mono ?_;rintro e w2 ⟨rfl,rfl⟩)
  | (go_at_call 155;refine(hC _ hb1).mono ?_;rintro e w3 ⟨rfl,rfl⟩;obtain⟨q0,q1,q2,q3⟩:=hS _ hb1)
  | (go_at_call_of 153 (Value.int .u64 ttl);refine(hA _).mono ?_;rintro e w4 ⟨rfl,rfl⟩)
  | (go_at_call_of 153 (Value.int .u64 most);refine(hA2 _).mono ?_;rintro e w5 ⟨rfl,rfl⟩))
 have hsz:=hb1.size;have fv:=(h.below hb1).v.frozen 3;have lv2:=(h.below hb1).v.lt
 go_region_held3 (Ux g vb i (.slice (some ⟨g,0,none⟩) L.length cap) tm k t.n) (first
   | with_reducible exact(hS _ hb1).below (Xp.below (Xp.refl _).drew)
   | with_reducible exact(hS _ hb1).below (Xp.below ((Xp.refl _).alloc _).drew)
   | with_reducible exact Ux.below (by assumption) (by assumption)
   | with_reducible exact Ux.below (by assumption) (Xp.below ((Xp.refl _).alloc _))) (fail)
 go_wp2_with fail
 go_quiet (fail);go_wp2;exact bodyPost_ret (v:=.tuple #[.string ⟨#[]⟩,.int .i64 3]) (by simp [results,results111,go_sem]) rfl ⟨rfl,by first | exact below_drewN (hb1.alloc hsz _) _ | exact below_drewN ((hb1.alloc hsz _).drew) _ | exact(hb1.alloc hsz _).drew⟩
end Go.Proofs
