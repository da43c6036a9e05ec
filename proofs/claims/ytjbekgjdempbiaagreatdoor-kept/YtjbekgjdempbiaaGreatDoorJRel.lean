import Derived.Test.YtjbekgjdempbiaaGreatDoorJRefG
import Derived.Deep.RegionHeldLaw
import Derived.Deep.RegionLaw
import Derived.Deep.AppendLies
import Derived.Deep.RegionHeld3
import Derived.Test.YtjbekgjdempbiaaGreatDoorJStr
import Derived.Test.YtjbekgjdempbiaaGreatDoorJMapOps
import Derived.Lib.AtoiErrMem
import Derived.Lib.ParseIntBCases
set_option maxRecDepth 100000
set_option maxHeartbeats 8000000
namespace Go.Proofs
open Go.RowKit Go.Sort Go.Lib Go.Shelf
theorem Tryz.Xhz (B:Nat) (vb g cap:Nat) (L:List ThingD) (tm tn ln:Int) (id:List UInt8) (w:World) (h:Xk B w vb g cap L tm tn ln) (hli:liveI tm id true L = -1) :
  Calls prog 109 #[.pointer (some ⟨vb,0,none⟩),.string ⟨id.toArray⟩] w fun e w'=>e=.returned (.tuple #[.string ⟨#[]⟩,.int .i64 1])/\Below w.heap.size w w':=by
 have hL:=Xcg B vb g cap L tm tn ln id true w h;rw [hli] at hL;go_enter func109,ntmps109
 go_wp2_with (go_at_call 154;refine hL.mono ?_;rintro e w1 ⟨rfl,hb1⟩)
 exact bodyPost_ret (v:=.tuple #[.string ⟨#[]⟩,.int .i64 1]) (by simp [results,results109,go_sem]) rfl ⟨rfl,hb1⟩
theorem Tryz.Xig (B:Nat) (vb g cap:Nat) (L:List ThingD) (tm tn ln:Int) (id:List UInt8) (w:World) (h:Xk B w vb g cap L tm tn ln) (i:Nat) (hli:liveI tm id true L=i) (hc:countI true L=10) :
  Calls prog 109 #[.pointer (some ⟨vb,0,none⟩),.string ⟨id.toArray⟩] w fun e w'=>e=.returned (.tuple #[.string ⟨#[]⟩,.int .i64 4])/\Below w.heap.size w w':=by
 have hL:=Xcg B vb g cap L tm tn ln id true w h;rw [hli] at hL
 have hC:=fun W (hb:Below w.heap.size w W)=>Xe0 B vb g cap L tm tn ln true W (h.below hb)
 rw [hc] at hC
 have hnn:¬ (i:Int)<0:=by omega
 go_enter func109,ntmps109
 go_wp2_with (first
  | (go_at_call 154;refine hL.mono ?_;rintro e w1 ⟨rfl,hb1⟩)
  | (go_at_call 155;refine(hC _ hb1).mono ?_;rintro e w2 ⟨rfl,rfl⟩))
 exact bodyPost_ret (v:=.tuple #[.string ⟨#[]⟩,.int .i64 4]) (by simp [results,results109,go_sem]) rfl ⟨rfl,hb1⟩
def issueE (tm:Int) (id pth:List UInt8) (ttl most:Int) (L:List ThingD):Int:=
 if liveI tm id true L<0 then 1 else if pathI pth=false then 2 else if ttl=0\/most<ttl then 3 else if countI false L=14 then 4 else 0
theorem Tryz.Xlg (B:Nat) (vb g cap:Nat) (L:List ThingD) (tm tn ln:Int) (id pth:List UInt8) (ttl most:Int) (w:World) (h:Xk B w vb g cap L tm tn ln) (hp:pth.length<=9223372036854775807) (he:issueE tm id pth ttl most L≠0) :
  Calls prog 111 #[.pointer (some ⟨vb,0,none⟩),.string ⟨id.toArray⟩,.string ⟨pth.toArray⟩,.int .u64 ttl,.int .u64 most] w fun e w'=>e=.returned (.tuple #[.string ⟨#[]⟩,.int .i64 (issueE tm id pth ttl most L)])/\Below w.heap.size w w':=by
 have hL:=Xcg B vb g cap L tm tn ln id true w h
 have hC:=fun W (hb:Below w.heap.size w W)=>Xe0 B vb g cap L tm tn ln false W (h.below hb)
 have hP:=fun W=>Xca pth hp W
 have hr:Hid (issueE tm id pth ttl most L=if liveI tm id true L<0 then 1 else if pathI pth=false then 2 else if ttl=0\/most<ttl then 3 else if countI false L=14 then 4 else 0):=Xb rfl;generalize issueE tm id pth ttl most L=r at *;generalize liveI tm id true L=i at *;generalize pathI pth=pb at *;generalize countI false L=n at *
 by_cases h1:i<0
 ·obtain rfl:r=1:=by rw [Xa hr,if_pos h1]
  clear hr he;go_enter func111,ntmps111
  go_wp2_with (first
   | (go_at_call 154;refine hL.mono ?_;rintro e w1 ⟨rfl,hb1⟩)
   | (go_at_call 156;refine(hP _).mono ?_;rintro e w2 ⟨rfl,rfl⟩)
   | (go_at_call 155;refine(hC _ hb1).mono ?_;rintro e w3 ⟨rfl,rfl⟩))
  exact bodyPost_ret (v:=.tuple #[.string ⟨#[]⟩,.int .i64 1]) (by simp [results,results111,go_sem]) rfl ⟨rfl,hb1⟩
 by_cases h2:pb=false
 ·obtain rfl:r=2:=by rw [Xa hr,if_neg h1,if_pos h2]
  subst h2;clear hr he;go_enter func111,ntmps111
  go_wp2_with (first
   | (go_at_call 154;refine hL.mono ?_;rintro e w1 ⟨rfl,hb1⟩)
   | (go_at_call 156;refine(hP _).mono ?_;rintro e w2 ⟨rfl,rfl⟩)
   | (go_at_call 155;refine(hC _ hb1).mono ?_;rintro e w3 ⟨rfl,rfl⟩))
  exact bodyPost_ret (v:=.tuple #[.string ⟨#[]⟩,.int .i64 2]) (by simp [results,results111,go_sem]) rfl ⟨rfl,hb1⟩
 obtain rfl:pb=true:=by simpa using h2
 by_cases h3:ttl=0\/most<ttl
 ·obtain rfl:r=3:=by rw [Xa hr,if_neg h1,if_neg h2,if_pos h3]
  clear hr he h2
  by_cases h0:ttl=0
  focus
   subst h0;clear h3
  rotate_left
  focus
   have h0':(ttl==0)=false:=by simpa using h0
   have h3':most<ttl:=h3.resolve_left h0;clear h3 h0
  rotate_left
  all_goals
   go_enter func111,ntmps111
   go_wp2_with (first
    | (go_at_call 154;refine hL.mono ?_;rintro e w1 ⟨rfl,hb1⟩)
    | (go_at_call 156;refine(hP _).mono ?_;rintro e w2 ⟨rfl,rfl⟩)
    | (go_at_call 155;refine(hC _ hb1).mono ?_;rintro e w3 ⟨rfl,rfl⟩))
   exact bodyPost_ret (v:=.tuple #[.string ⟨#[]⟩,.int .i64 3]) (by simp [results,results111,go_sem]) rfl ⟨rfl,hb1⟩
 by_cases h4:n=14
 ·obtain rfl:r=4:=by rw [Xa hr,if_neg h1,if_neg h2,if_neg h3,if_pos h4]
  subst h4
  have h0':(ttl==0)=false:=by simp;omega
  have h3':¬ most<ttl:=by omega
  clear hr he h2 h3;go_enter func111,ntmps111
  go_wp2_with (first
   | (go_at_call 154;refine hL.mono ?_;rintro e w1 ⟨rfl,hb1⟩)
   | (go_at_call 156;refine(hP _).mono ?_;rintro e w2 ⟨rfl,rfl⟩)
   | (go_at_call 155;refine(hC _ hb1).mono ?_;rintro e w3 ⟨rfl,rfl⟩))
  exact bodyPost_ret (v:=.tuple #[.string ⟨#[]⟩,.int .i64 4]) (by simp [results,results111,go_sem]) rfl ⟨rfl,hb1⟩
 exact absurd (by rw [Xa hr,if_neg h1,if_neg h2,if_neg h3,if_neg h4]) he
def Mp (k m:Nat):ThingD:=⟨true,k,(m:Int),[],18446744073709551615,0,false,0⟩
abbrev cells3 (g vb i:Nat) (sl:Value) (k m:Nat) (W:World):Prop:=
 W.cell? ⟨vb,0,none⟩=some sl/\W.cell? ⟨vb,2,none⟩=some (.int .i64 k)/\W.cell? ⟨g,i*8+1,none⟩=some (.int .i64 m)
theorem cells3.below {g vb i:Nat} {sl:Value} {k m:Nat} {W W':World} (h:cells3 g vb i sl k m W) (hb:Below W.heap.size W W'):cells3 g vb i sl k m W':=
 ⟨cell_later hb h.1,cell_later hb h.2.1,cell_later hb h.2.2⟩
theorem Tryz.Xk.made {B:Nat} {W:World} {vb g cap:Nat} {L:List ThingD} {tm ln:Int} {k:Nat} (h:Xk B W vb g cap L tm k ln) (hne:vb≠g) (cs:Array Value) :
  BoxN (((W.setCell ⟨vb,2,none⟩ (.int .i64 (k+1))).alloc (.cells cs 105)).drew) vb 108 #[.slice (some ⟨g,0,none⟩) L.length cap,.int .u64 tm,.int .i64 (k+1),.int .i64 ln] /\
  (((W.setCell ⟨vb,2,none⟩ (.int .i64 (k+1))).alloc (.cells cs 105)).drew).ownsRow B 105 8 (.slice (some ⟨g,0,none⟩) L.length cap) L.length (X9 L) /\
  BoxN (((W.setCell ⟨vb,2,none⟩ (.int .i64 (k+1))).alloc (.cells cs 105)).drew) W.heap.size 105 cs:=by
 have lv:=h.v.lt;refine⟨?_,?_,?_⟩
 ·exact(h.v.set 2 _).alloc _
 ·have hr:(W.setCell ⟨vb,2,none⟩ (.int .i64 (k+1))).ownsRow B 105 8 (.slice (some ⟨g,0,none⟩) L.length cap) L.length (X9 L):=by
   obtain⟨h2,⟨e1,-⟩ | ⟨g',cap',cur,e1,e2,e3,e4⟩⟩:=h.row
   ·cases e1
   cases e1;exact⟨h2,.inr ⟨g,cap,cur,rfl,e2,BoxN.other (W:=W) (t:=105) (cs:=cur) e3 (Ne.symm hne) 2 _,e4⟩⟩
  exact hr.alloc _
 have:=BoxN.new (W.setCell ⟨vb,2,none⟩ (.int .i64 (k+1))) 105 cs;rw [World.size_setCell] at this;exact this
theorem Tryz.Xme (B:Nat) (vb g cap:Nat) (L:List ThingD) (tm ln:Int) (k:Nat) (id:List UInt8) (w:World) (h:Xk B w vb g cap L tm k ln) (hvB:B<=vb) (hne:vb≠g) (hB:B<=w.heap.size) (hk:k<9223372036854775807) (hl:L.length<100)
  (i:Nat) (t:ThingD) (ht:L[i]? = some t) (hli:liveI tm id true L=i) (hc:countI true L≠10) :
  Calls prog 109 #[.pointer (some ⟨vb,0,none⟩),.string ⟨id.toArray⟩] w fun e w'=>∃ g' cap',e=.returned (.tuple #[.string ⟨(Mp k t.n).id.toArray⟩,.int .i64 0])/\Xk B w' vb g' cap' (L ++ [Mp k t.n]) tm (k+1) ln/\vb≠g'/\Below B w w'/\Spares [vb,g] w w':=by
 obtain⟨i0,hi,hz0,hz1,hz2⟩:=info_parts Xah;have hL:=Xcg B vb g cap L tm k ln id true w h;rw [hli] at hL
 have hC:=fun W (hb:Below w.heap.size w W)=>Xe0 B vb g cap L tm k ln true W (h.below hb)
 have hc':((countI true L:Int)==10)=false:=by rw [beq_eq_false_iff_ne];omega
 have hil:i<L.length:=(List.getElem?_eq_some_iff.1 ht).1
 have hS:=fun W (hb:Below w.heap.size w W)=>(show cells3 g vb i (.slice (some ⟨g,0,none⟩) L.length cap) k t.n W from ⟨(h.below hb).v.cell 0 rfl,(h.below hb).v.cell 2 rfl,((h.below hb).cells ht).2.1⟩)
 generalize countI true L=n at *
 have hnn:¬ (i:Int)<0:=by omega
 have lv:=h.v.lt;have lg:=h.glt;go_enter func109,ntmps109
 go_wp2_with (first
  | (go_at_call 154;refine hL.mono ?_;rintro e w1 ⟨rfl,hb1⟩)
  | (go_at_call 155;refine(hC _ hb1).mono ?_;rintro e w2 ⟨rfl,rfl⟩))
 rename_i w1 _
 have hsz:=hb1.size;have fv:=(h.below hb1).v.frozen 2;have lv2:=(h.below hb1).v.lt;have hM:=Xb ((h.below hb1).made hne #[.bool true,.int .i64 k,.int .i64 t.n,.string ⟨#[]⟩,.int .u64 18446744073709551615,.int .u64 0,.bool false,.int .i64 0])
 go_region_held3 (cells3 g vb i (.slice (some ⟨g,0,none⟩) L.length cap) k t.n) (first
   | with_reducible exact(hS _ hb1).below (Xp.below (Xp.refl _).drew)
   | with_reducible exact(hS _ hb1).below (Xp.below ((Xp.refl _).alloc _).drew)
   | with_reducible exact cells3.below (by assumption) (by assumption)
   | with_reducible exact cells3.below (by assumption) (Xp.below ((Xp.refl _).alloc _))) (fail)
 go_wp2;obtain⟨bV,hrow,bT⟩:=Xa hM;clear hM fv hS
 have hB9:Below B w (((w2.setCell ⟨vb,2,none⟩ (.int .i64 (k+1))).alloc (.cells #[.bool true,.int .i64 k,.int .i64 t.n,.string ⟨#[]⟩,.int .u64 18446744073709551615,.int .u64 0,.bool false,.int .i64 0] 105)).drew):=((((hb1.mono hB).setCell (p:=⟨vb,2,none⟩) hvB _).alloc (by simp;omega) _).drew)
 have hP9:Spares [vb,g] w (((w2.setCell ⟨vb,2,none⟩ (.int .i64 (k+1))).alloc (.cells #[.bool true,.int .i64 k,.int .i64 t.n,.string ⟨#[]⟩,.int .u64 18446744073709551615,.int .u64 0,.bool false,.int .i64 0] 105)).drew):=(((Spares.of_below hb1).set (by simp) _ _).alloc _).drew
 have hs9:(((w2.setCell ⟨vb,2,none⟩ (.int .i64 (k+1))).alloc (.cells #[.bool true,.int .i64 k,.int .i64 t.n,.string ⟨#[]⟩,.int .u64 18446744073709551615,.int .u64 0,.bool false,.int .i64 0] 105)).drew).heap.size=w2.heap.size+1:=by simp
 obtain⟨W9,hW9⟩:∃ W9,((w2.setCell ⟨vb,2,none⟩ (.int .i64 (k+1))).alloc (.cells #[.bool true,.int .i64 k,.int .i64 t.n,.string ⟨#[]⟩,.int .u64 18446744073709551615,.int .u64 0,.bool false,.int .i64 0] 105)).drew=W9:=⟨_,rfl⟩
 rw [hW9] at bV hrow bT hB9 hs9 hP9;rw [hW9];clear hW9;have Hs9:=Xb hs9
 have hB9s:B<=W9.heap.size:=by omega
 clear hs9;have lv9:=bV.lt;have lt9:=bT.lt;have v0:=bV.cell 0 (v:=.slice (some ⟨g,0,none⟩) L.length cap) rfl;have fv0:=bV.frozen 0;obtain⟨y0,y1,y2,y3,y4,y5,y6,y7⟩:=bT.c8;have hll:L.length<100:=hl
 go_region_law ((refine step_append_lies _ (by rfl) _ _ _ (by rfl) B 105 i0 _ 8 72 underlying106 hi hz0 hz1 hz2 rfl (by decide) _ _ _ (by rfl) (ownsRow_below hrow (by first | exact Xp.below ((Xp.refl _).alloc _) | exact Xp.below (((Xp.refl _).drewN _).alloc _))) ⟨W9.heap.size,0,none⟩ 1 1 [.bool true,.int .i64 k,.int .i64 t.n,.string ⟨#[]⟩,.int .u64 18446744073709551615,.int .u64 0,.bool false,.int .i64 0] (by rfl) rfl (World.news_of_block (heap_alloc_new _ _)) (by simp [Value.oneCell']) (by omega) (by unfold maxLen;omega) (by omega) (by simp;omega) _ rfl ?_;intro g' cap' w3 hown' hgrow hat hlt;have bV3:=(bV.below (B:=vb) (n₀:=W9.heap.size) (by first | exact Xp.below ((Xp.refl W9).alloc _) | exact Xp.below (((Xp.refl W9).drew).alloc _)) bV.lt).kept hgrow (by simp [Value.ownBlock,hne]);have d0:=bV3.cell 0 (v:=.slice (some ⟨g,0,none⟩) L.length cap) rfl;have d1:=bV3.frozen 0))
 all_goals
  have hvg:vb≠g':=by
   rcases hat with e | e
   ·have:g=g':=by simpa [Value.ownBlock] using e
    omega
   have:g'=W9.heap.size+1:=by simpa using e
   omega
  have lg2:g<w2.heap.size:=by omega
  have bT4:=((bT.below (B:=w2.heap.size) (n₀:=W9.heap.size) (Xp.below (((Xp.refl W9).alloc _).drew)) bT.lt).kept hgrow (by simp [Value.ownBlock];omega)).other (B':=vb) (by omega) 0 (.slice (some ⟨g',0,none⟩) (L.length+1) cap')
  have hbk:∀ q,(Value.slice (some ⟨g,0,none⟩) L.length cap).ownBlock=some q->B<=q:=by
   intro q hq
   have h1:g=q:=by simpa [Value.ownBlock] using hq
   have h2:=(h.row.lt g rfl).1;omega
  have hB3:Below B w w3:=((hB9.alloc hB9s _).drew).grown hgrow (by simp;omega) hbk;have hP3:Spares [vb,g] w w3:=((hP9.alloc _).drew).trans (Spares.X6 (b:=g) hgrow (by simp))
  have hF:Hid (Xk B (w3.setCell ⟨vb,0,none⟩ (.slice (some ⟨g',0,none⟩) (L.length+1) cap')) vb g' cap' (L ++ [Mp k t.n]) tm (k+1) ln/\Below B w (w3.setCell ⟨vb,0,none⟩ (.slice (some ⟨g',0,none⟩) (L.length+1) cap'))/\Spares [vb,g] w (w3.setCell ⟨vb,0,none⟩ (.slice (some ⟨g',0,none⟩) (L.length+1) cap'))):=Xb ⟨⟨by
    rw [List.length_append];exact bV3.set 0 _,by
    rw [List.length_append,Xef];exact hown'.kept (grownBy_setCell' w3 vb _) (.inr (by simp [Value.ownBlock];omega)),by
    rw [List.length_append];show L.length+1<=100;omega,fun x hx=>by
    rcases List.mem_append.1 hx with hx | hx
    ·exact h.num x hx
    ·rw [List.mem_singleton.1 hx];show k<_;omega,fun x hx=>by
    rcases List.mem_append.1 hx with hx | hx
    ·exact h.ofs x hx
    rw [List.mem_singleton.1 hx];exact .inr ⟨t.n,rfl,h.num t (List.mem_of_getElem? ht)⟩⟩,hB3.setCell (p:=⟨vb,0,none⟩) hvB _,hP3.set (by simp) _ _⟩
  have hs4:B<=(w3.setCell ⟨vb,0,none⟩ (.slice (some ⟨g',0,none⟩) (L.length+1) cap')).heap.size:=by have:=hB3.size;simp;omega
  have hID:=fun W=>rId (Mp k t.n) (show k<_ by omega) W
  obtain⟨nid,hnid⟩:∃ nid,(Mp k t.n).id=nid:=⟨_,rfl⟩
  rw [hnid] at hID;have Hn:=Xb hnid;clear hnid;simp only [Mp,ThingD.cells] at hID;clear hown' hgrow hat hlt bV3 d0 d1 hB3 hP3 hP9 bV hrow bT v0 fv0 y0 y1 y2 y3 y4 y5 y6 y7 hB9 hL hC;generalize w3.setCell ⟨vb,0,none⟩ (.slice (some ⟨g',0,none⟩) (L.length+1) cap')=W4 at *;obtain⟨y0,y1,y2,y3,y4,y5,y6,y7⟩:=bT4.c8
  go_wp2_with (go_at_call 105;refine(hID _).mono ?_;rintro e w5 ⟨rfl,hb5⟩)
  exact bodyPost_ret (v:=.tuple #[.string ⟨nid.toArray⟩,.int .i64 0]) (by simp [results,results109,go_sem]) rfl ⟨g',cap',by rw [Xa Hn],(Xa hF).1.below hb5,hvg,(Xa hF).2.1.trans (hb5.mono hs4),(Xa hF).2.2.trans (Spares.of_below hb5)⟩
def Ms (k m:Nat) (pth:List UInt8) (a l:Int):ThingD:=⟨false,k,(m:Int),pth,a,l,false,0⟩
abbrev U3 (g vb i:Nat) (sl:Value) (tm:Int) (k m:Nat) (W:World):Prop:=
 W.cell? ⟨vb,0,none⟩=some sl/\W.cell? ⟨vb,1,none⟩=some (.int .u64 tm)/\W.cell? ⟨vb,3,none⟩=some (.int .i64 k)/\W.cell? ⟨g,i*8+1,none⟩=some (.int .i64 m)
theorem U3.below {g vb i:Nat} {sl:Value} {tm:Int} {k m:Nat} {W W':World} (h:U3 g vb i sl tm k m W) (hb:Below W.heap.size W W'):U3 g vb i sl tm k m W':=
 ⟨cell_later hb h.1,cell_later hb h.2.1,cell_later hb h.2.2.1,cell_later hb h.2.2.2⟩
theorem Tryz.Xk.made3 {B:Nat} {W:World} {vb g cap:Nat} {L:List ThingD} {tm tn:Int} {k:Nat} (h:Xk B W vb g cap L tm tn k) (hne:vb≠g) (cs:Array Value) (q:Nat) :
  BoxN (((W.alloc (.cells cs 105)).drewN q).setCell ⟨vb,3,none⟩ (.int .i64 (k+1))) vb 108 #[.slice (some ⟨g,0,none⟩) L.length cap,.int .u64 tm,.int .i64 tn,.int .i64 (k+1)] /\
  (((W.alloc (.cells cs 105)).drewN q).setCell ⟨vb,3,none⟩ (.int .i64 (k+1))).ownsRow B 105 8 (.slice (some ⟨g,0,none⟩) L.length cap) L.length (X9 L) /\
  BoxN (((W.alloc (.cells cs 105)).drewN q).setCell ⟨vb,3,none⟩ (.int .i64 (k+1))) W.heap.size 105 cs:=by
 have lv:=h.v.lt;have hb:Below W.heap.size W ((W.alloc (.cells cs 105)).drewN q):=below_drewN ((Below.refl _ W).alloc (Nat.le_refl _) _) q;refine⟨?_,?_,?_⟩
 ·exact(h.v.below hb h.v.lt).set 3 _
 ·obtain⟨h2,⟨e1,-⟩ | ⟨g',cap',cur,e1,e2,e3,e4⟩⟩:=ownsRow_below h.row hb
  ·cases e1
  cases e1;exact⟨h2,.inr ⟨g,cap,cur,rfl,e2,BoxN.other (W:=(W.alloc (.cells cs 105)).drewN q) (t:=105) (cs:=cur) e3 (Ne.symm hne) 3 _,e4⟩⟩
 exact BoxN.other (W:=(W.alloc (.cells cs 105)).drewN q) (BoxN.new W 105 cs) (by omega) 3 _
theorem Tryz.Xol (B:Nat) (vb g cap:Nat) (L:List ThingD) (tm tn:Int) (k:Nat) (id pth:List UInt8) (ttl most:Int) (w:World) (h:Xk B w vb g cap L tm tn k) (hvB:B<=vb) (hne:vb≠g) (hB:B<=w.heap.size) (hk:k<9223372036854775807) (hl:L.length<100) (hp:pth.length<=9223372036854775807)
  (htm:0<=tm) (ht1:0<=ttl) (ht2:ttl<=18446744073709551615) (hm2:most<=18446744073709551615)
  (i:Nat) (t:ThingD) (ht:L[i]? = some t) (hli:liveI tm id true L=i) (he:issueE tm id pth ttl most L=0) (hat:tm<plusI tm ttl) :
  Calls prog 111 #[.pointer (some ⟨vb,0,none⟩),.string ⟨id.toArray⟩,.string ⟨pth.toArray⟩,.int .u64 ttl,.int .u64 most] w fun e w'=>∃ g' cap',e=.returned (.tuple #[.string ⟨(Ms k t.n pth (plusI tm ttl) (plusI tm most)).id.toArray⟩,.int .i64 0])/\Xk B w' vb g' cap' (L ++ [Ms k t.n pth (plusI tm ttl) (plusI tm most)]) tm tn (k+1)/\vb≠g'/\Below B w w'/\Spares [vb,g] w w':=by
 obtain⟨i0,hi,hz0,hz1,hz2⟩:=info_parts Xah;have hL:=Xcg B vb g cap L tm tn k id true w h;rw [hli] at hL
 have hC:=fun W (hb:Below w.heap.size w W)=>Xe0 B vb g cap L tm tn k false W (h.below hb)
 have hP:=fun W=>Xca pth hp W
 unfold issueE at he
 have h1:¬ (i:Int)<0:=by omega
 rw [hli,if_neg h1] at he
 have h2:¬ pathI pth=false:=by intro e;rw [if_pos e] at he;omega
 rw [if_neg h2] at he
 have h3:¬ (ttl=0\/most<ttl):=by intro e;rw [if_pos e] at he;omega
 rw [if_neg h3] at he
 have h4:¬ countI false L=14:=by intro e;rw [if_pos e] at he;omega
 clear he
 have hm1:0<=most:=by omega
 have hA:=fun W=>Xgk tm ttl htm ht1 ht2 W
 have hA2:=fun W=>Xgk tm most htm hm1 hm2 W
 have hpt:pathI pth=true:=by simpa using h2
 rw [hpt] at hP
 have hc':((countI false L:Int)==14)=false:=by rw [beq_eq_false_iff_ne];omega
 have h0':(ttl==0)=false:=by simp;omega
 have h3':¬ most<ttl:=by omega
 have hil:i<L.length:=(List.getElem?_eq_some_iff.1 ht).1
 have hS:=fun W (hb:Below w.heap.size w W)=>(show U3 g vb i (.slice (some ⟨g,0,none⟩) L.length cap) tm k t.n W from ⟨(h.below hb).v.cell 0 rfl,(h.below hb).v.cell 1 rfl,(h.below hb).v.cell 3 rfl,((h.below hb).cells ht).2.1⟩)
 clear h2 h3 h4 hpt;generalize countI false L=n at *;generalize plusI tm ttl=at0 at *;generalize plusI tm most=la0 at *;have lv:=h.v.lt;have lg:=h.glt;go_enter func111,ntmps111
 go_wp2_with (first
  | (go_at_call 154;refine hL.mono ?_;rintro e w1 ⟨rfl,hb1⟩)
  | (go_at_call 156;refine(hP _).mono ?_;rintro e w2 ⟨rfl,rfl⟩)
  | (go_at_call 155;refine(hC _ hb1).mono ?_;rintro e w3 ⟨rfl,rfl⟩;obtain⟨q0,q1,q2,q3⟩:=hS _ hb1)
  | (go_at_call_of 153 (Value.int .u64 ttl);refine(hA _).mono ?_;rintro e w4 ⟨rfl,rfl⟩)
  | (go_at_call_of 153 (Value.int .u64 most);refine(hA2 _).mono ?_;rintro e w5 ⟨rfl,rfl⟩))
 have hsz:=hb1.size;have fv:=(h.below hb1).v.frozen 3;have lv2:=(h.below hb1).v.lt
 go_region_held3 (U3 g vb i (.slice (some ⟨g,0,none⟩) L.length cap) tm k t.n) (first
   | with_reducible exact(hS _ hb1).below (Xp.below (Xp.refl _).drew)
   | with_reducible exact(hS _ hb1).below (Xp.below ((Xp.refl _).alloc _).drew)
   | with_reducible exact U3.below (by assumption) (by assumption)
   | with_reducible exact U3.below (by assumption) (Xp.below ((Xp.refl _).alloc _))) (fail)
 go_wp2_with fail
 go_quiet (fail);go_wp2;obtain⟨bV,hrow,bT⟩:=(h.below hb1).made3 hne #[.bool false,.int .i64 k,.int .i64 t.n,.string ⟨pth.toArray⟩,.int .u64 at0,.int .u64 la0,.bool false,.int .i64 0] (1+nq);clear fv hS;have hB9:Below B w (((w5.alloc (.cells #[.bool false,.int .i64 k,.int .i64 t.n,.string ⟨pth.toArray⟩,.int .u64 at0,.int .u64 la0,.bool false,.int .i64 0] 105)).drewN (1+nq)).setCell ⟨vb,3,none⟩ (.int .i64 (k+1))):=(below_drewN ((hb1.mono hB).alloc (by omega) _) _).setCell (p:=⟨vb,3,none⟩) hvB _;have hP9:Spares [vb,g] w (((w5.alloc (.cells #[.bool false,.int .i64 k,.int .i64 t.n,.string ⟨pth.toArray⟩,.int .u64 at0,.int .u64 la0,.bool false,.int .i64 0] 105)).drewN (1+nq)).setCell ⟨vb,3,none⟩ (.int .i64 (k+1))):=(((Spares.of_below hb1).alloc _).trans (Spares.of_below (below_drewN (Below.refl _ _) (1+nq)))).set (by simp) _ _
 have hs9:(((w5.alloc (.cells #[.bool false,.int .i64 k,.int .i64 t.n,.string ⟨pth.toArray⟩,.int .u64 at0,.int .u64 la0,.bool false,.int .i64 0] 105)).drewN (1+nq)).setCell ⟨vb,3,none⟩ (.int .i64 (k+1))).heap.size=w5.heap.size+1:=by simp
 obtain⟨W9,hW9⟩:∃ W9,((w5.alloc (.cells #[.bool false,.int .i64 k,.int .i64 t.n,.string ⟨pth.toArray⟩,.int .u64 at0,.int .u64 la0,.bool false,.int .i64 0] 105)).drewN (1+nq)).setCell ⟨vb,3,none⟩ (.int .i64 (k+1))=W9:=⟨_,rfl⟩
 rw [hW9] at bV hrow bT hB9 hs9 hP9;rw [hW9];clear hW9;have Hs9:=Xb hs9
 have hB9s:B<=W9.heap.size:=by omega
 clear hs9;have lv9:=bV.lt;have lt9:=bT.lt;have v0:=bV.cell 0 (v:=.slice (some ⟨g,0,none⟩) L.length cap) rfl;have fv0:=bV.frozen 0;obtain⟨y0,y1,y2,y3,y4,y5,y6,y7⟩:=bT.c8;have hll:L.length<100:=hl
 go_region_law ((refine step_append_lies _ (by rfl) _ _ _ (by rfl) B 105 i0 _ 8 72 underlying106 hi hz0 hz1 hz2 rfl (by decide) _ _ _ (by rfl) (ownsRow_below hrow (by first | exact Xp.below ((Xp.refl _).alloc _) | exact Xp.below (((Xp.refl _).drewN _).alloc _))) ⟨W9.heap.size,0,none⟩ 1 1 [.bool false,.int .i64 k,.int .i64 t.n,.string ⟨pth.toArray⟩,.int .u64 at0,.int .u64 la0,.bool false,.int .i64 0] (by rfl) rfl (World.news_of_block (heap_alloc_new _ _)) (by simp [Value.oneCell']) (by omega) (by unfold maxLen;omega) (by omega) (by simp;omega) _ rfl ?_;intro g' cap' w6 hown' hgrow hat6 hlt;have bV3:=(bV.below (B:=vb) (n₀:=W9.heap.size) (by first | exact Xp.below ((Xp.refl W9).alloc _) | exact Xp.below (((Xp.refl W9).drew).alloc _)) bV.lt).kept hgrow (by simp [Value.ownBlock,hne]);have d0:=bV3.cell 0 (v:=.slice (some ⟨g,0,none⟩) L.length cap) rfl;have d1:=bV3.frozen 0))
 all_goals
  have hvg:vb≠g':=by
   rcases hat6 with e | e
   ·have:g=g':=by simpa [Value.ownBlock] using e
    omega
   have:g'=W9.heap.size+1:=by simpa using e
   omega
  have lg2:g<w5.heap.size:=by omega
  have bT4:=((bT.below (B:=w5.heap.size) (n₀:=W9.heap.size) (Xp.below (((Xp.refl W9).alloc _).drew)) bT.lt).kept hgrow (by simp [Value.ownBlock];omega)).other (B':=vb) (by omega) 0 (.slice (some ⟨g',0,none⟩) (L.length+1) cap')
  have hbk:∀ q,(Value.slice (some ⟨g,0,none⟩) L.length cap).ownBlock=some q->B<=q:=by
   intro q hq
   have h1:g=q:=by simpa [Value.ownBlock] using hq
   have h2:=(h.row.lt g rfl).1;omega
  have hB3:Below B w w6:=((hB9.alloc hB9s _).drew).grown hgrow (by simp;omega) hbk;have hP3:Spares [vb,g] w w6:=((hP9.alloc _).drew).trans (Spares.X6 (b:=g) hgrow (by simp))
  have hF:Hid (Xk B (w6.setCell ⟨vb,0,none⟩ (.slice (some ⟨g',0,none⟩) (L.length+1) cap')) vb g' cap' (L ++ [Ms k t.n pth at0 la0]) tm tn (k+1)/\Below B w (w6.setCell ⟨vb,0,none⟩ (.slice (some ⟨g',0,none⟩) (L.length+1) cap'))/\Spares [vb,g] w (w6.setCell ⟨vb,0,none⟩ (.slice (some ⟨g',0,none⟩) (L.length+1) cap'))):=Xb ⟨⟨by
    rw [List.length_append];exact bV3.set 0 _,by
    rw [List.length_append,Xef];exact hown'.kept (grownBy_setCell' w6 vb _) (.inr (by simp [Value.ownBlock];omega)),by
    rw [List.length_append];show L.length+1<=100;omega,fun x hx=>by
    rcases List.mem_append.1 hx with hx | hx
    ·exact h.num x hx
    ·rw [List.mem_singleton.1 hx];show k<_;omega,fun x hx=>by
    rcases List.mem_append.1 hx with hx | hx
    ·exact h.ofs x hx
    rw [List.mem_singleton.1 hx];exact .inr ⟨t.n,rfl,h.num t (List.mem_of_getElem? ht)⟩⟩,hB3.setCell (p:=⟨vb,0,none⟩) hvB _,hP3.set (by simp) _ _⟩
  have hs4:B<=(w6.setCell ⟨vb,0,none⟩ (.slice (some ⟨g',0,none⟩) (L.length+1) cap')).heap.size:=by have:=hB3.size;simp;omega
  have hID:=fun W=>rId (Ms k t.n pth at0 la0) (show k<_ by omega) W
  obtain⟨nid,hnid⟩:∃ nid,(Ms k t.n pth at0 la0).id=nid:=⟨_,rfl⟩
  rw [hnid] at hID;have Hn:=Xb hnid;clear hnid;simp only [Ms,ThingD.cells] at hID;clear hown' hgrow hat6 hlt bV3 d0 d1 hB3 hP3 hP9 bV hrow bT v0 fv0 y0 y1 y2 y3 y4 y5 y6 y7 hB9 hL hC hP hA hA2;generalize w6.setCell ⟨vb,0,none⟩ (.slice (some ⟨g',0,none⟩) (L.length+1) cap')=W4 at *;obtain⟨y0,y1,y2,y3,y4,y5,y6,y7⟩:=bT4.c8
  go_wp2_with (go_at_call 105;refine(hID _).mono ?_;rintro e w8 ⟨rfl,hb5⟩)
  exact bodyPost_ret (v:=.tuple #[.string ⟨nid.toArray⟩,.int .i64 0]) (by simp [results,results111,go_sem]) rfl ⟨g',cap',by rw [Xa Hn],(Xa hF).1.below hb5,hvg,(Xa hF).2.1.trans (hb5.mono hs4),(Xa hF).2.2.trans (Spares.of_below hb5)⟩
theorem Tryz.Xkg (B:Nat) (vb g cap:Nat) (L:List ThingD) (tm tn:Int) (k:Nat) (id pth:List UInt8) (ttl most:Int) (w:World) (h:Xk B w vb g cap L tm tn k) (hp:pth.length<=9223372036854775807)
  (htm:0<=tm) (ht1:0<=ttl) (ht2:ttl<=18446744073709551615) (hm2:most<=18446744073709551615)
  (i:Nat) (t:ThingD) (ht:L[i]? = some t) (hli:liveI tm id true L=i) (he:issueE tm id pth ttl most L=0) (hat:¬ tm<plusI tm ttl) :
  Calls prog 111 #[.pointer (some ⟨vb,0,none⟩),.string ⟨id.toArray⟩,.string ⟨pth.toArray⟩,.int .u64 ttl,.int .u64 most] w fun e w'=>e=.returned (.tuple #[.string ⟨#[]⟩,.int .i64 3])/\Below w.heap.size w w':=by
 have hL:=Xcg B vb g cap L tm tn k id true w h;rw [hli] at hL
 have hC:=fun W (hb:Below w.heap.size w W)=>Xe0 B vb g cap L tm tn k false W (h.below hb)
 have hP:=fun W=>Xca pth hp W
 unfold issueE at he
 have h1:¬ (i:Int)<0:=by omega
 rw [hli,if_neg h1] at he
 have h2:¬ pathI pth=false:=by intro e;rw [if_pos e] at he;omega
 rw [if_neg h2] at he
 have h3:¬ (ttl=0\/most<ttl):=by intro e;rw [if_pos e] at he;omega
 rw [if_neg h3] at he
 have h4:¬ countI false L=14:=by intro e;rw [if_pos e] at he;omega
 clear he
 have hm1:0<=most:=by omega
 have hA:=fun W=>Xgk tm ttl htm ht1 ht2 W
 have hA2:=fun W=>Xgk tm most htm hm1 hm2 W
 have hpt:pathI pth=true:=by simpa using h2
 rw [hpt] at hP
 have hc':((countI false L:Int)==14)=false:=by rw [beq_eq_false_iff_ne];omega
 have h0':(ttl==0)=false:=by simp;omega
 have h3':¬ most<ttl:=by omega
 have hil:i<L.length:=(List.getElem?_eq_some_iff.1 ht).1
 have hS:=fun W (hb:Below w.heap.size w W)=>(show U3 g vb i (.slice (some ⟨g,0,none⟩) L.length cap) tm k t.n W from ⟨(h.below hb).v.cell 0 rfl,(h.below hb).v.cell 1 rfl,(h.below hb).v.cell 3 rfl,((h.below hb).cells ht).2.1⟩)
 clear h2 h3 h4 hpt;generalize countI false L=n at *;generalize plusI tm ttl=at0 at *;generalize plusI tm most=la0 at *;have lv:=h.v.lt;have lg:=h.glt;go_enter func111,ntmps111
 go_wp2_with (first
  | (go_at_call 154;refine hL.mono ?_;rintro e w1 ⟨rfl,hb1⟩)
  | (go_at_call 156;refine(hP _).mono ?_;rintro e w2 ⟨rfl,rfl⟩)
  | (go_at_call 155;refine(hC _ hb1).mono ?_;rintro e w3 ⟨rfl,rfl⟩;obtain⟨q0,q1,q2,q3⟩:=hS _ hb1)
  | (go_at_call_of 153 (Value.int .u64 ttl);refine(hA _).mono ?_;rintro e w4 ⟨rfl,rfl⟩)
  | (go_at_call_of 153 (Value.int .u64 most);refine(hA2 _).mono ?_;rintro e w5 ⟨rfl,rfl⟩))
 have hsz:=hb1.size;have fv:=(h.below hb1).v.frozen 3;have lv2:=(h.below hb1).v.lt
 go_region_held3 (U3 g vb i (.slice (some ⟨g,0,none⟩) L.length cap) tm k t.n) (first
   | with_reducible exact(hS _ hb1).below (Xp.below (Xp.refl _).drew)
   | with_reducible exact(hS _ hb1).below (Xp.below ((Xp.refl _).alloc _).drew)
   | with_reducible exact U3.below (by assumption) (by assumption)
   | with_reducible exact U3.below (by assumption) (Xp.below ((Xp.refl _).alloc _))) (fail)
 go_wp2_with fail
 go_quiet (fail);go_wp2;exact bodyPost_ret (v:=.tuple #[.string ⟨#[]⟩,.int .i64 3]) (by simp [results,results111,go_sem]) rfl ⟨rfl,by first | exact below_drewN (hb1.alloc hsz _) _ | exact below_drewN ((hb1.alloc hsz _).drew) _ | exact(hb1.alloc hsz _).drew⟩
end Go.Proofs
namespace Go.Proofs
open Go.RowKit Go.Sort Go.Lib Go.Shelf Go.Maps
attribute [local go_sem] Oper.semAt_some
def Mv:Int:=18446744073709551615
def minAt (xs:List InfoD):Int:=xs.foldl (fun m x=>min m x.at_) Mv
theorem Xmk (xs:List InfoD) (x:InfoD):minAt (xs ++ [x])=min (minAt xs) x.at_:=by simp [minAt]
theorem Tryz.vNext (vb mt ml:Nat) (vx:VX) (tm tn ln:Int) (tks:List Xd) (lks:List Xc) (w:World) (hV:Xq w vb mt ml vx tm tn ln tks lks) :
  CallsIn Fence.wide 9 prog 45 #[.pointer (some ⟨vb,0,none⟩)] w fun e w'=>e=.returned (.int .u64 (minAt (infosOf tm tks lks)))/\Below w.heap.size w w':=by
 have hfa:Fence.wide.fn 48:=trivial;refine callsIn_of_wp_marks func45 rfl trivial ?_ rfl;simp only [ntmps45,List.size_toArray,List.length_cons,List.length_nil,Nat.reduceAdd,Nat.reduceSub,Array.replicate_succ,Array.replicate_zero,List.push_toArray,List.append_toArray,List.nil_append,List.cons_append]
 gi_wp2_with (gi_at_call 48;refine(callsIn_wide.2 (vAll vb _)).mono ?_;rintro e w' ⟨rfl,rfl⟩)
 have bL:=(Boxed.new w 31 (.int .u64 Mv)).alloc (.cells #[.pointer (some ⟨vb,0,none⟩)] 76);have bV:=BoxN.new (w.alloc (.cells #[.int .u64 Mv] 31)) 76 #[.pointer (some ⟨vb,0,none⟩)];have hB0:Below w.heap.size w ((w.alloc (.cells #[.int .u64 Mv] 31)).alloc (.cells #[.pointer (some ⟨vb,0,none⟩)] 76)):=((Below.refl _ w).alloc (Nat.le_refl _) _).alloc (by simp) _
 have hsz:((w.alloc (.cells #[.int .u64 Mv] 31)).alloc (.cells #[.pointer (some ⟨vb,0,none⟩)] 76)).heap.size=w.heap.size+2:=by simp
 simp only [World.size_alloc] at bV;have hV0:=hV.below hB0
 obtain⟨W0,hW0⟩:∃ W0,(w.alloc (.cells #[.int .u64 Mv] 31)).alloc (.cells #[.pointer (some ⟨vb,0,none⟩)] 76)=W0:=⟨_,rfl⟩
 rw [hW0] at bV bL hB0 hsz hV0
 change Code.wpIn _ _ _ _ _ _ ((w.alloc (.cells #[.int .u64 Mv] 31)).alloc (.cells #[.pointer (some ⟨vb,0,none⟩)] 76))
 rw [hW0];clear hW0
 refine Vd (n:=9) (by omega) (gf:=78) (lb:=#[.pointer (some ⟨w.heap.size+1,0,none⟩)]) rfl Xjz
  (Xj5 8 (by omega) Xnj Xpl (w.heap.size+1) vb mt ml vx tm tn ln tks lks hV.ok W0 bV hV0.v hV0.held) Jr Jo (Below.refl _ _) (fun _=>rfl)
  (fun pre V=>Boxed V w.heap.size 31 (.int .u64 (minAt pre))/\Below w.heap.size w V)
  (fun _ _ _=>False)
  (OwnFrom.and (Own.from (boxed_own _ _ (fun pre:List InfoD=>.int .u64 (minAt pre))) _) (ownFrom_below (Nat.le_refl _) (by omega)))
  (fun _ _ _ _ _ hs _ _=>hs)
  (fun s V hs=>⟨hV.env.below hs.2 hV.six,Nat.le_trans hV.six hs.2.size⟩)
  ⟨bL,hB0⟩
  (fun x a' V=>∃ Bx,w.heap.size<Bx/\BoxN V Bx 49 x.cells/\a' = { tmps:=#[.pointer (some ⟨vb,0,none⟩),undef,.int .u64 0,.pointer (some ⟨w.heap.size,0,none⟩),.pointer (some ⟨Bx,0,none⟩),.pointer (some ⟨vb,0,none⟩),.func (.func 78) #[] #[.pointer (some ⟨w.heap.size+1,0,none⟩)],.agg x.cells,undef,undef,undef,undef,undef],defers:=[] })
  (fun x a' _ X Y row hs hg hr=>by obtain⟨Bx,h1,h2,h3⟩:=hs;exact⟨Bx,h1,Xy Bx 49 (fun(_:Unit)=>x.cells) () X Y row h2 hg (fun r e=>(hr r e).2),h3⟩)
  ?assign ?body ?done ?stop
 case assign =>
  rintro l pre x V K ⟨b1,hB1⟩ hK;obtain⟨id,st,at_,tr,tok,pth⟩:=x;simp only [InfoD.cells,Yb]
  gi_wp2
  exact hK _ _ ((KeepsOthers.alloc _ _).from _) (KeepsT.alloc _ _) ⟨b1.alloc _,hB1.alloc hB1.size _⟩ ⟨V.heap.size,b1.lt,BoxN.new V 49 _,rfl⟩
 case body =>
  rintro l pre x a' V hl ⟨b1,hB1⟩ ⟨Bx,hBx,bX,rfl⟩ hlt;have hms:=Xmk pre x;obtain⟨id,st,at_,tr,tok,pth⟩:=x;simp only [InfoD.cells,Yb] at bX hms ⊢;have HM:=Xb hms;clear hms;generalize minAt pre=m at *;have c1:=b1.cell;have f1:=b1.frozen;have x2:=bX.cell 2 (v:=.int .u64 at_) rfl
  gi_wp2
  exact⟨(KeepsOthers.setCell _ _ _).from _,KeepsT.Xhf b1 (by decide) _,by rw [show minAt _=_ from Xa HM];exact b1.set _,hB1.setCell (p:=⟨w.heap.size,0,none⟩) (Nat.le_refl _) _⟩
 case done =>
  rintro D zs V hD rfl ⟨b1,hB1⟩ hK;have cS:=b1.cell
  gi_wp2
  refine⟨by simp,.inl ⟨_,_,rfl,run_takeDeferred hK,?_⟩⟩;exact⟨_,results_tmp rfl _ _ _,rfl,hB1.trans (belowK_b (w:=w) (Nat.le_refl _) V D _ _ (by omega) hK rfl rfl)⟩
 case stop =>
  rintro D c pre V _ _ h _;exact h.elim
theorem Tryz.hNext (hb vb mt ml:Nat) (vx:VX) (tm tn ln:Int) (tks:List Xd) (lks:List Xc) (w:World) (dv rv:Value) (hH:BoxN w hb 78 #[dv,rv,.pointer (some ⟨vb,0,none⟩)]) (hV:Xq w vb mt ml vx tm tn ln tks lks) :
  Calls prog 21 #[.pointer (some ⟨hb,0,none⟩)] w fun e w'=>e=.returned (.int .u64 (minAt (infosOf tm tks lks)))/\Below w.heap.size w w':=by
 have hN:=callsIn_wide.1 (vNext vb mt ml vx tm tn ln tks lks w hV);generalize minAt (infosOf tm tks lks)=m at *;have c2:=hH.cell 2 (v:=.pointer (some ⟨vb,0,none⟩)) rfl;go_enter func21,ntmps21
 go_wp2_with (go_at_call 45;refine hN.mono ?_;rintro e w' ⟨rfl,hb⟩)
 go_ret;exact⟨rfl,hb⟩
end Go.Proofs
namespace Go.Proofs
open Go.RowKit Go.Sort Go.Lib Go.Shelf
def kindI (c:UInt8):Int:=if c=116 then 1 else if c=108 then 2 else 0
def parseN:List UInt8->Int × Int
 | []=>(0,0)
 | c :: r=>match Lib.parseUintB 64 r with
  | .ok u=>if nmStr (kindI c) u=c :: r then (kindI c,(u:Int)) else (0,0)
  | _=>(0,0)
theorem Tryz.kindOf (c:UInt8) (w:World):Calls prog 119 #[.int .u8 c.toNat] w fun e w'=>e=.returned (.int .i64 (kindI c))/\w'=w:=by
 have h256:=c.toNat_lt
 by_cases h1:c=116
 ·subst h1
  go_enter func119,ntmps119;go_wp2;go_ret;exact⟨rfl,rfl⟩
 by_cases h2:c=108
 ·subst h2
  go_enter func119,ntmps119;go_wp2;go_ret;exact⟨rfl,rfl⟩
 have h1':((c.toNat:Int)==116)=false:=by
  simp;intro h;exact h1 (UInt8.toNat_inj.1 (by simpa using(by exact_mod_cast h:c.toNat=116)))
 have h2':((c.toNat:Int)==108)=false:=by
  simp;intro h;exact h2 (UInt8.toNat_inj.1 (by simpa using(by exact_mod_cast h:c.toNat=108)))
 have hfin:Hid (kindI c=0):=by show _=_;simp [kindI,h1,h2]
 generalize kindI c=r at *;generalize (c.toNat:Int)=z at *;clear h1 h2;go_enter func119,ntmps119;go_wp2;go_ret;exact⟨Yw (show (0:Int)=r from (show r=0 from hfin).symm),rfl⟩
theorem Xfn (c:UInt8) (r:List UInt8):(⟨(c :: r).toArray⟩:ByteArray).extract 1 (r.length+1)=⟨r.toArray⟩:=by
 apply ByteArray.ext;rw [ByteArray.data_extract];simp
theorem Xi1 {r:List UInt8} {u:Nat} (h:Lib.parseUintB 64 r=.ok u):u<18446744073709551616:=by
 have:=Lib.parseUintB_le h;omega
theorem Tryz.Xe1 {w w':World} {s:ByteArray} (h:w'=w\/w'=Lib.bytesWorld w 5 s):Below w.heap.size w w':=by
 rcases h with rfl | rfl
 ·exact Below.refl _ _
 exact Lib.bytesWorld_below _ _ _
theorem Tryz.Xo0 (w:World):Calls prog 63 #[.string ⟨#[]⟩] w fun e w'=>e=.returned (.agg #[.int .i64 0,.int .u64 0])/\Below w.heap.size w w':=by
 go_enter func63,ntmps63;go_wp2;exact bodyPost_ret (v:=.agg #[.int .i64 0,.int .u64 0]) (by simp [results,results63,go_sem]) rfl ⟨rfl,(Below.refl _ _).alloc (Nat.le_refl _) _⟩
theorem Tryz.Xr1 (c:UInt8) (r:List UInt8) (u:Nat) (hp:Lib.parseUintB 64 r=.ok u) (hl:r.length<=1000000) (w:World) (hE:Env w) (h6:6<=w.heap.size) :
  Calls prog 63 #[.string ⟨(c :: r).toArray⟩] w fun e w'=>e=.returned (nmV (parseN (c :: r)))/\Below w.heap.size w w':=by
 have hpu:=fun W=>Any.strconv_ParseUint_10_at64_ok Vo ⟨r.toArray⟩ (by simp [ByteArray.size];omega) u hp W
 change ∀ W,Calls prog 118 _ _ _ at hpu
 have hk:=fun W=>kindOf c W
 have hx:(⟨(c :: r).toArray⟩:ByteArray).extract 1 (r.length+1)=⟨r.toArray⟩:=Xfn c r;have hE1:Env (w.alloc (.cells #[.int .i64 0,.int .u64 0] 114)):=hE.below ((Below.refl _ w).alloc (Nat.le_refl _) _) h6;have hu64:u<18446744073709551616:=Xi1 hp
 have hS:=fun W hW h6=>Zf (kindI c) u hu64 W hW h6
 have hpn:Hid (parseN (c :: r)=if nmStr (kindI c) u=c :: r then (kindI c,(u:Int)) else (0,0)):=by show _=_;simp [parseN,hp]
 generalize parseN (c :: r)=pn at *;generalize kindI c=kc at *;go_enter func63,ntmps63
 go_wp2_with (first
  | (go_at_call 118;refine(hpu _).mono ?_;rintro e w1 ⟨rfl,hw1⟩;replace hw1:=Xe1 hw1)
  | (go_at_call 119;refine(hk _).mono ?_;rintro e w' ⟨rfl,rfl⟩))
 have hs1:=hw1.size;simp only [World.size_alloc] at hs1
 have hEW:=((hE1.below hw1 (by simp;omega)).below ((Below.refl _ _).alloc (Nat.le_refl _) (.cells #[.int .i64 kc,.int .u64 u] 114)) (by omega))
 have hb1:=((Below.refl w.heap.size w).alloc (Nat.le_refl _) (.cells #[.int .i64 0,.int .u64 0] 114)).trans (hw1.mono (by simp));have bR:=((BoxN.new w 114 #[.int .i64 0,.int .u64 0]).below hw1 (by simp)).alloc (.cells #[.int .i64 kc,.int .u64 u] 114);have bX:=BoxN.new w' 114 #[.int .i64 kc,.int .u64 u];refine(hS _ hEW (by simp;omega)).mono ?_;rintro e w2 ⟨rfl,hb2⟩;have hbF:=hb1.trans (((Below.refl _ _).alloc (by omega) (.cells #[.int .i64 kc,.int .u64 u] 114)).trans (hb2.mono (by simp;omega)));replace bR:=bR.below hb2 (by simp;omega);replace bX:=bX.below hb2 (by simp);have r0:=bR.cell 0 (v:=.int .i64 0) rfl;have r1:=bR.cell 1 (v:=.int .u64 0) rfl;have f0:=bR.frozen 0;have f1:=bR.frozen 1;have x0:=bX.cell 0 (v:=.int .i64 kc) rfl;have x1:=bX.cell 1 (v:=.int .u64 u) rfl;clear hS hpu hk hEW hE1 hE hb1;generalize nmStr kc u=tx at *
 by_cases hq:tx=c :: r
 focus
  have hq':(tx==c :: r)=true:=by simp [hq]
  have hfin:Hid (pn=(kc,(u:Int))):=by have h:=hpn;simp only [Hid] at h ⊢;rw [h,if_pos hq]
  clear hq hpn;go_wp2;refine bodyPost_ret (v:=.agg #[.int .i64 kc,.int .u64 u]) (by simp [results,results63,go_sem, *]) rfl ⟨by rw [show pn=_ from hfin];rfl,?_⟩
 rotate_left
 focus
  have hq':(tx==c :: r)=false:=by simp [hq]
  have hfin:Hid (pn=(0,0)):=by have h:=hpn;simp only [Hid] at h ⊢;rw [h,if_neg hq]
  clear hq hpn;go_wp2;refine bodyPost_ret (v:=.agg #[.int .i64 0,.int .u64 0]) (by simp [results,results63,go_sem, *]) rfl ⟨by rw [show pn=_ from hfin];rfl,?_⟩
 rotate_left
 all_goals
  exact(hbF.setCell (p:=⟨w.heap.size,0,none⟩) (Nat.le_refl _) _).setCell (p:=⟨w.heap.size,1,none⟩) (Nat.le_refl _) _
theorem Tryz.Xo1 (c:UInt8) (r:List UInt8) (hp:∀ u,Lib.parseUintB 64 r ≠ .ok u) (hl:r.length<=1000000) (w:World) (hE:Env w) (h6:6<=w.heap.size) :
  Calls prog 63 #[.string ⟨(c :: r).toArray⟩] w fun e w'=>e=.returned (nmV (parseN (c :: r)))/\Below w.heap.size w w':=by
 have hx:(⟨(c :: r).toArray⟩:ByteArray).extract 1 (r.length+1)=⟨r.toArray⟩:=Xfn c r;have hE1:Env (w.alloc (.cells #[.int .i64 0,.int .u64 0] 114)):=hE.below ((Below.refl _ w).alloc (Nat.le_refl _) _) h6
 have hpu:Calls prog 118 #[.string ⟨r.toArray⟩,.int .i64 10,.int .i64 64] (w.alloc (.cells #[.int .i64 0,.int .u64 0] 114)) fun e w'=>∃(z:Int) (tp:TypeId) (p:Value),e=.returned (.tuple #[.int .u64 z,.iface tp p])/\Below (w.heap.size+1) (w.alloc (.cells #[.int .i64 0,.int .u64 0] 114)) w':=by
  have hsz:(⟨r.toArray⟩:ByteArray).size<=281474976710656:=by simp [ByteArray.size];omega
  cases hpp:Lib.parseUintB 64 r with
  | ok u=>exact absurd hpp (hp u)
  | range =>
   obtain⟨tp,p,hv⟩:=hE1.rng;have h:=Any.strconv_ParseUint_10_at64_range_var Vo ⟨r.toArray⟩ hsz hpp tp p _ hv
   exact h.mono fun e w' ⟨N,h1,_,_,h4⟩=>⟨_,_,_,h1,by simpa using h4⟩
  | _ =>
   obtain⟨tp,p,hv⟩:=hE1.syn;have h:=Any.strconv_ParseUint_10_at64_syntax_var Vo ⟨r.toArray⟩ hsz hpp tp p _ hv
   exact h.mono fun e w' ⟨N,h1,_,_,h4⟩=>⟨_,_,_,h1,by simpa using h4⟩
 have hk:=fun W=>kindOf c W
 have hpn:Hid (parseN (c :: r)=(0,0)):=by
  show _=_
  cases hh:Lib.parseUintB 64 r with
  | ok u=>exact absurd hh (hp u)
  | _=>simp only [parseN,hh]
 generalize parseN (c :: r)=pn at *;generalize kindI c=kc at *;clear hp;go_enter func63,ntmps63
 go_wp2_with (first
  | (go_at_call 118;refine hpu.mono ?_;rintro e w1 ⟨z,tp,p,rfl,hw1⟩;have bR:=(BoxN.new w 114 #[.int .i64 0,.int .u64 0]).below hw1 (by simp);have hlt:=bR.lt;have r0:=bR.cell 0 (v:=.int .i64 0) rfl;have r1:=bR.cell 1 (v:=.int .u64 0) rfl;have f0:=bR.frozen 0;have f1:=bR.frozen 1)
  | (go_at_call 119;refine(hk _).mono ?_;rintro e w' ⟨rfl,rfl⟩))
 refine bodyPost_ret (v:=.agg #[.int .i64 0,.int .u64 0]) (by simp [results,results63,go_sem, *]) rfl ⟨by rw [show pn=_ from hpn];rfl,?_⟩;have hbF:=((Below.refl w.heap.size w).alloc (Nat.le_refl _) (.cells #[.int .i64 0,.int .u64 0] 114)).trans (hw1.mono (by omega));exact((hbF.setCell (p:=⟨w.heap.size,0,none⟩) (Nat.le_refl _) _).setCell (p:=⟨w.heap.size,1,none⟩) (Nat.le_refl _) _).alloc (by simp;omega) _
theorem Tryz.parse (s:ByteArray) (hl:s.size<=1000000) (w:World) (hE:Env w) (h6:6<=w.heap.size) :
  Calls prog 63 #[.string s] w fun e w'=>e=.returned (nmV (parseN s.data.toList))/\Below w.heap.size w w':=by
 obtain⟨⟨l⟩⟩:=s
 cases l with
 | nil=>exact Xo0 w
 | cons c r =>
  have hl':r.length<=1000000:=by simp [ByteArray.size] at hl;omega
  cases hp:Lib.parseUintB 64 r with
  | ok u=>exact Xr1 c r u hp hl' w hE h6
  | _=>exact Xo1 c r (by rw [hp];simp) hl' w hE h6
theorem Xdq (M:Nat) (c:UInt8) (h1:48<=c.toNat) (h2:c.toNat<=57):∀(l:List UInt8) (acc u:Nat),Lib.parseUintM M acc l=.ok u->u<1844674407370955162->u*10+(c.toNat-48)<=M->Lib.parseUintM M acc (l ++ [c])=.ok (u*10+(c.toNat-48))
 | [],acc,u,h,hu,hm=>by
  have e:acc=u:=by simpa [Lib.parseUintM] using h
  subst e;simp only [List.nil_append,Lib.parseUintM];rw [if_pos ⟨h1,h2⟩,if_neg (by omega),if_neg (by omega)]
 | d :: l,acc,u,h,hu,hm=>by
  simp only [List.cons_append,Lib.parseUintM] at h ⊢
  split at h
  ·split at h
   ·cases h
   split at h
   ·cases h
   rename_i a b c'
   rw [if_pos a,if_neg b,if_neg c'];exact Xdq M c h1 h2 l _ u h hu hm
  cases h
theorem Xg4 (d:Nat) (h:d<10):(UInt8.ofNat (48+d)).toNat=48+d:=by simp;omega
theorem Xk8 (u:Nat) (hu:u<=18446744073709551615):Lib.parseUintM 18446744073709551615 0 (Lib.decDigits u)=.ok u:=by
 induction u using Nat.strongRecOn with
 | ind u ih =>
  by_cases h:u<10
  ·rw [Lib.decDigits_one h]
   have hd:=Xg4 u h;simp only [Lib.parseUintM,hd];rw [if_pos ⟨by omega,by omega⟩,if_neg (by omega),if_neg (by omega)]
   congr 1
   omega
  rw [Lib.decDigits,dif_neg h];have hd:=Xg4 (u % 10) (by omega);have:=Xdq 18446744073709551615 (UInt8.ofNat (48+u % 10)) (by omega) (by omega) _ 0 (u / 10) (ih (u / 10) (by omega) (by omega)) (by omega) (by omega);rw [this,hd]
  congr 1
  omega
theorem Xfe (u:Nat):Lib.decDigits u ≠ []:=by
 rw [Lib.decDigits]
 split <;> simp
theorem Vx (u:Nat) (hu:u<18446744073709551616):Lib.parseUintB 64 (Lib.decDigits u)=.ok u:=by
 unfold Lib.parseUintB;rw [if_neg (Xfe u)];exact Xk8 u (by omega)
theorem Xm7 {u v:Nat} (hu:u<18446744073709551616) (hv:v<18446744073709551616) (h:Lib.decDigits u=Lib.decDigits v):u=v:=by
 have h1:=Vx u hu;rw [h,Vx v hv] at h1;injection h1 with h1;exact h1.symm
def kd (tk:Bool):Int:=if tk then 1 else 2
theorem ThingD.U5 (t:ThingD):t.id=nmStr (kd t.token) t.n:=by
 cases h:t.token <;> simp [ThingD.id,nmStr,kd,h]
theorem Xc1 {a b:Bool} {n m:Nat} (hn:n<Xo) (hm:m<Xo) (h:nmStr (kd a) n=nmStr (kd b) m):a=b/\n=m:=by
 cases a <;> cases b <;> simp [nmStr,kd] at h
 ·exact⟨rfl,Xm7 hn hm h⟩
 exact⟨rfl,Xm7 hn hm h⟩
theorem Xag (tk:Bool) {n:Nat} (h:n<Xo):parseN (nmStr (kd tk) n)=(kd tk,(n:Int)):=by
 cases tk
 ·show parseN (108 :: Lib.decDigits n)=_
  simp only [parseN,Vx n h];rw [if_pos (show nmStr (kindI 108) n=108 :: Lib.decDigits n from rfl)];rfl
 show parseN (116 :: Lib.decDigits n)=_
 simp only [parseN,Vx n h];rw [if_pos (show nmStr (kindI 116) n=116 :: Lib.decDigits n from rfl)];rfl
theorem M5 {s:List UInt8} {tk:Bool} {n:Nat} (h:parseN s=(kd tk,(n:Int))):s=nmStr (kd tk) n:=by
 have h0:kd tk≠0:=by cases tk <;> decide
 match s,h with
 | [],h=>exact absurd (Prod.mk.inj h).1.symm h0
 | c :: r,h =>
  simp only [parseN] at h
  split at h
  ·split at h
   ·rename_i u _ he
    obtain⟨e1,e2⟩:=Prod.mk.inj h
    have:u=n:=by omega
    subst this;rw [<- e1,he]
   exact absurd (Prod.mk.inj h).1.symm h0
  exact absurd (Prod.mk.inj h).1.symm h0
theorem Xam (s:List UInt8):Zr (parseN s):=by
 match s with
 | []=>exact⟨by decide,by decide⟩
 | c :: r =>
  simp only [parseN]
  split
  ·split
   ·rename_i u hu _
    have h64:=Xi1 hu;refine⟨?_,?_⟩
    ·show (Lit.int .i64 (kindI c)).wf=true
     unfold kindI
     split
     ·decide
     split <;> decide
    show (Lit.int .u64 (u:Int)).wf=true
    simp [Lit.wf,IntKind.min,IntKind.max,IntKind.bits,IntKind.signed];omega
   exact⟨by decide,by decide⟩
  exact⟨by decide,by decide⟩
def thT (t:Xd):ThingD:=⟨true,t.n,if t.ak=1 then (t.au:Int) else -1,[],t.at_,0,t.pd,t.tr⟩
def thL (l:Xc):ThingD:=⟨false,l.n,(l.au:Int),l.pth,l.at_,l.last,l.pd,l.tr⟩
structure Rel (tks:List Xd) (lks:List Xc) (L:List ThingD):Prop where
 toks:L.filter (fun t=>t.token==true)=tks.map thT
 leas:L.filter (fun t=>t.token==false)=lks.map thL
 akT:∀ t∈tks,t.ak=1\/t.ak=0
 akL:∀ l∈lks,l.ak=1
theorem Xcp (L:List ThingD):L.length=(L.filter (fun t=>t.token==true)).length+(L.filter (fun t=>t.token==false)).length:=by
 induction L with
 | nil=>rfl
 | cons x L ih=>cases h:x.token <;> simp [h] at ih ⊢ <;> omega
theorem Xco {α:Type} {f:α->Nat}:∀ {l:List α},l.Pairwise (fun a b=>f a<f b)->∀ {x y:α},x∈l->y∈l->f x=f y->x=y
 | [],_,_,_,hx,_,_=>by cases hx
 | a :: l,h,x,y,hx,hy,he=>by
  obtain⟨h1,h2⟩:=List.pairwise_cons.1 h
  rcases List.mem_cons.1 hx with rfl | hx' <;> rcases List.mem_cons.1 hy with rfl | hy'
  ·rfl
  ·have:=h1 y hy';omega
  ·have:=h1 x hx';omega
  exact Xco h2 hx' hy' he
section
variable {tks:List Xd} {lks:List Xc} {L:List ThingD}
theorem Rel.len (h:Rel tks lks L):L.length=tks.length+lks.length:=by
 rw [Xcp L,h.toks,h.leas,List.length_map,List.length_map]
theorem Rel.Xsa (h:Rel tks lks L):countI true L=tks.length:=by rw [countI,h.toks,List.length_map]
theorem Rel.countL (h:Rel tks lks L):countI false L=lks.length:=by rw [countI,h.leas,List.length_map]
theorem Rel.Zj (h:Rel tks lks L) {x:ThingD} (hx:x∈L) (ht:x.token=true):∃ t∈tks,thT t=x:=by
 have:x∈L.filter (fun t=>t.token==true):=List.mem_filter.2 ⟨hx,by simp [ht]⟩;rw [h.toks] at this
 simpa using this
theorem Rel.Mi (h:Rel tks lks L) {x:ThingD} (hx:x∈L) (ht:x.token=false):∃ t∈lks,thL t=x:=by
 have:x∈L.filter (fun t=>t.token==false):=List.mem_filter.2 ⟨hx,by simp [ht]⟩;rw [h.leas] at this
 simpa using this
theorem Rel.Vh (h:Rel tks lks L) {t:Xd} (ht:t∈tks):thT t∈L:=by
 have:thT t∈L.filter (fun t=>t.token==true):=by rw [h.toks];exact List.mem_map.2 ⟨t,ht,rfl⟩
 exact(List.mem_filter.1 this).1
theorem Rel.Xcl (h:Rel tks lks L) {t:Xc} (ht:t∈lks):thL t∈L:=by
 have:thL t∈L.filter (fun t=>t.token==false):=by rw [h.leas];exact List.mem_map.2 ⟨t,ht,rfl⟩
 exact(List.mem_filter.1 this).1
theorem Rel.Xkr (h:Rel tks lks L) (ok:Xx tks lks) {x y:ThingD} (hx:x∈L) (hy:y∈L) (ht:x.token=y.token) (hn:x.n=y.n):x=y:=by
 cases hb:x.token
 ·obtain⟨a,ha,rfl⟩:=h.Mi hx hb
  obtain⟨b,hb',rfl⟩:=h.Mi hy (ht ▸ hb);rw [Xco ok.incL ha hb' hn]
 obtain⟨a,ha,rfl⟩:=h.Zj hx hb;obtain⟨b,hb',rfl⟩:=h.Zj hy (ht ▸ hb);rw [Xco ok.incT ha hb' hn]
theorem Rel.num (h:Rel tks lks L) (ok:Xx tks lks) {x:ThingD} (hx:x∈L):x.n<Xo:=by
 cases hb:x.token
 ·obtain⟨a,ha,rfl⟩:=h.Mi hx hb
  exact(ok.limL a ha).1
 obtain⟨a,ha,rfl⟩:=h.Zj hx hb;exact(ok.limT a ha).1
theorem Rel.infos (h:Rel tks lks L) (tm:Int):infosOf tm tks lks=Xdd tm L:=by
 unfold infosOf Xdd Jk;rw [h.toks,h.leas,List.map_map,List.map_map]
 congr 1
 ·refine List.map_congr_left fun t ht=>?_
  rcases h.akT t ht with e | e <;> cases hp:t.pd <;> simp [Xd.info,ThingD.info,ThingD.id,ThingD.state,thT,nmStr,ofStr,e,hp] <;> omega
 refine List.map_congr_left fun l hl=>?_
 have e:=h.akL l hl
 cases hp:l.pd <;> simp [Xc.info,ThingD.info,ThingD.id,ThingD.state,thL,nmStr,ofStr,e,hp]
 by_cases hc:tm<l.at_
 ·rw [if_pos hc,if_neg (by omega)]
 rw [if_neg hc,if_pos (by omega)]
theorem Uf:∀(L:List ThingD) (m m':Int),L.foldl (fun m t=>min m t.at_) (min m m')=min ((L.filter (fun t=>t.token==true)).foldl (fun m t=>min m t.at_) m) ((L.filter (fun t=>t.token==false)).foldl (fun m t=>min m t.at_) m')
 | [],_,_=>rfl
 | x :: L,m,m'=>by
  cases h:x.token
  ·have:=Uf L m (min m' x.at_)
   simp only [List.foldl_cons,List.filter_cons,h];rw [<- Int.min_assoc] at this
   simpa using this
  have:=Uf L (min m x.at_) m';simp only [List.foldl_cons,List.filter_cons,h];rw [show min (min m x.at_) m'=min (min m m') x.at_ by omega] at this
  simpa using this
theorem Ug:∀(xs:List InfoD) (m m':Int),xs.foldl (fun m x=>min m x.at_) (min m m')=min m (xs.foldl (fun m x=>min m x.at_) m')
 | [],_,_=>rfl
 | x :: xs,m,m'=>by
  simp only [List.foldl_cons];rw [Int.min_assoc];exact Ug xs m (min m' x.at_)
theorem Rel.next (h:Rel tks lks L) (tm:Int):minAt (infosOf tm tks lks)=minT L:=by
 have h1:=Uf L 18446744073709551615 18446744073709551615;rw [h.toks,h.leas,List.foldl_map,List.foldl_map] at h1;rw [show min (18446744073709551615:Int) 18446744073709551615=18446744073709551615 by omega] at h1;rw [minT,h1];unfold minAt infosOf Mv;rw [List.foldl_append,List.foldl_map,List.foldl_map];have h2:=Ug (lks.map (Xc.info tm)) (tks.foldl (fun m t=>min m t.info.at_) 18446744073709551615) 18446744073709551615;rw [List.foldl_map,List.foldl_map] at h2
 have h3:min (tks.foldl (fun m t=>min m t.info.at_) 18446744073709551615) 18446744073709551615=tks.foldl (fun m t=>min m t.info.at_) 18446744073709551615:=by
  have h4:=Ug (tks.map Xd.info) 18446744073709551615 18446744073709551615;rw [List.foldl_map,List.foldl_map,show min (18446744073709551615:Int) 18446744073709551615=18446744073709551615 by omega] at h4;omega
 rw [h3] at h2;exact h2
theorem Xal {tm:Int} {id:List UInt8} {tk:Bool} {i:Nat} {t:ThingD} (hid:t.id=id) (htk:t.token=tk) (hn:t.n<Xo) (_:liveI tm id tk L=i):parseN id=(kd tk,(t.n:Int)):=by
 rw [<- hid,ThingD.U5,Xag _ hn,htk]
theorem Rel.Xhg (h:Rel tks lks L) (ok:Xx tks lks) {tm:Int} {id:List UInt8} {tk:Bool} (hl:liveI tm id tk L = -1) {x:ThingD} (hx:x∈L) (htk:x.token=tk) (hst:x.state tm=1):parseN id≠(kd tk,(x.n:Int)):=by
 intro hp
 have hid:x.id=id:=by rw [M5 hp,ThingD.U5,htk]
 unfold liveI at hl
 cases he:L.findIdx? (fun t=>t.id==id) with
 | none =>
  have:=List.findIdx?_eq_none_iff.1 he x hx;simp [hid] at this
 | some j =>
  obtain⟨hlt,hj,-⟩:=List.findIdx?_eq_some_iff_getElem.1 he
  have hg:L[j]? = some L[j]:=by simp [hlt]
  have hjm:L[j]∈L:=List.getElem_mem hlt
  have hj':nmStr (kd L[j].token) L[j].n=nmStr (kd x.token) x.n:=by
   rw [<- ThingD.U5,<- ThingD.U5,hid]
   simpa using hj
  obtain⟨e1,e2⟩:=Xc1 (h.num ok hjm) (h.num ok hx) hj';have e:=h.Xkr ok hjm hx e1 e2;rw [he] at hl;simp only [hg,e,htk,hst] at hl;simp at hl
theorem Rel.snocT (h:Rel tks lks L) (t:Xd) (hk:t.ak=1):Rel (tks ++ [t]) lks (L ++ [thT t]):=
 ⟨by rw [List.filter_append,h.toks,List.map_append];rfl,by rw [List.filter_append,h.leas];simp [thT],fun x hx=>by
  rcases List.mem_append.1 hx with hx | hx
  ·exact h.akT x hx
  rw [List.mem_singleton.1 hx];exact .inl hk,h.akL⟩
theorem Rel.snocL (h:Rel tks lks L) (t:Xc) (hk:t.ak=1):Rel tks (lks ++ [t]) (L ++ [thL t]):=
 ⟨by rw [List.filter_append,h.toks];simp [thL],by rw [List.filter_append,h.leas,List.map_append];rfl,h.akT,fun x hx=>by
  rcases List.mem_append.1 hx with hx | hx
  ·exact h.akL x hx
  rw [List.mem_singleton.1 hx];exact hk⟩
end
theorem Xen:∀(L:List ThingD) (i:Nat) (t:ThingD),L[i]? = some t->t.token=false->∃ k,(L.filter (fun t=>t.token==false))[k]? = some t/\∀ y:ThingD,y.token=false->(L.set i y).filter (fun t=>t.token==false)=(L.filter (fun t=>t.token==false)).set k y/\(L.set i y).filter (fun t=>t.token==true)=L.filter (fun t=>t.token==true)
 | [],_,_,h,_=>by simp at h
 | x :: L,0,t,h,ht=>by
  obtain rfl:x=t:=by simpa using h
  exact⟨0,by simp [ht],fun y hy=>by simp [ht,hy]⟩
 | x :: L,i+1,t,h,ht=>by
  obtain⟨k,hk,hy⟩:=Xen L i t (by simpa using h) ht;cases hx:x.token
  ·refine⟨k+1,by simpa [hx] using hk,fun y hyt=>?_⟩
   obtain⟨h1,h2⟩:=hy y hyt;exact⟨by simpa [hx] using h1,by simpa [hx] using h2⟩
  refine⟨k,by simpa [hx] using hk,fun y hyt=>?_⟩;obtain⟨h1,h2⟩:=hy y hyt;exact⟨by simpa [hx] using h1,by simpa [hx] using h2⟩
theorem Rel.Xsd {tks:List Xd} {lks:List Xc} {L:List ThingD} (h:Rel tks lks L) {i:Nat} {t:ThingD} (hi:L[i]? = some t) (ht:t.token=false) :
  ∃(k:Nat) (l:Xc),lks[k]? = some l/\thL l=t/\∀ a:Int,Rel tks (lks.set k { l with at_:=a }) (L.set i { t with at_:=a }):=by
 obtain⟨k,hk,hy⟩:=Xen L i t hi ht;rw [h.leas,List.getElem?_map] at hk;obtain⟨l,hl,rfl⟩:=Option.map_eq_some_iff.1 hk;refine⟨k,l,hl,rfl,fun a=>?_⟩;obtain⟨h1,h2⟩:=hy { (thL l) with at_:=a } rfl;refine⟨by rw [h2,h.toks],?_,h.akT,fun x hx=>?_⟩
 ·rw [h1,h.leas,List.map_set]
  rfl
 rcases List.mem_or_eq_of_mem_set hx with hx | rfl
 ·exact h.akL x hx
 exact h.akL l (List.mem_of_getElem? hl)
end Go.Proofs
