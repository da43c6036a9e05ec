import Derived.Test.YtjbekgjdempbiaaGreatDoorJClG
set_option maxRecDepth 100000
set_option maxHeartbeats 8000000
namespace Go.Proofs
open Go.RowKit Go.Sort Go.Lib Go.Shelf Go.Maps Go.WideMaps
attribute [local go_sem] and1_any
theorem Tryz.climbedB (a0:Option Addr) (cap:Nat) (us:List Int) (x y z:Int) (x0 : -9223372036854775808≤x) (x1:x≤9223372036854775807) (y0 : -9223372036854775808≤y) (y1:y≤9223372036854775807) (z0 : -9223372036854775808≤z) (z1:z≤9223372036854775807) (w:World) (hus:IntIn w a0 us) (hub:∀ u∈us,-9223372036854775808≤u∧u≤9223372036854775807) (hn6:6<us.length) (hcap:us.length≤cap) (hc63:cap≤9223372036854775807) (h9:9≤w.heap.size) (hE:Env w) (hT:ErrT w) :
  Calls prog 10 #[.slice a0 us.length cap,.int .i64 x,.int .i64 y,.int .i64 z] w fun e w'=>e=.returned (.bool true)∧Below w.heap.size w w':=by
 have hw:=fun W=>well W
 unfold fallV at hw
 obtain⟨n,hn⟩:∃ n,us.length=n:=⟨_,rfl⟩
 rw [hn] at hcap ⊢;have Hn:=hid_intro hn;clear hn;have hlt:=paU_lt us
 have hpx:=fun(j:Nat) (u:Int) (hu:us[j]? = some u)=>paU_at hu
 generalize paU us=pa at *;obtain⟨i0,hi,hz0,hz1,hz2⟩:=info_parts strInfo;obtain⟨i3,hi3,hz30,hz31,hz32⟩:=info_parts intInfo;go_enter func10,ntmps10
 go_wp2_with (go_at_call 15;refine(opened _ h9 hE hT).mono ?_;rintro e w1 ⟨hb,rb,kk,vx,c,rfl,hS1,hc,hb1⟩)
 refine(hw _).mono ?_;rintro e w2 ⟨rfl,hb2⟩;have hba:Below w2.heap.size w2 (w2.alloc (.cells #[.int .i64 (-1),.int .i64 (-1),.int .i64 0,.int .i64 0] 29)):=(Below.refl _ w2).alloc (Nat.le_refl _) _;have hb13:=hb2.trans (hba.mono hb2.size);have hS3:=hS1.below hb13;have bF3:=BoxN.new w2 29 #[.int .i64 (-1),.int .i64 (-1),.int .i64 0,.int .i64 0];have hb03:=hb1.trans (hb13.mono hb1.size);clear hw hS1 hb2 hba hb13;generalize hfb:w2.heap.size=fb at *
 obtain⟨w3,hw3⟩:∃ W,W=(w2.alloc (.cells #[.int .i64 (-1),.int .i64 (-1),.int .i64 0,.int .i64 0] 29)):=⟨_,rfl⟩
 rw [← hw3] at hS3 bF3 hb03
 have hz3:w3.heap.size=fb+1:=by rw [hw3,World.size_alloc,hfb]
 have ba:Below w3.heap.size w3 ((w3.alloc (.cells #[.string ⟨#[116,48]⟩] 9)).alloc (.cells #[.int .i64 (-1)] 3)):=((Below.refl _ w3).alloc (Nat.le_refl _) _).alloc (by simp) _
 have r11:((w3.alloc (.cells #[.string ⟨#[116,48]⟩] 9)).alloc (.cells #[.int .i64 (-1)] 3)).ownsRow w.heap.size 9 1 (.slice (some ⟨fb+1,0,none⟩) 1 1) 1 (idV 0):=by
  have:=(row_new (W:=w3) (B:=w.heap.size) hb03.size 9 (.string ⟨#[116,48]⟩)).alloc (.cells #[.int .i64 (-1)] 3);rw [hz3] at this;exact this
 have r12:((w3.alloc (.cells #[.string ⟨#[116,48]⟩] 9)).alloc (.cells #[.int .i64 (-1)] 3)).ownsRow w.heap.size 3 1 (.slice (some ⟨fb+1+1,0,none⟩) 1 1) 1 (ofV pa 0):=by
  have:=row_new (W:=w3.alloc (.cells #[.string ⟨#[116,48]⟩] 9)) (B:=w.heap.size) (by rw [World.size_alloc];have:=hb03.size;omega) 3 (.int .i64 (-1));rw [World.size_alloc,hz3] at this;exact this
 have hS4:=hS3.below ba;have bF4:=bF3.below ba bF3.lt;have hb04:=hb03.trans (ba.mono hb03.size);clear hS3 bF3 hb03 ba
 have h6n:6<n:=by have:=hid_elim Hn;omega
 clear hn6
 ·have h6':(6:Int)<(n:Int):=by omega
  have h6c:(6:Int)≤(cap:Int):=by omega
  go_wp2
  obtain⟨m,hm⟩:∃ m:Nat,m=6:=⟨_,rfl⟩
  rw [show Value.slice a0 6 cap=Value.slice a0 m cap by rw [hm]]
  have h6:¬ 6<m:=by omega
  have Hm:Hid (m≤us.length):=hid_intro (by have:=hid_elim Hn;omega);clear Hn;have Hn:=Hm;clear h6' h6c h6n hm Hm
  go_loopw [11,12,13,14] (fun v11 v12 v13 i wr=>∃ j:Nat,j≤m∧i=.int .i64 j∧∃(c:List UInt8),c.length≤300000000+2600000*j∧Sys w.heap.size wr hb rb ⟨kk,vx,100,⟨j,j+1,tkL pa j,leL j⟩,c⟩∧wr.ownsRow w.heap.size 9 1 v11 (j+1) (idV j)∧wr.ownsRow w.heap.size 3 1 v12 (j+1) (ofV pa j)∧wr.ownsRow w.heap.size 9 1 v13 j (mkI 2 j)∧(∀ g,v13.ownBlock=some g→0<j∧v11.ownBlock≠some g)∧BoxN wr fb 29 #[.int .i64 (-1),.int .i64 (-1),.int .i64 0,.int .i64 0]∧Below w.heap.size w wr) (fun _ _ _ i _=>m-(intOf i).toNat)
  case atStart =>
   subst hw3;exact⟨0,Nat.zero_le _,rfl,c,by omega,hS4,r11,r12,World.ownsRow_nil _ _ _ _,(fun g hg=>by cases hg),bF4,hb04⟩
  case round =>
   clear hS4 bF4 hb04 r11 r12 hw3 hz3;obtain⟨j,hj,rfl,c,hc,hS,hr11,hr12,hr13,hs13,bF,hbw⟩:=hrel;have hcne:=hS.cne (by simp)
   by_cases hltN:j<m
   ·have hltI:(j:Int)<((m:Nat):Int):=by omega
    obtain⟨u,hu⟩:∃ u,us[j]? = some u:=⟨us[j]'(by have:=hid_elim Hn;omega),by simp⟩
    obtain⟨q,off,rfl,hq,hcell⟩:=hus j u hu;have hcw:wr.cell? ⟨q,off+j,none⟩=some (.int .i64 u):=(hbw.cell (p:=⟨q,off+j,none⟩) hq).trans hcell;obtain⟨ub0,ub1⟩:=hub u (List.mem_of_getElem? hu)
    have hP:=fun W=>kPick u ((j:Int)+1) ub0 ub1 (by omega) (by omega) W
    have hpj:=hpx j u hu;rw [show ((j+1:Nat):Int)=(j:Int)+1 by omega] at hpj;rw [hpj] at hP;have hplt:=hlt (j+1) (by omega);have hTk:Hid (tkL pa (j+1)=tkL pa j ++ [newT (j+1) (pa (j+1))]):=hid_intro rfl;have hOf:Hid (ofV pa (j+1)=ofV pa j ++ [.int .i64 (pa (j+1))]):=hid_intro rfl;clear hpj;generalize pa (j+1)=p at *
    have hpI:(p:Int)<(j:Int)+1:=by omega
    obtain⟨p11,c11,rfl⟩:=row_form hr11;obtain⟨g11,rfl,lg11,hc11⟩:=row_at hr11 (idV_get j p (by omega));obtain⟨t,ht,htn,htp⟩:=tkL_at (pa:=pa) (j:=j) p (by omega);have hS0:Sys w.heap.size wr.drew hb rb _:=hS.below (Below.refl _ wr).drew;have hP0:BlP g11 p fb (nmStr 1 p) wr.drew:=BlP.of (t:=29) hc11 bF;have hC:=kCreate hS0 t ht htp (by rw [tkL_len];omega) (by omega) (by omega) 0 0;rw [htn] at hC;unfold fallV at hC
    have hnoS:∀ {v:Value} {m:Nat} {ys:List Value},wr.ownsRow w.heap.size 9 1 v m ys→∀ g,v.ownBlock=some g→g∉kk.turns:=fun hr g hg=>by
     obtain⟨-,cur,hcu⟩:=row_box hr hg;exact hS.wh.no hcu (by decide) (by decide)
    have hnoI:∀ {v:Value} {m:Nat} {ys:List Value},wr.ownsRow w.heap.size 3 1 v m ys→∀ g,v.ownBlock=some g→g∉kk.turns:=fun hr g hg=>by
     obtain⟨-,cur,hcu⟩:=row_box hr hg;exact hS.wh.no hcu (by decide) (by decide)
    have hcS:∀ W',Spares kk.turns wr.drew W'→W'.cell? ⟨g11,p,none⟩=some (.string ⟨(nmStr 1 p).toArray⟩):=fun W' hs=>by
     obtain⟨g,e,-,hcc⟩:=row_at (Spares.row' (W:=wr.drew) hs hr11 (hnoS hr11)) (idV_get j p (by omega));cases e;exact hcc
    go_wp2_with (go_at_call 17;refine(hP _).mono ?_;rintro e w4 ⟨rfl,hw4⟩;have hw4:=hw4.symm;subst hw4)
    go_region_held3 (BlP g11 p fb (nmStr 1 p)) (first
     | with_reducible exact hP0
     | with_reducible exact hP5
     | with_reducible assumption) (first
     | (go_at_call 25;refine hC.mono ?_;rintro e w5 ⟨rfl,⟨c5,hc5,hS5⟩,hs5⟩;have bF5:=Spares.box (W:=wr.drew) hs5 bF (hS0.wh.no (W:=wr.drew) bF (by decide) (by decide));have hb05:Below w.heap.size w w5:=hbw.drew.trans (hs5.below (by have:=hbw.size;exact this) (fun q hq=>hS0.low q hq));have hP5:BlP g11 p fb (nmStr 1 p) w5:=BlP.of (hcS w5 hs5) bF5))
    obtain⟨-,g0,g1,g2,g3⟩:=hP5;have r11:w5.ownsRow w.heap.size 9 1 (.slice (some ⟨g11,0,none⟩) (j+1) c11) (j+1) (idV j):=Spares.row' (W:=wr.drew) hs5 hr11 (hnoS hr11);have r12:w5.ownsRow w.heap.size 3 1 u12 (j+1) (ofV pa j):=Spares.row' (W:=wr.drew) hs5 hr12 (hnoI hr12);have r13:w5.ownsRow w.heap.size 9 1 u13 j (mkI 2 j):=Spares.row' (W:=wr.drew) hs5 hr13 (hnoS hr13);have hI:=kIssue hS5 (newT (j+1) p) (by simp) rfl [112] (by decide) 1000 1000 (by omega) (by omega) (by omega) (by rw [leL_len];omega) (by omega) (by omega) (by omega) 0 0;rw [show (newT (j+1) p).n=j+1 from rfl] at hI;unfold fallV at hI;clear hC hP hP0 hcS hS0 hnoS hnoI hr11 hr12 hr13 hs5 bF hbw hS hcw;have hz5:=hb05.size
    go_wp2_with fail
    refine hI.mono ?_;rintro e w6 ⟨rfl,⟨c6,hc6,hS6⟩,hs6⟩
    have hnoS:∀ {v:Value} {m:Nat} {ys:List Value},w5.ownsRow w.heap.size 9 1 v m ys→∀ g,v.ownBlock=some g→g∉kk.turns:=fun hr g hg=>by
     obtain⟨-,cur,hcu⟩:=row_box hr hg;exact hS5.wh.no hcu (by decide) (by decide)
    have hnoI:∀ {v:Value} {m:Nat} {ys:List Value},w5.ownsRow w.heap.size 3 1 v m ys→∀ g,v.ownBlock=some g→g∉kk.turns:=fun hr g hg=>by
     obtain⟨-,cur,hcu⟩:=row_box hr hg;exact hS5.wh.no hcu (by decide) (by decide)
    have bF6:=hs6.box bF5 (hS5.wh.no bF5 (by decide) (by decide));have hb06:Below w.heap.size w w6:=hb05.trans (hs6.below hz5 (fun q hq=>hS5.low q hq));have r11':=hs6.row' r11 (hnoS r11);have r12':=hs6.row' r12 (hnoI r12);have r13':=hs6.row' r13 (hnoS r13)
    have hS6':Sys w.heap.size w6 hb rb ⟨kk,vx,100,⟨j+1,j+1+1,tkL pa (j+1),leL (j+1)⟩,c6⟩:=by
     have e1:plusI 100 1000=1100:=by decide
     rw [e1] at hS6;rw [hid_elim hTk];exact hS6
    have hcl:=hid_intro (len_stepD hc6 hc5 hc);have hz6:=hb06.size;have hcne6:=hS6'.cne (by simp)
    have hb11:g11<w6.heap.size∧w.heap.size≤g11:=by
     obtain⟨h1,cur,hcu⟩:=row_box r11' (g:=g11) rfl;exact⟨hcu.lt,h1⟩
    have hb12:∀ g,u12.ownBlock=some g→g<w6.heap.size∧w.heap.size≤g:=fun g hg=>by
     obtain⟨h1,cur,hcu⟩:=row_box r12' hg;exact⟨hcu.lt,h1⟩
    have hb13:∀ g,u13.ownBlock=some g→g<w6.heap.size∧w.heap.size≤g:=fun g hg=>by
     obtain⟨h1,cur,hcu⟩:=row_box r13' hg;exact⟨hcu.lt,h1⟩
    have n1213:∀ g,u12.ownBlock=some g→u13.ownBlock≠some g∧g≠g11:=fun g hg=>by
     obtain⟨-,cur,hcu⟩:=row_box r12' hg;refine⟨fun h=>?_,fun h=>?_⟩
     ·obtain⟨-,cur',hcu'⟩:=row_box r13' h
      exact hcu.ne hcu' (by decide) rfl
     ·obtain⟨-,cur',hcu'⟩:=row_box r11' (g:=g11) rfl
      exact hcu.ne hcu' (by decide) h
    have n1113:u13.ownBlock≠some g11:=fun h=>(hs13 g11 h).2 rfl
    have hs13':∀ g,u13.ownBlock=some g→0<j:=fun g hg=>(hs13 g hg).1
    clear hI hS5 hS6 bF5 hb05 r11 r12 r13 hs6 hnoS hnoI hc6 hc5 hc g0 g1 g2 g3 hTk hcne;have hid1:Hid (idV (j+1)=idV j ++ [.string ⟨(nmStr 1 (j+1)).toArray⟩]):=hid_intro rfl;have hmk:Hid (mkI 2 (j+1)=mkI 2 j ++ [.string ⟨(nmStr 2 (j+1+1)).toArray⟩]):=hid_intro (by rw [mkI,show 2+j=j+1+1 by omega]);generalize nmStr 1 (j+1)=n1 at *;generalize nmStr 2 (j+1+1)=n2 at *
    obtain⟨v11,hv11⟩:∃ v,Value.slice (some ⟨g11,0,none⟩) (j+1) c11=v:=⟨_,rfl⟩
    have Ho11:Hid (v11.ownBlock=some g11):=hid_intro (by rw [← hv11];rfl);rw [hv11] at r11' ⊢;clear hv11
    go_wp2_with (at_builtin;refine wpList_append_lies _ rfl _ _ 40 rfl w.heap.size 9 i0 _ 1 16 underlying40 hi hz0 hz1 hz2 rfl (by decide) v11 (j+1) (idV j) rfl (r11'.alloc _) ⟨w6.heap.size,0,none⟩ 1 1 [.string ⟨n1.toArray⟩] rfl rfl (fun j u hu=>by rw [add_cell];exact(BoxN.new w6 9 #[.string ⟨n1.toArray⟩]).cell j (v:=u) (by simpa using hu)) (by simp [Value.oneCell']) (by decide) (by unfold maxLen;omega) (by omega) (by simp;omega) _ rfl ?_)
    intro h11 cap11 w7 hown11 hgr11 hat11 hlt11;have ho11:=hid_elim Ho11;have lit11:Below w6.heap.size w6 (w6.alloc (.cells #[.string ⟨n1.toArray⟩] 9)):=(Below.refl _ w6).alloc (Nat.le_refl _) _;have hS7:=(hS6'.below lit11).grew (r11'.alloc _) (idV_head j) (fun _ _=>Nat.succ_pos _) hcne6 hgr11;have sp11:Spares [g11] w6 w7:=(Spares.of_below lit11).trans (Spares.of_grownO hgr11 (fun r e=>by rw [ho11] at e;simpa using e.symm))
    have bF7:=sp11.box bF6 (fun hm=>by
     obtain⟨-,cur,hcu⟩:=row_box r11' (g:=g11) ho11
     exact bF6.ne hcu (by decide) (List.mem_singleton.1 hm))
    have r12'':=sp11.row' r12' (fun g hg hm=>(n1213 g hg).2 (List.mem_singleton.1 hm));have r13'':=sp11.row' r13' (fun g hg hm=>n1113 (by rw [← List.mem_singleton.1 hm];exact hg));have hb07:Below w.heap.size w w7:=hb06.trans (sp11.below hz6 (fun g hm=>by rw [List.mem_singleton.1 hm];exact hb11.2));have hz7:=sp11.size
    have n11x:∀ g,(u12.ownBlock=some g∨u13.ownBlock=some g)→g≠h11:=fun g hg e=>by
     subst e
     rcases hat11 with e | e
     ·have e:g11=g:=by rw [ho11] at e;simpa using e
      subst e
      rcases hg with hg | hg
      ·exact(n1213 _ hg).2 rfl
      ·exact n1113 hg
     ·rcases hg with hg | hg
      ·have:=(hb12 _ hg).1;omega
      ·have:=(hb13 _ hg).1;omega
    have R11:=hid_intro hown11
    have l11:h11<w7.heap.size:=by
     obtain⟨-,cur,hcu⟩:=row_box hown11 (g:=h11) rfl;exact hcu.lt
    clear hown11 hgr11 lit11 r11' r12' r13' hS6' bF6 hb06 sp11 hat11
    go_wp2_with (at_builtin;refine wpList_append_lies _ rfl _ _ 24 rfl w.heap.size 3 i3 _ 1 8 underlying24 hi3 hz30 hz31 hz32 rfl (by decide) u12 (j+1) (ofV pa j) rfl (r12''.alloc _) ⟨w7.heap.size,0,none⟩ 1 1 [.int .i64 p] rfl rfl (fun j u hu=>by rw [add_cell];exact(BoxN.new w7 3 #[.int .i64 p]).cell j (v:=u) (by simpa using hu)) (by simp [Value.oneCell']) (by decide) (by unfold maxLen;omega) (by omega) (by simp;omega) _ rfl ?_)
    intro h12 cap12 w8 hown12 hgr12 hat12 hlt12;have lit12:Below w7.heap.size w7 (w7.alloc (.cells #[.int .i64 p] 3)):=(Below.refl _ w7).alloc (Nat.le_refl _) _;have hS8:=(hS7.below lit12).grewI (r12''.alloc _) hgr12;have sp12:Spares u12.ownBlock.toList w7 w8:=(Spares.of_below lit12).trans (Spares.of_grownO hgr12 (fun r e=>by simp [e]))
    have bF8:=sp12.box bF7 (fun hm=>by
     obtain⟨-,cur,hcu⟩:=row_box r12'' (g:=fb) (by simpa using hm)
     exact bF7.ne hcu (by decide) rfl)
    have r11q:=sp12.row' (hid_elim R11) (fun g hg hm=>n11x g (.inl (by simpa using hm)) (by simpa [Value.ownBlock] using hg.symm));have r13q:=sp12.row' r13'' (fun g hg hm=>(n1213 g (by simpa using hm)).1 hg);have hb08:Below w.heap.size w w8:=hb07.trans (sp12.below (by omega) (fun g hm=>(hb12 g (by simpa using hm)).2));have hz8:=sp12.size;have H11:=hid_intro r11q;have R12:=hid_intro hown12
    have r12t:∃ cur,BoxN w8 h12 3 cur:=by
     obtain⟨-,cur,hcu⟩:=row_box hown12 (g:=h12) rfl;exact⟨cur,hcu⟩
    clear hown12 hgr12 lit12 r12'' r13'' hS7 bF7 hb07 sp12 hat12 R11 r11q
    go_wp2_with (at_builtin;refine wpList_append_lies _ rfl _ _ 40 rfl w.heap.size 9 i0 _ 1 16 underlying40 hi hz0 hz1 hz2 rfl (by decide) u13 j (mkI 2 j) rfl (r13q.alloc _) ⟨w8.heap.size,0,none⟩ 1 1 [.string ⟨n2.toArray⟩] rfl rfl (fun j u hu=>by rw [add_cell];exact(BoxN.new w8 9 #[.string ⟨n2.toArray⟩]).cell j (v:=u) (by simpa using hu)) (by simp [Value.oneCell']) (by decide) (by unfold maxLen;omega) (by omega) (by simp;omega) _ rfl ?_)
    intro h13 cap13 w9 hown13 hgr13 hat13 hlt13;have lit13:Below w8.heap.size w8 (w8.alloc (.cells #[.string ⟨n2.toArray⟩] 9)):=(Below.refl _ w8).alloc (Nat.le_refl _) _;have hS9:=(hS8.below lit13).grew (r13q.alloc _) (mkI_head j) hs13' hcne6 hgr13;have sp13:Spares u13.ownBlock.toList w8 w9:=(Spares.of_below lit13).trans (Spares.of_grownO hgr13 (fun r e=>by simp [e]))
    have bF9:=sp13.box bF8 (fun hm=>by
     obtain⟨-,cur,hcu⟩:=row_box r13q (g:=fb) (by simpa using hm)
     exact bF8.ne hcu (by decide) rfl)
    have r11z:=hid_intro (sp13.row' (hid_elim H11) (fun g hg hm=>n11x g (.inr (by simpa using hm)) (by simpa [Value.ownBlock] using hg.symm)))
    have r12z:=hid_intro (sp13.row' (hid_elim R12) (fun g hg hm=>by
     obtain⟨cur,hcu⟩:=r12t;obtain⟨-,cur',hcu'⟩:=row_box r13q (g:=g) (by simpa using hm)
     exact hcu.ne hcu' (by decide) (by simpa [Value.ownBlock] using hg)))
    have hb09:Below w.heap.size w w9:=hb08.trans (sp13.below (by omega) (fun g hm=>(hb13 g (by simpa using hm)).2))
    have hne3:h11≠h13:=fun e=>by
     subst e
     rcases hat13 with e | e
     ·exact n11x _ (.inr e) rfl
     ·omega
    have R13:=hid_intro hown13;clear hown13 hgr13 lit13 r13q hS8 bF8 hb08 sp13 hat13 H11 R12;go_wp2
    go_roundw
    case rel=>exact⟨j+1,by omega,by go_num,c6,hid_elim hcl,hS9,by rw [hid_elim hid1];exact hid_elim r11z,by rw [hid_elim hOf];exact hid_elim r12z,by rw [hid_elim hmk];exact hid_elim R13,(fun g hg=>⟨by omega,fun h=>by
     have e1:h13=g:=by simpa [Value.ownBlock] using hg
     have e2:h11=g:=by simpa [Value.ownBlock] using h
     omega⟩),bF9,hb09⟩
    case measure=>simp [intOf];omega
   ·have hend:¬ (j:Int)<((m:Nat):Int):=by omega
    have hjN:j=m:=by omega
    subst hjN
    by_cases h0:j=0
    ·have hN0:(((j:Nat):Int)==0)=true:=by simp;omega
     go_wp2;go_ret;exact⟨rfl,hbw⟩
    ·have hN0:(((j:Nat):Int)==0)=false:=by simp;omega
     obtain⟨tp,htp,htl⟩:=pick_nat x ((j:Nat):Int) (by omega)
     have hP:=fun W=>kPick x ((j:Nat):Int) x0 x1 (by omega) (by omega) W
     rw [htp] at hP;obtain⟨ud,hud⟩:=exUd (pa:=pa) (tp+1) j (fun i a b=>hlt i a);obtain⟨p11,c11,rfl⟩:=row_form hr11;obtain⟨p12,c12,rfl⟩:=row_form hr12;obtain⟨p13,c13,rfl⟩:=row_form hr13
     have hmk:∀ W,(Instr.makeSlice 52 (.int .i64 ((j:Int)+1)) (.int .i64 ((j:Int)+1))).run prog W=.ok (.slice (some ⟨W.heap.size,0,none⟩) (j+1) (j+1)) (W.alloc (.cells (madeCells #[.bool false] (j+1)) 4)):=fun W=>run_make_row' (P:=prog) 52 4 (.bool false) 1 underlying52 boolInfo rfl .i64 .i64 (j+1) (by omega) (by omega) W
     obtain⟨wr0,hwr0⟩:∃ W,W=wr:=⟨_,rfl⟩
     subst hwr0;have hmk0:=World.rowIs_made wr0 (.bool false) (j+1) 4;have hba:Below wr0.heap.size wr0 (wr0.alloc (.cells (madeCells #[.bool false] (j+1)) 4)):=(Below.refl _ wr0).alloc (Nat.le_refl _) _;have bU:=BoxN.new wr0 4 (madeCells #[.bool false] (j+1));have hsz:(madeCells #[Value.bool false] (j+1)).size=j+1:=size_madeCells _ _
     have hcz:(madeCells #[Value.bool false] (j+1))[0]? = some (.bool (ud 0)):=by rw [hud.1];simp [madeCells]
     generalize madeCells #[Value.bool false] (j+1)=ar0 at *;clear hmk0
     go_wp2_with (go_at_call 17;refine(hP _).mono ?_;rintro e w4 ⟨rfl,hw4⟩;have hw4:=hw4.symm;subst hw4)
     go_loopw [22,23] (fun cv iv wq=>∃ i:Nat,i≤j∧iv=.int .i64 ((i:Int)+1)∧cv=.int .i64 (cntU ud i:Nat)∧∃ ar,BoxN wq wr0.heap.size 4 ar∧ar.size=j+1∧(∀ q,q≤i→ar[q]? = some (.bool (ud q)))∧Spares [wr0.heap.size] (wr0.alloc (.cells ar0 4)) wq) (fun _ iv _=>j+1-(intOf iv).toNat)
     case atStart=>exact⟨0,Nat.zero_le _,rfl,rfl,ar0,bU,hsz,(fun q hq=>by rw [Nat.le_zero.1 hq];exact hcz),Spares.of_below (Below.refl _ _)⟩
     case round =>
      obtain⟨wu,hwu⟩:∃ W,W=wr0.alloc (.cells ar0 4):=⟨_,rfl⟩
      rw [← hwu] at hba bU hrel
      obtain⟨ub,hub0⟩:∃ b,wr0.heap.size=b:=⟨_,rfl⟩
      rw [hub0] at bU hrel ⊢;obtain⟨i,hi',rfl,rfl,ar,bA,har,hac,hsA⟩:=hrel
      have hS1:=(hS.below hba)
      have r11:=ownsRow_below hr11 hba;have r12:=ownsRow_below hr12 hba;have r13:=ownsRow_below hr13 hba;have bF1:=bF.below hba bF.lt;have hb1:=hbw.trans (hba.mono hbw.size)
      have hno:∀ {t:TypeId} {v:Value} {m:Nat} {ys:List Value},t≠4→wu.ownsRow w.heap.size t 1 v m ys→∀ g,v.ownBlock=some g→g ∉ [ub]:=fun ht hr g hg hm=>by
       obtain⟨-,cur,hcu⟩:=row_box hr hg;exact hcu.ne bU ht (List.mem_singleton.1 hm)
      have r11:=hsA.row' r11 (hno (by decide) r11);have r12:=hsA.row' r12 (hno (by decide) r12);have r13:=hsA.row' r13 (hno (by decide) r13);have bF2:=hsA.box bF1 (fun hm=>bF1.ne bU (by decide) (List.mem_singleton.1 hm));have hS2:=hS1.ownBox bU (by rw [← hub0];exact Nat.le_trans hS.b9 hbw.size) (.inr rfl) hsA;have hb2:Below w.heap.size w wr:=hb1.trans (hsA.below hb1.size (fun g hm=>by rw [List.mem_singleton.1 hm,← hub0];exact hbw.size));clear hS1 hno bF1 hS hr11 hr12 hr13 bF
      by_cases hij:i<j
      ·have hij':(i:Int)+1<(j:Int)+1:=by omega
       obtain⟨g12,rfl,lg12,hc12⟩:=row_at r12 (ofV_get pa j (i+1) (by omega));rw [if_neg (by omega)] at hc12;have hpl:=hlt (i+1) (by omega);have hcp:=bA.cell (pa (i+1)) (hac (pa (i+1)) (by omega));have hui:=hud.2 (i+1) (by omega) (by omega);have hcn:Hid (cntU ud (i+1)=cntU ud i+if ud (i+1)=true then 1 else 0):=hid_intro rfl;have hcl:cntU ud i≤i:=cntU_le ud i
       obtain⟨ov,hov⟩:∃ v,ar[i+1]? = some v:=⟨ar[i+1]'(by omega),by simp⟩
       have hco:=bA.cell (i+1) hov;have hfz:=bA.frozen (i+1);have bA':=bA.set (i+1) (.bool (ud (i+1)));have hsA':Spares [ub] wu (wr.setCell ⟨ub,i+1,none⟩ (.bool (ud (i+1)))):=hsA.set (by simp) _ _
       have hac':Hid (∀ q,q≤i+1→(ar.setIfInBounds (i+1) (.bool (ud (i+1))))[q]? = some (.bool (ud q))):=hid_intro (fun q hq=>by
        by_cases e:q=i+1
        ·subst e;exact Array.getElem?_setIfInBounds_self_of_lt (by omega)
        ·rw [Array.getElem?_setIfInBounds_ne (by omega)];exact hac q (by omega))
       have hpI:(pa (i+1):Int)<(j:Int)+1:=by omega
       clear hbw hba hS2 r11 r13 bF2 hb2 hsA hac hmk hP;generalize cntU ud i=cn at *
       by_cases htop:i=tp
       ·have hT:((i:Int)+1==1+(tp:Int))=true:=by simp;omega
        have hu1:ud (i+1)=true:=by rw [hui,show (i+1==tp+1)=true by simpa using htop];rfl
        rw [hu1] at bA' hsA' hac' hcn;clear hui hu1 hcp htop;generalize pa (i+1)=p at *;go_wp2
        go_roundw
        case rel=>exact⟨i+1,by omega,by go_num,by rw [hid_elim hcn];go_num,_,bA',by simpa using har,hid_elim hac',by rw [← hwu];exact hsA'⟩
        case measure=>simp [intOf];omega
       ·have hT:((i:Int)+1==1+(tp:Int))=false:=by simp;omega
        have hu1:ud (pa (i+1))=ud (i+1):=by rw [hui,show (i+1==tp+1)=false by simpa using htop];rfl
        rw [hu1] at hcp;clear hui hu1 htop
        cases hb:ud (i+1) with
        | true =>
         rw [hb] at hcp bA' hsA' hac' hcn;generalize pa (i+1)=p at *;go_wp2
         go_roundw
         case rel=>exact⟨i+1,by omega,by go_num,by rw [hid_elim hcn];go_num,_,bA',by simpa using har,hid_elim hac',by rw [← hwu];exact hsA'⟩
         case measure=>simp [intOf];omega
        | false =>
         rw [hb] at hcp bA' hsA' hac' hcn;generalize pa (i+1)=p at *;go_wp2
         go_roundw
         case rel=>exact⟨i+1,by omega,by go_num,by rw [hid_elim hcn];rfl,_,bA',by simpa using har,hid_elim hac',by rw [← hwu];exact hsA'⟩
         case measure=>simp [intOf];omega
      ·have hiN:j=i:=by omega
       subst hiN
       have hij':¬ (j:Int)+1<(j:Int)+1:=by omega
       have htpj:(1:Int)+(tp:Int)<(j:Int)+1:=by omega
       obtain⟨g11,rfl,lg11,hc11⟩:=row_at r11 (idV_get j (1+tp) (by omega));obtain⟨t,ht,htn,htd⟩:=tkL_at (pa:=pa) (j:=j) (1+tp) (by omega);have hS0:Sys w.heap.size wr.drew hb rb _:=hS2.below (Below.refl _ wr).drew;have hP0:BlP g11 (1+tp) fb (nmStr 1 (1+tp)) wr.drew:=BlP.of (t:=29) hc11 bF2;have hcl0:=hid_intro hc
       have hK:=kTree hS0 t ht (by omega) (by rw [tkL_len];omega) (by rw [leL_len];omega) (by omega) (fun l=>ud l.au) (fun z=>ud z.n) (fun l hl=>by
        obtain⟨q,h1,h2,rfl⟩:=mem_leL.1 hl;rw [htn,show 1+tp=tp+1 by omega]
        exact hud.climb (fun i a b=>hlt i a) (by omega) (q+1) q (by omega) h2) (fun z hz=>by
        rw [htn,show 1+tp=tp+1 by omega];refine hud.climb (fun i a b=>hlt i a) (by omega) (z.n+1) z.n (by omega) ?_
        rcases mem_tkL.1 hz with rfl | ⟨q,h1,h2,rfl⟩
        ·exact Nat.zero_le _
        ·exact h2) 0 0
       rw [htn] at hK;unfold fallV at hK
       have hnoS:∀ {v:Value} {m:Nat} {ys:List Value},wr.ownsRow w.heap.size 9 1 v m ys→∀ g,v.ownBlock=some g→g∉kk.turns:=fun hr g hg=>by
        obtain⟨-,cur,hcu⟩:=row_box hr hg;exact hS2.wh.no hcu (by decide) (by decide)
       have hnoI:∀ {v:Value} {m:Nat} {ys:List Value},wr.ownsRow w.heap.size 3 1 v m ys→∀ g,v.ownBlock=some g→g∉kk.turns:=fun hr g hg=>by
        obtain⟨-,cur,hcu⟩:=row_box hr hg;exact hS2.wh.no hcu (by decide) (by decide)
       have hcS:∀ W',Spares kk.turns wr.drew W'→W'.cell? ⟨g11,1+tp,none⟩=some (.string ⟨(nmStr 1 (1+tp)).toArray⟩):=fun W' hs=>by
        obtain⟨g,e,-,hcc⟩:=row_at (Spares.row' (W:=wr.drew) hs r11 (hnoS r11)) (idV_get j (1+tp) (by omega));cases e;exact hcc
       clear hP hmk hc
       have e20:(1:Int)+(tp:Int)=((1+tp:Nat):Int):=by omega
       rw [e20] at htpj ⊢;clear e20 htp htl;generalize 1+tp=tq at *
       go_wp2_with fail
       go_region_held3 (BlP g11 tq fb (nmStr 1 tq)) (first
        | with_reducible exact hP0
        | with_reducible exact hP5
        | with_reducible assumption) (first
        | (go_at_call 26;refine hK.mono ?_;rintro e w5 ⟨rfl,⟨c5,hc5,hS5⟩,hs5⟩;have bF5:=Spares.box (W:=wr.drew) hs5 bF2 (hS0.wh.no (W:=wr.drew) bF2 (by decide) (by decide));have hb05:Below w.heap.size w w5:=hb2.drew.trans (hs5.below (by have:=hb2.size;exact this) (fun q hq=>hS0.low q hq));have hP5:BlP g11 tq fb (nmStr 1 tq) w5:=BlP.of (hcS w5 hs5) bF5))
       have r11':w5.ownsRow w.heap.size 9 1 _ (j+1) (idV j):=Spares.row' (W:=wr.drew) hs5 r11 (hnoS r11);have r12':w5.ownsRow w.heap.size 3 1 _ (j+1) (ofV pa j):=Spares.row' (W:=wr.drew) hs5 r12 (hnoI r12);have r13':w5.ownsRow w.heap.size 9 1 _ j (mkI 2 j):=Spares.row' (W:=wr.drew) hs5 r13 (hnoS r13);have bA':=Spares.box (W:=wr.drew) hs5 bA (hS0.wh.no (W:=wr.drew) bA (by decide) (by decide));have hS5':Sys w.heap.size w5 hb rb ⟨kk,vx,100,⟨j,j+1,rvTk pa ud j,rvLe ud j⟩,c5⟩:=hS5;have hWd:=hud.wood (fun i a b=>hlt i a);have hT5:=tree_start hud.1 (fun i a b=>hlt i a) hS5'.wh.v.va.ok.incT hS5'.wh.v.va.ok.incL;have hC5:=clS_start (m:=j) (pa:=pa) hud.1;have hB5:=trB_start (m:=j) (pa:=pa) hud.1
       have hl5:(rvTk pa ud j).length+(rvLe ud j).length≤50:=by rw [List.length_map,List.length_map,tkL_len,leL_len];omega
       have hc5':c5.length≤400000000:=by have:=hid_elim hcl0;omega
       have hcu:=cntU_le ud j;obtain⟨b0,hb0,hb0l⟩:=pick_nat y 1048576 (by omega)
       have hPy:=fun W=>kPickB y 1048576 y0 y1 (by omega) (by omega) W
       rw [hb0] at hPy;clear hK hcS hS0 hS5 hP0 hP5 r11 r12 r13 hs5 bA hnoS hnoI hS2 bF2 hb2 hc5 hsA hcl0 hc11 ht htn htd;generalize hcnt:cntU ud j=cnt at *;generalize rvTk pa ud j=tks5 at *;generalize rvLe ud j=lks5 at *
       go_wp2_with (go_at_call 17;refine(hPy _).mono ?_;rintro e w6 ⟨rfl,hw6⟩;have hw6:=hw6.symm;subst hw6)
       go_loopw [25,26,27,28] (fun dv bv nv rv wq=>∃ r:Nat,r≤8∧rv=.int .i64 r∧nv=.int .u64 (100+32*(r:Int))∧bv=.int .u64 (bitsD b0 r)∧∃ k vx tm s c G,tm≤100+32*(r:Int)∧c.length≤400000000+4000000*r∧Sys w.heap.size wq hb rb ⟨k,vx,tm,s,c⟩∧ClS j pa ud (100+32*(r:Int)) s G∧Tree s∧TrB (150*(r:Int)) s∧s.tks.length+s.lks.length≤50∧(r=8→G.length=2*cnt)∧wq.ownsRow w.heap.size 9 1 dv G.length (G.map fun p=>.string ⟨(nmStr p.1 p.2).toArray⟩)∧(∀ g,dv.ownBlock=some g→0<G.length∧g≠g11∧p13≠some ⟨g,0,none⟩)∧wq.ownsRow w.heap.size 9 1 (.slice (some ⟨g11,0,none⟩) (j+1) c11) (j+1) (idV j)∧wq.ownsRow w.heap.size 3 1 (.slice p12 (j+1) c12) (j+1) (ofV pa j)∧wq.ownsRow w.heap.size 9 1 (.slice p13 j c13) j (mkI 2 j)∧BoxN wq ub 4 ar∧BoxN wq fb 29 #[.int .i64 (-1),.int .i64 (-1),.int .i64 0,.int .i64 0]∧Below w.heap.size w wq) (fun _ _ _ rv _=>8-(intOf rv).toNat)
       case atStart=>exact⟨0,Nat.zero_le _,rfl,rfl,rfl,kk,vx,100,_,c5,[],by omega,by omega,hS5',hC5,hT5,hB5,hl5,(fun h=>by omega),World.ownsRow_nil _ _ _ _,(fun g hg=>by cases hg),r11',r12',r13',bA',bF5,hb05⟩
       case round =>
        clear hS5' hC5 hT5 hB5 hl5 r11' r12' r13' bA' bF5 hb05 hc5' hPy
        obtain⟨wm,hwm⟩:∃ W,W=wr:=⟨_,rfl⟩
        subst hwm;obtain⟨r,hr8,rfl,rfl,rfl,k,vx,tm,s,c,G,htm,hc,hS,hC,hTr,hTB,hl,hend8,hdn,hdo,r11,r12,r13,bA,bF,hbw⟩:=hrel
        have hGle:G.length≤2*cnt:=by rw [← hcnt];exact hC.le
        obtain⟨pd,cd,rfl⟩:=row_form hdn
        by_cases hgo:G.length<2*cnt
        ·have hr7:r<8:=by
          by_cases e:r=8
          ·have:=hend8 e;omega
          ·omega
         have hgI:(G.length:Int)<2*(cnt:Int):=by omega
         have hrI:(r:Int)<90:=by omega
         have hbp:=bitsD_pos (b:=b0) (by omega) r;have hbl:=bitsD_le (b:=b0) (by omega) r;generalize hbd:bitsD b0 r=bd at *;go_wp2
         go_loopw [29] (fun iv wq=>∃ i:Nat,i≤j∧iv=.int .i64 ((i:Int)+1)∧Below wm.heap.size wm wq) (fun iv _=>j+1-(intOf iv).toNat)
         case atStart=>exact⟨0,Nat.zero_le _,rfl,Below.refl _ _⟩
         case round =>
          obtain⟨i,hi',rfl,hBq⟩:=hrel
          by_cases hij:i<j
          ·have hij':(i:Int)+1<(j:Int)+1:=by omega
           have hij2:(i:Int)<(j:Int):=by omega
           have hA:=kAuthC (hS.below hBq) hC (by omega) (by omega) (i+1) (by omega) (by omega);obtain⟨g13,rfl,lg13,hc13⟩:=row_at r13 (mkI_get 2 j i hij);rw [show 2+i=i+1+1 by omega] at hc13;have hc13:wr.cell? ⟨g13,i,none⟩=some (.string ⟨(nmStr 2 (i+1+1)).toArray⟩):=(hBq.cell (p:=⟨g13,i,none⟩) lg13).trans hc13;have bA1:=bA.below hBq bA.lt;have hcu1:=bA1.cell (i+1) (hac (i+1) (by omega));generalize nmStr 2 (i+1+1)=n2 at *
           cases hu:ud (i+1) with
           | true =>
            rw [hu] at hA hcu1
            have hac1:ar[i+1]? = some (.bool true):=by rw [← hu];exact hac (i+1) (by omega)
            go_wp2_with (go_at_call 23;refine hA.mono ?_;rintro e w8 ⟨rfl,hb8⟩;have hcu8:=(bA1.below hb8 bA1.lt).cell (i+1) hac1)
            go_roundw
            case rel=>exact⟨i+1,by omega,by go_num,hBq.trans (hb8.mono hBq.size)⟩
            case measure=>simp [intOf];omega
           | false =>
            rw [hu] at hA hcu1
            have hac1:ar[i+1]? = some (.bool false):=by rw [← hu];exact hac (i+1) (by omega)
            go_wp2_with (go_at_call 23;refine hA.mono ?_;rintro e w8 ⟨rfl,hb8⟩;have hcu8:=(bA1.below hb8 bA1.lt).cell (i+1) hac1)
            go_roundw
            case rel=>exact⟨i+1,by omega,by go_num,hBq.trans (hb8.mono hBq.size)⟩
            case measure=>simp [intOf];omega
          ·have hiN:j=i:=by omega
           subst hiN
           have hij':¬ (j:Int)+1<(j:Int)+1:=by omega
           have hS1:=hS.below hBq;have hb1:=hbw.trans (hBq.mono hbw.size);have r11:=ownsRow_below r11 hBq;have r12:=ownsRow_below r12 hBq;have r13:=ownsRow_below r13 hBq;have hdn:=ownsRow_below hdn hBq;have bA:=bA.below hBq bA.lt;have bF:=bF.below hBq bF.lt;have hF:=kFail hS1 hb1.size (hS1.cne (by show s.ln≠0;have:=hC.tn.2;omega)) (by show c.length<4294967281;omega) (100+32*(r:Int)) htm (by omega) z z0 z1 (r % 8) (by omega)
           have hr8':((r % 8:Nat):Int)=(r:Int) % 8:=by omega
           rw [hr8'] at hF;clear hS hbw hBq
           go_wp2_with fail
           refine hF.mono ?_;rintro e w7 ⟨rfl,⟨k7,vx7,tm7,htm7,hS7⟩,hB7,bs7,hs7,hq7⟩
           have hno7:∀ {t:TypeId} {v:Value} {m:Nat} {ys:List Value},t≠78→t≠100→wr.ownsRow w.heap.size t 1 v m ys→∀ g,v.ownBlock=some g→g∉bs7:=fun n1 n2 hr g hg hm=>by
            obtain⟨-,cur,hcu⟩:=row_box hr hg
            rcases hq7 _ hm _ _ hcu with e | e
            ·exact n1 e
            ·exact n2 e
           have r11:=hs7.row' r11 (hno7 (by decide) (by decide) r11);have r12:=hs7.row' r12 (hno7 (by decide) (by decide) r12);have r13:=hs7.row' r13 (hno7 (by decide) (by decide) r13);have hdn:=hs7.row' hdn (hno7 (by decide) (by decide) hdn);have bA:=hs7.box bA (fun hm=>by rcases hq7 _ hm _ _ bA with e | e <;> exact absurd e (by decide));have bF:=hs7.box bF (fun hm=>by rcases hq7 _ hm _ _ bF with e | e <;> exact absurd e (by decide));have hb07:=hb1.trans hB7
           have htm7':tm7≤100+32*(r:Int):=by
            rcases htm7 with e | e
            ·rw [e];exact htm
            ·omega
           have g0:=bF.cell 0 (v:=.int .i64 (-1)) rfl;have g1:=bF.cell 1 (v:=.int .i64 (-1)) rfl;have g2:=bF.cell 2 (v:=.int .i64 0) rfl;have g3:=bF.cell 3 (v:=.int .i64 0) rfl;have hTk:=hTick w.heap.size hb rb _ w7 hS7 hb07.size hTr hl (150*(r:Int)) (by omega) hTB (by show c.length≤_;omega) (bd % 8) (100+32*(r:Int)) (by omega) (by omega) (by omega) (by omega) 0 0;simp only at hTk;rw [show max tm7 (100+32*(r:Int))=100+32*(r:Int) by omega] at hTk;unfold fallV at hTk;clear hno7 hF hS1 hb1 hB7 hs7 hq7 htm7
           go_wp2_with fail
           rw [and7_u64 bd hbp (by omega)];refine hTk.mono ?_;rintro e w8 ⟨vx8,v8,b,rfl,hTs,hbq,hS8,hrow,hGo,⟨hbl1,hbl2,hbl3⟩,hs8⟩;obtain⟨hC8,hA8⟩:=tick_round hWd hC hTr (by omega) (by omega) ⟨hTr,QOk.start hTr,QNz.start hTr,hTB,by show 0≤bd % 8;omega,by show bd % 8≤_;omega⟩ hTs hbq;have hap:=tick_apart hWd hC hTr (by omega) (by omega) ⟨hTr,QOk.start hTr,QNz.start hTr,hTB,by show 0≤bd % 8;omega,by show bd % 8≤_;omega⟩ hTs;have hnm:=hTs.named (by intro x hx;cases hx)
           have hno8:∀ {t:TypeId} {v:Value} {m:Nat} {ys:List Value},t≠126→t≠100→t≠88→t≠144→w7.ownsRow w.heap.size t 1 v m ys→∀ g,v.ownBlock=some g→g∉htBs k7 rb vx7.due:=fun n1 n2 n3 n4 hr g hg=>by
            obtain⟨-,cur,hcu⟩:=row_box hr hg;exact hS7.notTick hcu n1 n2 n3 n4
           have r11:=hs8.row' r11 (hno8 (by decide) (by decide) (by decide) (by decide) r11);have r12:=hs8.row' r12 (hno8 (by decide) (by decide) (by decide) (by decide) r12);have r13:=hs8.row' r13 (hno8 (by decide) (by decide) (by decide) (by decide) r13);have hdn:=hs8.row' hdn (hno8 (by decide) (by decide) (by decide) (by decide) hdn);have bA:=hs8.box bA (hS7.notTick bA (by decide) (by decide) (by decide) (by decide));have bF:=hs8.box bF (hS7.notTick bF (by decide) (by decide) (by decide) (by decide));have hb08:Below w.heap.size w w8:=hb07.trans (hs8.below hb07.size hS7.lowTick);clear hTk hno8 hs8 hS7 hb07 hTs hTr hTB hC g0 g1 g2 g3 hl;obtain⟨p8,c8,rfl⟩:=row_form hrow
           obtain⟨K8,hK8⟩:∃ K,b.cl.length=K:=⟨_,rfl⟩
           rw [hK8] at hrow ⊢;have HK8:=hid_intro hK8;have Hlen:=hid_intro (And.intro hc (And.intro hbl1 (And.intro hbl2 hbl3)));clear hc hbl1 hbl2 hbl3 hK8
           have hd8:0<K8→∀ g,(Value.slice pd G.length cd).ownBlock=some g→p8≠some ⟨g,0,none⟩:=fun h0 g hg e=>by
            have hG0:=(hdo g hg).1
            obtain⟨X,hX⟩:∃ x,G[0]? = some x:=⟨G[0]'hG0,by simp⟩
            obtain⟨Y,hY⟩:∃ y,b.cl[0]? = some y:=⟨b.cl[0]'(by have:=hid_elim HK8;omega),by simp⟩
            obtain⟨g1,e1,-,k1⟩:=row_at hdn (done_get hX);obtain⟨g2,e2,-,k2⟩:=row_at hrow (done_get hY)
            obtain rfl:g1=g:=by rw [e1] at hg;simpa [Value.ownBlock] using hg
            obtain rfl:g2=g1:=by rw [e2] at e;simpa using e
            rw [k1] at k2
            have en:nmStr X.1 X.2=nmStr Y.1 Y.2:=by simpa using k2
            obtain⟨tk,htk⟩:=hnm Y (List.mem_of_getElem? hY);obtain⟨q1,q2⟩:=hap Y (List.mem_of_getElem? hY)
            have hX':(G++succs (bd % 8) b.cl)[0]? = some X:=by rw [List.getElem?_append_left hG0];exact hX
            have h1:=dnm_inj hC8 (by omega) hX' tk Y.2 (by omega) (by rw [dnm_at hX',en,htk]);have h2:X=Y:=h1.trans (Prod.ext htk.symm rfl);exact q1 (by rw [← h2];exact List.mem_of_getElem? hX)
           obtain⟨wt,hwt⟩:∃ W,W=w8:=⟨_,rfl⟩
           subst hwt;generalize hf8:bd % 8=f8 at *;have Hbd:=hid_intro hbd;have Hf8:=hid_intro hf8
           have hKb:K8≤150:=by have:=hid_elim Hlen;have:=hid_elim HK8;omega
           have HC8:=hid_intro hC8;have HA8:=hid_intro hA8;have HGo:=hid_intro hGo;clear hbd hf8 hC8 hA8 hGo hap hnm;go_wp2
           go_loopw [25,34] (fun dv kv wq=>∃ q:Nat,q≤K8∧kv=.int .i64 q∧∃ G',G'=G++succs f8 (b.cl.take q)∧Sys w.heap.size wq hb rb ⟨k7,vx8,100+32*(r:Int),b.s,b.c⟩∧wq.ownsRow w.heap.size 9 1 dv G'.length (G'.map fun p=>.string ⟨(nmStr p.1 p.2).toArray⟩)∧(∀ g,dv.ownBlock=some g→0<G'.length∧g≠g11∧p13≠some ⟨g,0,none⟩∧(0<K8→p8≠some ⟨g,0,none⟩))∧wq.ownsRow w.heap.size 9 1 (.slice p8 K8 c8) K8 (b.cl.map fun p=>.string ⟨(nmStr p.1 p.2).toArray⟩)∧wq.ownsRow w.heap.size 9 1 (.slice (some ⟨g11,0,none⟩) (j+1) c11) (j+1) (idV j)∧wq.ownsRow w.heap.size 3 1 (.slice p12 (j+1) c12) (j+1) (ofV pa j)∧wq.ownsRow w.heap.size 9 1 (.slice p13 j c13) j (mkI 2 j)∧BoxN wq ub 4 ar∧BoxN wq fb 29 #[.int .i64 (-1),.int .i64 (-1),.int .i64 0,.int .i64 0]∧Below w.heap.size w wq) (fun _ kv _=>K8-(intOf kv).toNat)
           case atStart=>exact⟨0,Nat.zero_le _,rfl,G,by simp [succs],hS8,hdn,(fun g hg=>⟨(hdo g hg).1,(hdo g hg).2.1,(hdo g hg).2.2,fun h0=>hd8 h0 g hg⟩),hrow,r11,r12,r13,bA,bF,hb08⟩
           case round =>
            obtain⟨q,hq,rfl,G',hG',hS9,hdn9,hdo9,hrow9,r119,r129,r139,bA9,bF9,hb09⟩:=hrel
            by_cases hqK:q<K8
            ·have hqI:(q:Int)<(K8:Int):=by omega
             obtain⟨X,hX⟩:∃ x,b.cl[q]? = some x:=⟨b.cl[q]'(by have:=hid_elim HK8;omega),by simp⟩
             obtain⟨g8,rfl,lg8,hc8⟩:=row_at hrow9 (done_get hX);have hsu:=succs_take (f:=f8) hX
             have hLb:G'.length≤1000000:=by
              have h1:=succs_len f8 (b.cl.take q);rw [List.length_take] at h1;have h2:=hid_elim Hlen;have h3:=hid_elim HK8;rw [hG',List.length_append];omega
             have hcne9:=hS9.cne (by show b.s.ln≠0;have:=(hid_elim HC8).tn.2;omega);have hzr:=hb09.size;have Hcn:=hid_intro hcne9;have HG':=hid_intro hG';clear hcne9 hG';have Hh:=hid_intro (done_head G');have Hfin:Hid (∀(W:World) (v:Value),W.ownsRow w.heap.size 9 1 v (G'.length+1) ((G'.map fun p=>Value.string ⟨(nmStr p.1 p.2).toArray⟩) ++ [.string ⟨(nmStr X.1 X.2).toArray⟩])→W.ownsRow w.heap.size 9 1 v (G' ++ [X]).length ((G' ++ [X]).map fun p=>Value.string ⟨(nmStr p.1 p.2).toArray⟩)):=hid_intro (fun W v h=>by rw [List.length_append,List.map_append];exact h);clear hX
             by_cases hq3:q<3
             ·have hfq:flN f8 q % 2=bd / 2 ^ q % 2:=by
               rw [← hid_elim Hf8]
               rcases(show q=0∨q=1∨q=2 by omega) with rfl | rfl | rfl
               ·show bd % 8 % 2=bd / 1 % 2
                omega
               ·show bd % 8 / 2 % 2=bd / 2 % 2
                omega
               ·show bd % 8 / 2 / 2 % 2=bd / 4 % 2
                omega
              rw [hfq] at hsu
              have hq3':¬ (3:Int)≤(q:Int):=by omega
              by_cases hbit:bd / 2 ^ q % 2=0
              ·rw [if_neg (by rw [hbit];decide)] at hsu
               replace hsu:=hid_intro hsu
               have hbt:(bd / 2 ^ q % 2==0)=true:=by simpa using hbit
               clear hfq hbit;generalize nmStr X.1 X.2=n9 at *;generalize (G'.map fun p=>Value.string ⟨(nmStr p.1 p.2).toArray⟩)=ys at *;generalize G'.length=L at *
               go_wp2_with (at_builtin;refine wpList_append_lies _ rfl _ _ 40 rfl w.heap.size 9 i0 _ 1 16 underlying40 hi hz0 hz1 hz2 rfl (by decide) u25 L ys rfl (hdn9.alloc _) ⟨wr.heap.size,0,none⟩ 1 1 [.string ⟨n9.toArray⟩] rfl rfl (fun j u hu=>by rw [add_cell];exact(BoxN.new wr 9 #[.string ⟨n9.toArray⟩]).cell j (v:=u) (by simpa using hu)) (by simp [Value.oneCell']) (by decide) (by unfold maxLen;omega) (by omega) (by simp;omega) _ rfl ?_)
               intro h9 cap9 w9 hown9 hgr9 hat9 hlt9;have lit9:Below wr.heap.size wr (wr.alloc (.cells #[.string ⟨n9.toArray⟩] 9)):=(Below.refl _ wr).alloc (Nat.le_refl _) _;have hS10:=(hS9.below lit9).grew (hdn9.alloc _) (hid_elim Hh) (fun g hg=>(hdo9 g hg).1) (hid_elim Hcn) hgr9;have sp9:Spares u25.ownBlock.toList wr w9:=(Spares.of_below lit9).trans (Spares.of_grownO hgr9 (fun r e=>by simp [e]))
               have bF10:=sp9.box bF9 (fun hm=>by
                obtain⟨-,cur,hcu⟩:=row_box hdn9 (g:=fb) (by simpa using hm)
                exact bF9.ne hcu (by decide) rfl)
               have bA10:=sp9.box bA9 (fun hm=>by
                obtain⟨-,cur,hcu⟩:=row_box hdn9 (g:=ub) (by simpa using hm)
                exact bA9.ne hcu (by decide) rfl)
               have r1110:=sp9.row' r119 (fun g hg hm=>(hdo9 g (by simpa using hm)).2.1 (by simpa [Value.ownBlock] using hg.symm))
               have r1210:=sp9.row' r129 (fun g hg hm=>by
                obtain⟨-,cur,hcu⟩:=row_box r129 hg;obtain⟨-,cur',hcu'⟩:=row_box hdn9 (g:=g) (by simpa using hm)
                exact hcu.ne hcu' (by decide) rfl)
               have r1310:=sp9.row' r139 (fun g hg hm=>(hdo9 g (by simpa using hm)).2.2.1 (row_own r139 hg));have hrow10:=sp9.row' hrow9 (fun g hg hm=>(hdo9 g (by simpa using hm)).2.2.2 (by omega) (row_own hrow9 hg));have hb10:Below w.heap.size w w9:=hb09.trans (sp9.below hb09.size (fun g hm=>(row_box hdn9 (by simpa using hm)).1))
               have hlow:∀ k,k<wr.heap.size→u25.ownBlock≠some k→h9≠k:=fun k hk hne e=>by
                rcases hat9 with e1 | e1
                ·exact hne (by rw [← e];exact e1)
                ·omega
               have hdo10:∀ g,(Value.slice (some ⟨h9,0,none⟩) (L+1) cap9).ownBlock=some g→0<(G' ++ [X]).length∧g≠g11∧p13≠some ⟨g,0,none⟩∧(0<K8→some (⟨g8,0,none⟩:Addr)≠some ⟨g,0,none⟩):=fun g hg=>by
                obtain rfl:h9=g:=by simpa [Value.ownBlock] using hg
                refine⟨by simp,hlow g11 ?_ (fun h=>(hdo9 g11 h).2.1 rfl),fun e=>?_,fun _ e=>?_⟩
                ·obtain⟨-,cur,hcu⟩:=row_box r119 (g:=g11) rfl
                 exact hcu.lt
                ·obtain⟨-,cur,hcu⟩:=row_box r139 (g:=h9) (by rw [e];rfl)
                 exact hlow h9 hcu.lt (fun h=>(hdo9 h9 h).2.2.1 e) rfl
                ·exact hlow g8 lg8 (fun h=>(hdo9 g8 h).2.2.2 (by omega) rfl) (by simpa using e.symm)
               have Hrow:=hid_intro (hid_elim Hfin _ _ hown9);clear hown9 hgr9 hat9 hlt9 lit9 hdn9 hdo9 hrow9 r119 r129 r139 bA9 bF9 hb09 hS9 sp9 hlow hc8;go_wp2
               go_roundw
               case rel=>exact⟨q+1,by omega,by go_num,G' ++ [X],by rw [hid_elim HG',List.append_assoc,hid_elim hsu],hS10,hid_elim Hrow,hdo10,hrow10,r1110,r1210,r1310,bA10,bF10,hb10⟩
               case measure=>simp [intOf];omega
              ·rw [if_pos (by simp;omega)] at hsu
               replace hsu:=hid_intro hsu
               have hbt:(bd / 2 ^ q % 2==0)=false:=by simpa using hbit
               clear hfq hbit hc8 Hh Hfin Hcn;go_wp2
               go_roundw
               case rel=>exact⟨q+1,by omega,by go_num,G',by rw [hid_elim HG',hid_elim hsu,List.append_nil],hS9,hdn9,hdo9,hrow9,r119,r129,r139,bA9,bF9,hb09⟩
               case measure=>simp [intOf];omega
             ·have hfq:flN f8 q % 2=0:=by
               rw [show q=q-3+3 by omega,(flN_bits f8 (by have:=hid_elim Hf8;omega) (by have:=hid_elim Hf8;omega)).2.2.2 (q-3)];rfl
              rw [hfq,if_neg (by decide)] at hsu;replace hsu:=hid_intro hsu;clear hfq
              have hq3':(3:Int)≤(q:Int):=by omega
              generalize nmStr X.1 X.2=n9 at *;generalize (G'.map fun p=>Value.string ⟨(nmStr p.1 p.2).toArray⟩)=ys at *;generalize G'.length=L at *
              go_wp2_with (at_builtin;refine wpList_append_lies _ rfl _ _ 40 rfl w.heap.size 9 i0 _ 1 16 underlying40 hi hz0 hz1 hz2 rfl (by decide) u25 L ys rfl (hdn9.alloc _) ⟨wr.heap.size,0,none⟩ 1 1 [.string ⟨n9.toArray⟩] rfl rfl (fun j u hu=>by rw [add_cell];exact(BoxN.new wr 9 #[.string ⟨n9.toArray⟩]).cell j (v:=u) (by simpa using hu)) (by simp [Value.oneCell']) (by decide) (by unfold maxLen;omega) (by omega) (by simp;omega) _ rfl ?_)
              intro h9 cap9 w9 hown9 hgr9 hat9 hlt9;have lit9:Below wr.heap.size wr (wr.alloc (.cells #[.string ⟨n9.toArray⟩] 9)):=(Below.refl _ wr).alloc (Nat.le_refl _) _;have hS10:=(hS9.below lit9).grew (hdn9.alloc _) (hid_elim Hh) (fun g hg=>(hdo9 g hg).1) (hid_elim Hcn) hgr9;have sp9:Spares u25.ownBlock.toList wr w9:=(Spares.of_below lit9).trans (Spares.of_grownO hgr9 (fun r e=>by simp [e]))
              have bF10:=sp9.box bF9 (fun hm=>by
               obtain⟨-,cur,hcu⟩:=row_box hdn9 (g:=fb) (by simpa using hm)
               exact bF9.ne hcu (by decide) rfl)
              have bA10:=sp9.box bA9 (fun hm=>by
               obtain⟨-,cur,hcu⟩:=row_box hdn9 (g:=ub) (by simpa using hm)
               exact bA9.ne hcu (by decide) rfl)
              have r1110:=sp9.row' r119 (fun g hg hm=>(hdo9 g (by simpa using hm)).2.1 (by simpa [Value.ownBlock] using hg.symm))
              have r1210:=sp9.row' r129 (fun g hg hm=>by
               obtain⟨-,cur,hcu⟩:=row_box r129 hg;obtain⟨-,cur',hcu'⟩:=row_box hdn9 (g:=g) (by simpa using hm)
               exact hcu.ne hcu' (by decide) rfl)
              have r1310:=sp9.row' r139 (fun g hg hm=>(hdo9 g (by simpa using hm)).2.2.1 (row_own r139 hg));have hrow10:=sp9.row' hrow9 (fun g hg hm=>(hdo9 g (by simpa using hm)).2.2.2 (by omega) (row_own hrow9 hg));have hb10:Below w.heap.size w w9:=hb09.trans (sp9.below hb09.size (fun g hm=>(row_box hdn9 (by simpa using hm)).1))
              have hlow:∀ k,k<wr.heap.size→u25.ownBlock≠some k→h9≠k:=fun k hk hne e=>by
               rcases hat9 with e1 | e1
               ·exact hne (by rw [← e];exact e1)
               ·omega
              have hdo10:∀ g,(Value.slice (some ⟨h9,0,none⟩) (L+1) cap9).ownBlock=some g→0<(G' ++ [X]).length∧g≠g11∧p13≠some ⟨g,0,none⟩∧(0<K8→some (⟨g8,0,none⟩:Addr)≠some ⟨g,0,none⟩):=fun g hg=>by
               obtain rfl:h9=g:=by simpa [Value.ownBlock] using hg
               refine⟨by simp,hlow g11 ?_ (fun h=>(hdo9 g11 h).2.1 rfl),fun e=>?_,fun _ e=>?_⟩
               ·obtain⟨-,cur,hcu⟩:=row_box r119 (g:=g11) rfl
                exact hcu.lt
               ·obtain⟨-,cur,hcu⟩:=row_box r139 (g:=h9) (by rw [e];rfl)
                exact hlow h9 hcu.lt (fun h=>(hdo9 h9 h).2.2.1 e) rfl
               ·exact hlow g8 lg8 (fun h=>(hdo9 g8 h).2.2.2 (by omega) rfl) (by simpa using e.symm)
              have Hrow:=hid_intro (hid_elim Hfin _ _ hown9);clear hown9 hgr9 hat9 hlt9 lit9 hdn9 hdo9 hrow9 r119 r129 r139 bA9 bF9 hb09 hS9 sp9 hlow hc8;go_wp2
              go_roundw
              case rel=>exact⟨q+1,by omega,by go_num,G' ++ [X],by rw [hid_elim HG',List.append_assoc,hid_elim hsu],hS10,hid_elim Hrow,hdo10,hrow10,r1110,r1210,r1310,bA10,bF10,hb10⟩
              case measure=>simp [intOf];omega
            ·have hqK':¬ (q:Int)<(K8:Int):=by omega
             obtain rfl:q=K8:=by omega
             rw [List.take_of_length_le (by have:=hid_elim HK8;omega)] at hG';have hC8:=hid_elim HC8;have hA8:=hid_elim HA8;have hGo:=hid_elim HGo;rw [← hG'] at hC8 hA8;have hBu:Hid (bitsD b0 (r+1)=bd / 8):=hid_intro (by rw [← hid_elim Hbd];rfl);have hT1:Hid (ClS j pa ud (100+32*((r+1:Nat):Int)) b.s G'):=hid_intro (by rw [show (100:Int)+32*((r+1:Nat):Int)=100+32*(r:Int)+32 by omega];exact hC8);have hT2:Hid (TrB (150*((r+1:Nat):Int)) b.s):=hid_intro (hGo.tr.up (by have:=hid_elim Hlen;have:=hid_elim HK8;omega));have hT3:Hid (b.c.length≤400000000+4000000*(r+1)∧b.s.tks.length+b.s.lks.length≤50):=hid_intro (by have:=hid_elim Hlen;omega)
             have hT4:Hid (r+1=8→G'.length=2*cnt):=hid_intro (fun h=>by
              rw [← hcnt];refine hA8 ?_;have h7:=bitsD_end (b:=b0) (by omega) (by omega);rw [show (7:Nat)=r by omega,hid_elim Hbd] at h7
              rw [← hid_elim Hf8,h7];rfl)
             have hT5:=hid_intro hGo.tree;clear hC8 hA8 hGo HC8 HA8 HGo Hlen hd8 hdo hrow r11 r12 r13 bA bF hdn hb08 hS8;go_wp2
             go_roundw
             case rel=>exact⟨r+1,by omega,by go_num,by go_num,by rw [hid_elim hBu],k7,vx8,100+32*(r:Int),b.s,b.c,G',by omega,(hid_elim hT3).1,hS9,hid_elim hT1,hid_elim hT5,hid_elim hT2,(hid_elim hT3).2,hid_elim hT4,hdn9,(fun g hg=>⟨(hdo9 g hg).1,(hdo9 g hg).2.1,(hdo9 g hg).2.2.1⟩),r119,r129,r139,bA9,bF9,hb09⟩
             case measure=>simp [intOf];omega
        ·have hgI:¬ (G.length:Int)<2*(cnt:Int):=by omega
         have hrI:(r:Int)<90:=by omega
         have hEq:((G.length:Int)==2*(cnt:Int))=true:=by simp;omega
         have hO:=hC.ordOk (by omega)
         have q0:RdF wm pd G.length (fun i=>.string ⟨(dnm G i).toArray⟩):=fun i hi=>by
          obtain⟨X,hX⟩:∃ x,G[i]? = some x:=⟨G[i]'hi,by simp⟩
          obtain⟨g,e,l,h⟩:=row_at hdn (done_get hX);exact⟨g,e,l,by rw [h];show _=some (Value.string ⟨(dnm G i).toArray⟩);rw [dnm_at hX]⟩
         have q1:RdF wm (some ⟨g11,0,none⟩) (j+1) (fun i=>.string ⟨(nmStr 1 i).toArray⟩):=fun i hi=>row_at r11 (idV_get j i (by omega))
         have q2:RdF wm p13 j (fun i=>.string ⟨(nmStr 2 (i+2)).toArray⟩):=fun i hi=>by
          have:=row_at r13 (mkI_get 2 j i hi)
          rwa [Nat.add_comm 2 i] at this
         have q3:RdF wm p12 (j+1) (fun i=>.int .i64 (if i=0 then -1 else (pa i:Int))):=fun i hi=>row_at r12 (ofV_get pa j i (by omega))
         have q4:RdF wm (some ⟨ub,0,none⟩) (j+1) (fun i=>.bool (ud i)):=fun i hi=>⟨ub,rfl,bA.lt,bA.cell i (hac i (by omega))⟩
         have hOr:=fun c0 c1 c2 c3 c4=>ordered pd (some ⟨g11,0,none⟩) p13 p12 (some ⟨ub,0,none⟩) G.length j c0 c1 c2 c3 c4 _ _ _ _ _ wm hO (by omega) (by omega) q0 q1 q2 q3 q4
         clear hO q0 q1 q2 q3 q4 hC hTr hTB hl hend8 hdo
         go_wp2_with (go_at_call 27;refine(hOr _ _ _ _ _).mono ?_;rintro e w7 ⟨rfl,hB7⟩)
         go_ret;exact⟨rfl,hbw.trans (hB7.mono hbw.size)⟩
theorem Tryz.climbed (a0:Option Addr) (cap:Nat) (us:List Int) (x y z:Int) (x0 : -9223372036854775808≤x) (x1:x≤9223372036854775807) (y0 : -9223372036854775808≤y) (y1:y≤9223372036854775807) (z0 : -9223372036854775808≤z) (z1:z≤9223372036854775807) (w:World) (hus:IntIn w a0 us) (hub:∀ u∈us,-9223372036854775808≤u∧u≤9223372036854775807) (hcap:us.length≤cap) (hc63:cap≤9223372036854775807) (h9:9≤w.heap.size) (hE:Env w) (hT:ErrT w) :
  Calls prog 10 #[.slice a0 us.length cap,.int .i64 x,.int .i64 y,.int .i64 z] w fun e w'=>e=.returned (.bool true)∧Below w.heap.size w w':=by
 by_cases h6:us.length≤6
 ·exact climbedA a0 cap us x y z x0 x1 y0 y1 z0 z1 w hus hub h6 hcap h9 hE hT
 ·exact climbedB a0 cap us x y z x0 x1 y0 y1 z0 z1 w hus hub (by omega) hcap hc63 h9 hE hT
end Go.Proofs
