import Derived.Test.YtjbekgjdempbiaaGreatDoorJCWhole
set_option maxRecDepth 100000
set_option maxHeartbeats 8000000
namespace Go.Proofs
open Go.RowKit Go.Sort Go.Lib Go.Shelf Go.Maps
theorem Tryz.Xdy:(prog.info? 135).map (fun i=>(i.zero,i.size,i.bytes))=some (some (.agg #[.int .i64 0,.int .i64 0,.int .u64 0,.int .i64 0,.int .u64 0,.bool false,.int .u64 0,.int .i64 0,.int .u64 0,.string ⟨#[]⟩]),10,88):=by kernel_rfl
theorem Xiv (rs:List X7):∀ u∈Yk rs,u.oneCell'=true:=fun u hu=>by
 obtain⟨r,-,hr⟩:=List.mem_flatMap.1 hu;simp only [X7.cells,Xi,List.mem_cons,List.not_mem_nil,or_false] at hr
 rcases hr with rfl | rfl | rfl | rfl | rfl | rfl | rfl | rfl | rfl | rfl <;> rfl
theorem Uq (g j:Nat):(⟨g,0,none⟩:Addr).add j=⟨g,j,none⟩:=by
 by_cases h0:j=0
 ·subst h0;simp [Addr.add]
 simp [Addr.add,h0]
theorem M3 {B g cap n:Nat} {e:TypeId} {W:World} {rs:List X7} (h:W.ownsRow B e 10 (.slice (some ⟨g,0,none⟩) n cap) n (Yk rs)):Yo W g rs:=Xm0 fun j u hu=>by
 have:=h.cells (g:=g) rfl j u hu
 rwa [Uq] at this
theorem Tryz.Raw.Xet {W W':World} {k:Blk} {vx:VX} {tm:Int} {s s':VSt} {c:List UInt8} {l f:Int} (h:Raw W k vx tm s c l f) (hS:Spares [k.vb,k.mt,k.ml] W W') (hV:Yb W' k.vb k.mt k.ml vx tm s'.tn s'.ln s'.tks s'.lks):Raw W' k vx tm s' c l f:=by
 obtain⟨fd,fn,hd,e1,e2⟩:=h.d;obtain⟨n1,-,m1⟩:=h.v.va.held.mapT;obtain⟨n2,-,m2⟩:=h.v.va.held.mapL;obtain⟨⟨a1,a2,a3⟩,a4,a5,a6,a7⟩:=h.nes
 have hstr:∀ {b:Nat} {x:Value},BoxN W b 9 #[x]->b ∉ [k.vb,k.mt,k.ml]:=fun hb=>by
  have h1:=hb.ne h.v.va.v (by decide);have h2:=BoxN.Xl hb m1;have h3:=BoxN.Xl hb m2;simp [h1,Ne.symm h2,Ne.symm h3]
 obtain⟨c1,c2,c3,c4⟩:=h.ne1;simp only [List.mem_cons,List.not_mem_nil,or_false,not_or] at a1 a2 a3;refine { h with v:=hV,j:=hS.box h.j ?_,d:=⟨fd,fn,hd.spared hS ?_ ?_ ?_ (fun q hq=>hstr (hd.sd q hq)) (fun q hq=>hstr (hd.sn q hq)),e1,e2⟩ }
 ·simp only [Blk.turns,List.mem_cons,List.not_mem_nil,or_false,not_or] at a4 ⊢
  exact⟨a4.1,a4.2.1,a4.2.2.1⟩
 ·simp [a5,a6,a7]
 ·simp [Ne.symm a1.2.1,c1,c2]
 simp [Ne.symm a1.2.2,c3,c4]
theorem Tryz.Raw.Xh3 {W W':World} {k:Blk} {vx:VX} {tm:Int} {s:VSt} {c:List UInt8} {l f:Int} (h:Raw W k vx tm s c l f) (hS:Spares [k.vb,k.mt,k.ml] W W') {fd fn:Option (Nat × List UInt8)} (hd:Xk (fileN k.no) W k.db k.md k.mn fd fn (.slice none 0 0) l f):Xk (fileN k.no) W' k.db k.md k.mn fd fn (.slice none 0 0) l f:=by
 obtain⟨n1,-,m1⟩:=h.v.va.held.mapT;obtain⟨n2,-,m2⟩:=h.v.va.held.mapL;obtain⟨⟨a1,a2,a3⟩,a4,a5,a6,a7⟩:=h.nes
 have hstr:∀ {b:Nat} {x:Value},BoxN W b 9 #[x]->b ∉ [k.vb,k.mt,k.ml]:=fun hb=>by
  have h1:=hb.ne h.v.va.v (by decide);have h2:=BoxN.Xl hb m1;have h3:=BoxN.Xl hb m2;simp [h1,Ne.symm h2,Ne.symm h3]
 obtain⟨c1,c2,c3,c4⟩:=h.ne1;simp only [List.mem_cons,List.not_mem_nil,or_false,not_or] at a1 a2 a3;refine hd.spared hS ?_ ?_ ?_ (fun q hq=>hstr (hd.sd q hq)) (fun q hq=>hstr (hd.sn q hq))
 ·simp [a5,a6,a7]
 ·simp [Ne.symm a1.2.1,c1,c2]
 simp [Ne.symm a1.2.2,c3,c4]
theorem Tryz.Xja (k:Blk) (vx:VX) (tm:Int) (s:VSt) (c:List UInt8) (l f:Int) (w:World) (hW:Raw w k vx tm s c l f) (i:Item) (hF:i.Fits s) :
  Calls prog 100 #[.pointer (some ⟨k.vb,0,none⟩),.agg i.rec_.cells] w fun e w'=>e=.returned (.tuple #[])/\Raw w' k vx tm (i.app s) c l f/\Spares [k.vb,k.mt,k.ml] w w':=by
 cases i with
 | tok t =>
  obtain⟨h1,h2,h3,h4,h5⟩:=hF;refine(Xdq k.vb k.mt k.ml vx tm s.tn s.ln s.tks s.lks w hW.v 0 [] t h1 h2 h3 h4 h5).mono ?_;rintro e w' ⟨rfl,hV,hS⟩;have hS':Spares [k.vb,k.mt,k.ml] w w':=hS.mono (by simp);exact⟨rfl,hW.Xet hS' hV,hS'⟩
 | lea t =>
  obtain⟨h1,h2,h3,h4,h5⟩:=hF;refine(Xdo k.vb k.mt k.ml vx tm s.tn s.ln s.tks s.lks w hW.v t h1 h2 h3 h4 h5).mono ?_;rintro e w' ⟨rfl,hV,hS⟩;have hS':Spares [k.vb,k.mt,k.ml] w w':=hS.mono (by simp);exact⟨rfl,hW.Xet hS' hV,hS'⟩
 | gone tk n =>
  refine(Xb2 k.vb k.mt k.ml vx tm s.tn s.ln s.tks s.lks w hW.v tk n hF).mono ?_;rintro e w' ⟨rfl,hV,hS⟩;have hS':Spares [k.vb,k.mt,k.ml] w w':=hS.mono (by simp);exact⟨rfl,hW.Xet hS' hV,hS'⟩
 | use tk n =>
  refine(Xde k.vb k.mt k.ml vx tm s.tn s.ln s.tks s.lks w hW.v tk n).mono ?_;rintro e w' ⟨rfl,hV,hS⟩;have hS':Spares [k.vb,k.mt,k.ml] w w':=hS.mono (by simp);exact⟨rfl,hW.Xet hS' hV,hS'⟩
theorem Tryz.Xmg (k:Blk) (vx:VX) (tm:Int) (s:VSt) (c:List UInt8) (l f:Int) (is:List Item) (g cap:Nat) (w:World) (hW:Whole w k vx tm s c l f) (hl:l<0) (hl1 : -999999990<=l) (hf:f<0) (hf1 : -999999990<=f) (hc:c.length<=900000000000)
  (hR:Yo w g (is.map Item.rec_)) (hg:g<w.heap.size) (hgn:g∉k.turns) (hn0:0<is.length) (hn1:is.length<=50) (hF:Yn is s) :
  Calls prog 66 #[.pointer (some ⟨k.vb,0,none⟩),.slice (some ⟨g,0,none⟩) is.length cap] w fun e w'=>e=.returned .nilIface/\Whole w' k vx tm (Za is s) (c++keepLine tm is) (l-2) (f-2)/\Spares k.turns w w'/\∃ b b',w.heap.size<=b/\w.heap.size<=b'/\Xk (fileN k.no) w' k.db k.md k.mn (some (b,c++keepLine tm is)) (some (b',c++keepLine tm is)) (.slice none 0 0) (l-2) (f-2):=by
 obtain⟨i0,hi,hz0,hz1,hz2⟩:=info_parts Xdy
 have hNow:=fun W (hb:Below w.heap.size w W)=>now k.vb tm W ((hW.v.below hb).va.v.cell 2 rfl)
 have j0:=hW.v.va.v.cell 0 (v:=.pointer (some ⟨k.jb,0,none⟩)) (by rw [<- hW.jn];rfl);have lV:=hW.v.va.v.lt;have hok:=Yn.ok hF
 have hokN:∀ r∈nowR tm :: is.map Item.rec_,r.Ok/\Yg r.pth:=fun r hr=>by
  rcases List.mem_cons.1 hr with rfl | hr
  ·exact⟨⟨show (-9223372036854775808:Int)<=0 by decide,show (0:Int)<=9223372036854775807 by decide,show 0<18446744073709551616 by decide,show 0<18446744073709551616 by decide,hW.v.t0,hW.v.t1,show (-9223372036854775808:Int)<=0 by decide,show (0:Int)<=9223372036854775807 by decide,show (0:Int)<=0 by decide,show (0:Int)<=18446744073709551615 by decide,show 0<=1000 by decide⟩,Yy⟩
  exact hok r hr
 obtain⟨fd,fn,hD,e1,e2⟩:=hW.d
 have hAdd:=fun W gg cc (hb:Below w.heap.size w W) (hrow:Yo W gg (nowR tm :: is.map Item.rec_)) (hgg:gg<W.heap.size)=>jAdd k.jb k.db k.md k.mn k.no gg cc (nowR tm :: is.map Item.rec_) fd fn l f W (by have:=hW.no9;omega) (hW.j.below hb hW.j.lt) (hD.below hb) hl hl1 hf hf1 (by rw [e1.1];omega) (by rw [e2.1];omega) hrow hgg (fun r hr=>(hokN r hr).1) (fun r hr=>(hokN r hr).2) (by simp;omega) (hW.v.va.env.below hb hW.v.va.six) (Nat.le_trans hW.v.va.six hb.size)
 rw [e1.1,e2.1] at hAdd
 change ∀(W:World) (gg cc:Nat),_->_->_->Calls prog 120 _ W (fun e w'=>e=.returned .nilIface/\∃ b b',W.heap.size<=b/\W.heap.size<=b'/\Xk (fileN k.no) w' k.db k.md k.mn (some (b,c++keepLine tm is)) (some (b',c++keepLine tm is)) (.slice none 0 0) (l-2) (f-2)/\Spares [k.db,k.md,k.mn] W w') at hAdd
 have hflat:=hR.flat;have hfl:=Mj (is.map Item.rec_);rw [List.length_map] at hfl;simp only [List.length_cons,List.length_map] at hAdd;have hlog:=hW.log.line hW.v.t0 hW.v.t1 hF hn0 hn1
 obtain⟨n,hn⟩:∃ n,is.length=n:=⟨_,rfl⟩
 rw [hn] at hn0 hn1 hfl hAdd ⊢;have Hn:=Xb hn;clear hn;have HF:=Xb hF;clear hF hok hokN
 obtain⟨kl,hkl⟩:∃ kl,keepLine tm is=kl:=⟨_,rfl⟩
 have Hne:Hid (c++kl ≠ []):=Xb (by rw [<- hkl];exact Xbb c tm is);rw [hkl] at hAdd hlog ⊢;have Hkl:=Xb hkl;have HLog:=Xb hlog;clear hkl hlog
 have hnz:((n:Int)==0)=false:=by rw [beq_eq_false_iff_ne];omega
 unfold Xi at hNow;go_enter func66,ntmps66;go_wp2
 have hrowN:∀ {W:World} {g' cap':Nat},W.ownsRow w.heap.size 135 10 (.slice (some ⟨g',0,none⟩) (1+n) cap') (1+n) ([.int .i64 0,.int .i64 0,.int .u64 0,.int .i64 0,.int .u64 0,.bool false,.int .u64 tm,.int .i64 0,.int .u64 0,.string ⟨#[]⟩] ++ Yk (is.map Item.rec_))->Yo W g' (nowR tm :: is.map Item.rec_):=fun h=>M3 (rs:=nowR tm :: is.map Item.rec_) h
 simp only [Nat.add_comm n 1] at hAdd;have s0:w.drew.cell? ⟨k.vb,0,none⟩=some (.pointer (some ⟨k.jb,0,none⟩)):=j0
 go_region_held_law (fun W=>W.cell? ⟨k.vb,0,none⟩=some (.pointer (some ⟨k.jb,0,none⟩))) (first
  | with_reducible exact s0
  | with_reducible exact s1
  | with_reducible exact s2 _
  | with_reducible exact s3
  | with_reducible exact s4
  | with_reducible assumption) (first
  | (refine step_append_lies _ (by rfl) _ _ _ (by rfl) w.heap.size 135 i0 _ 10 88 underlying162 hi hz0 hz1 hz2 rfl (by decide) (.slice (some ⟨w1.heap.size,0,none⟩) 1 1) 1 [.int .i64 0,.int .i64 0,.int .u64 0,.int .i64 0,.int .u64 0,.bool false,.int .u64 tm,.int .i64 0,.int .u64 0,.string ⟨#[]⟩] (by rfl) (World.ownsRow_lit w1 #[.int .i64 0,.int .i64 0,.int .u64 0,.int .i64 0,.int .u64 0,.bool false,.int .u64 tm,.int .i64 0,.int .u64 0,.string ⟨#[]⟩] 1 hB1.size (by decide) (by rfl)) ⟨g,0,none⟩ n cap (Yk (is.map Item.rec_)) (by rfl) hfl (fun j u hu=>by rw [Uq];exact cell_later (((Below.refl _ w1)).alloc (Nat.le_refl _) _) (hn1c j u hu)) (Xiv _) hn0 (by unfold maxLen;omega) (by omega) (by have:=hB1.size;simp;omega) _ rfl ?_;intro g' cap' w3 hown' hgrow hat hlt;have hB3:Below w.heap.size w w3:=((hB1.alloc hB1.size _).grown hgrow (by have:=hB1.size;simp;omega) hq1);have s3:w3.cell? ⟨k.vb,0,none⟩=some (.pointer (some ⟨k.jb,0,none⟩)):=cell_later hB3 j0;have hA3:=hAdd w3 g' cap' hB3 (hrowN hown') hlt)
  | (go_at_call 121;refine(hNow _ (Below.refl _ w).drew).mono ?_;rintro e w1 ⟨rfl,hb1⟩;have hB1:Below w.heap.size w w1:=(Below.refl _ w).drew.trans hb1;have s1:w1.cell? ⟨k.vb,0,none⟩=some (.pointer (some ⟨k.jb,0,none⟩)):=cell_later hB1 j0;have s2:=fun o=>cell_later ((Below.refl _ w1).alloc (Nat.le_refl _) o) s1;have hn1c:=fun j u hu=>cell_later hB1 (hflat j u hu);have hq1:∀ q,(Value.slice (some ⟨w1.heap.size,0,none⟩) 1 1).ownBlock=some q->w.heap.size<=q:=fun q hq=>(show w1.heap.size=q from by simpa [Value.ownBlock] using hq) ▸ hB1.size)
  | (go_at_call 120;refine hA3.mono ?_;rintro e w4 ⟨rfl,b,b',hb,hb',hD4,hS4⟩;have s4:w4.cell? ⟨k.vb,0,none⟩=some (.pointer (some ⟨k.jb,0,none⟩)):=(cell_of_block (hS4.block k.vb (Nat.lt_of_lt_of_le lV hB3.size) hW.nes.1.1) 0).1.trans s3))
 all_goals
  have hS5:Spares [k.db,k.md,k.mn] w w4:=(Spares.of_below hB3).trans hS4
  have hV4:Yb w4 k.vb k.mt k.ml vx tm s.tn s.ln s.tks s.lks:=hW.v.spared hS5 hW.nes.1.1 hW.nes.1.2.1 hW.nes.1.2.2 (fun b hb=>by
   have h1:=hW.d9;have h2:=hW.md9;have h3:=hW.mn9;simp only [List.mem_cons,List.not_mem_nil,or_false] at hb
   omega)
  have bJ4:=hS5.box hW.j (by have:=hW.nes.2.1;simp only [Blk.turns,List.mem_cons,List.not_mem_nil,or_false] at this ⊢;omega)
  have hW4:Raw w4 k vx tm s (c++kl) (l-2) (f-2):={ hW.toRaw with v:=hV4,j:=bJ4,d:=⟨_,_,hD4,Fl.some (Xa Hne),Fl.some (Xa Hne)⟩ }
  have hR4:=hR.spared hS5 hg (by simp only [Blk.turns,List.mem_cons,List.not_mem_nil,or_false] at hgn ⊢;omega);have hS6:Spares k.turns w w4:=hS5.mono (by simp [Blk.turns]);have hg4:g<w4.heap.size:=Nat.lt_of_lt_of_le hg hS5.size;have hbw:w.heap.size<=b:=Nat.le_trans hB3.size hb;have hbw':w.heap.size<=b':=Nat.le_trans hB3.size hb';clear hS4 hS5 hV4 bJ4 s0 s1 s2 s3 s4 hA3 hn1c hq1 hown' hgrow hat hlt hB3 hB1 hb1 hflat hAdd hNow hrowN hR j0 hb hb';go_wp2
  go_loopw [26] (fun i wr=>∃ q:Nat,q<=n/\i=.int .i64 q/\Raw wr k vx tm (Za (is.take q) s) (c++kl) (l-2) (f-2)/\Yo wr g (is.map Item.rec_)/\g<wr.heap.size/\Spares k.turns w wr/\Xk (fileN k.no) wr k.db k.md k.mn (some (b,c++kl)) (some (b',c++kl)) (.slice none 0 0) (l-2) (f-2)) (fun i _=>n-(intOf i).toNat)
  case atStart=>exact⟨0,Nat.zero_le _,rfl,hW4,hR4,hg4,hS6,hD4⟩
  case round =>
   obtain⟨q,hq,rfl,hWq,hRq,hgq,hSq,hDq⟩:=hrel;clear hD4
   by_cases hqn:q<n
   ·obtain⟨it,hit⟩:∃ it,is[q]? = some it:=⟨is[q]'(by have:=Xa Hn;omega),by simp [Xa Hn,hqn]⟩
    have hfit:=(Xa HF).get hit;have happ:=Xb (Xax (s:=s) hit);have hrk:=hRq q it.rec_ (by rw [List.getElem?_map,hit];rfl);have hB1:Below wr.heap.size wr (wr.alloc (.cells it.rec_.cells 135)):=(Below.refl _ _).alloc (Nat.le_refl _) _;have hC:=Xja k vx tm _ _ _ _ _ (hWq.below hB1) it hfit;have hB1':=Xb hB1;unfold X7.cells Xi at hrk hC hB1;have x0:=hrk 0 _ rfl;have x1:=hrk 1 _ rfl;have x2:=hrk 2 _ rfl;have x3:=hrk 3 _ rfl;have x4:=hrk 4 _ rfl;have x5:=hrk 5 _ rfl;have x6:=hrk 6 _ rfl;have x7:=hrk 7 _ rfl;have x8:=hrk 8 _ rfl;have x9:=hrk 9 _ rfl;simp only [Nat.add_zero] at x0;generalize it.rec_=r at *;obtain⟨kind,nk,nn,ak,an,pd,at_,tr,last,pth⟩:=r;simp only at x0 x1 x2 x3 x4 x5 x6 x7 x8 x9 hC hB1;clear hrk hfit;have HWq:=Xb hWq;have HRq:=Xb hRq;have HSq:=Xb hSq;have HDq:=Xb hDq;have hWa:=Xb ((Xa HWq).below (Xa hB1'));have hDa:=Xb (hDq.below (Xa hB1'));clear hWq hRq hSq hDq
    go_wp2_with (go_at_call 100;refine hC.mono ?_;rintro e w2 ⟨rfl,hW2,hS2⟩)
    have hsp:Spares [k.vb,k.mt,k.ml] wr w2:=(Spares.of_below hB1).trans hS2;have hS2H:=hS2;have hR2:=(Xa HRq).spared hsp hgq (by simp only [Blk.turns,List.mem_cons,List.not_mem_nil,or_false,not_or] at hgn ⊢;exact⟨hgn.1,hgn.2.1,hgn.2.2.1⟩);have hS3:Spares k.turns w w2:=(Xa HSq).trans (hsp.mono (by simp [Blk.turns]));have hg2:=Nat.lt_of_lt_of_le hgq hsp.size;have hD2:=(Xa hWa).Xh3 hS2H (Xa hDa);clear hC hsp hS2
    go_roundw
    case rel=>exact⟨q+1,by omega,rfl,by rw [Xa happ];exact hW2,hR2,hg2,hS3,hD2⟩
    case measure=>simp [intOf];omega
   obtain rfl:q=n:=by omega
   have hall:is.take q=is:=List.take_of_length_le (by have:=Xa Hn;omega);rw [hall] at hWq;go_wp2;go_ret;exact⟨rfl,⟨hWq,Xa HLog⟩,hSq,b,b',hbw,hbw',hDq⟩
theorem Tryz.vKeep (k:Blk) (vx:VX) (tm:Int) (s:VSt) (c:List UInt8) (l f:Int) (is:List Item) (g cap:Nat) (w:World) (hW:Whole w k vx tm s c l f) (hl:l<0) (hl1 : -999999990<=l) (hf:f<0) (hf1 : -999999990<=f) (hc:c.length<=900000000000)
  (hR:Yo w g (is.map Item.rec_)) (hg:g<w.heap.size) (hgn:g∉k.turns) (hn0:0<is.length) (hn1:is.length<=50) (hF:Yn is s) :
  Calls prog 66 #[.pointer (some ⟨k.vb,0,none⟩),.slice (some ⟨g,0,none⟩) is.length cap] w fun e w'=>e=.returned .nilIface/\Whole w' k vx tm (Za is s) (c++keepLine tm is) (l-2) (f-2)/\Spares k.turns w w':=
 (Xmg k vx tm s c l f is g cap w hW hl hl1 hf hf1 hc hR hg hgn hn0 hn1 hF).mono fun _ _ h=>⟨h.1,h.2.1,h.2.2.1⟩
end Go.Proofs
