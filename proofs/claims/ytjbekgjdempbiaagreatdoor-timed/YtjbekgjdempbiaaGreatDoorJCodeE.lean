import Derived.Test.YtjbekgjdempbiaaGreatDoorJWhole
import Derived.Test.YtjbekgjdempbiaaGreatDoorJCodeA
import Derived.Test.YtjbekgjdempbiaaGreatDoorJSpare
import Derived.Laws.RangeAny
set_option maxRecDepth 100000
set_option maxHeartbeats 8000000
namespace Go.Proofs
open Go.RowKit Go.Sort Go.Lib Go.Shelf Go.Maps
theorem Tryz.recInfo:(prog.info? 135).map (fun i=>(i.zero,i.size,i.bytes))=some (some (.agg #[.int .i64 0,.int .i64 0,.int .u64 0,.int .i64 0,.int .u64 0,.bool false,.int .u64 0,.int .i64 0,.int .u64 0,.string ⟨#[]⟩]),10,88):=by kernel_rfl
theorem flatR_one (rs:List RecD):∀ u∈flatR rs,u.oneCell'=true:=fun u hu=>by
 obtain⟨r,-,hr⟩:=List.mem_flatMap.1 hu;simp only [RecD.cells,recCells,List.mem_cons,List.not_mem_nil,or_false] at hr
 rcases hr with rfl | rfl | rfl | rfl | rfl | rfl | rfl | rfl | rfl | rfl <;> rfl
theorem add_cell (g j:Nat):(⟨g,0,none⟩:Addr).add j=⟨g,j,none⟩:=by
 by_cases h0:j=0
 ·subst h0;simp [Addr.add]
 ·simp [Addr.add,h0]
theorem rowR_flat {B g cap n:Nat} {e:TypeId} {W:World} {rs:List RecD} (h:W.ownsRow B e 10 (.slice (some ⟨g,0,none⟩) n cap) n (flatR rs)):RecRow W g rs:=rowR_of fun j u hu=>by
 have:=h.cells (g:=g) rfl j u hu
 rwa [add_cell] at this
theorem Tryz.Raw.turned {W W':World} {k:Blk} {vx:VX} {tm:Int} {s s':VSt} {c:List UInt8} {l f:Int} (h:Raw W k vx tm s c l f) (hS:Spares [k.vb,k.mt,k.ml] W W') (hV:VFull W' k.vb k.mt k.ml vx tm s'.tn s'.ln s'.tks s'.lks):Raw W' k vx tm s' c l f:=by
 obtain⟨fd,fn,hd,e1,e2⟩:=h.d;obtain⟨n1,-,m1⟩:=h.v.va.held.mapT;obtain⟨n2,-,m2⟩:=h.v.va.held.mapL;obtain⟨⟨a1,a2,a3⟩,a4,a5,a6,a7⟩:=h.nes
 have hstr:∀ {b:Nat} {x:Value},BoxN W b 9 #[x]→b ∉ [k.vb,k.mt,k.ml]:=fun hb=>by
  have h1:=hb.ne h.v.va.v (by decide);have h2:=BoxN.ne_map' hb m1;have h3:=BoxN.ne_map' hb m2;simp [h1,Ne.symm h2,Ne.symm h3]
 obtain⟨c1,c2,c3,c4⟩:=h.ne1;simp only [List.mem_cons,List.not_mem_nil,or_false,not_or] at a1 a2 a3;refine { h with v:=hV,j:=hS.box h.j ?_,d:=⟨fd,fn,hd.spared hS ?_ ?_ ?_ (fun q hq=>hstr (hd.sd q hq)) (fun q hq=>hstr (hd.sn q hq)),e1,e2⟩ }
 ·simp only [Blk.turns,List.mem_cons,List.not_mem_nil,or_false,not_or] at a4 ⊢
  exact⟨a4.1,a4.2.1,a4.2.2.1⟩
 ·simp [a5,a6,a7]
 ·simp [Ne.symm a1.2.1,c1,c2]
 ·simp [Ne.symm a1.2.2,c3,c4]
theorem Tryz.Raw.diskTurned {W W':World} {k:Blk} {vx:VX} {tm:Int} {s:VSt} {c:List UInt8} {l f:Int} (h:Raw W k vx tm s c l f) (hS:Spares [k.vb,k.mt,k.ml] W W') {fd fn:Option (Nat × List UInt8)} (hd:DiskAt W k.db k.md k.mn fd fn (.slice none 0 0) l f):DiskAt W' k.db k.md k.mn fd fn (.slice none 0 0) l f:=by
 obtain⟨n1,-,m1⟩:=h.v.va.held.mapT;obtain⟨n2,-,m2⟩:=h.v.va.held.mapL;obtain⟨⟨a1,a2,a3⟩,a4,a5,a6,a7⟩:=h.nes
 have hstr:∀ {b:Nat} {x:Value},BoxN W b 9 #[x]→b ∉ [k.vb,k.mt,k.ml]:=fun hb=>by
  have h1:=hb.ne h.v.va.v (by decide);have h2:=BoxN.ne_map' hb m1;have h3:=BoxN.ne_map' hb m2;simp [h1,Ne.symm h2,Ne.symm h3]
 obtain⟨c1,c2,c3,c4⟩:=h.ne1;simp only [List.mem_cons,List.not_mem_nil,or_false,not_or] at a1 a2 a3;refine hd.spared hS ?_ ?_ ?_ (fun q hq=>hstr (hd.sd q hq)) (fun q hq=>hstr (hd.sn q hq))
 ·simp [a5,a6,a7]
 ·simp [Ne.symm a1.2.1,c1,c2]
 ·simp [Ne.symm a1.2.2,c3,c4]
theorem Tryz.countItem (k:Blk) (vx:VX) (tm:Int) (s:VSt) (c:List UInt8) (l f:Int) (w:World) (hW:Raw w k vx tm s c l f) (i:Item) (hF:i.Fits s) :
  Calls prog 100 #[.pointer (some ⟨k.vb,0,none⟩),.agg i.rec_.cells] w fun e w'=>e=.returned (.tuple #[])∧Raw w' k vx tm (i.app s) c l f∧Spares [k.vb,k.mt,k.ml] w w':=by
 cases i with
 | tok t =>
  obtain⟨h1,h2,h3,h4,h5⟩:=hF;refine(count_tok k.vb k.mt k.ml vx tm s.tn s.ln s.tks s.lks w hW.v 0 [] t h1 h2 h3 h4 h5).mono ?_;rintro e w' ⟨rfl,hV,hS⟩;have hS':Spares [k.vb,k.mt,k.ml] w w':=hS.mono (by simp);exact⟨rfl,hW.turned hS' hV,hS'⟩
 | lea t =>
  obtain⟨h1,h2,h3,h4,h5⟩:=hF;refine(count_lea k.vb k.mt k.ml vx tm s.tn s.ln s.tks s.lks w hW.v t h1 h2 h3 h4 h5).mono ?_;rintro e w' ⟨rfl,hV,hS⟩;have hS':Spares [k.vb,k.mt,k.ml] w w':=hS.mono (by simp);exact⟨rfl,hW.turned hS' hV,hS'⟩
 | gone tk n =>
  refine(count_gone k.vb k.mt k.ml vx tm s.tn s.ln s.tks s.lks w hW.v tk n hF).mono ?_;rintro e w' ⟨rfl,hV,hS⟩;have hS':Spares [k.vb,k.mt,k.ml] w w':=hS.mono (by simp);exact⟨rfl,hW.turned hS' hV,hS'⟩
theorem Tryz.vKeepD (k:Blk) (vx:VX) (tm:Int) (s:VSt) (c:List UInt8) (l f:Int) (is:List Item) (g cap:Nat) (w:World) (hW:Whole w k vx tm s c l f) (hl:l<0) (hl1 : -999999990≤l) (hf:f<0) (hf1 : -999999990≤f) (hc:c.length≤900000000000)
  (hR:RecRow w g (is.map Item.rec_)) (hg:g<w.heap.size) (hgn:g∉k.turns) (hn0:0<is.length) (hn1:is.length≤500) (hF:FitsAll is s) :
  Calls prog 66 #[.pointer (some ⟨k.vb,0,none⟩),.slice (some ⟨g,0,none⟩) is.length cap] w fun e w'=>e=.returned .nilIface∧Whole w' k vx tm (appAll is s) (c++keepLine tm is) (l-2) (f-2)∧Spares k.turns w w'∧∃ b b',w.heap.size≤b∧w.heap.size≤b'∧DiskAt w' k.db k.md k.mn (some (b,c++keepLine tm is)) (some (b',c++keepLine tm is)) (.slice none 0 0) (l-2) (f-2):=by
 obtain⟨i0,hi,hz0,hz1,hz2⟩:=info_parts recInfo
 have hNow:=fun W (hb:Below w.heap.size w W)=>now k.vb tm W ((hW.v.below hb).va.v.cell 2 rfl)
 have j0:=hW.v.va.v.cell 0 (v:=.pointer (some ⟨k.jb,0,none⟩)) (by rw [← hW.jn];rfl);have lV:=hW.v.va.v.lt;have hok:=FitsAll.ok hF
 have hokN:∀ r∈nowR tm :: is.map Item.rec_,r.Ok∧Ascii r.pth:=fun r hr=>by
  rcases List.mem_cons.1 hr with rfl | hr
  ·exact⟨⟨show (-9223372036854775808:Int)≤0 by decide,show (0:Int)≤9223372036854775807 by decide,show 0<18446744073709551616 by decide,show 0<18446744073709551616 by decide,hW.v.t0,hW.v.t1,show (-9223372036854775808:Int)≤0 by decide,show (0:Int)≤9223372036854775807 by decide,show (0:Int)≤0 by decide,show (0:Int)≤18446744073709551615 by decide,show 0≤1000 by decide⟩,ascii_nil⟩
  ·exact hok r hr
 obtain⟨fd,fn,hD,e1,e2⟩:=hW.d
 have hAdd:=fun W gg cc (hb:Below w.heap.size w W) (hrow:RecRow W gg (nowR tm :: is.map Item.rec_)) (hgg:gg<W.heap.size)=>jAdd k.jb k.db k.md k.mn gg cc (nowR tm :: is.map Item.rec_) fd fn l f W (hW.j.below hb hW.j.lt) (hD.below hb) hl hl1 hf hf1 (by rw [e1];omega) (by rw [e2];omega) hrow hgg (fun r hr=>(hokN r hr).1) (fun r hr=>(hokN r hr).2) (by simp;omega) (hW.v.va.env.below hb hW.v.va.six) (Nat.le_trans hW.v.va.six hb.size)
 rw [e1,e2] at hAdd
 change ∀(W:World) (gg cc:Nat),_→_→_→Calls prog 120 _ W (fun e w'=>e=.returned .nilIface∧∃ b b',W.heap.size≤b∧W.heap.size≤b'∧DiskAt w' k.db k.md k.mn (some (b,c++keepLine tm is)) (some (b',c++keepLine tm is)) (.slice none 0 0) (l-2) (f-2)∧Spares [k.db,k.md,k.mn] W w') at hAdd
 have hflat:=hR.flat;have hfl:=flatR_length (is.map Item.rec_);rw [List.length_map] at hfl;simp only [List.length_cons,List.length_map] at hAdd;have hlog:=hW.log.line hW.v.t0 hW.v.t1 hF hn0 hn1
 obtain⟨n,hn⟩:∃ n,is.length=n:=⟨_,rfl⟩
 rw [hn] at hn0 hn1 hfl hAdd ⊢;have Hn:=hid_intro hn;clear hn;have HF:=hid_intro hF;clear hF hok hokN
 obtain⟨kl,hkl⟩:∃ kl,keepLine tm is=kl:=⟨_,rfl⟩
 rw [hkl] at hAdd hlog ⊢;have Hkl:=hid_intro hkl;have HLog:=hid_intro hlog;clear hkl hlog
 have hnz:((n:Int)==0)=false:=by rw [beq_eq_false_iff_ne];omega
 unfold recCells at hNow;go_enter func66,ntmps66;go_wp2
 have hrowN:∀ {W:World} {g' cap':Nat},W.ownsRow w.heap.size 135 10 (.slice (some ⟨g',0,none⟩) (1+n) cap') (1+n) ([.int .i64 0,.int .i64 0,.int .u64 0,.int .i64 0,.int .u64 0,.bool false,.int .u64 tm,.int .i64 0,.int .u64 0,.string ⟨#[]⟩] ++ flatR (is.map Item.rec_))→RecRow W g' (nowR tm :: is.map Item.rec_):=fun h=>rowR_flat (rs:=nowR tm :: is.map Item.rec_) h
 simp only [Nat.add_comm n 1] at hAdd;have s0:w.drew.cell? ⟨k.vb,0,none⟩=some (.pointer (some ⟨k.jb,0,none⟩)):=j0
 go_region_held_law (fun W=>W.cell? ⟨k.vb,0,none⟩=some (.pointer (some ⟨k.jb,0,none⟩))) (first
  | with_reducible exact s0
  | with_reducible exact s1
  | with_reducible exact s2 _
  | with_reducible exact s3
  | with_reducible exact s4
  | with_reducible assumption) (first
  | (refine step_append_lies _ (by rfl) _ _ _ (by rfl) w.heap.size 135 i0 _ 10 88 underlying162 hi hz0 hz1 hz2 rfl (by decide) (.slice (some ⟨w1.heap.size,0,none⟩) 1 1) 1 [.int .i64 0,.int .i64 0,.int .u64 0,.int .i64 0,.int .u64 0,.bool false,.int .u64 tm,.int .i64 0,.int .u64 0,.string ⟨#[]⟩] (by rfl) (World.ownsRow_lit w1 #[.int .i64 0,.int .i64 0,.int .u64 0,.int .i64 0,.int .u64 0,.bool false,.int .u64 tm,.int .i64 0,.int .u64 0,.string ⟨#[]⟩] 1 hB1.size (by decide) (by rfl)) ⟨g,0,none⟩ n cap (flatR (is.map Item.rec_)) (by rfl) hfl (fun j u hu=>by rw [add_cell];exact cell_later (((Below.refl _ w1)).alloc (Nat.le_refl _) _) (hn1c j u hu)) (flatR_one _) hn0 (by unfold maxLen;omega) (by omega) (by have:=hB1.size;simp;omega) _ rfl ?_;intro g' cap' w3 hown' hgrow hat hlt;have hB3:Below w.heap.size w w3:=((hB1.alloc hB1.size _).grown hgrow (by have:=hB1.size;simp;omega) hq1);have s3:w3.cell? ⟨k.vb,0,none⟩=some (.pointer (some ⟨k.jb,0,none⟩)):=cell_later hB3 j0;have hA3:=hAdd w3 g' cap' hB3 (hrowN hown') hlt)
  | (go_at_call 121;refine(hNow _ (Below.refl _ w).drew).mono ?_;rintro e w1 ⟨rfl,hb1⟩;have hB1:Below w.heap.size w w1:=(Below.refl _ w).drew.trans hb1;have s1:w1.cell? ⟨k.vb,0,none⟩=some (.pointer (some ⟨k.jb,0,none⟩)):=cell_later hB1 j0;have s2:=fun o=>cell_later ((Below.refl _ w1).alloc (Nat.le_refl _) o) s1;have hn1c:=fun j u hu=>cell_later hB1 (hflat j u hu);have hq1:∀ q,(Value.slice (some ⟨w1.heap.size,0,none⟩) 1 1).ownBlock=some q→w.heap.size≤q:=fun q hq=>(show w1.heap.size=q from by simpa [Value.ownBlock] using hq) ▸ hB1.size)
  | (go_at_call 120;refine hA3.mono ?_;rintro e w4 ⟨rfl,b,b',hb,hb',hD4,hS4⟩;have s4:w4.cell? ⟨k.vb,0,none⟩=some (.pointer (some ⟨k.jb,0,none⟩)):=(cell_of_block (hS4.block k.vb (Nat.lt_of_lt_of_le lV hB3.size) hW.nes.1.1) 0).1.trans s3))
 all_goals
  have hS5:Spares [k.db,k.md,k.mn] w w4:=(Spares.of_below hB3).trans hS4
  have hV4:VFull w4 k.vb k.mt k.ml vx tm s.tn s.ln s.tks s.lks:=hW.v.spared hS5 hW.nes.1.1 hW.nes.1.2.1 hW.nes.1.2.2 (fun b hb=>by
   have h1:=hW.d9;have h2:=hW.md9;have h3:=hW.mn9;simp only [List.mem_cons,List.not_mem_nil,or_false] at hb
   omega)
  have bJ4:=hS5.box hW.j (by have:=hW.nes.2.1;simp only [Blk.turns,List.mem_cons,List.not_mem_nil,or_false] at this ⊢;omega)
  have hW4:Raw w4 k vx tm s (c++kl) (l-2) (f-2):={ hW.toRaw with v:=hV4,j:=bJ4,d:=⟨_,_,hD4,rfl,rfl⟩ }
  have hR4:=hR.spared hS5 hg (by simp only [Blk.turns,List.mem_cons,List.not_mem_nil,or_false] at hgn ⊢;omega);have hS6:Spares k.turns w w4:=hS5.mono (by simp [Blk.turns]);have hg4:g<w4.heap.size:=Nat.lt_of_lt_of_le hg hS5.size;have hbw:w.heap.size≤b:=Nat.le_trans hB3.size hb;have hbw':w.heap.size≤b':=Nat.le_trans hB3.size hb';clear hS4 hS5 hV4 bJ4 s0 s1 s2 s3 s4 hA3 hn1c hq1 hown' hgrow hat hlt hB3 hB1 hb1 hflat hAdd hNow hrowN hR j0 hb hb';go_wp2
  go_loopw [26] (fun i wr=>∃ q:Nat,q≤n∧i=.int .i64 q∧Raw wr k vx tm (appAll (is.take q) s) (c++kl) (l-2) (f-2)∧RecRow wr g (is.map Item.rec_)∧g<wr.heap.size∧Spares k.turns w wr∧DiskAt wr k.db k.md k.mn (some (b,c++kl)) (some (b',c++kl)) (.slice none 0 0) (l-2) (f-2)) (fun i _=>n-(intOf i).toNat)
  case atStart=>exact⟨0,Nat.zero_le _,rfl,hW4,hR4,hg4,hS6,hD4⟩
  case round =>
   obtain⟨q,hq,rfl,hWq,hRq,hgq,hSq,hDq⟩:=hrel;clear hD4
   by_cases hqn:q<n
   ·obtain⟨it,hit⟩:∃ it,is[q]? = some it:=⟨is[q]'(by have:=hid_elim Hn;omega),by simp [hid_elim Hn,hqn]⟩
    have hfit:=(hid_elim HF).get hit;have happ:=hid_intro (appAll_take (s:=s) hit);have hrk:=hRq q it.rec_ (by rw [List.getElem?_map,hit];rfl);have hB1:Below wr.heap.size wr (wr.alloc (.cells it.rec_.cells 135)):=(Below.refl _ _).alloc (Nat.le_refl _) _;have hC:=countItem k vx tm _ _ _ _ _ (hWq.below hB1) it hfit;have hB1':=hid_intro hB1;unfold RecD.cells recCells at hrk hC hB1;have x0:=hrk 0 _ rfl;have x1:=hrk 1 _ rfl;have x2:=hrk 2 _ rfl;have x3:=hrk 3 _ rfl;have x4:=hrk 4 _ rfl;have x5:=hrk 5 _ rfl;have x6:=hrk 6 _ rfl;have x7:=hrk 7 _ rfl;have x8:=hrk 8 _ rfl;have x9:=hrk 9 _ rfl;simp only [Nat.add_zero] at x0;generalize it.rec_=r at *;obtain⟨kind,nk,nn,ak,an,pd,at_,tr,last,pth⟩:=r;simp only at x0 x1 x2 x3 x4 x5 x6 x7 x8 x9 hC hB1;clear hrk hfit;have HWq:=hid_intro hWq;have HRq:=hid_intro hRq;have HSq:=hid_intro hSq;have HDq:=hid_intro hDq;have hWa:=hid_intro ((hid_elim HWq).below (hid_elim hB1'));have hDa:=hid_intro (hDq.below (hid_elim hB1'));clear hWq hRq hSq hDq
    go_wp2_with (go_at_call 100;refine hC.mono ?_;rintro e w2 ⟨rfl,hW2,hS2⟩)
    have hsp:Spares [k.vb,k.mt,k.ml] wr w2:=(Spares.of_below hB1).trans hS2;have hS2H:=hS2;have hR2:=(hid_elim HRq).spared hsp hgq (by simp only [Blk.turns,List.mem_cons,List.not_mem_nil,or_false,not_or] at hgn ⊢;exact⟨hgn.1,hgn.2.1,hgn.2.2.1⟩);have hS3:Spares k.turns w w2:=(hid_elim HSq).trans (hsp.mono (by simp [Blk.turns]));have hg2:=Nat.lt_of_lt_of_le hgq hsp.size;have hD2:=(hid_elim hWa).diskTurned hS2H (hid_elim hDa);clear hC hsp hS2
    go_roundw
    case rel=>exact⟨q+1,by omega,rfl,by rw [hid_elim happ];exact hW2,hR2,hg2,hS3,hD2⟩
    case measure=>simp [intOf];omega
   ·obtain rfl:q=n:=by omega
    have hall:is.take q=is:=List.take_of_length_le (by have:=hid_elim Hn;omega);rw [hall] at hWq;go_wp2;go_ret;exact⟨rfl,⟨hWq,hid_elim HLog⟩,hSq,b,b',hbw,hbw',hDq⟩
theorem Tryz.vKeep (k:Blk) (vx:VX) (tm:Int) (s:VSt) (c:List UInt8) (l f:Int) (is:List Item) (g cap:Nat) (w:World) (hW:Whole w k vx tm s c l f) (hl:l<0) (hl1 : -999999990≤l) (hf:f<0) (hf1 : -999999990≤f) (hc:c.length≤900000000000)
  (hR:RecRow w g (is.map Item.rec_)) (hg:g<w.heap.size) (hgn:g∉k.turns) (hn0:0<is.length) (hn1:is.length≤500) (hF:FitsAll is s) :
  Calls prog 66 #[.pointer (some ⟨k.vb,0,none⟩),.slice (some ⟨g,0,none⟩) is.length cap] w fun e w'=>e=.returned .nilIface∧Whole w' k vx tm (appAll is s) (c++keepLine tm is) (l-2) (f-2)∧Spares k.turns w w':=
 (vKeepD k vx tm s c l f is g cap w hW hl hl1 hf hf1 hc hR hg hgn hn0 hn1 hF).mono fun _ _ h=>⟨h.1,h.2.1,h.2.2.1⟩
theorem Tryz.Whole.lts {W:World} {k:Blk} {vx:VX} {tm:Int} {s:VSt} {c:List UInt8} {l f:Int} (hW:Whole W k vx tm s c l f):∀ b∈k.turns,b<W.heap.size:=fun b hb=>by
 obtain⟨fd,fn,hd,-,-⟩:=hW.d;have h1:=hW.v.va.v.lt;obtain⟨h2,h2'⟩:=hW.v.va.held.lt;obtain⟨h3,h4,h5⟩:=hd.lt;simp only [Blk.turns,List.mem_cons,List.not_mem_nil,or_false] at hb
 rcases hb with rfl | rfl | rfl | rfl | rfl | rfl <;> assumption
theorem Tryz.keep1 (k:Blk) (vx:VX) (tm:Int) (s:VSt) (c:List UInt8) (l f:Int) (i:Item) (w:World) (hW:Whole w k vx tm s c l f) (hl:l<0) (hl1 : -999999990≤l) (hf:f<0) (hf1 : -999999990≤f) (hc:c.length≤900000000000) (hF:i.Fits s) :
  Calls prog 66 #[.pointer (some ⟨k.vb,0,none⟩),.slice (some ⟨w.heap.size,0,none⟩) 1 1] (w.alloc (.cells i.rec_.cells 135)) fun e w'=>e=.returned .nilIface∧Whole w' k vx tm (i.app s) (c++keepLine tm [i]) (l-2) (f-2)∧Spares k.turns w w':=by
 have hB:Below w.heap.size w (w.alloc (.cells i.rec_.cells 135)):=(Below.refl _ _).alloc (Nat.le_refl _) _;have bN:=BoxN.new w 135 i.rec_.cells;have hlt:=hW.lts
 have h:=vKeep k vx tm s c l f [i] w.heap.size 1 _ (hW.below hB) hl hl1 hf hf1 hc (fun a r hr j v hv=>by
  cases a with
  | succ a=>simp at hr
  | zero =>
   obtain rfl:i.rec_=r:=by simpa using hr
   have:=bN.cell j hv
   simpa using this) (by simp) (fun hm=>by have:=hlt _ hm;omega) (by simp) (by simp) ⟨hF,trivial⟩
 refine h.mono ?_;rintro e w' ⟨rfl,h1,h2⟩;exact⟨rfl,h1,(Spares.of_below hB).trans h2⟩
theorem putLea_new {t:LeaE} {l:List LeaE} (h:∀ x∈l,x.n<t.n):putLea t l=l ++ [t]:=by
 unfold putLea;rw [if_neg];intro hx;obtain⟨x,hx,e⟩:=List.any_eq_true.1 hx;have:=h x hx
 have:x.n=t.n:=by simpa using e
 omega
theorem Tryz.VaultAt.lenL {W:World} {vb mt ml:Nat} {vx:VX} {tm tn ln:Int} {tks:List TokE} {lks:List LeaE} (h:VaultAt W vb mt ml vx tm tn ln tks lks) (ty:TypeId):(Builtin.len_ #[121] ty #[.map (some ml)]).run prog W=.ok (.int .i64 lks.length) W:=by
 obtain⟨n,_,hm⟩:=h.held.mapL;have:=hm.len underlying121 ty;rw [nmType.size_mapD _ h.ok.ksL.1] at this
 simpa using this
def newT (n m:Nat):TokE:=⟨n,1,m,18446744073709551615,0,false⟩
end Go.Proofs
namespace Go.Proofs
open Go.RowKit Go.Sort Go.Lib Go.Shelf
theorem ret_bool {a b:Bool} (h:a=b):Ending.returned (.bool a)=.returned (.bool b):=by rw [h]
def nameR (r:Int):Bool:=decide ((97≤r∧r≤122)∨(48≤r∧r≤57)∨r=45)
theorem Tryz.inName (r:Int) (w:World):Calls prog 141 #[.int .i32 r] w fun e w'=>e=.returned (.bool (nameR r))∧w'=w:=by
 have hr:Hid (nameR r=decide ((97≤r∧r≤122)∨(48≤r∧r≤57)∨r=45)):=hid_intro rfl;generalize nameR r=b at *;go_enter func141,ntmps141;go_wp2
 all_goals
  go_ret;refine⟨?_,rfl⟩;rw [hid_elim hr];refine ret_bool ?_;rw [Bool.eq_iff_iff];simp
  try omega
theorem Tryz.valid (s:List UInt8) (w:World) (hs:s.length≤1000000) :
  Calls prog 92 #[.string ⟨s.toArray⟩] w fun e w'=>e=.returned (.bool (pathI s))∧Below w.heap.size w w':=by
 have hI:=fun r W=>inName r W
 by_cases h24:24<s.length
 ·have hr:Hid (pathI s=false):=hid_intro (by simp [pathI];omega)
  go_enter func92,ntmps92;go_wp2;go_ret;exact⟨by rw [hid_elim hr];rfl,Below.refl _ _⟩
 ·go_enter func92,ntmps92
  go_wp2
  go_loopw [3] (fun pv wr=>∃(k:Nat) (b:Bool) (z:Int),k≤s.length∧wr=w.iter ⟨s.toArray⟩ k∧pv=.int .i32 z∧Hid ((z=47↔b=false)∧(s.take k).foldl pstep (some false)=some b)) (fun _ wr=>s.length-wr.iterPos w.heap.size)
  case atStart=>exact⟨0,false,47,Nat.zero_le _,rfl,rfl,hid_intro ⟨by simp,rfl⟩⟩
  case round =>
   obtain⟨k,b,z,hk,rfl,rfl,hst⟩:=hrel
   by_cases hkl:k<s.length
   ·obtain⟨c,hc⟩:∃ c,s[k]? = some c:=⟨s[k],by simp [hkl]⟩
    have hck:((⟨s.toArray⟩:ByteArray)[k]'(by simpa [ByteArray.size] using hkl))=c:=by
     have h1:s[k]'hkl=c:=by simpa [hkl] using hc
     rw [← h1];rfl
    have HP:=hid_intro (fun o=>pstep_take (o:=o) hc)
    have hks:k<(⟨s.toArray⟩:ByteArray).size:=by simpa [ByteArray.size] using hkl
    by_cases h128:c.toNat<128
    ·have hnx:=fun ty=>run_next_ascii (P:=prog) w ⟨s.toArray⟩ k ty hks (by rw [hck];exact h128)
     simp only [hck] at hnx
     obtain⟨r,hr⟩:∃ r:Int,(c.toNat:Int)=r:=⟨_,rfl⟩
     rw [hr] at hnx
     have hR:=fun W=>hI r W
     have Hr:=hid_intro hr;clear hr hI
     by_cases h47:r=47
     ·subst h47
      by_cases hz:z=47
      ·subst hz
       have hres:Hid (pathI s=false):=hid_intro (by
        obtain⟨e1,e2⟩:=hid_elim hst;have hb:b=false:=e1.1 rfl;refine pathI_cut (k:=k+1) ?_;rw [hid_elim HP _ e2,pstep_bar (by have:=hid_elim Hr;omega),hb]
        rfl)
       clear hst
       go_wp2_with (go_at_call 141;fail)
       go_ret;exact⟨by rw [hid_elim hres];rfl,(Below.refl _ w).alloc (Nat.le_refl _) _⟩
      ·have hz':(z==47)=false:=by simpa using hz
       have hst':Hid ((47:Int)=47↔false=false):=hid_intro (by simp)
       have hnew:Hid ((s.take (k+1)).foldl pstep (some false)=some false):=hid_intro (by
        obtain⟨e1,e2⟩:=hid_elim hst
        have hb:b=true:=by cases b;exact absurd (e1.2 rfl) hz;rfl
        rw [hid_elim HP _ e2,pstep_bar (by have:=hid_elim Hr;omega),hb]
        rfl)
       clear hst hz
       go_wp2_with (go_at_call 141;fail)
       go_roundw
       case rel=>exact⟨k+1,false,47,by omega,rfl,rfl,hid_intro ⟨by simp,hid_elim hnew⟩⟩
       case measure=>simp;omega
     ·have h47':(r==47)=false:=by simpa using h47
      obtain⟨nb,hnb⟩:∃ nb,nameR r=nb:=⟨_,rfl⟩
      rw [hnb] at hR;have Hnb:=hid_intro hnb;have H47:=hid_intro h47;clear hnb h47;cases nb
      ·have hres:Hid (pathI s=false):=hid_intro (by
        obtain⟨e1,e2⟩:=hid_elim hst;refine pathI_cut (k:=k+1) ?_;rw [hid_elim HP _ e2];have h1:=hid_elim Hnb;have h2:=hid_elim H47;have h3:=hid_elim Hr;simp only [nameR,decide_eq_false_iff_not] at h1
        exact pstep_bad (by omega))
       by_cases hz:z=47
       ·subst hz
        clear hst
        go_wp2_with (go_at_call 141;refine(hR _).mono ?_;rintro e w1 ⟨rfl,rfl⟩)
        go_ret;exact⟨by rw [hid_elim hres];rfl,(Below.refl _ w).alloc (Nat.le_refl _) _⟩
       ·have hz':(z==47)=false:=by simpa using hz
        clear hst hz
        go_wp2_with (go_at_call 141;refine(hR _).mono ?_;rintro e w1 ⟨rfl,rfl⟩)
        go_ret;exact⟨by rw [hid_elim hres];rfl,(Below.refl _ w).alloc (Nat.le_refl _) _⟩
      ·have hnew:Hid ((r=47↔true=false)∧(s.take (k+1)).foldl pstep (some false)=some true):=hid_intro (by
        obtain⟨e1,e2⟩:=hid_elim hst;have h1:=hid_elim Hnb;have h2:=hid_elim H47;have h3:=hid_elim Hr;simp only [nameR,decide_eq_true_eq] at h1
        exact⟨by simp [h2],by rw [hid_elim HP _ e2];exact pstep_good (by omega)⟩)
       by_cases hz:z=47
       ·subst hz
        clear hst
        go_wp2_with (go_at_call 141;refine(hR _).mono ?_;rintro e w1 ⟨rfl,rfl⟩)
        go_roundw
        case rel=>exact⟨k+1,true,r,by omega,rfl,rfl,hnew⟩
        case measure=>simp;omega
       ·have hz':(z==47)=false:=by simpa using hz
        clear hst hz
        go_wp2_with (go_at_call 141;refine(hR _).mono ?_;rintro e w1 ⟨rfl,rfl⟩)
        go_roundw
        case rel=>exact⟨k+1,true,r,by omega,rfl,rfl,hnew⟩
        case measure=>simp;omega
    ·have hnx:=fun ty=>run_next_any (P:=prog) w ⟨s.toArray⟩ k ty hks
     obtain⟨hd,-⟩:=decode_high ⟨s.toArray⟩ k hks (by rw [hck];omega)
     obtain⟨r,hr⟩:∃ r:Int,((Utf8.decode ⟨s.toArray⟩ k).1:Int)=r:=⟨_,rfl⟩
     rw [hr] at hnx
     have hr128:128≤r:=by omega
     have hR:=fun W=>hI r W
     have hnb:nameR r=false:=by simp only [nameR,decide_eq_false_iff_not];omega
     rw [hnb] at hR
     have h47':(r==47)=false:=by simp;omega
     have hres:Hid (pathI s=false):=hid_intro (by
      obtain⟨e1,e2⟩:=hid_elim hst;refine pathI_cut (k:=k+1) ?_;rw [hid_elim HP _ e2]
      exact pstep_bad (by omega))
     generalize (Utf8.decode ⟨s.toArray⟩ k).2=wd at *
     have h47p:¬ r=47:=by omega
     clear hr hI hd hnb hr128
     by_cases hz:z=47
     ·subst hz
      clear hst
      go_wp2_with (go_at_call 141;refine(hR _).mono ?_;rintro e w1 ⟨rfl,rfl⟩)
      go_ret;exact⟨by rw [hid_elim hres];rfl,(Below.refl _ w).alloc (Nat.le_refl _) _⟩
     ·have hz':(z==47)=false:=by simpa using hz
      clear hst hz
      go_wp2_with (go_at_call 141;refine(hR _).mono ?_;rintro e w1 ⟨rfl,rfl⟩)
      go_ret;exact⟨by rw [hid_elim hres];rfl,(Below.refl _ w).alloc (Nat.le_refl _) _⟩
   ·obtain rfl:k=s.length:=by omega
    have hnx:=fun ty=>run_next_end (P:=prog) w ⟨s.toArray⟩ s.length ty (by simp [ByteArray.size])
    have hres:Hid (pathI s=(z != 47)):=hid_intro (by
     obtain⟨e1,e2⟩:=hid_elim hst;rw [List.take_length] at e2
     have h24':s.length≤24:=by omega
     cases b
     ·rw [e1.2 rfl];simp [pathI,e2]
     ·have hz:z≠47:=fun e=>by have:=e1.1 e;cases this
      simp [pathI,e2,h24',hz])
    clear hst;go_wp2;go_ret;exact⟨by rw [hid_elim hres];rfl,(Below.refl _ w).alloc (Nat.le_refl _) _⟩
end Go.Proofs
namespace Go.Proofs
open Go.RowKit Go.Sort Go.Lib Go.Shelf Go.Maps
def mayE (lv pv:Bool) (ttl most:Int) (nl:Nat) (tm:Int):Int:=
 if lv=false then 1 else if pv=false then 2 else if ttl=0∨most<ttl then 3 else if 14≤nl then 4 else if tm=18446744073709551615 then 3 else 0
def Tryz.errV (k:Int):Value:=if k=0 then .nilIface else .iface 33 (.int .i64 k)
theorem Tryz.errV_nz {k:Int} (h:k≠0):errV k=.iface 33 (.int .i64 k):=if_neg h
theorem Tryz.mayIssue (vb mt ml:Nat) (vx:VX) (tm tn ln:Int) (tks:List TokE) (lks:List LeaE) (w:World) (hV:VaultAt w vb mt ml vx tm tn ln tks lks) (x:Int × Int) (lv:Bool) (pth:List UInt8) (hpl:pth.length≤1000000) (ttl most:Int)
  (hF:∀ W,Below w.heap.size w W→Calls prog 83 #[.pointer (some ⟨vb,0,none⟩),nmV x] W fun e w'=>e=.returned (.bool lv)∧Below W.heap.size W w') :
  Calls prog 64 #[.pointer (some ⟨vb,0,none⟩),nmV x,.string ⟨pth.toArray⟩,.int .u64 ttl,.int .u64 most] w fun e w'=>e=.returned (errV (mayE lv (pathI pth) ttl most lks.length tm))∧Below w.heap.size w w':=by
 have hb0:Below w.heap.size w (w.alloc (.cells #[.int .i64 x.1,.int .u64 x.2] 114)):=(Below.refl _ w).alloc (Nat.le_refl _) _;have hF1:=hF _ hb0
 have hVal:=fun W=>valid pth W hpl
 have hlen:=fun W (hb:Below w.heap.size w W)=>(hV.below hb).lenL
 have hcell:=fun W (hb:Below w.heap.size w W)=>(hV.below hb).v.cell 4 (v:=.map (some ml)) rfl
 have htime:=fun W (hb:Below w.heap.size w W)=>(hV.below hb).v.cell 2 (v:=.int .u64 tm) rfl
 have hr:Hid (mayE lv (pathI pth) ttl most lks.length tm=if lv=false then 1 else if pathI pth=false then 2 else if ttl=0∨most<ttl then 3 else if 14≤lks.length then 4 else if tm=18446744073709551615 then 3 else 0):=hid_intro rfl;generalize mayE lv (pathI pth) ttl most lks.length tm=r at *;generalize pathI pth=pv at *;unfold nmV at hF1 ⊢;clear hF;cases lv
 ·obtain rfl:r=1:=by rw [hid_elim hr];rfl
  rw [errV_nz (by decide)];clear hr;go_enter func64,ntmps64
  go_wp2_with (go_at_call 83;refine hF1.mono ?_;rintro e w1 ⟨rfl,hb1⟩)
  go_ret;exact⟨rfl,hb0.trans (hb1.mono (by simp))⟩
 ·cases pv
  ·obtain rfl:r=2:=by rw [hid_elim hr];rfl
   rw [errV_nz (by decide)];clear hr;go_enter func64,ntmps64
   go_wp2_with (first
    | (go_at_call 83;refine hF1.mono ?_;rintro e w1 ⟨rfl,hb1⟩)
    | (go_at_call 92;refine(hVal _).mono ?_;rintro e w2 ⟨rfl,hb2⟩))
   go_ret;exact⟨rfl,(hb0.trans (hb1.mono (by simp))).trans (hb2.mono (by have:=hb1.size;simp at this;omega))⟩
  ·by_cases h3:ttl=0∨most<ttl
   ·obtain rfl:r=3:=by rw [hid_elim hr,if_neg (by simp),if_neg (by simp),if_pos h3]
    rw [errV_nz (by decide)];clear hr
    by_cases h0:ttl=0
    ·subst h0
     clear h3;go_enter func64,ntmps64
     go_wp2_with (first
      | (go_at_call 83;refine hF1.mono ?_;rintro e w1 ⟨rfl,hb1⟩)
      | (go_at_call 92;refine(hVal _).mono ?_;rintro e w2 ⟨rfl,hb2⟩))
     go_ret;exact⟨rfl,(hb0.trans (hb1.mono (by simp))).trans (hb2.mono (by have:=hb1.size;simp at this;omega))⟩
    ·have h0':(ttl==0)=false:=by simpa using h0
     have h3':most<ttl:=h3.resolve_left h0;clear h3 h0;go_enter func64,ntmps64
     go_wp2_with (first
      | (go_at_call 83;refine hF1.mono ?_;rintro e w1 ⟨rfl,hb1⟩)
      | (go_at_call 92;refine(hVal _).mono ?_;rintro e w2 ⟨rfl,hb2⟩))
     go_ret;exact⟨rfl,(hb0.trans (hb1.mono (by simp))).trans (hb2.mono (by have:=hb1.size;simp at this;omega))⟩
   ·have h0':(ttl==0)=false:=by simp;omega
    have h3':¬ most<ttl:=by omega
    by_cases h4:14≤lks.length
    ·obtain rfl:r=4:=by rw [hid_elim hr,if_neg (by simp),if_neg (by simp),if_neg h3,if_pos h4]
     rw [errV_nz (by decide)];clear hr h3;go_enter func64,ntmps64
     go_wp2_with (first
      | (go_at_call 83;refine hF1.mono ?_;rintro e w1 ⟨rfl,hb1⟩)
      | (go_at_call 92;refine(hVal _).mono ?_;rintro e w2 ⟨rfl,hb2⟩;have hb9:=(hb0.trans (hb1.mono (by simp))).trans (hb2.mono (by have:=hb1.size;simp at this;omega));have hl9:=hlen _ hb9;have c9:=hcell _ hb9))
     go_ret;exact⟨rfl,hb9⟩
    ·by_cases h5:tm=18446744073709551615
     ·obtain rfl:r=3:=by rw [hid_elim hr,if_neg (by simp),if_neg (by simp),if_neg h3,if_neg h4,if_pos h5]
      rw [errV_nz (by decide)];subst h5;clear hr h3;go_enter func64,ntmps64
      go_wp2_with (first
       | (go_at_call 83;refine hF1.mono ?_;rintro e w1 ⟨rfl,hb1⟩)
       | (go_at_call 92;refine(hVal _).mono ?_;rintro e w2 ⟨rfl,hb2⟩;have hb9:=(hb0.trans (hb1.mono (by simp))).trans (hb2.mono (by have:=hb1.size;simp at this;omega));have hl9:=hlen _ hb9;have c9:=hcell _ hb9;have t9:=htime _ hb9))
      go_ret;exact⟨rfl,hb9⟩
     ·obtain rfl:r=0:=by rw [hid_elim hr,if_neg (by simp),if_neg (by simp),if_neg h3,if_neg h4,if_neg h5]
      have h5':(tm==18446744073709551615)=false:=by simpa using h5
      rw [show errV 0=.nilIface from rfl];clear hr h3 h5;go_enter func64,ntmps64
      go_wp2_with (first
       | (go_at_call 83;refine hF1.mono ?_;rintro e w1 ⟨rfl,hb1⟩)
       | (go_at_call 92;refine(hVal _).mono ?_;rintro e w2 ⟨rfl,hb2⟩;have hb9:=(hb0.trans (hb1.mono (by simp))).trans (hb2.mono (by have:=hb1.size;simp at this;omega));have hl9:=hlen _ hb9;have c9:=hcell _ hb9;have t9:=htime _ hb9))
      go_ret;exact⟨rfl,hb9⟩
end Go.Proofs
