import Derived.Test.YtjbekgjdempbiaaGreatDoorJBlB
set_option maxRecDepth 100000
set_option maxHeartbeats 8000000
namespace Go.Proofs
open Go.RowKit Go.Sort Go.Lib Go.Shelf Go.Maps Go.WideMaps
def StrIn (W:World) (a0:Option Addr) (ps:List (List UInt8)):Prop:=∀(i:Nat) (p:List UInt8),ps[i]? = some p→∃ q off,a0=some ⟨q,off,none⟩∧q<W.heap.size∧W.cell? ⟨q,off+i,none⟩=some (.string ⟨p.toArray⟩)
abbrev strs (xs:List (List UInt8)):List Value:=xs.map fun x=>.string ⟨x.toArray⟩
theorem len_stepB {a c j:Nat} (h1:a≤c+1300000) (h3:c≤300000000+1300000*j):a≤300000000+1300000*(j+1):=by
 rw [Nat.mul_succ,← Nat.add_assoc];exact Nat.le_trans h1 (Nat.add_le_add_right h3 _)
theorem len_stepC {c j:Nat} (h3:c≤300000000+1300000*j):c≤300000000+1300000*(j+1):=Nat.le_trans h3 (Nat.add_le_add_left (Nat.mul_le_mul_left _ (Nat.le_succ j)) _)
theorem filter_hit {xs:List (List UInt8)} {j:Nat} {p:List UInt8} (h:xs[j]? = some p) (hp:pathI p=true):(xs.take (j+1)).filter pathI=(xs.take j).filter pathI ++ [p]:=by
 rw [take_snoc h,List.filter_append];simp [hp]
theorem filter_miss {xs:List (List UInt8)} {j:Nat} {p:List UInt8} (h:xs[j]? = some p) (hp:pathI p=false):(xs.take (j+1)).filter pathI=(xs.take j).filter pathI:=by
 rw [take_snoc h,List.filter_append];simp [hp]
abbrev BlP (q o fb:Nat) (p:List UInt8) (W:World):Prop:=W.cell? ⟨q,o,none⟩=some (.string ⟨p.toArray⟩)∧(W.cell? ⟨fb,0,none⟩=some (.int .i64 (-1))∧W.cell? ⟨fb,1,none⟩=some (.int .i64 (-1))∧W.cell? ⟨fb,2,none⟩=some (.int .i64 0)∧W.cell? ⟨fb,3,none⟩=some (.int .i64 0))
theorem BlP.of {q o fb:Nat} {p:List UInt8} {W:World} {t:TypeId} (h:W.cell? ⟨q,o,none⟩=some (.string ⟨p.toArray⟩)) (hb:BoxN W fb t #[.int .i64 (-1),.int .i64 (-1),.int .i64 0,.int .i64 0]):BlP q o fb p W:=⟨h,hb.cell 0 rfl,hb.cell 1 rfl,hb.cell 2 rfl,hb.cell 3 rfl⟩
theorem row_form {W:World} {B n:Nat} {e:TypeId} {v:Value} {ys:List Value} (h:W.ownsRow B e 1 v n ys):∃ p cap,v=.slice p n cap:=by
 rcases h.2 with⟨rfl,h0⟩ | ⟨g,cap,cur,rfl,-⟩
 ·exact⟨none,0,by rw [show n=0 from h0]⟩
 ·exact⟨_,cap,rfl⟩
theorem row_at {W:World} {B n cap:Nat} {e:TypeId} {p:Option Addr} {ys:List Value} (h:W.ownsRow B e 1 (.slice p n cap) n ys) {i:Nat} {y:Value} (hy:ys[i]? = some y):∃ g,p=some ⟨g,0,none⟩∧g<W.heap.size∧W.cell? ⟨g,i,none⟩=some y:=by
 have hi:i<n:=by have:=(List.getElem?_eq_some_iff.1 hy).1;have:=h.1;omega
 rcases h.2 with⟨e1,h0⟩ | ⟨g,cap',cur,e1,-,hcu,-⟩
 ·omega
 ·have e2:p=some ⟨g,0,none⟩:=by simpa using(Value.slice.inj e1).1
  subst e2;refine⟨g,rfl,(Array.getElem?_eq_some_iff.1 hcu).1,?_⟩;have:=h.cells (g:=g) rfl i y hy
  rwa [add_cell] at this
theorem bytes_one {p:List UInt8} {k:Nat} {ch:UInt8} (h:p[k]? = some ch):(⟨p.toArray⟩:ByteArray).extract k (k+1)=⟨#[ch]⟩:=by
 apply ByteArray.ext;rw [ByteArray.data_extract];obtain⟨hk,rfl⟩:=List.getElem?_eq_some_iff.1 h;simp [List.take_one,hk]
theorem nmStr_clear (k:Int) (u:Nat):(10:UInt8)∉nmStr k u:=(clear_nm k u).1
theorem Tryz.below (a0:Option Addr) (cap:Nat) (ps:List (List UInt8)) (pre:List UInt8) (u:Int) (u0 : -9223372036854775808≤u) (u1:u≤9223372036854775807) (w:World) (hps:StrIn w a0 ps) (hcap:ps.length≤cap) (hc63:cap≤9223372036854775807) (hp63:pre.length≤9223372036854775807) (hl63:∀ p∈ps,p.length≤9223372036854775807) (h9:9≤w.heap.size) (hE:Env w) (hT:ErrT w) :
  Calls prog 12 #[.slice a0 ps.length cap,.string ⟨pre.toArray⟩,.int .i64 u] w fun e w'=>e=.returned (.bool true)∧Below w.heap.size w w':=by
 have hw:=fun W=>well W
 unfold fallV at hw
 obtain⟨n,hn⟩:∃ n,ps.length=n:=⟨_,rfl⟩
 rw [hn] at hcap ⊢;have Hn:=hid_intro hn;clear hn;obtain⟨i0,hi,hz0,hz1,hz2⟩:=info_parts strInfo;go_enter func12,ntmps12
 go_wp2_with (go_at_call 15;refine(opened _ h9 hE hT).mono ?_;rintro e w1 ⟨hb,rb,kk,vx,c,rfl,hS1,hc,hb1⟩)
 refine(hw _).mono ?_;rintro e w2 ⟨rfl,hb2⟩;have hba:Below w2.heap.size w2 (w2.alloc (.cells #[.int .i64 (-1),.int .i64 (-1),.int .i64 0,.int .i64 0] 29)):=(Below.refl _ w2).alloc (Nat.le_refl _) _;have hb13:=hb2.trans (hba.mono hb2.size);have hS3:=hS1.below hb13;have bF3:=BoxN.new w2 29 #[.int .i64 (-1),.int .i64 (-1),.int .i64 0,.int .i64 0];have hb03:=hb1.trans (hb13.mono hb1.size);clear hw hS1 hb2 hba hb13;generalize hfb:w2.heap.size=fb at *
 by_cases h12:12<n
 ·have h12':(12:Int)<(n:Int):=by omega
  have h12c:(12:Int)≤(cap:Int):=by omega
  go_wp2
  go_loopw [9,10,11] (fun v9 v10 i wr=>∃ j:Nat,j≤12∧i=.int .i64 j∧∃(xs:List (List UInt8)) (c:List UInt8),xs=(ps.take j).filter pathI∧c.length≤300000000+1300000*j∧Sys w.heap.size wr hb rb ⟨kk,vx,100,⟨0,1+xs.length,[rootE],mkL 2 xs⟩,c⟩∧wr.ownsRow w.heap.size 9 1 v9 xs.length (mkI 2 xs.length)∧wr.ownsRow w.heap.size 9 1 v10 xs.length (strs xs)∧(v9.ownBlock=none→xs = [])∧(∀ g,v9.ownBlock=some g→0<xs.length)∧(∀ g,v10.ownBlock=some g→0<xs.length∧v9.ownBlock≠some g)∧BoxN wr fb 29 #[.int .i64 (-1),.int .i64 (-1),.int .i64 0,.int .i64 0]∧Below w.heap.size w wr) (fun _ _ i _=>12-(intOf i).toNat)
  case atStart=>exact⟨0,Nat.zero_le _,rfl,[],c,rfl,by omega,hS3,World.ownsRow_nil _ _ _ _,World.ownsRow_nil _ _ _ _,(fun _=>rfl),(fun g hg=>by cases hg),(fun g hg=>by cases hg),bF3,hb03⟩
  case round =>
   clear hS3 bF3 hb03;obtain⟨j,hj,rfl,xs,c,hxs,hc,hS,hr9,hr10,hk9,hs9,hs10,bF,hbw⟩:=hrel;have hcne:=hS.cne (by simp)
   have hxl:xs.length≤j:=by have:=List.length_filter_le pathI (ps.take j);rw [← hxs] at this;simp at this;omega
   have Hxs:=hid_intro hxs
   have hid9:∀ y,(mkI 2 xs.length)[0]? = some y→∃ x:List UInt8,y=.string ⟨x.toArray⟩∧(10:UInt8)∉x:=fun y hy=>by
    by_cases h0:0<xs.length
    ·rw [mkI_get 2 _ 0 h0] at hy
     exact⟨_,(Option.some.inj hy).symm,nmStr_clear _ _⟩
    ·rw [show xs.length=0 by omega] at hy;cases hy
   have hid10:∀ y,(strs xs)[0]? = some y→∃ x:List UInt8,y=.string ⟨x.toArray⟩∧(10:UInt8)∉x:=fun y hy=>by
    obtain⟨x,hx,rfl⟩:∃ x,xs[0]? = some x∧Value.string ⟨x.toArray⟩=y:=by simpa [strs] using hy
    have hm:=List.mem_of_getElem? hx;rw [hxs] at hm;exact⟨x,rfl,(clear_path (List.mem_filter.1 hm).2).1⟩
   clear hxs
   by_cases hlt:j<12
   ·have hlt':(j:Int)<((12:Nat):Int):=by omega
    obtain⟨p,hp⟩:∃ p,ps[j]? = some p:=⟨ps[j]'(by have:=hid_elim Hn;omega),by simp⟩
    obtain⟨q,off,rfl,hq,hcell⟩:=hps j p hp;have hcw:wr.cell? ⟨q,off+j,none⟩=some (.string ⟨p.toArray⟩):=(hbw.cell (p:=⟨q,off+j,none⟩) hq).trans hcell;have hpl:=hl63 p (List.mem_of_getElem? hp)
    by_cases h1000:1000<p.length
    ·have h1000':(1000:Int)<(p.length:Int):=by omega
     go_wp2;go_ret;exact⟨rfl,hbw⟩
    ·have h1000':¬ (1000:Int)<(p.length:Int):=by omega
     have hS0:Sys w.heap.size wr.drew hb rb _:=hS.below (Below.refl _ wr).drew;have hP0:BlP q (off+j) fb p wr.drew:=BlP.of (t:=29) hcw bF
     by_cases hpv:pathI p=true
     ·have hI:=kIssue hS0 rootE (by simp) rfl p hpv 50 50 (by omega) (by omega) (by omega) (by rw [mkL_len];omega) (by omega) (by decide) (by omega) 0 0
      rw [show (rootE.n)=0 from rfl,nm_t0] at hI;unfold fallV at hI
      go_wp2_with fail
      go_region_held3 (BlP q (off+j) fb p) (first
       | with_reducible exact hP0
       | with_reducible exact hP6
       | with_reducible assumption) (first
       | (go_at_call 18;refine hI.mono ?_;rintro e w6 ⟨rfl,⟨c6,hc6,hS6⟩,hs6⟩;have bF6:=Spares.box (W:=wr.drew) hs6 bF (hS0.wh.no (W:=wr.drew) bF (by decide) (by decide));have hb06:Below w.heap.size w w6:=hbw.drew.trans (hs6.below (by have:=hbw.size;exact this) (fun q hq=>hS0.low q hq));have hP6:BlP q (off+j) fb p w6:=BlP.of ((hb06.cell (p:=⟨q,off+j,none⟩) hq).trans hcell) bF6))
      have hS6':Sys w.heap.size w6 hb rb ⟨kk,vx,100,⟨0,1+(xs ++ [p]).length,[rootE],mkL 2 (xs ++ [p])⟩,c6⟩:=by
       rw [mkL_snoc,List.length_append,show 1+(xs.length + [p].length)=1+xs.length+1 by simp;omega,show 2+xs.length=1+xs.length+1 by omega]
       have e1:plusI 100 50=150:=by decide
       rw [e1] at hS6;exact hS6
      have hno:∀ {v:Value} {m:Nat} {ys:List Value},wr.ownsRow w.heap.size 9 1 v m ys→∀ g,v.ownBlock=some g→g∉kk.turns:=fun hr g hg=>by
       obtain⟨-,cur,hcu⟩:=row_box hr hg;exact hS.wh.no hcu (by decide) (by decide)
      have r9:w6.ownsRow w.heap.size 9 1 u9 xs.length (mkI 2 xs.length):=Spares.row' (W:=wr.drew) hs6 hr9 (hno hr9);have r10:w6.ownsRow w.heap.size 9 1 u10 xs.length (strs xs):=Spares.row' (W:=wr.drew) hs6 hr10 (hno hr10);have hcl:=hid_intro (len_stepB hc6 hc);have hidn:=hid_intro (show mkI 2 (xs ++ [p]).length=mkI 2 xs.length ++ [.string ⟨(nmStr 2 (1+xs.length+1)).toArray⟩] by rw [List.length_append,List.length_singleton,mkI,show 2+xs.length=1+xs.length+1 by omega])
      obtain⟨idv,hidv⟩:∃ idv,nmStr 2 (1+xs.length+1)=idv:=⟨_,rfl⟩
      rw [hidv] at hidn ⊢;clear hI hP0 hP6 hS0 hS hr9 hr10 bF hbw hs6 hS6 hc6 hc hcw hidv hno;have hz6:=hb06.size;clear hcne;have hcne6:=hS6'.cne (by simp)
      go_wp2_with (at_builtin;refine wpList_append_lies _ rfl _ _ 40 rfl w.heap.size 9 i0 _ 1 16 underlying40 hi hz0 hz1 hz2 rfl (by decide) u9 xs.length (mkI 2 xs.length) rfl (r9.alloc _) ⟨w6.heap.size,0,none⟩ 1 1 [.string ⟨idv.toArray⟩] rfl rfl (fun j u hu=>by rw [add_cell];exact(BoxN.new w6 9 #[.string ⟨idv.toArray⟩]).cell j (v:=u) (by simpa using hu)) (by simp [Value.oneCell']) (by decide) (by unfold maxLen;omega) (by omega) (by simp;omega) _ rfl ?_)
      intro g9 cap9 w7 hown9 hgr9 hat9 hlt9;have lit9:Below w6.heap.size w6 (w6.alloc (.cells #[.string ⟨idv.toArray⟩] 9)):=(Below.refl _ w6).alloc (Nat.le_refl _) _;have hS7:=(hS6'.below lit9).grew (r9.alloc _) hid9 hs9 hcne6 hgr9;have sp9:Spares u9.ownBlock.toList w6 w7:=(Spares.of_below lit9).trans (Spares.of_grownO hgr9 (fun r e=>by simp [e]))
      have hb9:∀ g,u9.ownBlock=some g→g<w6.heap.size∧w.heap.size≤g:=fun g hg=>by
       obtain⟨h1,cur,hcu⟩:=row_box r9 hg;exact⟨hcu.lt,h1⟩
      have hb10:∀ g,u10.ownBlock=some g→g<w6.heap.size∧w.heap.size≤g:=fun g hg=>by
       obtain⟨h1,cur,hcu⟩:=row_box r10 hg;exact⟨hcu.lt,h1⟩
      have bF7:=sp9.box bF6 (fun hm=>by
       obtain⟨-,cur,hcu⟩:=row_box r9 (g:=fb) (by simpa using hm)
       exact bF6.ne hcu (by decide) rfl)
      have r10':=sp9.row' r10 (fun g hg hm=>(hs10 g hg).2 (by simpa using hm));have hb07:Below w.heap.size w w7:=hb06.trans (sp9.below hz6 (fun g hm=>(hb9 g (by simpa using hm)).2));have hcw7:w7.cell? ⟨q,off+j,none⟩=some (.string ⟨p.toArray⟩):=(hb07.cell (p:=⟨q,off+j,none⟩) hq).trans hcell;have hz7:=sp9.size
      have n910:∀ g,u10.ownBlock=some g→g≠g9:=fun g hg e=>by
       subst e
       rcases hat9 with e | e
       ·exact(hs10 _ hg).2 e
       ·have:=(hb10 _ hg).1;omega
      have H9:=hid_intro hown9;clear hown9 hgr9 lit9 r9 r10 hS6' bF6 hb06 sp9
      go_wp2_with (at_builtin;refine wpList_append_lies _ rfl _ _ 40 rfl w.heap.size 9 i0 _ 1 16 underlying40 hi hz0 hz1 hz2 rfl (by decide) u10 xs.length (strs xs) rfl (r10'.alloc _) ⟨w7.heap.size,0,none⟩ 1 1 [.string ⟨p.toArray⟩] rfl rfl (fun j u hu=>by rw [add_cell];exact(BoxN.new w7 9 #[.string ⟨p.toArray⟩]).cell j (v:=u) (by simpa using hu)) (by simp [Value.oneCell']) (by decide) (by unfold maxLen;omega) (by omega) (by simp;omega) _ rfl ?_)
      intro g10 cap10 w8 hown10 hgr10 hat10 hlt10;have lit10:Below w7.heap.size w7 (w7.alloc (.cells #[.string ⟨p.toArray⟩] 9)):=(Below.refl _ w7).alloc (Nat.le_refl _) _;have hS8:=(hS7.below lit10).grew (r10'.alloc _) hid10 (fun g hg=>(hs10 g hg).1) hcne6 hgr10;have sp10:Spares u10.ownBlock.toList w7 w8:=(Spares.of_below lit10).trans (Spares.of_grownO hgr10 (fun r e=>by simp [e]))
      have bF8:=sp10.box bF7 (fun hm=>by
       obtain⟨-,cur,hcu⟩:=row_box r10' (g:=fb) (by simpa using hm)
       exact bF7.ne hcu (by decide) rfl)
      have hown9:=hid_elim H9;have r9':=sp10.row' hown9 (fun g hg hm=>n910 g (by simpa using hm) (by simpa [Value.ownBlock] using hg.symm));have hb08:Below w.heap.size w w8:=hb07.trans (sp10.below (by omega) (fun g hm=>(hb10 g (by simpa using hm)).2))
      have hne2:g9≠g10:=fun e=>by
       subst e
       rcases hat10 with e | e
       ·exact n910 _ e rfl
       ·omega
      have R9:=hid_intro r9';have R10:=hid_intro hown10;have HF:=hid_intro (show xs ++ [p]=(ps.take (j+1)).filter pathI by rw [filter_hit hp hpv,← hid_elim Hxs]);clear hown9 r9' hown10 hgr10 hat10 hat9 lit10 sp10 r10' hS7 bF7 hb07;go_wp2
      go_roundw
      case rel=>exact⟨j+1,by omega,by go_num,xs ++ [p],c6,hid_elim HF,hid_elim hcl,hS8,by rw [hid_elim hidn,List.length_append];exact hid_elim R9,by rw [List.length_append,strs,List.map_append];exact hid_elim R10,(fun h=>by cases h),(fun g _=>by simp),(fun g hg=>⟨by simp,fun h=>by
       have e1:g10=g:=by simpa [Value.ownBlock] using hg
       have e2:g9=g:=by simpa [Value.ownBlock] using h
       omega⟩),bF8,hb08⟩
      case measure=>simp [intOf];omega
     ·have hpf:pathI p=false:=by simpa using hpv
      have hI:=kIssueBad hS0 rootE (by simp) rfl p hpf (by omega) 50 50 0 0;rw [show (rootE.n)=0 from rfl,nm_t0] at hI;unfold fallV at hI
      go_wp2_with fail
      go_region_held3 (BlP q (off+j) fb p) (first
       | with_reducible exact hP0
       | with_reducible exact hP6
       | with_reducible assumption) (first
       | (go_at_call 18;refine hI.mono ?_;rintro e w6 ⟨rfl,hS6,hs6⟩;have bF6:=Spares.box (W:=wr.drew) hs6 bF (hS0.wh.no (W:=wr.drew) bF (by decide) (by decide));have hb06:Below w.heap.size w w6:=hbw.drew.trans (hs6.below (by have:=hbw.size;exact this) (fun q hq=>hS0.low q hq));have hP6:BlP q (off+j) fb p w6:=BlP.of ((hb06.cell (p:=⟨q,off+j,none⟩) hq).trans hcell) bF6))
      have hno:∀ {v:Value} {m:Nat} {ys:List Value},wr.ownsRow w.heap.size 9 1 v m ys→∀ g,v.ownBlock=some g→g∉kk.turns:=fun hr g hg=>by
       obtain⟨-,cur,hcu⟩:=row_box hr hg;exact hS.wh.no hcu (by decide) (by decide)
      have r9:w6.ownsRow w.heap.size 9 1 u9 xs.length (mkI 2 xs.length):=Spares.row' (W:=wr.drew) hs6 hr9 (hno hr9);have r10:w6.ownsRow w.heap.size 9 1 u10 xs.length (strs xs):=Spares.row' (W:=wr.drew) hs6 hr10 (hno hr10);have HF:=hid_intro (show xs=(ps.take (j+1)).filter pathI by rw [filter_miss hp hpf,← hid_elim Hxs]);have hcl:=hid_intro (len_stepC hc);clear hI hP0 hP6 hS0 hS hr9 hr10 bF hbw hs6 hc hcw hno;go_wp2
      go_roundw
      case rel=>exact⟨j+1,by omega,by go_num,xs,c,hid_elim HF,hid_elim hcl,hS6,r9,r10,hk9,hs9,hs10,bF6,hb06⟩
      case measure=>simp [intOf];omega
   ·have hge:¬ (j:Int)<((12:Nat):Int):=by omega
    by_cases h1000:1000<pre.length
    ·have h1000':(1000:Int)<(pre.length:Int):=by omega
     go_wp2;go_ret;exact⟨rfl,hbw⟩
    ·have h1000':¬ (1000:Int)<(pre.length:Int):=by omega
     have g0:=bF.cell 0 (v:=.int .i64 (-1)) rfl;have g1:=bF.cell 1 (v:=.int .i64 (-1)) rfl;have g2:=bF.cell 2 (v:=.int .i64 0) rfl;have g3:=bF.cell 3 (v:=.int .i64 0) rfl
     by_cases hgo:pre = []∨pathI pre=true
     ·have hRp:=kPrefix hS pre (by omega) hgo (by simp) (by rw [mkL_len];omega) (by omega) 0 0
      rw [revI_mkL] at hRp;unfold fallV at hRp
      go_wp2_with (go_at_call 29;refine hRp.mono ?_;rintro e w6 ⟨rfl,⟨c6,hc6,hS6⟩,hs6⟩)
      have hno:∀ {v:Value} {m:Nat} {ys:List Value},wr.ownsRow w.heap.size 9 1 v m ys→∀ g,v.ownBlock=some g→g∉kk.turns:=fun hr g hg=>by
       obtain⟨-,cur,hcu⟩:=row_box hr hg;exact hS.wh.no hcu (by decide) (by decide)
      have r9:=hs6.row' hr9 (hno hr9);have r10:=hs6.row' hr10 (hno hr10);have hb06:Below w.heap.size w w6:=hbw.trans (hs6.below hbw.size (fun q hq=>hS.low q hq));clear hno hRp hS hr9 hr10 bF hbw hs6 g0 g1 g2 g3;refine(kFail hS6 hb06.size (hS6.cne (by simp)) (by show c6.length<4294967281;omega) 100 (by simp) (by omega) u u0 u1 0 (by omega)).mono ?_;rintro e w7 ⟨rfl,⟨k7,vx7,tm7,htm7,hS7⟩,hB7,bs7,hs7,hq7⟩
      obtain rfl:tm7=100:=by simpa using htm7
      try simp only at hS7
      have hno7:∀ {v:Value} {m:Nat} {ys:List Value},w6.ownsRow w.heap.size 9 1 v m ys→∀ g,v.ownBlock=some g→g∉bs7:=fun hr g hg hm=>by
       obtain⟨-,cur,hcu⟩:=row_box hr hg
       rcases hq7 _ hm _ _ hcu with e | e <;> exact absurd e (by decide)
      have r9:=hs7.row' r9 (hno7 r9);have r10:=hs7.row' r10 (hno7 r10);have hb07:=hb06.trans hB7;obtain⟨p9,c9,rfl⟩:=row_form r9;obtain⟨p10,c10,rfl⟩:=row_form r10;clear hno7 hS6 hb06 hB7 hs7 hq7 htm7
      obtain⟨X,hX⟩:∃ X,xs.length=X:=⟨_,rfl⟩
      rw [hX] at r9 r10 hxl ⊢;have HX:=hid_intro hX;go_wp2
      go_loopw [17,18] (fun gn i wq=>∃ m:Nat,m≤X∧i=.int .i64 m∧gn=.int .i64 ((((xs.take m).filter fun p=>beginsB p pre).length:Nat):Int)∧Below w7.heap.size w7 wq) (fun _ i _=>X-(intOf i).toNat)
      case atStart=>exact⟨0,Nat.zero_le _,rfl,rfl,Below.refl _ _⟩
      case round =>
       obtain⟨m,hm,rfl,rfl,hBq⟩:=hrel
       by_cases hmx:m<X
       ·have hmx':(m:Int)<(X:Int):=by omega
        obtain⟨p,hp⟩:∃ p,xs[m]? = some p:=⟨xs[m]'(by have:=hid_elim HX;omega),by simp⟩
        obtain⟨g9,rfl,lg9,hc9⟩:=row_at r9 (mkI_get 2 X m hmx);obtain⟨g10,rfl,lg10,hc10⟩:=row_at r10 (i:=m) (y:=.string ⟨p.toArray⟩) (by simp [strs,hp]);have hc9:wr.cell? ⟨g9,m,none⟩=some (.string ⟨(nmStr 2 (2+m)).toArray⟩):=(hBq.cell (p:=⟨g9,m,none⟩) lg9).trans hc9;have hc10:wr.cell? ⟨g10,m,none⟩=some (.string ⟨p.toArray⟩):=(hBq.cell (p:=⟨g10,m,none⟩) lg10).trans hc10
        have hz:((mkL 2 xs).map fun z=>if goL 100 (fun l=>beginsB l.pth pre) z then revL 100 z else z)[m]? = some (if beginsB p pre=true then revL 100 (newL (2+m) 0 150 150 p) else newL (2+m) 0 150 150 p):=by
         rw [List.getElem?_map,mkL_get xs 2 m p hp];simp [goL,newL]
        have hzm:=List.mem_of_getElem? hz;have hA:=kAuth (hS7.below hBq) _ hzm p
        have hzn:(if beginsB p pre=true then revL 100 (newL (2+m) 0 150 150 p) else newL (2+m) 0 150 150 p).n=2+m:=by split <;> rfl
        have hza:(((!(if beginsB p pre=true then revL 100 (newL (2+m) 0 150 150 p) else newL (2+m) 0 150 150 p).pd&&decide ((100:Int)<(if beginsB p pre=true then revL 100 (newL (2+m) 0 150 150 p) else newL (2+m) 0 150 150 p).at_))&&((if beginsB p pre=true then revL 100 (newL (2+m) 0 150 150 p) else newL (2+m) 0 150 150 p).pth==p))) = !beginsB p pre:=by
         by_cases hbb:beginsB p pre=true
         ·rw [if_pos hbb,hbb];simp [revL]
         ·rw [if_neg hbb,show beginsB p pre=false by simpa using hbb];simp [newL]
        rw [hzn,hza] at hA
        have hcnt:Hid ((((xs.take (m+1)).filter fun p=>beginsB p pre).length:Nat)=((xs.take m).filter fun p=>beginsB p pre).length+(if beginsB p pre=true then 1 else 0)):=hid_intro (by
         rw [take_snoc hp,List.filter_append,List.length_append]
         by_cases hbb:beginsB p pre=true
         ·simp [hbb]
         ·simp [show beginsB p pre=false by simpa using hbb])
        have hle:((xs.take m).filter fun p=>beginsB p pre).length≤12:=by
         have:=List.length_filter_le (fun p=>beginsB p pre) (xs.take m);simp at this;have:=hid_elim HX;omega
        have hpl:p.length≤24:=by
         have hmm:=List.mem_of_getElem? hp;rw [hid_elim Hxs] at hmm;exact(path_ok (List.mem_filter.1 hmm).2).1
        clear hz hzm hzn hza hid9 hid10;have hx1:=bytes_take p pre.length;generalize ((xs.take m).filter fun p=>beginsB p pre).length=cnt at *
        by_cases q0:pre = []
        ·subst q0
         have hbb:beginsB p []=true:=by simp [beginsB]
         rw [hbb] at hA hcnt
         go_wp2_with (go_at_call 23;refine hA.mono ?_;rintro e w8 ⟨rfl,hb8⟩)
         refine⟨⟨_,_,_,_,_,_,_,_,_,_,_,_,_,_,_,_,_,_,_,_,_,_,_,_,_,_,_,_,_,_,_,_,_,_,_,_,_,_,_,_,_,_,_,_,_,_,_,_,_,_,_,_,_,_,_,_,_,_,_,_,?rel,rfl⟩,?measure⟩
         case rel=>exact⟨m+1,by omega,by go_num,by rw [hid_elim hcnt];go_num,hBq.trans (hb8.mono hBq.size)⟩
         case measure=>simp [intOf];omega
        ·have hk0:((pre.length:Int)==0)=false:=by
          rw [beq_eq_false_iff_ne];intro e;exact q0 (List.eq_nil_of_length_eq_zero (by omega))
         by_cases q1:p=pre
         ·subst q1
          have hbb:beginsB p p=true:=by simp [beginsB]
          rw [hbb] at hA hcnt
          go_wp2_with (go_at_call 23;refine hA.mono ?_;rintro e w8 ⟨rfl,hb8⟩)
          refine⟨⟨m+1,by omega,by go_num,by rw [hid_elim hcnt];go_num,hBq.trans (hb8.mono hBq.size)⟩,?_⟩;simp [intOf];omega
         ·have q1':(p==pre)=false:=by simpa using q1
          by_cases q2:pre.length<p.length
          ·have q2':(pre.length:Int)<(p.length:Int):=by omega
           have q2'':(pre.length:Int)≤(p.length:Int):=by omega
           have q2c:(pre.length:Int)+1≤(p.length:Int):=by omega
           by_cases q3:p.take pre.length=pre
           ·obtain⟨ch,hch⟩:∃ ch,p[pre.length]? = some ch:=⟨p[pre.length],by simp [q2]⟩
            have hx2:=bytes_one hch;rw [q3] at hx1
            by_cases q4:ch=47
            ·subst q4
             have hbb:beginsB p pre=true:=by
              unfold beginsB;rw [q1',hch,q3];simp [q2]
             rw [hbb] at hA hcnt
             go_wp2_with (go_at_call 23;refine hA.mono ?_;rintro e w8 ⟨rfl,hb8⟩)
             refine⟨⟨m+1,by omega,by go_num,by rw [hid_elim hcnt];go_num,hBq.trans (hb8.mono hBq.size)⟩,?_⟩;simp [intOf];omega
            ·have q4':(ch==47)=false:=by simpa using q4
             have hbb:beginsB p pre=false:=by
              unfold beginsB;rw [q1',hch,q3];simp [q4,q0]
             rw [hbb] at hA hcnt
             go_wp2_with (go_at_call 23;refine hA.mono ?_;rintro e w8 ⟨rfl,hb8⟩)
             refine⟨⟨m+1,by omega,by go_num,by rw [hid_elim hcnt];rfl,hBq.trans (hb8.mono hBq.size)⟩,?_⟩;simp [intOf];omega
           ·have q3':(p.take pre.length==pre)=false:=by simpa using q3
            have hbb:beginsB p pre=false:=by
             unfold beginsB;rw [q1',q3'];simp [q0]
            rw [hbb] at hA hcnt
            go_wp2_with (go_at_call 23;refine hA.mono ?_;rintro e w8 ⟨rfl,hb8⟩)
            refine⟨⟨m+1,by omega,by go_num,by rw [hid_elim hcnt];rfl,hBq.trans (hb8.mono hBq.size)⟩,?_⟩;simp [intOf];omega
          ·have q2':¬ (pre.length:Int)<(p.length:Int):=by omega
           have hbb:beginsB p pre=false:=by
            unfold beginsB;rw [q1'];simp [q0,q2]
           rw [hbb] at hA hcnt
           go_wp2_with (go_at_call 23;refine hA.mono ?_;rintro e w8 ⟨rfl,hb8⟩)
           refine⟨⟨m+1,by omega,by go_num,by rw [hid_elim hcnt];rfl,hBq.trans (hb8.mono hBq.size)⟩,?_⟩;simp [intOf];omega
       ·have hend:¬ (m:Int)<(X:Int):=by omega
        obtain rfl:m=X:=by omega
        have hall:Hid (((xs.take m).filter fun p=>beginsB p pre).length=(xs.filter fun p=>beginsB p pre).length):=hid_intro (by rw [List.take_of_length_le (Nat.le_of_eq (hid_elim HX))]);rw [hid_elim hall];go_wp2;go_ret;exact⟨rfl,hb07.trans (hBq.mono hb07.size)⟩
     ·have hne:pre ≠ []:=fun e=>hgo (.inl e)
      have hbad:pathI pre=false:=by
       cases h:pathI pre
       ·rfl
       ·exact absurd (.inr h) hgo
      have hRp:=kPrefixBad hS pre (by omega) hne hbad 0 0;unfold fallV at hRp
      go_wp2_with (go_at_call 29;refine hRp.mono ?_;rintro e w6 ⟨rfl,hB6⟩)
      go_ret;exact⟨rfl,hbw.trans hB6⟩
 ·have h12':¬ (12:Int)<(n:Int):=by omega
  go_wp2
  go_loopw [9,10,11] (fun v9 v10 i wr=>∃ j:Nat,j≤n∧i=.int .i64 j∧∃(xs:List (List UInt8)) (c:List UInt8),xs=(ps.take j).filter pathI∧c.length≤300000000+1300000*j∧Sys w.heap.size wr hb rb ⟨kk,vx,100,⟨0,1+xs.length,[rootE],mkL 2 xs⟩,c⟩∧wr.ownsRow w.heap.size 9 1 v9 xs.length (mkI 2 xs.length)∧wr.ownsRow w.heap.size 9 1 v10 xs.length (strs xs)∧(v9.ownBlock=none→xs = [])∧(∀ g,v9.ownBlock=some g→0<xs.length)∧(∀ g,v10.ownBlock=some g→0<xs.length∧v9.ownBlock≠some g)∧BoxN wr fb 29 #[.int .i64 (-1),.int .i64 (-1),.int .i64 0,.int .i64 0]∧Below w.heap.size w wr) (fun _ _ i _=>n-(intOf i).toNat)
  case atStart=>exact⟨0,Nat.zero_le _,rfl,[],c,rfl,by omega,hS3,World.ownsRow_nil _ _ _ _,World.ownsRow_nil _ _ _ _,(fun _=>rfl),(fun g hg=>by cases hg),(fun g hg=>by cases hg),bF3,hb03⟩
  case round =>
   clear hS3 bF3 hb03;obtain⟨j,hj,rfl,xs,c,hxs,hc,hS,hr9,hr10,hk9,hs9,hs10,bF,hbw⟩:=hrel;have hcne:=hS.cne (by simp)
   have hxl:xs.length≤j:=by have:=List.length_filter_le pathI (ps.take j);rw [← hxs] at this;simp at this;omega
   have Hxs:=hid_intro hxs
   have hid9:∀ y,(mkI 2 xs.length)[0]? = some y→∃ x:List UInt8,y=.string ⟨x.toArray⟩∧(10:UInt8)∉x:=fun y hy=>by
    by_cases h0:0<xs.length
    ·rw [mkI_get 2 _ 0 h0] at hy
     exact⟨_,(Option.some.inj hy).symm,nmStr_clear _ _⟩
    ·rw [show xs.length=0 by omega] at hy;cases hy
   have hid10:∀ y,(strs xs)[0]? = some y→∃ x:List UInt8,y=.string ⟨x.toArray⟩∧(10:UInt8)∉x:=fun y hy=>by
    obtain⟨x,hx,rfl⟩:∃ x,xs[0]? = some x∧Value.string ⟨x.toArray⟩=y:=by simpa [strs] using hy
    have hm:=List.mem_of_getElem? hx;rw [hxs] at hm;exact⟨x,rfl,(clear_path (List.mem_filter.1 hm).2).1⟩
   clear hxs
   by_cases hlt:j<n
   ·have hlt':(j:Int)<((n:Nat):Int):=by omega
    obtain⟨p,hp⟩:∃ p,ps[j]? = some p:=⟨ps[j]'(by have:=hid_elim Hn;omega),by simp⟩
    obtain⟨q,off,rfl,hq,hcell⟩:=hps j p hp;have hcw:wr.cell? ⟨q,off+j,none⟩=some (.string ⟨p.toArray⟩):=(hbw.cell (p:=⟨q,off+j,none⟩) hq).trans hcell;have hpl:=hl63 p (List.mem_of_getElem? hp)
    by_cases h1000:1000<p.length
    ·have h1000':(1000:Int)<(p.length:Int):=by omega
     go_wp2;go_ret;exact⟨rfl,hbw⟩
    ·have h1000':¬ (1000:Int)<(p.length:Int):=by omega
     have hS0:Sys w.heap.size wr.drew hb rb _:=hS.below (Below.refl _ wr).drew;have hP0:BlP q (off+j) fb p wr.drew:=BlP.of (t:=29) hcw bF
     by_cases hpv:pathI p=true
     ·have hI:=kIssue hS0 rootE (by simp) rfl p hpv 50 50 (by omega) (by omega) (by omega) (by rw [mkL_len];omega) (by omega) (by decide) (by omega) 0 0
      rw [show (rootE.n)=0 from rfl,nm_t0] at hI;unfold fallV at hI
      go_wp2_with fail
      go_region_held3 (BlP q (off+j) fb p) (first
       | with_reducible exact hP0
       | with_reducible exact hP6
       | with_reducible assumption) (first
       | (go_at_call 18;refine hI.mono ?_;rintro e w6 ⟨rfl,⟨c6,hc6,hS6⟩,hs6⟩;have bF6:=Spares.box (W:=wr.drew) hs6 bF (hS0.wh.no (W:=wr.drew) bF (by decide) (by decide));have hb06:Below w.heap.size w w6:=hbw.drew.trans (hs6.below (by have:=hbw.size;exact this) (fun q hq=>hS0.low q hq));have hP6:BlP q (off+j) fb p w6:=BlP.of ((hb06.cell (p:=⟨q,off+j,none⟩) hq).trans hcell) bF6))
      have hS6':Sys w.heap.size w6 hb rb ⟨kk,vx,100,⟨0,1+(xs ++ [p]).length,[rootE],mkL 2 (xs ++ [p])⟩,c6⟩:=by
       rw [mkL_snoc,List.length_append,show 1+(xs.length + [p].length)=1+xs.length+1 by simp;omega,show 2+xs.length=1+xs.length+1 by omega]
       have e1:plusI 100 50=150:=by decide
       rw [e1] at hS6;exact hS6
      have hno:∀ {v:Value} {m:Nat} {ys:List Value},wr.ownsRow w.heap.size 9 1 v m ys→∀ g,v.ownBlock=some g→g∉kk.turns:=fun hr g hg=>by
       obtain⟨-,cur,hcu⟩:=row_box hr hg;exact hS.wh.no hcu (by decide) (by decide)
      have r9:w6.ownsRow w.heap.size 9 1 u9 xs.length (mkI 2 xs.length):=Spares.row' (W:=wr.drew) hs6 hr9 (hno hr9);have r10:w6.ownsRow w.heap.size 9 1 u10 xs.length (strs xs):=Spares.row' (W:=wr.drew) hs6 hr10 (hno hr10);have hcl:=hid_intro (len_stepB hc6 hc);have hidn:=hid_intro (show mkI 2 (xs ++ [p]).length=mkI 2 xs.length ++ [.string ⟨(nmStr 2 (1+xs.length+1)).toArray⟩] by rw [List.length_append,List.length_singleton,mkI,show 2+xs.length=1+xs.length+1 by omega])
      obtain⟨idv,hidv⟩:∃ idv,nmStr 2 (1+xs.length+1)=idv:=⟨_,rfl⟩
      rw [hidv] at hidn ⊢;clear hI hP0 hP6 hS0 hS hr9 hr10 bF hbw hs6 hS6 hc6 hc hcw hidv hno;have hz6:=hb06.size;clear hcne;have hcne6:=hS6'.cne (by simp)
      go_wp2_with (at_builtin;refine wpList_append_lies _ rfl _ _ 40 rfl w.heap.size 9 i0 _ 1 16 underlying40 hi hz0 hz1 hz2 rfl (by decide) u9 xs.length (mkI 2 xs.length) rfl (r9.alloc _) ⟨w6.heap.size,0,none⟩ 1 1 [.string ⟨idv.toArray⟩] rfl rfl (fun j u hu=>by rw [add_cell];exact(BoxN.new w6 9 #[.string ⟨idv.toArray⟩]).cell j (v:=u) (by simpa using hu)) (by simp [Value.oneCell']) (by decide) (by unfold maxLen;omega) (by omega) (by simp;omega) _ rfl ?_)
      intro g9 cap9 w7 hown9 hgr9 hat9 hlt9;have lit9:Below w6.heap.size w6 (w6.alloc (.cells #[.string ⟨idv.toArray⟩] 9)):=(Below.refl _ w6).alloc (Nat.le_refl _) _;have hS7:=(hS6'.below lit9).grew (r9.alloc _) hid9 hs9 hcne6 hgr9;have sp9:Spares u9.ownBlock.toList w6 w7:=(Spares.of_below lit9).trans (Spares.of_grownO hgr9 (fun r e=>by simp [e]))
      have hb9:∀ g,u9.ownBlock=some g→g<w6.heap.size∧w.heap.size≤g:=fun g hg=>by
       obtain⟨h1,cur,hcu⟩:=row_box r9 hg;exact⟨hcu.lt,h1⟩
      have hb10:∀ g,u10.ownBlock=some g→g<w6.heap.size∧w.heap.size≤g:=fun g hg=>by
       obtain⟨h1,cur,hcu⟩:=row_box r10 hg;exact⟨hcu.lt,h1⟩
      have bF7:=sp9.box bF6 (fun hm=>by
       obtain⟨-,cur,hcu⟩:=row_box r9 (g:=fb) (by simpa using hm)
       exact bF6.ne hcu (by decide) rfl)
      have r10':=sp9.row' r10 (fun g hg hm=>(hs10 g hg).2 (by simpa using hm));have hb07:Below w.heap.size w w7:=hb06.trans (sp9.below hz6 (fun g hm=>(hb9 g (by simpa using hm)).2));have hcw7:w7.cell? ⟨q,off+j,none⟩=some (.string ⟨p.toArray⟩):=(hb07.cell (p:=⟨q,off+j,none⟩) hq).trans hcell;have hz7:=sp9.size
      have n910:∀ g,u10.ownBlock=some g→g≠g9:=fun g hg e=>by
       subst e
       rcases hat9 with e | e
       ·exact(hs10 _ hg).2 e
       ·have:=(hb10 _ hg).1;omega
      have H9:=hid_intro hown9;clear hown9 hgr9 lit9 r9 r10 hS6' bF6 hb06 sp9
      go_wp2_with (at_builtin;refine wpList_append_lies _ rfl _ _ 40 rfl w.heap.size 9 i0 _ 1 16 underlying40 hi hz0 hz1 hz2 rfl (by decide) u10 xs.length (strs xs) rfl (r10'.alloc _) ⟨w7.heap.size,0,none⟩ 1 1 [.string ⟨p.toArray⟩] rfl rfl (fun j u hu=>by rw [add_cell];exact(BoxN.new w7 9 #[.string ⟨p.toArray⟩]).cell j (v:=u) (by simpa using hu)) (by simp [Value.oneCell']) (by decide) (by unfold maxLen;omega) (by omega) (by simp;omega) _ rfl ?_)
      intro g10 cap10 w8 hown10 hgr10 hat10 hlt10;have lit10:Below w7.heap.size w7 (w7.alloc (.cells #[.string ⟨p.toArray⟩] 9)):=(Below.refl _ w7).alloc (Nat.le_refl _) _;have hS8:=(hS7.below lit10).grew (r10'.alloc _) hid10 (fun g hg=>(hs10 g hg).1) hcne6 hgr10;have sp10:Spares u10.ownBlock.toList w7 w8:=(Spares.of_below lit10).trans (Spares.of_grownO hgr10 (fun r e=>by simp [e]))
      have bF8:=sp10.box bF7 (fun hm=>by
       obtain⟨-,cur,hcu⟩:=row_box r10' (g:=fb) (by simpa using hm)
       exact bF7.ne hcu (by decide) rfl)
      have hown9:=hid_elim H9;have r9':=sp10.row' hown9 (fun g hg hm=>n910 g (by simpa using hm) (by simpa [Value.ownBlock] using hg.symm));have hb08:Below w.heap.size w w8:=hb07.trans (sp10.below (by omega) (fun g hm=>(hb10 g (by simpa using hm)).2))
      have hne2:g9≠g10:=fun e=>by
       subst e
       rcases hat10 with e | e
       ·exact n910 _ e rfl
       ·omega
      have R9:=hid_intro r9';have R10:=hid_intro hown10;have HF:=hid_intro (show xs ++ [p]=(ps.take (j+1)).filter pathI by rw [filter_hit hp hpv,← hid_elim Hxs]);clear hown9 r9' hown10 hgr10 hat10 hat9 lit10 sp10 r10' hS7 bF7 hb07;go_wp2
      go_roundw
      case rel=>exact⟨j+1,by omega,by go_num,xs ++ [p],c6,hid_elim HF,hid_elim hcl,hS8,by rw [hid_elim hidn,List.length_append];exact hid_elim R9,by rw [List.length_append,strs,List.map_append];exact hid_elim R10,(fun h=>by cases h),(fun g _=>by simp),(fun g hg=>⟨by simp,fun h=>by
       have e1:g10=g:=by simpa [Value.ownBlock] using hg
       have e2:g9=g:=by simpa [Value.ownBlock] using h
       omega⟩),bF8,hb08⟩
      case measure=>simp [intOf];omega
     ·have hpf:pathI p=false:=by simpa using hpv
      have hI:=kIssueBad hS0 rootE (by simp) rfl p hpf (by omega) 50 50 0 0;rw [show (rootE.n)=0 from rfl,nm_t0] at hI;unfold fallV at hI
      go_wp2_with fail
      go_region_held3 (BlP q (off+j) fb p) (first
       | with_reducible exact hP0
       | with_reducible exact hP6
       | with_reducible assumption) (first
       | (go_at_call 18;refine hI.mono ?_;rintro e w6 ⟨rfl,hS6,hs6⟩;have bF6:=Spares.box (W:=wr.drew) hs6 bF (hS0.wh.no (W:=wr.drew) bF (by decide) (by decide));have hb06:Below w.heap.size w w6:=hbw.drew.trans (hs6.below (by have:=hbw.size;exact this) (fun q hq=>hS0.low q hq));have hP6:BlP q (off+j) fb p w6:=BlP.of ((hb06.cell (p:=⟨q,off+j,none⟩) hq).trans hcell) bF6))
      have hno:∀ {v:Value} {m:Nat} {ys:List Value},wr.ownsRow w.heap.size 9 1 v m ys→∀ g,v.ownBlock=some g→g∉kk.turns:=fun hr g hg=>by
       obtain⟨-,cur,hcu⟩:=row_box hr hg;exact hS.wh.no hcu (by decide) (by decide)
      have r9:w6.ownsRow w.heap.size 9 1 u9 xs.length (mkI 2 xs.length):=Spares.row' (W:=wr.drew) hs6 hr9 (hno hr9);have r10:w6.ownsRow w.heap.size 9 1 u10 xs.length (strs xs):=Spares.row' (W:=wr.drew) hs6 hr10 (hno hr10);have HF:=hid_intro (show xs=(ps.take (j+1)).filter pathI by rw [filter_miss hp hpf,← hid_elim Hxs]);have hcl:=hid_intro (len_stepC hc);clear hI hP0 hP6 hS0 hS hr9 hr10 bF hbw hs6 hc hcw hno;go_wp2
      go_roundw
      case rel=>exact⟨j+1,by omega,by go_num,xs,c,hid_elim HF,hid_elim hcl,hS6,r9,r10,hk9,hs9,hs10,bF6,hb06⟩
      case measure=>simp [intOf];omega
   ·have hge:¬ (j:Int)<((n:Nat):Int):=by omega
    by_cases h1000:1000<pre.length
    ·have h1000':(1000:Int)<(pre.length:Int):=by omega
     go_wp2;go_ret;exact⟨rfl,hbw⟩
    ·have h1000':¬ (1000:Int)<(pre.length:Int):=by omega
     have g0:=bF.cell 0 (v:=.int .i64 (-1)) rfl;have g1:=bF.cell 1 (v:=.int .i64 (-1)) rfl;have g2:=bF.cell 2 (v:=.int .i64 0) rfl;have g3:=bF.cell 3 (v:=.int .i64 0) rfl
     by_cases hgo:pre = []∨pathI pre=true
     ·have hRp:=kPrefix hS pre (by omega) hgo (by simp) (by rw [mkL_len];omega) (by omega) 0 0
      rw [revI_mkL] at hRp;unfold fallV at hRp
      go_wp2_with (go_at_call 29;refine hRp.mono ?_;rintro e w6 ⟨rfl,⟨c6,hc6,hS6⟩,hs6⟩)
      have hno:∀ {v:Value} {m:Nat} {ys:List Value},wr.ownsRow w.heap.size 9 1 v m ys→∀ g,v.ownBlock=some g→g∉kk.turns:=fun hr g hg=>by
       obtain⟨-,cur,hcu⟩:=row_box hr hg;exact hS.wh.no hcu (by decide) (by decide)
      have r9:=hs6.row' hr9 (hno hr9);have r10:=hs6.row' hr10 (hno hr10);have hb06:Below w.heap.size w w6:=hbw.trans (hs6.below hbw.size (fun q hq=>hS.low q hq));clear hno hRp hS hr9 hr10 bF hbw hs6 g0 g1 g2 g3;refine(kFail hS6 hb06.size (hS6.cne (by simp)) (by show c6.length<4294967281;omega) 100 (by simp) (by omega) u u0 u1 0 (by omega)).mono ?_;rintro e w7 ⟨rfl,⟨k7,vx7,tm7,htm7,hS7⟩,hB7,bs7,hs7,hq7⟩
      obtain rfl:tm7=100:=by simpa using htm7
      try simp only at hS7
      have hno7:∀ {v:Value} {m:Nat} {ys:List Value},w6.ownsRow w.heap.size 9 1 v m ys→∀ g,v.ownBlock=some g→g∉bs7:=fun hr g hg hm=>by
       obtain⟨-,cur,hcu⟩:=row_box hr hg
       rcases hq7 _ hm _ _ hcu with e | e <;> exact absurd e (by decide)
      have r9:=hs7.row' r9 (hno7 r9);have r10:=hs7.row' r10 (hno7 r10);have hb07:=hb06.trans hB7;obtain⟨p9,c9,rfl⟩:=row_form r9;obtain⟨p10,c10,rfl⟩:=row_form r10;clear hno7 hS6 hb06 hB7 hs7 hq7 htm7
      obtain⟨X,hX⟩:∃ X,xs.length=X:=⟨_,rfl⟩
      rw [hX] at r9 r10 hxl ⊢;have HX:=hid_intro hX;go_wp2
      go_loopw [17,18] (fun gn i wq=>∃ m:Nat,m≤X∧i=.int .i64 m∧gn=.int .i64 ((((xs.take m).filter fun p=>beginsB p pre).length:Nat):Int)∧Below w7.heap.size w7 wq) (fun _ i _=>X-(intOf i).toNat)
      case atStart=>exact⟨0,Nat.zero_le _,rfl,rfl,Below.refl _ _⟩
      case round =>
       obtain⟨m,hm,rfl,rfl,hBq⟩:=hrel
       by_cases hmx:m<X
       ·have hmx':(m:Int)<(X:Int):=by omega
        obtain⟨p,hp⟩:∃ p,xs[m]? = some p:=⟨xs[m]'(by have:=hid_elim HX;omega),by simp⟩
        obtain⟨g9,rfl,lg9,hc9⟩:=row_at r9 (mkI_get 2 X m hmx);obtain⟨g10,rfl,lg10,hc10⟩:=row_at r10 (i:=m) (y:=.string ⟨p.toArray⟩) (by simp [strs,hp]);have hc9:wr.cell? ⟨g9,m,none⟩=some (.string ⟨(nmStr 2 (2+m)).toArray⟩):=(hBq.cell (p:=⟨g9,m,none⟩) lg9).trans hc9;have hc10:wr.cell? ⟨g10,m,none⟩=some (.string ⟨p.toArray⟩):=(hBq.cell (p:=⟨g10,m,none⟩) lg10).trans hc10
        have hz:((mkL 2 xs).map fun z=>if goL 100 (fun l=>beginsB l.pth pre) z then revL 100 z else z)[m]? = some (if beginsB p pre=true then revL 100 (newL (2+m) 0 150 150 p) else newL (2+m) 0 150 150 p):=by
         rw [List.getElem?_map,mkL_get xs 2 m p hp];simp [goL,newL]
        have hzm:=List.mem_of_getElem? hz;have hA:=kAuth (hS7.below hBq) _ hzm p
        have hzn:(if beginsB p pre=true then revL 100 (newL (2+m) 0 150 150 p) else newL (2+m) 0 150 150 p).n=2+m:=by split <;> rfl
        have hza:(((!(if beginsB p pre=true then revL 100 (newL (2+m) 0 150 150 p) else newL (2+m) 0 150 150 p).pd&&decide ((100:Int)<(if beginsB p pre=true then revL 100 (newL (2+m) 0 150 150 p) else newL (2+m) 0 150 150 p).at_))&&((if beginsB p pre=true then revL 100 (newL (2+m) 0 150 150 p) else newL (2+m) 0 150 150 p).pth==p))) = !beginsB p pre:=by
         by_cases hbb:beginsB p pre=true
         ·rw [if_pos hbb,hbb];simp [revL]
         ·rw [if_neg hbb,show beginsB p pre=false by simpa using hbb];simp [newL]
        rw [hzn,hza] at hA
        have hcnt:Hid ((((xs.take (m+1)).filter fun p=>beginsB p pre).length:Nat)=((xs.take m).filter fun p=>beginsB p pre).length+(if beginsB p pre=true then 1 else 0)):=hid_intro (by
         rw [take_snoc hp,List.filter_append,List.length_append]
         by_cases hbb:beginsB p pre=true
         ·simp [hbb]
         ·simp [show beginsB p pre=false by simpa using hbb])
        have hle:((xs.take m).filter fun p=>beginsB p pre).length≤12:=by
         have:=List.length_filter_le (fun p=>beginsB p pre) (xs.take m);simp at this;have:=hid_elim HX;omega
        have hpl:p.length≤24:=by
         have hmm:=List.mem_of_getElem? hp;rw [hid_elim Hxs] at hmm;exact(path_ok (List.mem_filter.1 hmm).2).1
        clear hz hzm hzn hza hid9 hid10;have hx1:=bytes_take p pre.length;generalize ((xs.take m).filter fun p=>beginsB p pre).length=cnt at *
        by_cases q0:pre = []
        ·subst q0
         have hbb:beginsB p []=true:=by simp [beginsB]
         rw [hbb] at hA hcnt
         go_wp2_with (go_at_call 23;refine hA.mono ?_;rintro e w8 ⟨rfl,hb8⟩)
         refine⟨⟨_,_,_,_,_,_,_,_,_,_,_,_,_,_,_,_,_,_,_,_,_,_,_,_,_,_,_,_,_,_,_,_,_,_,_,_,_,_,_,_,_,_,_,_,_,_,_,_,_,_,_,_,_,_,_,_,_,_,_,_,?rel,rfl⟩,?measure⟩
         case rel=>exact⟨m+1,by omega,by go_num,by rw [hid_elim hcnt];go_num,hBq.trans (hb8.mono hBq.size)⟩
         case measure=>simp [intOf];omega
        ·have hk0:((pre.length:Int)==0)=false:=by
          rw [beq_eq_false_iff_ne];intro e;exact q0 (List.eq_nil_of_length_eq_zero (by omega))
         by_cases q1:p=pre
         ·subst q1
          have hbb:beginsB p p=true:=by simp [beginsB]
          rw [hbb] at hA hcnt
          go_wp2_with (go_at_call 23;refine hA.mono ?_;rintro e w8 ⟨rfl,hb8⟩)
          refine⟨⟨m+1,by omega,by go_num,by rw [hid_elim hcnt];go_num,hBq.trans (hb8.mono hBq.size)⟩,?_⟩;simp [intOf];omega
         ·have q1':(p==pre)=false:=by simpa using q1
          by_cases q2:pre.length<p.length
          ·have q2':(pre.length:Int)<(p.length:Int):=by omega
           have q2'':(pre.length:Int)≤(p.length:Int):=by omega
           have q2c:(pre.length:Int)+1≤(p.length:Int):=by omega
           by_cases q3:p.take pre.length=pre
           ·obtain⟨ch,hch⟩:∃ ch,p[pre.length]? = some ch:=⟨p[pre.length],by simp [q2]⟩
            have hx2:=bytes_one hch;rw [q3] at hx1
            by_cases q4:ch=47
            ·subst q4
             have hbb:beginsB p pre=true:=by
              unfold beginsB;rw [q1',hch,q3];simp [q2]
             rw [hbb] at hA hcnt
             go_wp2_with (go_at_call 23;refine hA.mono ?_;rintro e w8 ⟨rfl,hb8⟩)
             refine⟨⟨m+1,by omega,by go_num,by rw [hid_elim hcnt];go_num,hBq.trans (hb8.mono hBq.size)⟩,?_⟩;simp [intOf];omega
            ·have q4':(ch==47)=false:=by simpa using q4
             have hbb:beginsB p pre=false:=by
              unfold beginsB;rw [q1',hch,q3];simp [q4,q0]
             rw [hbb] at hA hcnt
             go_wp2_with (go_at_call 23;refine hA.mono ?_;rintro e w8 ⟨rfl,hb8⟩)
             refine⟨⟨m+1,by omega,by go_num,by rw [hid_elim hcnt];rfl,hBq.trans (hb8.mono hBq.size)⟩,?_⟩;simp [intOf];omega
           ·have q3':(p.take pre.length==pre)=false:=by simpa using q3
            have hbb:beginsB p pre=false:=by
             unfold beginsB;rw [q1',q3'];simp [q0]
            rw [hbb] at hA hcnt
            go_wp2_with (go_at_call 23;refine hA.mono ?_;rintro e w8 ⟨rfl,hb8⟩)
            refine⟨⟨m+1,by omega,by go_num,by rw [hid_elim hcnt];rfl,hBq.trans (hb8.mono hBq.size)⟩,?_⟩;simp [intOf];omega
          ·have q2':¬ (pre.length:Int)<(p.length:Int):=by omega
           have hbb:beginsB p pre=false:=by
            unfold beginsB;rw [q1'];simp [q0,q2]
           rw [hbb] at hA hcnt
           go_wp2_with (go_at_call 23;refine hA.mono ?_;rintro e w8 ⟨rfl,hb8⟩)
           refine⟨⟨m+1,by omega,by go_num,by rw [hid_elim hcnt];rfl,hBq.trans (hb8.mono hBq.size)⟩,?_⟩;simp [intOf];omega
       ·have hend:¬ (m:Int)<(X:Int):=by omega
        obtain rfl:m=X:=by omega
        have hall:Hid (((xs.take m).filter fun p=>beginsB p pre).length=(xs.filter fun p=>beginsB p pre).length):=hid_intro (by rw [List.take_of_length_le (Nat.le_of_eq (hid_elim HX))]);rw [hid_elim hall];go_wp2;go_ret;exact⟨rfl,hb07.trans (hBq.mono hb07.size)⟩
     ·have hne:pre ≠ []:=fun e=>hgo (.inl e)
      have hbad:pathI pre=false:=by
       cases h:pathI pre
       ·rfl
       ·exact absurd (.inr h) hgo
      have hRp:=kPrefixBad hS pre (by omega) hne hbad 0 0;unfold fallV at hRp
      go_wp2_with (go_at_call 29;refine hRp.mono ?_;rintro e w6 ⟨rfl,hB6⟩)
      go_ret;exact⟨rfl,hbw.trans hB6⟩
end Go.Proofs
