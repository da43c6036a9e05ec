import Derived.Test.YtjbekgjdempbiaaGreatDoorJQueJ
import Derived.Test.YtjbekgjdempbiaaGreatDoorJHostW
import Derived.Test.YtjbekgjdempbiaaGreatDoorJRefL
import Derived.Test.YtjbekgjdempbiaaGreatDoorJVIssue
set_option maxRecDepth 100000
set_option maxHeartbeats 8000000
namespace Go.Proofs
open Go.RowKit Go.Sort Go.Lib Go.Shelf
theorem Tryz.qPopNil (vb:Nat) (v:Value) (w:World) (hv:v=.slice none 0 0∨∃ g cap,v=.slice (some ⟨g,0,none⟩) 0 cap) (c7:w.cell? ⟨vb,8,none⟩=some v) :
  Calls prog 76 #[.pointer (some ⟨vb,8,none⟩)] w fun e w'=>e=.returned (.tuple #[.agg #[.int .u64 0,.int .i64 0,.int .u64 0],.bool false])∧Below w.heap.size w w':=by
 have lv:vb<w.heap.size:=World.block_lt_of_cell? w _ c7;have hb:Below w.heap.size w ((w.alloc (.cells #[.int .u64 0,.int .i64 0,.int .u64 0] 144)).alloc (.cells #[.int .u64 0,.int .i64 0,.int .u64 0] 144)):=((Below.refl _ w).alloc (Nat.le_refl _) _).alloc (by simp) _
 rcases hv with rfl | ⟨g,cap,rfl⟩
 all_goals
  go_enter func76,ntmps76;go_wp2
  go_step3
  go_wp2;rw [Exit.noGoto_ret];exact bodyPost_ret (v:=.tuple #[.agg #[.int .u64 0,.int .i64 0,.int .u64 0],.bool false]) (by simp [results,results76,go_sem]) rfl ⟨rfl,hb⟩
theorem two_cell (W:World) (t:TypeId) (p q:Nat):∀ j r:Nat,[p,q][j]? = some r→(W.alloc (.cells #[.int .i64 (p:Int),.int .i64 (q:Int)] t)).cell? ⟨W.heap.size,j,none⟩=some (.int .i64 (r:Int)):=fun j r hr=>by
 match j,hr with
 | 0,hr =>
  obtain rfl:p=r:=by simpa using hr
  exact(BoxN.new W t #[.int .i64 (p:Int),.int .i64 (q:Int)]).cell 0 rfl
 | 1,hr =>
  obtain rfl:q=r:=by simpa using hr
  exact(BoxN.new W t #[.int .i64 (p:Int),.int .i64 (q:Int)]).cell 1 rfl
def Tryz.FallJ (B vb:Nat) (cs:Array Value) (w:World) (g m:Nat) (x:TurnD) (zs:List TurnD) (act:Act) (W:World):Prop:=
 ∃(a cap ib:Nat) (ys:List TurnD) (u8 u9 u10 u11 u12 u13 u14 u15 u16 u17 u18 u19 u20 u21 u22 u23 u24 u25 u26 u27 u28 u29 u30 u31 u32 u33 u34 u35 u36 u37 u38 u39 u40 u41 u42 u43 u44 u45 u46 u47 u48 u49 u50 u51 u52 u53:Value),act = { tmps:=#[.pointer (some ⟨vb,8,none⟩),undef,.pointer (some ⟨w.heap.size,0,none⟩),.bool false,undef,.int .i64 (m:Int),.pointer (some ⟨ib,0,none⟩),.int .i64 (a:Int),u8,u9,u10,u11,u12,u13,u14,u15,u16,u17,u18,u19,u20,u21,u22,u23,u24,u25,u26,u27,u28,u29,u30,u31,u32,u33,u34,u35,u36,u37,u38,u39,u40,u41,u42,u43,u44,u45,u46,u47,u48,u49,u50,u51,u52,u53],defers:=[] }∧FallH ys a∧(a=0∨a<ys.length)∧ys.Perm zs∧QV B vb cs g cap ys W∧BoxN W w.heap.size 144 #[.int .u64 0,.int .i64 0,.int .u64 0]∧BoxN W ib 144 x.cells∧w.heap.size<ib∧Spares [vb,g] w W
theorem Tryz.qPop (B vb g cap m:Nat) (xs:List TurnD) (cs:Array Value) (w:World) (hq:QV B vb cs g cap xs w) (hH:Heap xs) (hm:xs.length=m+1) (hlen:m≤100) :
  Calls prog 76 #[.pointer (some ⟨vb,8,none⟩)] w fun e w'=>e=.returned (.tuple #[.agg (getT xs 0).cells,.bool true])∧∃ cap' ys,QV B vb cs g cap' ys w'∧Heap ys∧(getT xs 0 :: ys).Perm xs∧Spares [vb,g] w w':=by
 have hne:=hq.ne;have lv:=hq.v.lt;have lg:g<w.heap.size:=(hq.row.lt g rfl).2;have hB0:Below w.heap.size w (w.alloc (.cells #[.int .u64 0,.int .i64 0,.int .u64 0] 144)):=(Below.refl _ w).alloc (Nat.le_refl _) _;have b0:=BoxN.new w 144 #[.int .u64 0,.int .i64 0,.int .u64 0];have hq0:=hq.below hB0;have hP:=swapT_perm (xs:=xs) (i:=0) (j:=m) (by omega) (by omega)
 have hmg:getT (swapT xs 0 m) m=getT xs 0:=by rw [swapT_get (by omega) (by omega),if_pos rfl]
 have hF:=FallH.start hH;rw [show xs.length-1=m by omega] at hF
 have hzs:(getT xs 0 :: (swapT xs 0 m).take m).Perm xs:=by
  refine List.Perm.trans ?_ hP
  have hl:(swapT xs 0 m).length=m+1:=by rw [swapT_len,hm]
  have e:swapT xs 0 m=(swapT xs 0 m).take m ++ [getT xs 0]:=by
   conv=>lhs;rw [← List.take_of_length_le (l:=swapT xs 0 m) (i:=m+1) (by omega)]
   rw [List.take_add_one,getT_some (by omega),hmg];rfl
  conv=>rhs;rw [e]
  exact(List.perm_append_comm (l₁:=[getT xs 0]) (l₂:=(swapT xs 0 m).take m))
 have hSw:=qSwap B vb g cap xs.length xs 0 m _ hq0.cell hq0.row (by omega) (by omega);generalize hx:getT xs 0=x at *;go_enter func76,ntmps76
 go_wp2_with fail
 refine wp_scope_share 0 (FallJ B vb cs w g m x ((swapT xs 0 m).take m)) (fun a _=>1000-(intOf (a.tmps.getD 7 undef)).toNat) rfl ?pass ?first
 case pass =>
  rintro _ W ⟨a,cap2,ib,ys,u8,u9,u10,u11,u12,u13,u14,u15,u16,u17,u18,u19,u20,u21,u22,u23,u24,u25,u26,u27,u28,u29,u30,u31,u32,u33,u34,u35,u36,u37,u38,u39,u40,u41,u42,u43,u44,u45,u46,u47,u48,u49,u50,u51,u52,u53,rfl,hFa,hal,hp,hqy,bR,bI,hib,hS⟩
  have hly:ys.length≤100:=by have:=hp.length_eq;rw [List.length_take,swapT_len] at this;omega
  have hB2:Below W.heap.size W (W.alloc (.cells #[.int .i64 ((2*a+1:Nat):Int),.int .i64 ((2*a+2:Nat):Int)] 3)):=(Below.refl _ W).alloc (Nat.le_refl _) _
  have hL:=qLeast vb g cap2 W.heap.size ys a [2*a+1,2*a+2] _ (hqy.qp.below hB2) (two_cell W 3 (2*a+1) (2*a+2)) (by
   by_cases h:a<ys.length
   ·exact .inl h
   ·refine .inr (fun p hp=>?_)
    simp only [List.mem_cons,List.not_mem_nil,or_false] at hp
    omega) (by simp) (by
   intro p hp;simp only [List.mem_cons,List.not_mem_nil,or_false] at hp
   omega)
  have c1:((2*a+1:Nat):Int)=2*(a:Int)+1:=by omega
  have c2:((2*a+2:Nat):Int)=2*(a:Int)+2:=by omega
  rw [c1,c2] at hB2;simp only [c1,c2] at hL
  have ha3:(a:Int)≤3000:=by omega
  have ha0:(0:Int)≤(a:Int):=by omega
  have lI:=bI.lt;have lR:=bR.lt;have lgW:g<W.heap.size:=(hqy.row.lt g rfl).2;have lvW:=hqy.v.lt
  have hgR:w.heap.size≠g:=by omega
  have hgI:ib≠g:=by omega
  have hvI:vb≠w.heap.size:=by omega
  clear c1 c2;obtain⟨x1,x2,x3⟩:=x;simp only [TurnD.cells] at *
  by_cases hc:leastT ys a [2*a+1,2*a+2]=a
  ·have hdn:=hFa.done hc
   rw [hc] at hL;clear hFa
   go_wp2_with (go_at_call 133;refine hL.mono ?_;rintro e w2 ⟨rfl,hb2⟩;have hb3:=hB2.trans (hb2.mono (by simp));have bI2:=bI.below hb3 lI;have bR2:=bR.below hb3 lR;have i0:=bI2.cell 0 (v:=.int .u64 x1) rfl;have i1:=bI2.cell 1 (v:=.int .i64 x2) rfl;have i2:=bI2.cell 2 (v:=.int .u64 x3) rfl;have q0:=bR2.cell 0 (v:=.int .u64 0) rfl;have q1:=bR2.cell 1 (v:=.int .i64 0) rfl;have q2:=bR2.cell 2 (v:=.int .u64 0) rfl;have f0:=bR2.frozen 0;have f1:=bR2.frozen 1;have f2:=bR2.frozen 2)
   simp only [Exit.jump];have b6:BoxN _ w.heap.size 144 #[.int .u64 x1,.int .i64 x2,.int .u64 x3]:=((bR2.set 0 (.int .u64 x1)).set 1 (.int .i64 x2)).set 2 (.int .u64 x3);have hs6:Spares [w.heap.size] w2 (((w2.setCell ⟨w.heap.size,0,none⟩ (.int .u64 x1)).setCell ⟨w.heap.size,1,none⟩ (.int .i64 x2)).setCell ⟨w.heap.size,2,none⟩ (.int .u64 x3)):=(((Spares.of_below (Below.refl _ w2)).set (by simp) _ _).set (by simp) _ _).set (by simp) _ _
   have hq6:QV B vb cs g cap2 ys _:=⟨hs6.box (hqy.below hb3).v (by simpa using hvI),hs6.row (hqy.below hb3).row (by simpa using Ne.symm hgR),hqy.h8⟩
   have hS6:=(hS.trans (Spares.of_below hb3)).thenG hs6 (.inr (Nat.le_refl _));generalize ((w2.setCell ⟨w.heap.size,0,none⟩ (.int .u64 x1)).setCell ⟨w.heap.size,1,none⟩ (.int .i64 x2)).setCell ⟨w.heap.size,2,none⟩ (.int .u64 x3)=W6 at *;have k0:=b6.cell 0 (v:=.int .u64 x1) rfl;have k1:=b6.cell 1 (v:=.int .i64 x2) rfl;have k2:=b6.cell 2 (v:=.int .u64 x3) rfl;exact bodyPost_ret (v:=.tuple #[.agg #[.int .u64 x1,.int .i64 x2,.int .u64 x3],.bool true]) (by simp [results,results76,go_sem,k0,k1,k2]) rfl ⟨rfl,cap2,ys,hq6,hdn,(List.Perm.cons _ hp).trans hzs,hS6⟩
  ·obtain⟨hac,hcl,hFc⟩:=hFa.step hc
   have hal2:a<ys.length:=by omega
   have hpm:=(swapT_perm hcl hal2).trans hp
   have hSw2:=fun W' (hb:Below W.heap.size W W')=>qSwap B vb g cap2 ys.length ys (leastT ys a [2*a+1,2*a+2]) a W' (hqy.below hb).cell (hqy.below hb).row hcl hal2
   generalize leastT ys a [2*a+1,2*a+2]=c at *
   have hnq:((c:Int) != (a:Int))=true:=by simp;omega
   have Hlt:=hid_intro (And.intro hac hcl);have HF:=hid_intro hFc;clear hFa hc hFc hac
   go_wp2_with (go_at_call 133;refine hL.mono ?_;rintro e w2 ⟨rfl,hb2⟩;have hb3:=hB2.trans (hb2.mono (by simp));have hSw3:=hSw2 w2 hb3)
   go_wp2_with (go_at_call 132;refine hSw3.mono ?_;rintro e w4 ⟨rfl,hr4,hs4⟩)
   go_step3
   obtain⟨h1,h2⟩:=hid_elim Hlt;refine⟨rfl,⟨c,cap2,ib,swapT ys c a,_,_,_,_,_,_,_,_,_,_,_,_,_,_,_,_,_,_,_,_,_,_,_,_,_,_,_,_,_,_,_,_,_,_,_,_,_,_,_,_,_,_,_,_,_,_,rfl,hid_elim HF,.inr (by rw [swapT_len];exact h2),hpm,(hqy.below hb3).swapped hs4 (swapT_len _ _ _) hr4,hs4.box (bR.below hb3 lR) (by simpa using hgR),hs4.box (bI.below hb3 lI) (by simpa using hgI),hib,(hS.trans (Spares.of_below hb3)).thenG hs4 (.inl (by simp))⟩,?_⟩;simp [intOf];omega
 case first =>
  intro hpass;have HP:=hid_intro hpass;clear hpass;have c8:=hq0.cell;rw [hm] at c8 hSw;rw [show ((0:Nat):Int)=0 from rfl] at hSw
  have hcap:m+1≤cap∧cap≤9223372036854775807:=by
   obtain⟨-,⟨e1,-⟩ | ⟨g',cap',cur,e1,e2,e3,e4,e5,-⟩⟩:=hq.row
   ·cases e1
   ·cases e1
    unfold maxLen at e5;omega
  obtain⟨hcp,hcm⟩:=hcap
  have hsl:(swapT xs 0 m).length=m+1:=by rw [swapT_len,hm]
  have hxm:(swapT xs 0 m)[m]? = some x:=by rw [getT_some (by omega),hmg]
  have HH:=hid_intro (And.intro hF (And.intro hm (And.intro hsl hxm)));obtain⟨x1,x2,x3⟩:=x;clear hF hH hP hzs hq hmg hx
  have lz:w.heap.size<(w.alloc (.cells #[.int .u64 0,.int .i64 0,.int .u64 0] 144)).heap.size:=by simp
  clear hm hsl hxm
  go_wp2_with (first
   | (go_at_call 132;refine hSw.mono ?_;rintro e w1 ⟨rfl,r1,hs1⟩;have bV1:=hs1.box hq0.v (by simpa using hne);have b1:=hs1.box b0 (by simp;omega);have h81:=hq0.h8;obtain⟨z0,z1,z2⟩:=row_three r1 (hid_elim HH).2.2.2;have c81:=(hid_elim HH).2.1 ▸ bV1.cell 8 (v:=.slice (some ⟨g,0,none⟩) xs.length cap) (by rw [Array.getElem?_setIfInBounds_self_of_lt h81]);clear c8)
   | (go_at_call 129;refine(qCut B vb g cap m (swapT xs 0 m) _ (cell_later ((Below.refl _ w1).alloc (Nat.le_refl _) _) c81) ((bV1.alloc _).frozen 8) (r1.alloc _) hne hcp hcm).mono ?_;rintro e w2 ⟨rfl,wx,rx,hgx,rfl⟩))
  go_step3
  simp only [Exit.then]
  apply_assumption
  obtain⟨hF,hm,hsl,-⟩:=hid_elim HH;have lg1:g<w1.heap.size:=(r1.lt g rfl).2;have lv1:=bV1.lt;have l01:=b1.lt
  have hyl:((swapT xs 0 m).take m).length=m:=by rw [List.length_take,hsl];omega
  have bV2:=((bV1.alloc (.cells #[.int .u64 x1,.int .i64 x2,.int .u64 x3] 144)).kept hgx (by intro e;injection e with e;exact hne e)).set 8 (.slice (some ⟨g,0,none⟩) m cap);rw [Array.setIfInBounds_setIfInBounds] at bV2;have bR2:=((b1.alloc (.cells #[.int .u64 x1,.int .i64 x2,.int .u64 x3] 144)).kept hgx (by intro e;injection e with e;omega)).other (B':=vb) (by omega) 8 (.slice (some ⟨g,0,none⟩) m cap);have bI2:=((BoxN.new w1 144 #[.int .u64 x1,.int .i64 x2,.int .u64 x3]).kept hgx (by intro e;injection e with e;omega)).other (B':=vb) (by omega) 8 (.slice (some ⟨g,0,none⟩) m cap);have r2:=rx.kept (grown_set wx vb 8 (.slice (some ⟨g,0,none⟩) m cap)) (.inr (by simp [Value.ownBlock];exact fun e=>hne e.symm))
  have hS2:Spares [vb,g] w (wx.setCell ⟨vb,8,none⟩ (.slice (some ⟨g,0,none⟩) m cap)):=(((((Spares.of_below hB0).trans (hs1.mono (by simp))).alloc _).trans (Spares.of_grown hgx (by simp))).set (by simp) _ _)
  exact hid_elim HP _ _ ⟨0,cap,w1.heap.size,(swapT xs 0 m).take m,_,_,_,_,_,_,_,_,_,_,_,_,_,_,_,_,_,_,_,_,_,_,_,_,_,_,_,_,_,_,_,_,_,_,_,_,_,_,_,_,_,_,_,_,_,_,rfl,hF,.inl rfl,List.Perm.refl _,⟨by rw [hyl];exact bV2,by rw [hyl];exact r2,h81⟩,bR2,bI2,by omega,hS2⟩
end Go.Proofs
namespace Go.Proofs
open Go.RowKit Go.Sort Go.Lib Go.Shelf Go.Maps Go.WideMaps
theorem Tryz.rvRevoke (B rb:Nat) (v:Value) (n:Nat) (xs:List Value) (f:Int) (hf0:0≤f) (hf1:f≤18446744073709551615) (id:List UInt8) (w:World) (hR:BoxN w rb 88 #[v,.int .u64 f]) (hrow:w.ownsRow B 9 1 v n xs) (hB:B≤w.heap.size) (hn:n≤1000) :
  Calls prog 331 #[.pointer (some ⟨rb,0,none⟩),.string ⟨id.toArray⟩] w fun e w'=>e=.returned (.bool (!(f % 2==1)))∧∃ g cap,BoxN w' rb 88 #[.slice (some ⟨g,0,none⟩) (n+1) cap,.int .u64 (f / 2)]∧w'.ownsRow B 9 1 (.slice (some ⟨g,0,none⟩) (n+1) cap) (n+1) (xs ++ [.string ⟨id.toArray⟩])∧rb≠g∧(v.ownBlock=some g∨w.heap.size≤g)∧Spares (rb :: v.ownBlock.toList) w w':=by
 obtain⟨i0,hi,hz0,hz1,hz2⟩:=info_parts strInfo;have hnr:=hR.not_row (e:=9) (by decide) hrow;have lv:=hR.lt;have c0:=hR.cell 0 (v:=v) rfl;have ca:=(hR.alloc (.cells #[.string ⟨id.toArray⟩] 9)).cell 0 (v:=v) rfl;have bS:=BoxN.new w 9 #[.string ⟨id.toArray⟩];have hand:=and_one_u64 f hf0 hf1;clear hf0 hf1;go_enter func331,ntmps331
 go_wp2_with (at_builtin;refine wpList_append_lies _ rfl _ _ 40 rfl B 9 i0 _ 1 16 underlying40 hi hz0 hz1 hz2 rfl (by decide) _ _ _ rfl (hrow.alloc _) ⟨w.heap.size,0,none⟩ 1 1 [.string ⟨id.toArray⟩] rfl rfl (World.news_of_block bS) (by simp [Value.oneCell']) (by omega) (by unfold maxLen;omega) (by omega) (by simp;omega) _ rfl ?_;intro g cap w1 hown hgrow hat hlt;have hR1:=(hR.alloc (.cells #[.string ⟨id.toArray⟩] 9)).kept hgrow hnr;have d0:=hR1.cell 0 (v:=v) rfl;have d1:=hR1.cell 1 (v:=.int .u64 f) rfl;have fz0:=hR1.frozen 0;have fz1:=hR1.frozen 1)
 have hg1:(w.alloc (.cells #[.string ⟨id.toArray⟩] 9)).grownBy w1 v.ownBlock:=hgrow;have hat1:v.ownBlock=some g∨g=(w.alloc (.cells #[.string ⟨id.toArray⟩] 9)).heap.size:=hat;clear hgrow hat;rw [World.size_alloc] at hat1
 have hrg:rb≠g:=by
  rcases hat1 with e | e
  ·exact fun e'=>hnr (by rw [e,e'])
  ·omega
 have hwg:v.ownBlock=some g∨w.heap.size≤g:=by
  rcases hat1 with e | e
  ·exact .inl e
  ·exact .inr (by omega)
 have hS:Spares (rb :: v.ownBlock.toList) w w1:=((Spares.of_below (Below.refl _ w)).alloc _).trans (Spares.of_grown' hg1 (fun b hb=>by rw [hb];simp));go_ret;exact⟨rfl,g,cap,(hR1.set 0 (.slice (some ⟨g,0,none⟩) (n+1) cap)).set 1 (.int .u64 (f / 2)),(hown.kept (grown_set w1 rb 0 (.slice (some ⟨g,0,none⟩) (n+1) cap)) (.inr (by simp [Value.ownBlock];exact fun e=>hrg e.symm))).kept (grown_set _ rb 1 (.int .u64 (f / 2))) (.inr (by simp [Value.ownBlock];exact fun e=>hrg e.symm)),hrg,hwg,(hS.set (by simp) _ _).set (by simp) _ _⟩
end Go.Proofs
namespace Go.Proofs
open Go.RowKit Go.Sort Go.Lib Go.Shelf
def waitN:Nat→Int
 | 0=>2
 | 1=>4
 | 2=>8
 | 3=>16
 | _=>32
theorem waitN_lt {k:Nat} (h:k<4):waitN k<32∧0<waitN k∧waitN k*2=waitN (k+1):=by
 match k,h with
 | 0,_=>decide
 | 1,_=>decide
 | 2,_=>decide
 | 3,_=>decide
theorem waitN_top {k:Nat} (h:4≤k):waitN k=32:=by
 match k,h with
 | k+4,_=>rfl
theorem waitN_le (k:Nat):0<waitN k∧waitN k≤32:=by
 by_cases h:k<4
 ·have:=waitN_lt h;omega
 ·rw [waitN_top (by omega)];omega
def failAt (tm:Int) (t:ThingD):ThingD:={ t with tries:=t.tries+1,doomed:=true,at_:=plusI tm (waitN t.tries.toNat) }
end Go.Proofs
namespace Go.Proofs
open Go.RowKit Go.Sort Go.Lib Go.Shelf Go.Maps
theorem Tryz.wait (n:Nat) (f:Int) (hf:f=(n:Int)+1) (hn:f≤9223372036854775807) (w:World):Calls prog 199 #[.int .i64 f] w fun e w'=>e=.returned (.int .u64 (waitN n))∧w'=w:=by
 have Hf:=hid_intro hf
 obtain⟨r,hr⟩:∃ r,waitN n=r:=⟨_,rfl⟩
 rw [hr];have Hr:=hid_intro hr
 have h1:1≤f:=by omega
 clear hf hr;go_enter func199,ntmps199;go_wp2
 go_loopw [3,4] (fun x i wr=>∃ k:Nat,(k:Int)+1≤f∧k≤4∧i=.int .i64 ((k:Int)+1)∧x=.int .u64 (waitN k)∧wr=w) (fun _ i _=>5-(intOf i).toNat)
 case atStart=>exact⟨0,by omega,by omega,rfl,rfl,rfl⟩
 case round =>
  obtain⟨k,hk,hk4,rfl,rfl,rfl⟩:=hrel
  by_cases hlt:(k:Int)+1<f
  ·by_cases h4:k<4
   ·obtain⟨hx,hx0,hx2⟩:=waitN_lt h4
    have HX:=hid_intro hx2;generalize waitN k=x at *;clear hx2;go_wp2;exact⟨⟨k+1,by omega,by omega,congrArg (Value.int .i64) (by omega),by rw [← hid_elim HX];exact⟨rfl,trivial⟩⟩,by simp [intOf];omega⟩
   ·have hx:waitN k=32:=waitN_top (by omega)
    have hfin:Hid (32=r):=hid_intro (by rw [← hid_elim Hr];exact(waitN_top (by have:=hid_elim Hf;omega)).symm);rw [hx];clear hx;go_wp2;go_ret;exact⟨ret_int (hid_elim hfin),rfl⟩
  ·have hfin:Hid (waitN k=r):=hid_intro (by rw [← hid_elim Hr,show n=k by have:=hid_elim Hf;omega])
   have hxl:=waitN_le k;generalize waitN k=x at *;go_wp2;go_ret;exact⟨ret_int (by rw [← hid_elim hfin];omega),rfl⟩
theorem Tryz.eFail (b:Nat) (ty:TypeId) (ak au at_ tr tm:Int) (pd:Bool) (rest:List Value) (w:World) (hB:BoxN w b ty (#[.int .i64 ak,.int .u64 au,.int .u64 at_,.int .i64 tr,.bool pd] ++ rest.toArray)) (h0:0≤tr) (h1:tr<9223372036854775807) (t0:0≤tm) (t1:tm≤18446744073709551615) :
  Calls prog 168 #[.pointer (some ⟨b,0,none⟩),.int .u64 tm] w fun e w'=>e=.returned (.tuple #[])∧BoxN w' b ty (#[.int .i64 ak,.int .u64 au,.int .u64 (plusI tm (waitN tr.toNat)),.int .i64 (tr+1),.bool true] ++ rest.toArray)∧Spares [b] w w':=by
 have hW:=fun W=>wait tr.toNat (tr+1) (by omega) (by omega) W
 have hwl:=waitN_le tr.toNat
 have hL:=fun W=>later tm (waitN tr.toNat) t0 t1 (by omega) (by omega) W
 generalize plusI tm (waitN tr.toNat)=at2 at *;generalize waitN tr.toNat=wn at *;have c2:=hB.cell 2 (v:=.int .u64 at_) (by simp);have c3:=hB.cell 3 (v:=.int .i64 tr) (by simp);have c4:=hB.cell 4 (v:=.bool pd) (by simp);have f2:=hB.frozen 2;have f3:=hB.frozen 3;have f4:=hB.frozen 4;have hfin:=((hB.set 4 (.bool true)).set 3 (.int .i64 (tr+1))).set 2 (.int .u64 at2);have HF:=hid_intro hfin;clear hfin;go_enter func168,ntmps168
 go_wp2_with (first
  | (go_at_call 199;refine(hW _).mono ?_;rintro e w1 ⟨rfl,rfl⟩)
  | (go_at_call 65;refine(hL _).mono ?_;rintro e w2 ⟨rfl,rfl⟩))
 go_end0
 refine⟨rfl,?_,(((Spares.of_below (Below.refl _ w)).set (by simp) _ _).set (by simp) _ _).set (by simp) _ _⟩;have:=hid_elim HF
 simpa using this
structure Tryz.LkP1 (vb c m nb:Nat) (tm:TypeId) (k u:Int) (r:Value) (W:World):Prop where
 mp:W.cell? ⟨vb,c,none⟩=some (.map (some m))
 n0:W.cell? ⟨nb,0,none⟩=some (.int .i64 k)
 n1:W.cell? ⟨nb,1,none⟩=some (.int .u64 u)
 lk:(Instr.lookup tm (.map (some m)) (.agg #[.int .i64 k,.int .u64 u]) false).run Tryz.prog W=.ok r W
theorem Tryz.aboveOf_tok (vb mt:Nat) (x:Int × Int) (ak au at_ tr:Int) (pd:Bool) (w:World) (hP:∀ W,Below w.heap.size w W→W.cell? ⟨vb,3,none⟩=some (.map (some mt))∧(Instr.lookup 120 (.map (some mt)) (nmV x) true).run prog W=.ok (.tuple #[.agg #[.int .i64 ak,.int .u64 au,.int .u64 at_,.int .i64 tr,.bool pd],.bool true]) W) :
  Calls prog 134 #[.pointer (some ⟨vb,0,none⟩),nmV x] w fun e w'=>e=.returned (nmV (ak,au))∧Below w.heap.size w w':=by
 have hB0:Below w.heap.size w ((w.alloc (.cells #[.int .i64 x.1,.int .u64 x.2] 114)).alloc (.cells #[.int .i64 0,.int .u64 0] 114)):=((Below.refl _ w).alloc (Nat.le_refl _) _).alloc (by simp) _;have bN:=(BoxN.new w 114 #[.int .i64 x.1,.int .u64 x.2]).alloc (.cells #[.int .i64 0,.int .u64 0] 114);have bR:=BoxN.new (w.alloc (.cells #[.int .i64 x.1,.int .u64 x.2] 114)) 114 #[.int .i64 0,.int .u64 0];rw [World.size_alloc] at bR
 have hs0:((w.alloc (.cells #[.int .i64 x.1,.int .u64 x.2] 114)).alloc (.cells #[.int .i64 0,.int .u64 0] 114)).heap.size=w.heap.size+2:=by simp
 unfold nmV;go_enter func134,ntmps134
 go_wp2_with fail
 generalize (w.alloc (.cells #[.int .i64 x.1,.int .u64 x.2] 114)).alloc (.cells #[.int .i64 0,.int .u64 0] 114)=W1 at *
 have hS:∀ W,Below (w.heap.size+2) W1 W→LkP vb 3 mt w.heap.size 120 x.1 x.2 (.tuple #[.agg #[.int .i64 ak,.int .u64 au,.int .u64 at_,.int .i64 tr,.bool pd],.bool true]) W:=fun W hb=>by
  have bN':=bN.below hb (by omega);obtain⟨h1,h2⟩:=hP W (hB0.trans (hb.mono (by omega)));exact⟨h1,bN'.cell 0 rfl,bN'.cell 1 rfl,h2⟩
 have hb1:Below (w.heap.size+2) W1 W1.drew:=(Below.refl _ _).drew;refine wp_region_held_drew (S:=(LkP vb 3 mt w.heap.size 120 x.1 x.2 (.tuple #[.agg #[.int .i64 ak,.int .u64 au,.int .u64 at_,.int .i64 tr,.bool pd],.bool true]))) (by kernel_rfl) (hS _ hb1) (fun hS0=>?_);refine wpAnyH_take (i:=0) (v:=?v0) rfl (by kernel_rfl) (by kernel_rfl) (by kernel_rfl) (fun _ _ _ h=>h) (Or.inl ⟨by kernel_rfl,?y0⟩) hS0 ?_
 case y0=>(intro w hSw;obtain⟨q0,q1,q2,q3⟩:=hSw;go_simp;try with_reducible rfl)
 refine wpAnyH_take (i:=1) (v:=?v1) rfl (by kernel_rfl) (by kernel_rfl) (by kernel_rfl) (fun _ _ _ h=>h) (Or.inl ⟨by kernel_rfl,?y1⟩) hS0 ?_
 case y1=>(intro w hSw;obtain⟨q0,q1,q2,q3⟩:=hSw;go_simp;try with_reducible rfl)
 refine wpAnyH_take (i:=2) (v:=?v2) rfl (by kernel_rfl) (by kernel_rfl) (by kernel_rfl) (fun _ _ _ h=>h) (Or.inl ⟨by kernel_rfl,?y2⟩) hS0 ?_
 case y2=>(intro w hSw;obtain⟨q0,q1,q2,q3⟩:=hSw;go_simp;try with_reducible rfl)
 refine wpAnyH_take (i:=3) (v:=?v3) rfl (by kernel_rfl) (by kernel_rfl) (by kernel_rfl) (fun _ _ _ h=>h) (Or.inl ⟨by kernel_rfl,?y3⟩) hS0 ?_
 case y3=>(intro w hSw;obtain⟨q0,q1,q2,q3⟩:=hSw;go_simp;try with_reducible rfl)
 refine wpAnyH_take (i:=4) (v:=?v4) rfl (by kernel_rfl) (by kernel_rfl) (by kernel_rfl) (fun _ _ _ h=>h) (Or.inl ⟨by kernel_rfl,?y4⟩) hS0 ?_
 case y4=>(intro w hSw;obtain⟨q0,q1,q2,q3⟩:=hSw;go_simp;try with_reducible rfl)
 refine wpAnyH_take (i:=5) (v:=?v5) rfl (by kernel_rfl) (by kernel_rfl) (by kernel_rfl) (fun _ _ _ h=>h) (Or.inl ⟨by kernel_rfl,?y5⟩) hS0 ?_
 case y5=>(intro w hSw;obtain⟨q0,q1,q2,q3⟩:=hSw;go_simp;try with_reducible rfl)
 refine wpAnyH_take (i:=6) (v:=?v6) rfl (by kernel_rfl) (by kernel_rfl) (by kernel_rfl) (fun _ _ _ h=>h) (Or.inl ⟨by kernel_rfl,?y6⟩) hS0 ?_
 case y6=>(intro w hSw;obtain⟨q0,q1,q2,q3⟩:=hSw;go_simp;try with_reducible rfl)
 refine wpAnyH_take (i:=7) (v:=?v7) rfl (by kernel_rfl) (by kernel_rfl) (by kernel_rfl) (fun _ _ _ h=>h) (Or.inl ⟨by kernel_rfl,?y7⟩) hS0 ?_
 case y7=>(intro w hSw;obtain⟨q0,q1,q2,q3⟩:=hSw;go_simp;try with_reducible rfl)
 refine wpAnyH_take (i:=8) (v:=?v8) rfl (by kernel_rfl) (by kernel_rfl) (by kernel_rfl) (fun _ _ _ h=>h) (Or.inl ⟨by kernel_rfl,?y8⟩) hS0 ?_
 case y8=>(intro w hSw;obtain⟨q0,q1,q2,q3⟩:=hSw;go_simp;try with_reducible rfl)
 refine wpAnyH_ready (rs:=[9]) (by kernel_rfl) (by simp) ?_;refine AllReadyH.cons rfl (fun K hK=>?_) AllReadyH.nil;go_simp;refine hK.out _ _ (hS _ (hb1.alloc (by simp [hs0]) _)) (fun hS1=>?_);clear hK K;refine wpAnyH_ready (rs:=[10]) (by kernel_rfl) (by simp) ?_;refine AllReadyH.cons rfl (fun K hK=>?_) AllReadyH.nil;go_simp;have hb2:Below (w.heap.size+2) W1 (W1.alloc (.cells #[.int .i64 ak,.int .u64 au,.int .u64 at_,.int .i64 tr,.bool pd] 153)).drew:=((Below.refl _ _).alloc (by omega) _).drew;refine hK.out _ _ (hS _ hb2) (fun hS2=>?_);clear hK K;refine wpAnyH_ready (rs:=[11]) (by kernel_rfl) (by simp) ?_;refine AllReadyH.cons rfl (fun K hK=>?_) AllReadyH.nil;go_simp;refine hK.out _ _ hS2 (fun _=>?_);clear hK K hS0 hS1 hS2;refine wpAnyH_done (by kernel_rfl) ?_ _
 have bT:BoxN (W1.alloc (.cells #[.int .i64 ak,.int .u64 au,.int .u64 at_,.int .i64 tr,.bool pd] 153)).drew (w.heap.size+2) 153 #[.int .i64 ak,.int .u64 au,.int .u64 at_,.int .i64 tr,.bool pd]:=by
  have h:=BoxN.new W1 153 #[.int .i64 ak,.int .u64 au,.int .u64 at_,.int .i64 tr,.bool pd];rw [hs0] at h;exact h
 have bR2:=bR.below hb2 (by omega);have hBf:=hB0.trans (hb2.mono (by omega));clear hS hP hb1 hb2 hB0 bN bR;generalize (W1.alloc (.cells #[.int .i64 ak,.int .u64 au,.int .u64 at_,.int .i64 tr,.bool pd] 153)).drew=W2 at *;have y0:=bT.cell 0 (v:=.int .i64 ak) rfl;have y1:=bT.cell 1 (v:=.int .u64 au) rfl;have z0:=bR2.cell 0 (v:=.int .i64 0) rfl;have z1:=bR2.cell 1 (v:=.int .u64 0) rfl;have f0:=bR2.frozen 0;have f1:=bR2.frozen 1;have hfin:=(bR2.set 0 (.int .i64 ak)).set 1 (.int .u64 au);have r0:=hfin.cell 0 (v:=.int .i64 ak) (by simp);have r1:=hfin.cell 1 (v:=.int .u64 au) (by simp);go_wp2;exact bodyPost_ret (v:=.agg #[.int .i64 ak,.int .u64 au]) (by simp [results,results134,go_sem,r0,r1]) rfl ⟨rfl,(hBf.setCell (p:=⟨w.heap.size+1,0,none⟩) (by show w.heap.size≤w.heap.size+1;omega) _).setCell (p:=⟨w.heap.size+1,1,none⟩) (by show w.heap.size≤w.heap.size+1;omega) _⟩
theorem Tryz.fieldL (ak au at_ tr:Int) (pd:Bool) (pth:ByteArray) (la:Int) (w:World):Sem.run prog (Instr.field 131 (.agg #[.int .i64 ak,.int .u64 au,.int .u64 at_,.int .i64 tr,.bool pd,.string pth,.int .u64 la]) 0) w=.ok (.agg #[.int .i64 ak,.int .u64 au,.int .u64 at_,.int .i64 tr,.bool pd]) w:=by kernel_rfl
theorem Tryz.fieldE (ak au at_ tr:Int) (pd:Bool) (w:World):Sem.run prog (Instr.field 129 (.agg #[.int .i64 ak,.int .u64 au,.int .u64 at_,.int .i64 tr,.bool pd]) 0) w=.ok (.agg #[.int .i64 ak,.int .u64 au]) w:=by kernel_rfl
theorem Tryz.aboveOf_lea (vb mt ml:Nat) (x:Int × Int) (ak au at_ tr:Int) (pd:Bool) (pth:List UInt8) (la:Int) (w:World) (hP:∀ W,Below w.heap.size w W→W.cell? ⟨vb,3,none⟩=some (.map (some mt))∧(Instr.lookup 120 (.map (some mt)) (nmV x) true).run prog W=.ok (.tuple #[.agg #[.int .i64 0,.int .u64 0,.int .u64 0,.int .i64 0,.bool false],.bool false]) W)
  (hP2:∀ W,Below w.heap.size w W→W.cell? ⟨vb,4,none⟩=some (.map (some ml))∧(Instr.lookup 121 (.map (some ml)) (nmV x) false).run prog W=.ok (.agg #[.int .i64 ak,.int .u64 au,.int .u64 at_,.int .i64 tr,.bool pd,.string ⟨pth.toArray⟩,.int .u64 la]) W) :
  Calls prog 134 #[.pointer (some ⟨vb,0,none⟩),nmV x] w fun e w'=>e=.returned (nmV (ak,au))∧Below w.heap.size w w':=by
 have hB0:Below w.heap.size w ((w.alloc (.cells #[.int .i64 x.1,.int .u64 x.2] 114)).alloc (.cells #[.int .i64 0,.int .u64 0] 114)):=((Below.refl _ w).alloc (Nat.le_refl _) _).alloc (by simp) _;have bN:=(BoxN.new w 114 #[.int .i64 x.1,.int .u64 x.2]).alloc (.cells #[.int .i64 0,.int .u64 0] 114);have bR:=BoxN.new (w.alloc (.cells #[.int .i64 x.1,.int .u64 x.2] 114)) 114 #[.int .i64 0,.int .u64 0];rw [World.size_alloc] at bR
 have hs0:((w.alloc (.cells #[.int .i64 x.1,.int .u64 x.2] 114)).alloc (.cells #[.int .i64 0,.int .u64 0] 114)).heap.size=w.heap.size+2:=by simp
 unfold nmV at hP hP2 ⊢;go_enter func134,ntmps134
 go_wp2_with fail
 generalize (w.alloc (.cells #[.int .i64 x.1,.int .u64 x.2] 114)).alloc (.cells #[.int .i64 0,.int .u64 0] 114)=W1 at *
 have hS:∀ W,Below (w.heap.size+2) W1 W→LkP vb 3 mt w.heap.size 120 x.1 x.2 (.tuple #[.agg #[.int .i64 0,.int .u64 0,.int .u64 0,.int .i64 0,.bool false],.bool false]) W:=fun W hb=>by
  have bN':=bN.below hb (by omega);obtain⟨h1,h2⟩:=hP W (hB0.trans (hb.mono (by omega)));exact⟨h1,bN'.cell 0 rfl,bN'.cell 1 rfl,h2⟩
 have hb1:Below (w.heap.size+2) W1 W1.drew:=(Below.refl _ _).drew;refine wp_region_held_drew (S:=(LkP vb 3 mt w.heap.size 120 x.1 x.2 (.tuple #[.agg #[.int .i64 0,.int .u64 0,.int .u64 0,.int .i64 0,.bool false],.bool false]))) (by kernel_rfl) (hS _ hb1) (fun hS0=>?_);refine wpAnyH_take (i:=0) (v:=?v0) rfl (by kernel_rfl) (by kernel_rfl) (by kernel_rfl) (fun _ _ _ h=>h) (Or.inl ⟨by kernel_rfl,?y0⟩) hS0 ?_
 case y0=>(intro w hSw;obtain⟨q0,q1,q2,q3⟩:=hSw;go_simp;try with_reducible rfl)
 refine wpAnyH_take (i:=1) (v:=?v1) rfl (by kernel_rfl) (by kernel_rfl) (by kernel_rfl) (fun _ _ _ h=>h) (Or.inl ⟨by kernel_rfl,?y1⟩) hS0 ?_
 case y1=>(intro w hSw;obtain⟨q0,q1,q2,q3⟩:=hSw;go_simp;try with_reducible rfl)
 refine wpAnyH_take (i:=2) (v:=?v2) rfl (by kernel_rfl) (by kernel_rfl) (by kernel_rfl) (fun _ _ _ h=>h) (Or.inl ⟨by kernel_rfl,?y2⟩) hS0 ?_
 case y2=>(intro w hSw;obtain⟨q0,q1,q2,q3⟩:=hSw;go_simp;try with_reducible rfl)
 refine wpAnyH_take (i:=3) (v:=?v3) rfl (by kernel_rfl) (by kernel_rfl) (by kernel_rfl) (fun _ _ _ h=>h) (Or.inl ⟨by kernel_rfl,?y3⟩) hS0 ?_
 case y3=>(intro w hSw;obtain⟨q0,q1,q2,q3⟩:=hSw;go_simp;try with_reducible rfl)
 refine wpAnyH_take (i:=4) (v:=?v4) rfl (by kernel_rfl) (by kernel_rfl) (by kernel_rfl) (fun _ _ _ h=>h) (Or.inl ⟨by kernel_rfl,?y4⟩) hS0 ?_
 case y4=>(intro w hSw;obtain⟨q0,q1,q2,q3⟩:=hSw;go_simp;try with_reducible rfl)
 refine wpAnyH_take (i:=5) (v:=?v5) rfl (by kernel_rfl) (by kernel_rfl) (by kernel_rfl) (fun _ _ _ h=>h) (Or.inl ⟨by kernel_rfl,?y5⟩) hS0 ?_
 case y5=>(intro w hSw;obtain⟨q0,q1,q2,q3⟩:=hSw;go_simp;try with_reducible rfl)
 refine wpAnyH_take (i:=6) (v:=?v6) rfl (by kernel_rfl) (by kernel_rfl) (by kernel_rfl) (fun _ _ _ h=>h) (Or.inl ⟨by kernel_rfl,?y6⟩) hS0 ?_
 case y6=>(intro w hSw;obtain⟨q0,q1,q2,q3⟩:=hSw;go_simp;try with_reducible rfl)
 refine wpAnyH_take (i:=7) (v:=?v7) rfl (by kernel_rfl) (by kernel_rfl) (by kernel_rfl) (fun _ _ _ h=>h) (Or.inl ⟨by kernel_rfl,?y7⟩) hS0 ?_
 case y7=>(intro w hSw;obtain⟨q0,q1,q2,q3⟩:=hSw;go_simp;try with_reducible rfl)
 refine wpAnyH_take (i:=8) (v:=?v8) rfl (by kernel_rfl) (by kernel_rfl) (by kernel_rfl) (fun _ _ _ h=>h) (Or.inl ⟨by kernel_rfl,?y8⟩) hS0 ?_
 case y8=>(intro w hSw;obtain⟨q0,q1,q2,q3⟩:=hSw;go_simp;try with_reducible rfl)
 refine wpAnyH_ready (rs:=[9]) (by kernel_rfl) (by simp) ?_;refine AllReadyH.cons rfl (fun K hK=>?_) AllReadyH.nil;go_simp;refine hK.out _ _ (hS _ (hb1.alloc (by simp [hs0]) _)) (fun hS1=>?_);clear hK K;refine wpAnyH_ready (rs:=[10]) (by kernel_rfl) (by simp) ?_;refine AllReadyH.cons rfl (fun K hK=>?_) AllReadyH.nil;go_simp;have hb2:Below (w.heap.size+2) W1 (W1.alloc (.cells #[.int .i64 0,.int .u64 0,.int .u64 0,.int .i64 0,.bool false] 153)).drew:=((Below.refl _ _).alloc (by omega) _).drew;refine hK.out _ _ (hS _ hb2) (fun hS2=>?_);clear hK K;refine wpAnyH_ready (rs:=[11]) (by kernel_rfl) (by simp) ?_;refine AllReadyH.cons rfl (fun K hK=>?_) AllReadyH.nil;go_simp;refine hK.out _ _ hS2 (fun _=>?_);clear hK K hS0 hS1 hS2;refine wpAnyH_done (by kernel_rfl) ?_ _;have bR2:=bR.below hb2 (by omega);have bN2:=bN.below hb2 (by omega);have hBf:=hB0.trans (hb2.mono (by omega));obtain⟨hc4,hl4⟩:=hP2 _ hBf.drew;clear hS hP hP2 hb1 hb2 hB0 bN bR;generalize (W1.alloc (.cells #[.int .i64 0,.int .u64 0,.int .u64 0,.int .i64 0,.bool false] 153)).drew=W2 at *;have hc5:W2.cell? ⟨vb,4,none⟩=some (.map (some ml)):=hc4;have y0:=bN2.cell 0 (v:=.int .i64 x.1) rfl;have y1:=bN2.cell 1 (v:=.int .u64 x.2) rfl;have z0:=bR2.cell 0 (v:=.int .i64 0) rfl;have z1:=bR2.cell 1 (v:=.int .u64 0) rfl;have f0:=bR2.frozen 0;have f1:=bR2.frozen 1;have hfin:=(bR2.set 0 (.int .i64 ak)).set 1 (.int .u64 au);have r0:=hfin.cell 0 (v:=.int .i64 ak) (by simp);have r1:=hfin.cell 1 (v:=.int .u64 au) (by simp);have e1:=fieldL ak au at_ tr pd ⟨pth.toArray⟩ la;have e2:=fieldE ak au at_ tr pd
 go_wp2_with fail
 go_region
 go_wp2;exact bodyPost_ret (v:=.agg #[.int .i64 ak,.int .u64 au]) (by simp [results,results134,go_sem,r0,r1]) rfl ⟨rfl,((hBf.setCell (p:=⟨w.heap.size+1,0,none⟩) (by show w.heap.size≤w.heap.size+1;omega) _).setCell (p:=⟨w.heap.size+1,1,none⟩) (by show w.heap.size≤w.heap.size+1;omega) _).drew⟩
end Go.Proofs
