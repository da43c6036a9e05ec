import Derived.Test.YtjbekgjdempbiaaGreatDoorJSq
import Derived.Test.YtjbekgjdempbiaaGreatDoorJTkE
set_option maxRecDepth 100000
set_option maxHeartbeats 8000000
namespace Go.Proofs
open Go.RowKit Go.Sort Go.Lib Go.Shelf Go.Maps
abbrev Tryz.QtP (vb tb nb:Nat) (tm at_ k u:Int) (pd:Bool) (W:World):Prop:=W.cell? ⟨vb,2,none⟩=some (.int .u64 tm)/\W.cell? ⟨tb,2,none⟩=some (.int .u64 at_)/\W.cell? ⟨tb,4,none⟩=some (.bool pd)/\W.cell? ⟨nb,0,none⟩=some (.int .i64 k)/\W.cell? ⟨nb,1,none⟩=some (.int .u64 u)
theorem Tryz.QtP.below {vb tb nb:Nat} {tm at_ k u:Int} {pd:Bool} {W W':World} (h:QtP vb tb nb tm at_ k u pd W) (hb:Below W.heap.size W W'):QtP vb tb nb tm at_ k u pd W':=⟨cell_later hb h.1,cell_later hb h.2.1,cell_later hb h.2.2.1,cell_later hb h.2.2.2.1,cell_later hb h.2.2.2.2⟩
theorem Tryz.Xbq (B vb mt ml:Nat) (vx:VX) (tm tn ln:Int) (tks:List Xd) (lks:List Xc) (w:World) (hV:Xq w vb mt ml vx tm tn ln tks lks) (x:Int × Int) (ak au at_ tr:Int) (pd:Bool) (hP:∀ W,Below w.heap.size w W->(Instr.lookup 120 (.map (some mt)) (nmV x) false).run prog W=.ok (.agg #[.int .i64 ak,.int .u64 au,.int .u64 at_,.int .i64 tr,.bool pd]) W)
  (q:List Xe) (hrow:w.ownsRow B 144 3 vx.due q.length (Yj q)) (hH:Xay q) (hB:B<=w.heap.size) (hn:q.length<=100) (go:Bool) (hgo:go=(pd&&decide (at_<=tm) && !(tks.any (fun t=>t.ak==x.1&&(t.au:Int)==x.2)||lks.any (fun t=>t.ak==x.1&&(t.au:Int)==x.2)))) :
  Calls prog 130 #[.pointer (some ⟨vb,0,none⟩),nmV x] w fun e w'=>e=.returned (.tuple #[])/\(go=false->Below w.heap.size w w')/\(go=true->∃ g cap ys,QV B vb (Y8 vx tm mt ml tn ln) g cap ys w'/\Xay ys/\ys.Perm (q ++ [⟨at_,x.1,x.2⟩])/\(vx.due.ownBlock=some g\/w.heap.size<=g)/\Spares (vb :: vx.due.ownBlock.toList) w w'):=by
 have hB0:Below w.heap.size w (w.alloc (.cells #[.int .i64 x.1,.int .u64 x.2] 114)):=(Below.refl _ w).alloc (Nat.le_refl _) _;have bN:=BoxN.new w 114 #[.int .i64 x.1,.int .u64 x.2]
 have hs0:(w.alloc (.cells #[.int .i64 x.1,.int .u64 x.2] 114)).heap.size=w.heap.size+1:=by simp
 unfold nmV at *;go_enter func130,ntmps130
 go_wp2_with fail
 generalize (w.alloc (.cells #[.int .i64 x.1,.int .u64 x.2] 114))=W1 at *
 have hS:∀ W,Below (w.heap.size+1) W1 W->Xtk vb 3 mt w.heap.size 120 x.1 x.2 (.agg #[.int .i64 ak,.int .u64 au,.int .u64 at_,.int .i64 tr,.bool pd]) W:=fun W hb=>by
  have bN':=bN.below hb (by omega);have hB:=hB0.trans (hb.mono (by omega));exact⟨(hV.below hB).v.cell 3 rfl,bN'.cell 0 rfl,bN'.cell 1 rfl,hP W hB⟩
 have hb1:Below (w.heap.size+1) W1 W1.drew:=(Below.refl _ _).drew;refine wp_region_held_drew (S:=(Xtk vb 3 mt w.heap.size 120 x.1 x.2 (.agg #[.int .i64 ak,.int .u64 au,.int .u64 at_,.int .i64 tr,.bool pd]))) (by kernel_rfl) (hS _ hb1) (fun hS0=>?_);refine Xt 0 ?vk0 rfl ?yk0 hS0 ?_
 case yk0=>(rintro w ⟨q0,q1,q2,q3⟩;go_simp;try with_reducible rfl)
 refine Xt 1 ?vk1 rfl ?yk1 hS0 ?_
 case yk1=>(rintro w ⟨q0,q1,q2,q3⟩;go_simp;try with_reducible rfl)
 refine Xt 2 ?vk2 rfl ?yk2 hS0 ?_
 case yk2=>(rintro w ⟨q0,q1,q2,q3⟩;go_simp;try with_reducible rfl)
 refine Xt 3 ?vk3 rfl ?yk3 hS0 ?_
 case yk3=>(rintro w ⟨q0,q1,q2,q3⟩;go_simp;try with_reducible rfl)
 refine Xt 4 ?vk4 rfl ?yk4 hS0 ?_
 case yk4=>(rintro w ⟨q0,q1,q2,q3⟩;go_simp;try with_reducible rfl)
 refine Xt 5 ?vk5 rfl ?yk5 hS0 ?_
 case yk5=>(rintro w ⟨q0,q1,q2,q3⟩;go_simp;try with_reducible rfl)
 refine Xh 6 rfl fun K hK=>?_;go_simp;refine hK.out _ _ (hS _ (hb1.alloc (by simp [hs0]) _)) (fun hS1=>?_);clear hK K;refine Xh 7 rfl fun K hK=>?_;go_simp;have hb2:Below (w.heap.size+1) W1 (W1.alloc (.cells #[.int .i64 ak,.int .u64 au,.int .u64 at_,.int .i64 tr,.bool pd] 153)).drew:=((Below.refl _ _).alloc (by omega) _).drew;refine hK.out _ _ (hS _ hb2) (fun hS2=>?_);clear hK K hS0 hS1 hS2;refine wpAnyH_done (by kernel_rfl) ?_ _
 have bT:BoxN (W1.alloc (.cells #[.int .i64 ak,.int .u64 au,.int .u64 at_,.int .i64 tr,.bool pd] 153)).drew (w.heap.size+1) 153 #[.int .i64 ak,.int .u64 au,.int .u64 at_,.int .i64 tr,.bool pd]:=by
  have h:=BoxN.new W1 153 #[.int .i64 ak,.int .u64 au,.int .u64 at_,.int .i64 tr,.bool pd];rw [hs0] at h;exact h
 have bN2:=bN.below hb2 (by omega);have hBf:=hB0.trans (hb2.mono (by omega));clear hS hP hb1 hb2 hB0 bN hs0;generalize (W1.alloc (.cells #[.int .i64 ak,.int .u64 au,.int .u64 at_,.int .i64 tr,.bool pd] 153)).drew=W2 at *;have hV2:=hV.below hBf
 have hQ2:QtP vb (w.heap.size+1) w.heap.size tm at_ x.1 x.2 pd W2.drew:=⟨hV2.v.cell 2 rfl,bT.cell 2 rfl,bT.cell 4 rfl,bN2.cell 0 rfl,bN2.cell 1 rfl⟩
 have hL:=Vt (w.heap.size+1) pd W2.drew (bT.cell 4 rfl);have hHB:=Xqr vb mt ml vx tm tn ln tks lks W2.drew (hV2.below (Below.refl _ W2).drew) x.1 x.2;unfold nmV at hHB;generalize (tks.any (fun t=>t.ak==x.1&&(t.au:Int)==x.2)||lks.any (fun t=>t.ak==x.1&&(t.au:Int)==x.2))=hb at *
 go_wp2_with fail
 cases pd
 ·subst hgo
  refine wp_region_held_drew (S:=QtP vb (w.heap.size+1) w.heap.size tm at_ x.1 x.2 false) (by kernel_rfl) hQ2 (fun hS0=>?_);refine Xt 0 ?av0 rfl ?ay0 hS0 ?_
  case ay0=>(rintro w ⟨q0,q1,q2,q3,q4⟩;go_simp;try with_reducible rfl)
  refine Xh 1 rfl fun K hK=>?_;go_simp;refine hL.mono ?_;rintro e w5 ⟨rfl,rfl⟩;refine hK.out _ _ hQ2 (fun hS1=>?_);clear hK K;refine Xt 2 ?av2 rfl ?ay2 hS1 ?_
  case ay2=>(rintro w ⟨q0,q1,q2,q3,q4⟩;go_simp;try with_reducible rfl)
  refine Xt 3 ?av3 rfl ?ay3 hS1 ?_
  case ay3=>(rintro w ⟨q0,q1,q2,q3,q4⟩;go_simp;try with_reducible rfl)
  refine Xu 4 rfl hS1 ?_;refine Xu 5 rfl hS1 ?_;refine Xu 6 rfl hS1 ?_;refine Xu 7 rfl hS1 ?_;refine Xu 8 rfl hS1 ?_;refine Xu 9 rfl hS1 ?_;refine Xu 10 rfl hS1 ?_;refine Xu 11 rfl hS1 ?_;refine Xt 12 ?av12 rfl ?ay12 hS1 ?_
  case ay12=>(rintro w ⟨q0,q1,q2,q3,q4⟩;go_simp;try with_reducible rfl)
  refine Xt 13 ?av13 rfl ?ay13 hS1 ?_
  case ay13=>(rintro w ⟨q0,q1,q2,q3,q4⟩;go_simp;try with_reducible rfl)
  refine Xu 14 rfl hS1 ?_;refine Xu 15 rfl hS1 ?_;refine Xu 16 rfl hS1 ?_;refine Xu 17 rfl hS1 ?_;refine Xt 18 ?av18 rfl ?ay18 hS1 ?_
  case ay18=>(rintro w ⟨q0,q1,q2,q3,q4⟩;go_simp;try with_reducible rfl)
  refine wpAnyH_done (by kernel_rfl) ?_ _;go_simp;go_wp2
  go_end0
  first
   | exact⟨rfl,fun _=>hBf.drew,fun h=>by simp at h⟩
   | exact⟨rfl,hBf.drew⟩
 by_cases hat:at_<=tm
 ·cases hb
  ·have hgo2:go=true:=by simp [hgo,hat]
   clear hgo;subst hgo2;refine wp_region_held_drew (S:=QtP vb (w.heap.size+1) w.heap.size tm at_ x.1 x.2 true) (by kernel_rfl) hQ2 (fun hS0=>?_);refine Xt 0 ?cv0 rfl ?cy0 hS0 ?_
   case cy0=>(rintro w ⟨q0,q1,q2,q3,q4⟩;go_simp;try with_reducible rfl)
   refine Xh 1 rfl fun K hK=>?_;go_simp;refine hL.mono ?_;rintro e w5 ⟨rfl,rfl⟩;refine hK.out _ _ hQ2 (fun hS1=>?_);clear hK K;refine Xt 2 ?cv2 rfl ?cy2 hS1 ?_
   case cy2=>(rintro w ⟨q0,q1,q2,q3,q4⟩;go_simp;try with_reducible rfl)
   refine Xt 3 ?cv3 rfl ?cy3 hS1 ?_
   case cy3=>(rintro w ⟨q0,q1,q2,q3,q4⟩;go_simp;try with_reducible rfl)
   refine Xt 4 ?cv4 rfl ?cy4 hS1 ?_
   case cy4=>(rintro w ⟨q0,q1,q2,q3,q4⟩;go_simp;try with_reducible rfl)
   refine Xt 5 ?cv5 rfl ?cy5 hS1 ?_
   case cy5=>(rintro w ⟨q0,q1,q2,q3,q4⟩;go_simp;try with_reducible rfl)
   refine Xt 6 ?cv6 rfl ?cy6 hS1 ?_
   case cy6=>(rintro w ⟨q0,q1,q2,q3,q4⟩;go_simp;try with_reducible rfl)
   refine Xt 7 ?cv7 rfl ?cy7 hS1 ?_
   case cy7=>(rintro w ⟨q0,q1,q2,q3,q4⟩;go_simp;try with_reducible rfl)
   refine Xt 8 ?cv8 rfl ?cy8 hS1 ?_
   case cy8=>(rintro w ⟨q0,q1,q2,q3,q4⟩;go_simp;try with_reducible rfl)
   refine Xt 9 ?cv9 rfl ?cy9 hS1 ?_
   case cy9=>(rintro w ⟨q0,q1,q2,q3,q4⟩;go_simp;try with_reducible rfl)
   refine Xt 10 ?cv10 rfl ?cy10 hS1 ?_
   case cy10=>(rintro w ⟨q0,q1,q2,q3,q4⟩;go_simp;try with_reducible rfl)
   refine Xt 11 ?cv11 rfl ?cy11 hS1 ?_
   case cy11=>(rintro w ⟨q0,q1,q2,q3,q4⟩;go_simp;try with_reducible rfl)
   refine Xt 12 ?cv12 rfl ?cy12 hS1 ?_
   case cy12=>(rintro w ⟨q0,q1,q2,q3,q4⟩;go_simp;try with_reducible rfl)
   refine Xt 13 ?cv13 rfl ?cy13 hS1 ?_
   case cy13=>(rintro w ⟨q0,q1,q2,q3,q4⟩;go_simp;try with_reducible rfl)
   refine Xt 14 ?cv14 rfl ?cy14 hS1 ?_
   case cy14=>(rintro w ⟨q0,q1,q2,q3,q4⟩;go_simp;try with_reducible rfl)
   refine Xt 15 ?cv15 rfl ?cy15 hS1 ?_
   case cy15=>(rintro w ⟨q0,q1,q2,q3,q4⟩;go_simp;try with_reducible rfl)
   refine Xh 16 rfl fun K hK=>?_;go_simp;refine hHB.mono ?_;rintro e w6 ⟨rfl,hb6⟩;have hQ6:=QtP.below hQ2 hb6;refine hK.out _ _ hQ6 (fun hS2=>?_);clear hK K;refine Xt 17 ?cv17 rfl ?cy17 hS2 ?_
   case cy17=>(rintro w ⟨q0,q1,q2,q3,q4⟩;go_simp;try with_reducible rfl)
   refine Xt 18 ?cv18 rfl ?cy18 hS2 ?_
   case cy18=>(rintro w ⟨q0,q1,q2,q3,q4⟩;go_simp;try with_reducible rfl)
   refine wpAnyH_done (by kernel_rfl) ?_ _;go_simp;have hBf6:Below w.heap.size w w6:=hBf.drew.trans (hb6.mono hBf.drew.size);clear hS0 hS1 hS2 hQ2 hb6 hHB hL
   have hPu:=fun W (hb:Below w.heap.size w W)=>Xup B vb vx.due q.length q (Y8 vx tm mt ml tn ln) ⟨at_,x.1,x.2⟩ W (hV.below hb).v rfl (ownsRow_below hrow hb) hH (Nat.le_trans hB hb.size) hn
   simp only [Xe.cells] at hPu;have hB6d:=hBf6.drew;have hQ6d:QtP vb (w.heap.size+1) w.heap.size tm at_ x.1 x.2 true w6.drew:=hQ6;have hPu6:=hPu w6.drew hB6d;have l1:w.heap.size+1<w6.drew.heap.size:=World.block_lt_of_cell? _ _ hQ6d.2.1;have l0:w.heap.size<w6.drew.heap.size:=World.block_lt_of_cell? _ _ hQ6d.2.2.2.1;have lv:=hV.v.lt
   have hdl:∀ b∈vx.due.ownBlock.toList,b<w.heap.size:=fun b hb=>(hrow.lt b (by simpa using hb)).2
   have hn1:w.heap.size+1∉vb :: vx.due.ownBlock.toList:=fun hm=>by
    rcases List.mem_cons.1 hm with e | hm
    ·omega
    have:=hdl _ hm;omega
   have hn0:w.heap.size∉vb :: vx.due.ownBlock.toList:=fun hm=>by
    rcases List.mem_cons.1 hm with e | hm
    ·omega
    have:=hdl _ hm;omega
   go_wp2_with fail
   go_region_held3 (QtP vb (w.heap.size+1) w.heap.size tm at_ x.1 x.2 true) (first
    | with_reducible exact hQ6d
    | with_reducible exact hQ7
    | with_reducible assumption) (first
    | (go_at_call 131;refine hPu6.mono ?_;rintro e w7 ⟨rfl,g,cap,ys,hqv,hhp,hpm,hwg,hsp⟩;have hQ7:QtP vb (w.heap.size+1) w.heap.size tm at_ x.1 x.2 true w7:=⟨hqv.v.cell 2 rfl,(cell_of_block (hsp.block _ l1 hn1) _).1.trans hQ6d.2.1,(cell_of_block (hsp.block _ l1 hn1) _).1.trans hQ6d.2.2.1,(cell_of_block (hsp.block _ l0 hn0) _).1.trans hQ6d.2.2.2.1,(cell_of_block (hsp.block _ l0 hn0) _).1.trans hQ6d.2.2.2.2⟩))
   all_goals
    go_wp2
    go_end0
    refine⟨rfl,g,cap,ys,hqv,hhp,hpm,?_,(Spares.of_below hB6d).trans hsp⟩
    rcases hwg with h | h
    ·exact .inl h
    ·exact .inr (Nat.le_trans hB6d.size h)
  have hgo2:go=false:=by simp [hgo]
  clear hgo;subst hgo2;refine wp_region_held_drew (S:=QtP vb (w.heap.size+1) w.heap.size tm at_ x.1 x.2 true) (by kernel_rfl) hQ2 (fun hS0=>?_);refine Xt 0 ?dv0 rfl ?dy0 hS0 ?_
  case dy0=>(rintro w ⟨q0,q1,q2,q3,q4⟩;go_simp;try with_reducible rfl)
  refine Xh 1 rfl fun K hK=>?_;go_simp;refine hL.mono ?_;rintro e w5 ⟨rfl,rfl⟩;refine hK.out _ _ hQ2 (fun hS1=>?_);clear hK K;refine Xt 2 ?dv2 rfl ?dy2 hS1 ?_
  case dy2=>(rintro w ⟨q0,q1,q2,q3,q4⟩;go_simp;try with_reducible rfl)
  refine Xt 3 ?dv3 rfl ?dy3 hS1 ?_
  case dy3=>(rintro w ⟨q0,q1,q2,q3,q4⟩;go_simp;try with_reducible rfl)
  refine Xt 4 ?dv4 rfl ?dy4 hS1 ?_
  case dy4=>(rintro w ⟨q0,q1,q2,q3,q4⟩;go_simp;try with_reducible rfl)
  refine Xt 5 ?dv5 rfl ?dy5 hS1 ?_
  case dy5=>(rintro w ⟨q0,q1,q2,q3,q4⟩;go_simp;try with_reducible rfl)
  refine Xt 6 ?dv6 rfl ?dy6 hS1 ?_
  case dy6=>(rintro w ⟨q0,q1,q2,q3,q4⟩;go_simp;try with_reducible rfl)
  refine Xt 7 ?dv7 rfl ?dy7 hS1 ?_
  case dy7=>(rintro w ⟨q0,q1,q2,q3,q4⟩;go_simp;try with_reducible rfl)
  refine Xt 8 ?dv8 rfl ?dy8 hS1 ?_
  case dy8=>(rintro w ⟨q0,q1,q2,q3,q4⟩;go_simp;try with_reducible rfl)
  refine Xt 9 ?dv9 rfl ?dy9 hS1 ?_
  case dy9=>(rintro w ⟨q0,q1,q2,q3,q4⟩;go_simp;try with_reducible rfl)
  refine Xt 10 ?dv10 rfl ?dy10 hS1 ?_
  case dy10=>(rintro w ⟨q0,q1,q2,q3,q4⟩;go_simp;try with_reducible rfl)
  refine Xt 11 ?dv11 rfl ?dy11 hS1 ?_
  case dy11=>(rintro w ⟨q0,q1,q2,q3,q4⟩;go_simp;try with_reducible rfl)
  refine Xt 12 ?dv12 rfl ?dy12 hS1 ?_
  case dy12=>(rintro w ⟨q0,q1,q2,q3,q4⟩;go_simp;try with_reducible rfl)
  refine Xt 13 ?dv13 rfl ?dy13 hS1 ?_
  case dy13=>(rintro w ⟨q0,q1,q2,q3,q4⟩;go_simp;try with_reducible rfl)
  refine Xt 14 ?dv14 rfl ?dy14 hS1 ?_
  case dy14=>(rintro w ⟨q0,q1,q2,q3,q4⟩;go_simp;try with_reducible rfl)
  refine Xt 15 ?dv15 rfl ?dy15 hS1 ?_
  case dy15=>(rintro w ⟨q0,q1,q2,q3,q4⟩;go_simp;try with_reducible rfl)
  refine Xh 16 rfl fun K hK=>?_;go_simp;refine hHB.mono ?_;rintro e w6 ⟨rfl,hb6⟩;have hQ6:=QtP.below hQ2 hb6;refine hK.out _ _ hQ6 (fun hS2=>?_);clear hK K;refine Xt 17 ?dv17 rfl ?dy17 hS2 ?_
  case dy17=>(rintro w ⟨q0,q1,q2,q3,q4⟩;go_simp;try with_reducible rfl)
  refine Xt 18 ?dv18 rfl ?dy18 hS2 ?_
  case dy18=>(rintro w ⟨q0,q1,q2,q3,q4⟩;go_simp;try with_reducible rfl)
  refine wpAnyH_done (by kernel_rfl) ?_ _;go_simp;have hBf6:Below w.heap.size w w6:=hBf.drew.trans (hb6.mono hBf.drew.size);clear hS0 hS1 hS2 hQ2 hb6 hHB hL;go_wp2
  go_end0
  first
   | exact⟨rfl,fun _=>hBf6,fun h=>by simp at h⟩
   | exact⟨rfl,hBf6⟩
 have hgo2:go=false:=by simp [hgo,hat]
 clear hgo;subst hgo2;refine wp_region_held_drew (S:=QtP vb (w.heap.size+1) w.heap.size tm at_ x.1 x.2 true) (by kernel_rfl) hQ2 (fun hS0=>?_);refine Xt 0 ?bv0 rfl ?by0 hS0 ?_
 case by0=>(rintro w ⟨q0,q1,q2,q3,q4⟩;go_simp;try with_reducible rfl)
 refine Xh 1 rfl fun K hK=>?_;go_simp;refine hL.mono ?_;rintro e w5 ⟨rfl,rfl⟩;refine hK.out _ _ hQ2 (fun hS1=>?_);clear hK K;refine Xt 2 ?bv2 rfl ?by2 hS1 ?_
 case by2=>(rintro w ⟨q0,q1,q2,q3,q4⟩;go_simp;try with_reducible rfl)
 refine Xt 3 ?bv3 rfl ?by3 hS1 ?_
 case by3=>(rintro w ⟨q0,q1,q2,q3,q4⟩;go_simp;try with_reducible rfl)
 refine Xt 4 ?bv4 rfl ?by4 hS1 ?_
 case by4=>(rintro w ⟨q0,q1,q2,q3,q4⟩;go_simp;try with_reducible rfl)
 refine Xt 5 ?bv5 rfl ?by5 hS1 ?_
 case by5=>(rintro w ⟨q0,q1,q2,q3,q4⟩;go_simp;try with_reducible rfl)
 refine Xt 6 ?bv6 rfl ?by6 hS1 ?_
 case by6=>(rintro w ⟨q0,q1,q2,q3,q4⟩;go_simp;try with_reducible rfl)
 refine Xt 7 ?bv7 rfl ?by7 hS1 ?_
 case by7=>(rintro w ⟨q0,q1,q2,q3,q4⟩;go_simp;try with_reducible rfl)
 refine Xt 8 ?bv8 rfl ?by8 hS1 ?_
 case by8=>(rintro w ⟨q0,q1,q2,q3,q4⟩;go_simp;try with_reducible rfl)
 refine Xt 9 ?bv9 rfl ?by9 hS1 ?_
 case by9=>(rintro w ⟨q0,q1,q2,q3,q4⟩;go_simp;try with_reducible rfl)
 refine Xt 10 ?bv10 rfl ?by10 hS1 ?_
 case by10=>(rintro w ⟨q0,q1,q2,q3,q4⟩;go_simp;try with_reducible rfl)
 refine Xt 11 ?bv11 rfl ?by11 hS1 ?_
 case by11=>(rintro w ⟨q0,q1,q2,q3,q4⟩;go_simp;try with_reducible rfl)
 refine Xt 12 ?bv12 rfl ?by12 hS1 ?_
 case by12=>(rintro w ⟨q0,q1,q2,q3,q4⟩;go_simp;try with_reducible rfl)
 refine Xt 13 ?bv13 rfl ?by13 hS1 ?_
 case by13=>(rintro w ⟨q0,q1,q2,q3,q4⟩;go_simp;try with_reducible rfl)
 refine Xu 14 rfl hS1 ?_;refine Xu 15 rfl hS1 ?_;refine Xu 16 rfl hS1 ?_;refine Xu 17 rfl hS1 ?_;refine Xt 18 ?bv18 rfl ?by18 hS1 ?_
 case by18=>(rintro w ⟨q0,q1,q2,q3,q4⟩;go_simp;try with_reducible rfl)
 refine wpAnyH_done (by kernel_rfl) ?_ _;go_simp;go_wp2
 go_end0
 first
  | exact⟨rfl,fun _=>hBf.drew,fun h=>by simp at h⟩
  | exact⟨rfl,hBf.drew⟩
def Tryz.RvQ (W:World) (bs:List Nat):Prop:=∀ b∈bs,9<=b/\∃ t cs,BoxN W b t cs/\(t=88\/t=9\/t=144)
theorem Tryz.RvQ.ne {W:World} {bs:List Nat} (h:RvQ W bs) {b:Nat} {t:TypeId} {cs:Array Value} (hB:BoxN W b t cs) (h1:t≠88) (h2:t≠9) (h3:t≠144):b∉bs:=fun hm=>by
 obtain⟨-,t',cs',hB',ht⟩:=h b hm
 rcases ht with rfl | rfl | rfl
 ·exact hB.ne hB' h1 rfl
 ·exact hB.ne hB' h2 rfl
 exact hB.ne hB' h3 rfl
theorem Tryz.RvQ.ne_map {H:Type} {P:Program} {k:TypeId} {R:Value->Option (DataW H × List MemPlace)} {D:DataW H} {W:World} {bs:List Nat} (h:RvQ W bs) {b n:Nat} (hm:W.ownsMap P k R b n D):b∉bs:=fun hb=>by
 obtain⟨-,t',cs',hB',-⟩:=h b hb;exact BoxN.Xw hB' hm rfl
theorem Tryz.Whole.reV {W W':World} {k:Blk} {vx vx':VX} {tm tm':Int} {s:VSt} {c:List UInt8} {l f:Int} (h:Whole W k vx tm s c l f) {fd fn:Option (Nat × List UInt8)} (hd:Xj W k.db k.md k.mn fd fn (.slice none 0 0) l f) (e1:Fl fd c) (e2:Fl fn c) {bs:List Nat} (hS:Spares (k.vb :: bs) W W') (hbs:RvQ W bs) (hfd:∀ p,fd=some p->p.1∉bs) (hfn:∀ p,fn=some p->p.1∉bs)
  (hV:BoxN W' k.vb 126 (Y8 vx' tm' k.mt k.ml s.tn s.ln)) (hj:vx'.jn=vx.jn) (t0:0<=tm') (t1:tm'<=18446744073709551615) (tle:tm<=tm':=by first | exact Int.le_refl _ | omega):Whole W' k vx' tm' s c l f/\Xj W' k.db k.md k.mn fd fn (.slice none 0 0) l f:=by
 obtain⟨n1,k1,m1⟩:=h.v.va.held.mapT;obtain⟨n2,k2,m2⟩:=h.v.va.held.mapL;obtain⟨n3,-,m3⟩:=hd.dm;obtain⟨n4,-,m4⟩:=hd.nm
 have hb6:=hS.below (B:=6) h.v.va.six (fun b hb=>by
  rcases List.mem_cons.1 hb with rfl | hb
  ·have:=h.v.v9;omega
  have:=(hbs b hb).1;omega)
 have hD:Xj W' k.db k.md k.mn fd fn (.slice none 0 0) l f:=hd.spared hS
  (by simp only [List.mem_cons,not_or];exact⟨hd.box.ne h.v.va.v (by decide),hbs.ne hd.box (by decide) (by decide) (by decide)⟩)
  (by simp only [List.mem_cons,not_or];exact⟨BoxN.Xw h.v.va.v m3,hbs.ne_map m3⟩)
  (by simp only [List.mem_cons,not_or];exact⟨BoxN.Xw h.v.va.v m4,hbs.ne_map m4⟩)
  (fun q hq=>by simp only [List.mem_cons,not_or];exact⟨(hd.sd q hq).ne h.v.va.v (by decide),hfd q hq⟩)
  (fun q hq=>by simp only [List.mem_cons,not_or];exact⟨(hd.sn q hq).ne h.v.va.v (by decide),hfn q hq⟩)
 refine⟨{ h with v:=⟨⟨hV,⟨⟨n1,k1,hS.map m1 ?_⟩,⟨n2,k2,hS.map m2 ?_⟩⟩,h.v.va.ok,h.v.va.env.below hb6 (Nat.le_refl _),Nat.le_trans h.v.va.six hS.size⟩,h.v.nt,h.v.nl,t0,t1,h.v.okT,h.v.okL,h.v.mne,h.v.v9,h.v.m9,h.v.l9⟩,jn:=hj.trans h.jn,j:=hS.box h.j ?_,d:=⟨fd,fn,hD,e1,e2⟩,log:=h.log.mono tle },hD⟩
 ·simp only [List.mem_cons,not_or];exact⟨h.v.nes.1,hbs.ne_map m1⟩
 ·simp only [List.mem_cons,not_or];exact⟨h.v.nes.2,hbs.ne_map m2⟩
 simp only [List.mem_cons,not_or];exact⟨h.j.ne h.v.va.v (by decide),hbs.ne h.j (by decide) (by decide) (by decide)⟩
theorem Tryz.Whole.no {W:World} {k:Blk} {vx:VX} {tm:Int} {s:VSt} {c:List UInt8} {l f:Int} (h:Whole W k vx tm s c l f) {b:Nat} {t:TypeId} {cs:Array Value} (hB:BoxN W b t cs) (h1:t≠126) (h2:t≠100):b∉k.turns:=fun hm=>by
 obtain⟨fd,fn,hd,-,-⟩:=h.d;obtain⟨n1,-,m1⟩:=h.v.va.held.mapT;obtain⟨n2,-,m2⟩:=h.v.va.held.mapL;obtain⟨n3,-,m3⟩:=hd.dm;obtain⟨n4,-,m4⟩:=hd.nm;simp only [Blk.turns,List.mem_cons,List.not_mem_nil,or_false] at hm
 rcases hm with e | e | e | e | e | e
 ·exact hB.ne h.v.va.v h1 e
 ·exact BoxN.Xw hB m1 e.symm
 ·exact BoxN.Xw hB m2 e.symm
 ·exact hB.ne hd.box h2 e
 ·exact BoxN.Xw hB m3 e.symm
 exact BoxN.Xw hB m4 e.symm
structure Tryz.TAt (B:Nat) (W:World) (k:Blk) (vx:VX) (tm:Int) (s:VSt) (c:List UInt8) (l f:Int) (rb:Nat) (fl:Int) (v:Value) (xs:List Value) (q:List Xe):Prop where
 wh:Tryz.Whole W k vx tm s c l f
 sep:∃ fd fn,Tryz.Xj W k.db k.md k.mn fd fn (.slice none 0 0) l f/\(Fl fd c/\Fl fn c)/\(∀ p,fd=some p->v.ownBlock≠some p.1)/\(∀ p,fn=some p->v.ownBlock≠some p.1)
 due:W.ownsRow B 144 3 vx.due q.length (Yj q)
 hp:Xay q
 rbx:BoxN W rb 88 #[v,.int .u64 fl]
 row:W.ownsRow B 9 1 v xs.length xs
 low:∀ b∈k.turns,B<=b
 rlow:B<=rb
 b9:9<=B
 bw:B<=W.heap.size
 vrv:vx.rv=.iface 75 (.pointer (some ⟨rb,0,none⟩))
def X8 (k:Blk) (rb:Nat) (v due:Value):List Nat:=k.turns++rb :: (v.ownBlock.toList++due.ownBlock.toList)
section
variable {B:Nat} {W W':World} {k:Blk} {vx:VX} {tm:Int} {s:VSt} {c:List UInt8} {l f:Int} {rb:Nat} {fl:Int} {v:Value} {xs:List Value} {q:List Xe}
theorem Tryz.TAt.below (h:TAt B W k vx tm s c l f rb fl v xs q) (hb:Below W.heap.size W W'):TAt B W' k vx tm s c l f rb fl v xs q:=by
 obtain⟨fd,fn,hd,hs⟩:=h.sep;exact { h with wh:=h.wh.below hb,sep:=⟨fd,fn,hd.below hb,hs⟩,due:=ownsRow_below h.due hb,rbx:=h.rbx.below hb h.rbx.lt,row:=ownsRow_below h.row hb,bw:=Nat.le_trans h.bw hb.size }
theorem Tryz.TAt.rvq (h:TAt B W k vx tm s c l f rb fl v xs q):RvQ W (rb :: (v.ownBlock.toList++vx.due.ownBlock.toList)):=fun b hb=>by
 rcases List.mem_cons.1 hb with rfl | hb
 ·exact⟨Nat.le_trans h.b9 h.rlow,_,_,h.rbx,.inl rfl⟩
 rcases List.mem_append.1 hb with hb | hb
 ·obtain⟨h1,cs,h2⟩:=Xm h.row (g:=b) (by simpa using hb)
  exact⟨Nat.le_trans h.b9 h1,_,_,h2,.inr (.inl rfl)⟩
 obtain⟨h1,cs,h2⟩:=Xm h.due (g:=b) (by simpa using hb);exact⟨Nat.le_trans h.b9 h1,_,_,h2,.inr (.inr rfl)⟩
theorem Tryz.TAt.asked (h:TAt B W k vx tm s c l f rb fl v xs q) {g cap:Nat} {fl':Int} {y:Value} (hR:BoxN W' rb 88 #[.slice (some ⟨g,0,none⟩) (xs.length+1) cap,.int .u64 fl']) (hrow:W'.ownsRow B 9 1 (.slice (some ⟨g,0,none⟩) (xs.length+1) cap) (xs.length+1) (xs ++ [y])) (hg:v.ownBlock=some g\/W.heap.size<=g) (hS:Spares (rb :: v.ownBlock.toList) W W'):TAt B W' k vx tm s c l f rb fl' (.slice (some ⟨g,0,none⟩) (xs.length+1) cap) (xs ++ [y]) q:=by
 obtain⟨fd,fn,hd,⟨e1,e2⟩,hs1,hs2⟩:=h.sep
 have hq:RvQ W (rb :: v.ownBlock.toList):=fun b hb=>h.rvq b (by
  rcases List.mem_cons.1 hb with rfl | hb
  ·simp
  exact List.mem_cons_of_mem _ (List.mem_append_left _ hb))
 have hV':=hS.box h.wh.v.va.v (hq.ne h.wh.v.va.v (by decide) (by decide) (by decide))
 have hnf:∀ p:Nat × List UInt8,(∃ x,BoxN W p.1 9 #[x])->v.ownBlock≠some p.1->p.1∉rb :: v.ownBlock.toList:=fun p ⟨x,hx⟩ hn hm=>by
  rcases List.mem_cons.1 hm with e | hm
  ·exact hx.ne h.rbx (by decide) e
  exact hn (by simpa using hm)
 obtain⟨hW',hD'⟩:=h.wh.reV hd e1 e2 (hS.mono (fun b hb=>List.mem_cons_of_mem _ hb)) hq (fun p hp=>hnf p ⟨_,hd.sd p hp⟩ (hs1 p hp)) (fun p hp=>hnf p ⟨_,hd.sn p hp⟩ (hs2 p hp)) hV' rfl h.wh.v.t0 h.wh.v.t1;refine { h with wh:=hW',sep:=⟨fd,fn,hD',⟨e1,e2⟩,fun p hp e=>?_,fun p hp e=>?_⟩,due:=hS.J2 h.due (fun b hb=>?_),rbx:=hR,row:=by simpa using hrow,bw:=Nat.le_trans h.bw hS.size }
 ·have e:g=p.1:=by simpa [Value.ownBlock] using e
  rcases hg with hg | hg
  ·exact hs1 p hp (by rw [hg,e])
  have:=(hd.sd p hp).lt;omega
 ·have e:g=p.1:=by simpa [Value.ownBlock] using e
  rcases hg with hg | hg
  ·exact hs2 p hp (by rw [hg,e])
  have:=(hd.sn p hp).lt;omega
 obtain⟨-,cs,h2⟩:=Xm h.due hb;intro hm
 rcases List.mem_cons.1 hm with e | hm
 ·exact h2.ne h.rbx (by decide) e
 obtain⟨-,cs',h3⟩:=Xm h.row (g:=b) (by simpa using hm);exact h2.ne h3 (by decide) rfl
theorem Tryz.TAt.kept (h:TAt B W k vx tm s c l f rb fl v xs q) {s':VSt} {c':List UInt8} {l' f':Int} {b b':Nat} (hW':Whole W' k vx tm s' c' l' f') (hD:Xj W' k.db k.md k.mn (some (b,c')) (some (b',c')) (.slice none 0 0) l' f') (hb:W.heap.size<=b) (hb':W.heap.size<=b') (hS:Spares k.turns W W') (hc':c' ≠ []):TAt B W' k vx tm s' c' l' f' rb fl v xs q:=by
 have hv:∀ {g:Nat},v.ownBlock=some g->g<W.heap.size/\g∉k.turns:=fun {g} hg=>by
  obtain⟨-,cs,h2⟩:=Xm h.row hg;exact⟨h2.lt,h.wh.no h2 (by decide) (by decide)⟩
 refine { h with wh:=hW',sep:=⟨_,_,hD,⟨Fl.some hc',Fl.some hc'⟩,fun p hp e=>?_,fun p hp e=>?_⟩,due:=hS.J2 h.due (fun g hg=>?_),rbx:=hS.box h.rbx (h.wh.no h.rbx (by decide) (by decide)),row:=hS.J2 h.row (fun g hg=>(hv hg).2),bw:=Nat.le_trans h.bw hS.size }
 ·cases hp;have:=(hv e).1;omega
 ·cases hp;have:=(hv e).1;omega
 obtain⟨-,cs,h2⟩:=Xm h.due hg;exact h.wh.no h2 (by decide) (by decide)
theorem Tryz.TAt.Xc6 (h:TAt B W k vx tm s c l f rb fl v xs q) {vx':VX} {tm':Int} {q':List Xe} (hV:BoxN W' k.vb 126 (Y8 vx' tm' k.mt k.ml s.tn s.ln)) (hj:vx'.jn=vx.jn) (hr:vx'.rv=vx.rv) (t0:0<=tm') (t1:tm'<=18446744073709551615) (hdue:W'.ownsRow B 144 3 vx'.due q'.length (Yj q')) (hH:Xay q') (hS:Spares (k.vb :: vx.due.ownBlock.toList) W W') (tle:tm<=tm':=by first | exact Int.le_refl _ | omega):TAt B W' k vx' tm' s c l f rb fl v xs q':=by
 obtain⟨fd,fn,hd,⟨e1,e2⟩,hs⟩:=h.sep
 have hq:RvQ W vx.due.ownBlock.toList:=fun b hb=>h.rvq b (List.mem_cons_of_mem _ (List.mem_append_right _ hb))
 have hnd:∀ {g:Nat} {t:TypeId} {cs:Array Value},BoxN W g t cs->t≠144->g∉vx.due.ownBlock.toList:=fun hB ht hm=>by
  obtain⟨-,cs',h2⟩:=Xm h.due (g:=_) (by simpa using hm);exact hB.ne h2 ht rfl
 obtain⟨hW',hD'⟩:=h.wh.reV hd e1 e2 hS hq (fun p hp=>hnd (hd.sd p hp) (by decide)) (fun p hp=>hnd (hd.sn p hp) (by decide)) hV hj t0 t1 tle;refine { h with wh:=hW',sep:=⟨fd,fn,hD',⟨e1,e2⟩,hs⟩,due:=hdue,hp:=hH,rbx:=hS.box h.rbx ?_,row:=hS.J2 h.row (fun g hg=>?_),bw:=Nat.le_trans h.bw hS.size,vrv:=hr.trans h.vrv }
 ·simp only [List.mem_cons,not_or];exact⟨h.rbx.ne h.wh.v.va.v (by decide),hnd h.rbx (by decide)⟩
 obtain⟨-,cs,h2⟩:=Xm h.row hg;simp only [List.mem_cons,not_or];exact⟨h2.ne h.wh.v.va.v (by decide),hnd h2 (by decide)⟩
end
theorem Tryz.Xgb (rb:Nat) (w:World):Sem.run prog (method 517 75 (.pointer (some ⟨rb,0,none⟩)) "Revoke") w=.ok (331,.pointer (some ⟨rb,0,none⟩)) w:=by kernel_rfl
abbrev Tryz.Xee (vb nb:Nat) (rv:Value) (k u:Int) (W:World):Prop:=
 W.cell? ⟨vb,1,none⟩=some rv/\W.cell? ⟨nb,0,none⟩=some (.int .i64 k)/\W.cell? ⟨nb,1,none⟩=some (.int .u64 u)
theorem Tryz.Xee.below {vb nb:Nat} {rv:Value} {k u:Int} {W W':World} (h:Xee vb nb rv k u W) (hb:Below W.heap.size W W'):Xee vb nb rv k u W':=
 ⟨cell_later hb h.1,cell_later hb h.2.1,cell_later hb h.2.2⟩
theorem Tryz.jErr (jb:Nat) (a b:Value) (w:World) (hJ:BoxN w jb 212 #[a,b,.nilIface]):Calls prog 72 #[.pointer (some ⟨jb,0,none⟩)] w fun e w'=>e=.returned .nilIface/\w'=w:=by
 have c2:=hJ.cell 2 (v:=.nilIface) rfl;go_enter func72,ntmps72;go_wp2;go_ret;exact⟨rfl,rfl⟩
theorem Tryz.Xqj (k:Blk) (vx:VX) (tm:Int) (s:VSt) (c:List UInt8) (l f:Int) (i:Item) (w:World) (hW:Whole w k vx tm s c l f) (hl:l<0) (hl1 : -999999990<=l) (hf:f<0) (hf1 : -999999990<=f) (hc:c.length<=900000000000) (hF:i.Fits s) :
  Calls prog 66 #[.pointer (some ⟨k.vb,0,none⟩),.slice (some ⟨w.heap.size,0,none⟩) 1 1] (w.alloc (.cells i.rec_.cells 135)) fun e w'=>e=.returned .nilIface/\Whole w' k vx tm (i.app s) (c++keepLine tm [i]) (l-2) (f-2)/\Spares k.turns w w'/\∃ b b',w.heap.size<=b/\w.heap.size<=b'/\Xj w' k.db k.md k.mn (some (b,c++keepLine tm [i])) (some (b',c++keepLine tm [i])) (.slice none 0 0) (l-2) (f-2):=by
 have hB:Below w.heap.size w (w.alloc (.cells i.rec_.cells 135)):=(Below.refl _ _).alloc (Nat.le_refl _) _;have bN:=BoxN.new w 135 i.rec_.cells;have hlt:=hW.lts
 have h:=Xry k vx tm s c l f [i] w.heap.size 1 _ (hW.below hB) hl hl1 hf hf1 hc (fun a r hr j v hv=>by
  cases a with
  | succ a=>simp at hr
  | zero =>
   obtain rfl:i.rec_=r:=by simpa using hr
   have:=bN.cell j hv
   simpa using this) (by simp) (fun hm=>by have:=hlt _ hm;omega) (by simp) (by simp) ⟨hF,trivial⟩
 refine h.mono ?_;rintro e w' ⟨rfl,h1,h2,b,b',h3,h4,h5⟩;exact⟨rfl,h1,(Spares.of_below hB).trans h2,b,b',Nat.le_trans hB.size h3,Nat.le_trans hB.size h4,h5⟩
theorem Tryz.Xs6 (B:Nat) (k:Blk) (vx:VX) (tm:Int) (s:VSt) (c:List UInt8) (l f:Int) (rb:Nat) (fl:Int) (v:Value) (xs:List Value) (q:List Xe) (w:World) (h:TAt B w k vx tm s c l f rb fl v xs q) (hl:l<0) (hl1 : -999999990<=l) (hf:f<0) (hf1 : -999999990<=f) (hc:c.length<=900000000000) (hx1:xs.length<=1000) (f0:0<=fl) (f1:fl<=18446744073709551615) (hodd:(fl % 2==1)=true)
  (kd:Int) (n:Nat) (hn:n<Xn) (uk un:Int) (it:Item) (hfit:it.Fits s)
  (hAb:∀ W,Xq W k.vb k.mt k.ml vx tm s.tn s.ln s.tks s.lks->Calls prog 134 #[.pointer (some ⟨k.vb,0,none⟩),nmV (kd,(n:Int))] W fun e w'=>e=.returned (nmV (uk,un))/\Below W.heap.size W w')
  (hFa:∀ W,Xq W k.vb k.mt k.ml vx tm s.tn s.ln s.tks s.lks->Calls prog 135 #[.pointer (some ⟨k.vb,0,none⟩),nmV (kd,(n:Int))] W fun e w'=>e=.returned (.agg it.rec_.cells)/\Below W.heap.size W w') :
  Calls prog 77 #[.pointer (some ⟨k.vb,0,none⟩),nmV (kd,(n:Int))] w fun e w'=>e=.returned .nilIface/\∃ g cap,TAt B w' k vx tm (it.app s) (c++keepLine tm [it]) (l-2) (f-2) rb (fl / 2) (.slice (some ⟨g,0,none⟩) (xs.length+1) cap) (xs ++ [.string ⟨(nmStr kd n).toArray⟩]) q/\(v.ownBlock=some g\/w.heap.size<=g)/\Spares (k.turns++rb :: v.ownBlock.toList) w w':=by
 have hB0:Below w.heap.size w (w.alloc (.cells #[.int .i64 kd,.int .u64 (n:Int)] 114)):=(Below.refl _ w).alloc (Nat.le_refl _) _;have bN:=BoxN.new w 114 #[.int .i64 kd,.int .u64 (n:Int)];have h0:=h.below hB0;have hJ:=jErr k.jb _ _ _ h0.wh.j;have j0:=h0.wh.v.va.v.cell 0 (v:=.pointer (some ⟨k.jb,0,none⟩)) (by rw [<- h0.wh.jn];rfl);have hA:=hAb _ h0.wh.v.va;have n0:=bN.cell 0 (v:=.int .i64 kd) rfl;have n1:=bN.cell 1 (v:=.int .u64 (n:Int)) rfl
 obtain⟨kl,hkl⟩:∃ kl,keepLine tm [it]=kl:=⟨_,rfl⟩
 rw [hkl];have Hkl:=Xb hkl;have Hkn:Hid (c++kl ≠ []):=Xb (by rw [<- hkl];exact Xh2 c tm _);clear hkl;unfold nmV at *;go_enter func77,ntmps77
 go_wp2_with (first
  | (go_at_call 72;refine hJ.mono ?_;rintro e w1 ⟨rfl,rfl⟩)
  | (go_at_call 134;refine hA.mono ?_;rintro e w2 ⟨rfl,hb2⟩))
 have h2:=h0.below hb2;have bN2:=bN.below hb2 bN.lt;have hB2:Below w.heap.size w w2:=hB0.trans (hb2.mono hB0.size);have hB3:=hB2.alloc hB2.size (.cells #[.int .i64 uk,.int .u64 un] 114);have h3:=h2.below ((Below.refl _ w2).alloc (Nat.le_refl _) (.cells #[.int .i64 uk,.int .u64 un] 114));have bN3:=bN2.alloc (.cells #[.int .i64 uk,.int .u64 un] 114);have bU3:=BoxN.new w2 114 #[.int .i64 uk,.int .u64 un];have lU:w.heap.size<w2.heap.size:=bN2.lt
 obtain⟨ub,hub⟩:∃ ub,w2.heap.size=ub:=⟨_,rfl⟩
 rw [hub] at bU3 lU;rw [hub]
 obtain⟨W3,hW3⟩:∃ W3,w2.alloc (.cells #[.int .i64 uk,.int .u64 un] 114)=W3:=⟨_,rfl⟩
 rw [hW3] at hB3 h3 bN3 bU3;rw [hW3];clear hub hW3 h2 bN2 hB2 hb2 hA hJ j0 n0 n1 h0 bN hB0
 have hP3:Xee k.vb w.heap.size (.iface 75 (.pointer (some ⟨rb,0,none⟩))) kd (n:Int) W3.drew:=⟨h3.wh.v.va.v.cell 1 (by rw [<- h3.vrv];rfl),bN3.cell 0 rfl,bN3.cell 1 rfl⟩
 have hm:=fun W=>Xgb rb W
 have hNS:=Zg kd n (by unfold Xn at hn;exact hn) W3.drew ((h3.below (Below.refl _ W3).drew).wh.v.va.env) h3.wh.v.va.six
 go_wp2_with fail
 refine wp_region_held_drew (S:=Xee k.vb w.heap.size (.iface 75 (.pointer (some ⟨rb,0,none⟩))) kd (n:Int)) (by kernel_rfl) hP3 (fun hS0=>?_);refine Xt 0 ?rv0 rfl ?ry0 hS0 ?_
 case ry0=>(rintro w ⟨q0,q1,q2⟩;go_simp;try with_reducible rfl)
 refine Xt 1 ?rv1 rfl ?ry1 hS0 ?_
 case ry1=>(rintro w ⟨q0,q1,q2⟩;go_simp;try with_reducible rfl)
 refine Xt 2 ?rv2 rfl ?ry2 hS0 ?_
 case ry2=>(rintro w ⟨q0,q1,q2⟩;go_simp;try with_reducible rfl)
 refine Xt 3 ?rv3 rfl ?ry3 hS0 ?_
 case ry3=>(rintro w ⟨q0,q1,q2⟩;go_simp;try with_reducible rfl)
 refine Xt 4 ?rv4 rfl ?ry4 hS0 ?_
 case ry4=>(rintro w ⟨q0,q1,q2⟩;go_simp;try with_reducible rfl)
 refine Xt 6 ?rv6 rfl ?ry6 hS0 ?_
 case ry6=>(rintro w ⟨q0,q1,q2⟩;go_simp;try with_reducible rfl)
 refine Xt 7 ?rv7 rfl ?ry7 hS0 ?_
 case ry7=>(rintro w ⟨q0,q1,q2⟩;go_simp;try with_reducible rfl)
 refine Xh 5 rfl fun K hK=>?_;go_simp;refine hNS.mono ?_;rintro e w4 ⟨rfl,hb4⟩;have hb4':Below W3.heap.size W3 w4:=((Below.refl _ W3).drew).trans hb4;have hP4:=Xee.below hP3 hb4;refine hK.out _ _ hP4 (fun hS2=>?_);clear hK K;refine Xh 8 rfl fun K hK=>?_;go_simp;have h4:=h3.below hb4';have bN4:=bN3.below hb4' bN3.lt;have bU4:=bU3.below hb4' bU3.lt;have hB4:Below w.heap.size w w4:=hB3.trans (hb4'.mono hB3.size);refine(Xjx B rb v xs.length xs fl f0 f1 (nmStr kd n) w4 h4.rbx h4.row h4.bw hx1).mono ?_;rintro e w5 ⟨rfl,g,cap,hRb,hRr,hrg,hwg,hs5⟩;have h5:=h4.asked hRb hRr hwg hs5
 have hno:∀ {b:Nat} {cs:Array Value},BoxN w4 b 114 cs->b∉rb :: v.ownBlock.toList:=fun hB hm=>h4.rvq.ne hB (by decide) (by decide) (by decide) (by
  rcases List.mem_cons.1 hm with e | hm
  ·rw [e];simp
  exact List.mem_cons_of_mem _ (List.mem_append_left _ hm))
 have bN5:=hs5.box bN4 (hno bN4);have bU5:=hs5.box bU4 (hno bU4)
 have hP5:Xee k.vb w.heap.size (.iface 75 (.pointer (some ⟨rb,0,none⟩))) kd (n:Int) w5:=⟨h5.wh.v.va.v.cell 1 (by rw [<- h5.vrv];rfl),bN5.cell 0 rfl,bN5.cell 1 rfl⟩
 have hs05:Spares (rb :: v.ownBlock.toList) w w5:=(Spares.of_below hB4).trans hs5;have hwg':v.ownBlock=some g\/w.heap.size<=g:=hwg.imp id (fun h=>Nat.le_trans hB4.size h);rw [hodd];refine hK.out _ _ hP5 (fun hS3=>?_);clear hK K;refine Xt 9 ?rv9 rfl ?ry9 hS3 ?_
 case ry9=>(rintro w ⟨q0,q1,q2⟩;go_simp;try with_reducible rfl)
 refine wpAnyH_done (by kernel_rfl) ?_ _;go_simp;clear hS0 hS2 hS3 hP3 hP4 hP5 hs5 hwg hRb hRr hrg hno bN4 bU4 h4 hb4 hb4' h3 bN3 bU3 hNS hm hB3;have m0:=bN5.cell 0 (v:=.int .i64 kd) rfl;have m1:=bN5.cell 1 (v:=.int .u64 (n:Int)) rfl;have hF5:=hFa w5 h5.wh.v.va
 have hK:=fun W (hb:Below w5.heap.size w5 W)=>Xqj k vx tm s c l f it W (h5.wh.below hb) hl hl1 hf hf1 hc hfit
 have HE:=Xb h5;have Hs:=Xb hs05;have Hwg:=Xb hwg';rw [Xa Hkl] at hK;generalize it.rec_=r at *;obtain⟨r1,r2,r3,r4,r5,r6,r7,r8,r9,r10⟩:=r;unfold Yf.cells Xi at *;simp only at hF5 hK;clear h5 hs05 hwg' hFa hAb Hkl
 go_wp2_with (first
  | (go_at_call 135;refine hF5.mono ?_;rintro e w6 ⟨rfl,hb6⟩;have hK6:=hK w6 hb6)
  | (go_at_call 66;refine hK6.mono ?_;rintro e w7 ⟨rfl,hW7,hs7,b,b',hb7,hb7',hD7⟩))
 go_ret;refine⟨rfl,g,cap,((Xa HE).below hb6).kept hW7 hD7 hb7 hb7' hs7 (Xa Hkn),Xa Hwg,((((Xa Hs).trans (Spares.of_below hb6)).mono (fun b hb=>List.mem_append_right _ hb)).trans (hs7.mono (fun b hb=>List.mem_append_left _ hb)))⟩
theorem Tryz.tryOk (B:Nat) (k:Blk) (vx:VX) (tm:Int) (s:VSt) (c:List UInt8) (l f:Int) (rb:Nat) (fl:Int) (v:Value) (xs:List Value) (q:List Xe) (w:World) (h:TAt B w k vx tm s c l f rb fl v xs q) (hl:l<0) (hl1 : -999999990<=l) (hf:f<0) (hf1 : -999999990<=f) (hc:c.length<=900000000000) (hx1:xs.length<=1000) (hq1:q.length<=100) (f0:0<=fl) (f1:fl<=18446744073709551615) (hodd:(fl % 2==1)=false)
  (tk:Bool) (kd:Int) (hkd:kdB tk=kd) (n:Nat) (hn:n<Xn) (uk un:Int) (a1 a2 at_ tr:Int) (pd:Bool) (s':VSt) (hs':(Item.gone tk n).app s=s')
  (hAb:∀ W,Xq W k.vb k.mt k.ml vx tm s.tn s.ln s.tks s.lks->Calls prog 134 #[.pointer (some ⟨k.vb,0,none⟩),nmV (kd,(n:Int))] W fun e w'=>e=.returned (nmV (uk,un))/\Below W.heap.size W w')
  (hUp:∀ W,Xq W k.vb k.mt k.ml vx tm s'.tn s'.ln s'.tks s'.lks->(Instr.lookup 120 (.map (some k.mt)) (nmV (uk,un)) false).run prog W=.ok (.agg #[.int .i64 a1,.int .u64 a2,.int .u64 at_,.int .i64 tr,.bool pd]) W)
  (go:Bool) (hgo:go=(pd&&decide (at_<=tm) && !(s'.tks.any (fun t=>t.ak==uk&&(t.au:Int)==un)||s'.lks.any (fun t=>t.ak==uk&&(t.au:Int)==un)))) (add:List Xe) (hadd:add=if go then [⟨at_,uk,un⟩] else []) :
  Calls prog 77 #[.pointer (some ⟨k.vb,0,none⟩),nmV (kd,(n:Int))] w fun e w'=>e=.returned .nilIface/\∃ g cap vx' ys,TAt B w' k vx' tm s' (c++keepLine tm [.gone tk n]) (l-2) (f-2) rb (fl / 2) (.slice (some ⟨g,0,none⟩) (xs.length+1) cap) (xs ++ [.string ⟨(nmStr kd n).toArray⟩]) ys/\vx'.tk=vx.tk/\ys.Perm (q++add)/\(v.ownBlock=some g\/w.heap.size<=g)/\(∀ d,vx'.due.ownBlock=some d->vx.due.ownBlock=some d\/w.heap.size<=d)/\Spares (X8 k rb v vx.due) w w':=by
 have HADD:=Xb hadd;clear hadd;have hB0:Below w.heap.size w (w.alloc (.cells #[.int .i64 kd,.int .u64 (n:Int)] 114)):=(Below.refl _ w).alloc (Nat.le_refl _) _;have bN:=BoxN.new w 114 #[.int .i64 kd,.int .u64 (n:Int)];have h0:=h.below hB0;have hJ:=jErr k.jb _ _ _ h0.wh.j;have j0:=h0.wh.v.va.v.cell 0 (v:=.pointer (some ⟨k.jb,0,none⟩)) (by rw [<- h0.wh.jn];rfl);have hA:=hAb _ h0.wh.v.va;have n0:=bN.cell 0 (v:=.int .i64 kd) rfl;have n1:=bN.cell 1 (v:=.int .u64 (n:Int)) rfl
 obtain⟨kl,hkl⟩:∃ kl,keepLine tm [.gone tk n]=kl:=⟨_,rfl⟩
 rw [hkl];have Hkl:=Xb hkl;have Hkn:Hid (c++kl ≠ []):=Xb (by rw [<- hkl];exact Xh2 c tm _);clear hkl;unfold nmV at *;go_enter func77,ntmps77
 go_wp2_with (first
  | (go_at_call 72;refine hJ.mono ?_;rintro e w1 ⟨rfl,rfl⟩)
  | (go_at_call 134;refine hA.mono ?_;rintro e w2 ⟨rfl,hb2⟩))
 have h2:=h0.below hb2;have bN2:=bN.below hb2 bN.lt;have hB2:Below w.heap.size w w2:=hB0.trans (hb2.mono hB0.size);have hB3:=hB2.alloc hB2.size (.cells #[.int .i64 uk,.int .u64 un] 114);have h3:=h2.below ((Below.refl _ w2).alloc (Nat.le_refl _) (.cells #[.int .i64 uk,.int .u64 un] 114));have bN3:=bN2.alloc (.cells #[.int .i64 uk,.int .u64 un] 114);have bU3:=BoxN.new w2 114 #[.int .i64 uk,.int .u64 un];have lU:w.heap.size<w2.heap.size:=bN2.lt
 obtain⟨ub,hub⟩:∃ ub,w2.heap.size=ub:=⟨_,rfl⟩
 rw [hub] at bU3 lU;rw [hub]
 obtain⟨W3,hW3⟩:∃ W3,w2.alloc (.cells #[.int .i64 uk,.int .u64 un] 114)=W3:=⟨_,rfl⟩
 rw [hW3] at hB3 h3 bN3 bU3;rw [hW3];clear hub hW3 h2 bN2 hB2 hb2 hA hJ j0 n0 n1 h0 bN hB0
 have hP3:Xee k.vb w.heap.size (.iface 75 (.pointer (some ⟨rb,0,none⟩))) kd (n:Int) W3.drew:=⟨h3.wh.v.va.v.cell 1 (by rw [<- h3.vrv];rfl),bN3.cell 0 rfl,bN3.cell 1 rfl⟩
 have hm:=fun W=>Xgb rb W
 have hNS:=Zg kd n (by unfold Xn at hn;exact hn) W3.drew ((h3.below (Below.refl _ W3).drew).wh.v.va.env) h3.wh.v.va.six
 go_wp2_with fail
 refine wp_region_held_drew (S:=Xee k.vb w.heap.size (.iface 75 (.pointer (some ⟨rb,0,none⟩))) kd (n:Int)) (by kernel_rfl) hP3 (fun hS0=>?_);refine Xt 0 ?rv0 rfl ?ry0 hS0 ?_
 case ry0=>(rintro w ⟨q0,q1,q2⟩;go_simp;try with_reducible rfl)
 refine Xt 1 ?rv1 rfl ?ry1 hS0 ?_
 case ry1=>(rintro w ⟨q0,q1,q2⟩;go_simp;try with_reducible rfl)
 refine Xt 2 ?rv2 rfl ?ry2 hS0 ?_
 case ry2=>(rintro w ⟨q0,q1,q2⟩;go_simp;try with_reducible rfl)
 refine Xt 3 ?rv3 rfl ?ry3 hS0 ?_
 case ry3=>(rintro w ⟨q0,q1,q2⟩;go_simp;try with_reducible rfl)
 refine Xt 4 ?rv4 rfl ?ry4 hS0 ?_
 case ry4=>(rintro w ⟨q0,q1,q2⟩;go_simp;try with_reducible rfl)
 refine Xt 6 ?rv6 rfl ?ry6 hS0 ?_
 case ry6=>(rintro w ⟨q0,q1,q2⟩;go_simp;try with_reducible rfl)
 refine Xt 7 ?rv7 rfl ?ry7 hS0 ?_
 case ry7=>(rintro w ⟨q0,q1,q2⟩;go_simp;try with_reducible rfl)
 refine Xh 5 rfl fun K hK=>?_;go_simp;refine hNS.mono ?_;rintro e w4 ⟨rfl,hb4⟩;have hb4':Below W3.heap.size W3 w4:=((Below.refl _ W3).drew).trans hb4;have hP4:=Xee.below hP3 hb4;refine hK.out _ _ hP4 (fun hS2=>?_);clear hK K;refine Xh 8 rfl fun K hK=>?_;go_simp;have h4:=h3.below hb4';have bN4:=bN3.below hb4' bN3.lt;have bU4:=bU3.below hb4' bU3.lt;have hB4:Below w.heap.size w w4:=hB3.trans (hb4'.mono hB3.size);refine(Xjx B rb v xs.length xs fl f0 f1 (nmStr kd n) w4 h4.rbx h4.row h4.bw hx1).mono ?_;rintro e w5 ⟨rfl,g,cap,hRb,hRr,hrg,hwg,hs5⟩;have h5:=h4.asked hRb hRr hwg hs5
 have hno:∀ {b:Nat} {cs:Array Value},BoxN w4 b 114 cs->b∉rb :: v.ownBlock.toList:=fun hB hm=>h4.rvq.ne hB (by decide) (by decide) (by decide) (by
  rcases List.mem_cons.1 hm with e | hm
  ·rw [e];simp
  exact List.mem_cons_of_mem _ (List.mem_append_left _ hm))
 have bN5:=hs5.box bN4 (hno bN4);have bU5:=hs5.box bU4 (hno bU4)
 have hP5:Xee k.vb w.heap.size (.iface 75 (.pointer (some ⟨rb,0,none⟩))) kd (n:Int) w5:=⟨h5.wh.v.va.v.cell 1 (by rw [<- h5.vrv];rfl),bN5.cell 0 rfl,bN5.cell 1 rfl⟩
 have hs05:Spares (rb :: v.ownBlock.toList) w w5:=(Spares.of_below hB4).trans hs5;have hwg':v.ownBlock=some g\/w.heap.size<=g:=hwg.imp id (fun h=>Nat.le_trans hB4.size h);rw [hodd];refine hK.out _ _ hP5 (fun hS3=>?_);clear hK K;refine Xt 9 ?rv9 rfl ?ry9 hS3 ?_
 case ry9=>(rintro w ⟨q0,q1,q2⟩;go_simp;try with_reducible rfl)
 refine wpAnyH_done (by kernel_rfl) ?_ _;go_simp;clear hS0 hS2 hS3 hP3 hP4 hP5 hs5 hwg hRb hRr hrg hno bN4 bU4 h4 hb4 hb4' h3 bN3 bU3 hNS hm hB3;have m0:=bN5.cell 0 (v:=.int .i64 kd) rfl;have m1:=bN5.cell 1 (v:=.int .u64 (n:Int)) rfl
 have hK:=fun W (hb:Below w5.heap.size w5 W)=>Xqj k vx tm s c l f (.gone tk n) W (h5.wh.below hb) hl hl1 hf hf1 hc hn
 rw [Xa Hkl,hs'] at hK;have HE:=Xb h5;have Hs:=Xb hs05;have Hwg:=Xb hwg'
 have hQ:=fun W (hV:Xq W k.vb k.mt k.ml vx tm s'.tn s'.ln s'.tks s'.lks) (hr:W.ownsRow B 144 3 vx.due q.length (Yj q)) (hbw:B<=W.heap.size)=>Xbq B k.vb k.mt k.ml vx tm s'.tn s'.ln s'.tks s'.lks W hV (uk,un) a1 a2 at_ tr pd (fun W' hb=>hUp W' (hV.below hb)) q hr h5.hp hbw hq1 go hgo
 have HG:=Xb hgo;unfold Item.rec_ Yf.cells Xi at hK;simp only [hkd] at hK;unfold nmV at hQ;clear h5 hs05 hwg' hAb Hkl hgo hUp hkd
 go_wp2_with (first
  | (go_at_call 66;refine(hK _ (Below.refl _ _)).mono ?_;rintro e w7 ⟨rfl,hW7,hs7,b,b',hb7,hb7',hD7⟩;have h7:=(Xa HE).kept hW7 hD7 hb7 hb7' hs7 (Xa Hkn);have bU7:=hs7.box bU5 (by have:=(Xa HE).wh.no bU5 (by decide) (by decide);exact this);have u0:=bU7.cell 0 (v:=.int .i64 uk) rfl;have u1:=bU7.cell 1 (v:=.int .u64 un) rfl;have hQ7:=hQ w7 h7.wh.v.va h7.due h7.bw)
  | (go_at_call 130;refine hQ7.mono ?_;rintro e w8 ⟨rfl,h8⟩;have H8:=Xb h8;clear h8))
 go_ret;obtain⟨hno8,hgo8⟩:=Xa H8
 have hs57:Spares (X8 k rb v vx.due) w w7:=((Xa Hs).mono (fun b hb=>by
  simp only [X8,List.mem_append,List.mem_cons] at hb ⊢
  rcases hb with h | h
  ·exact .inr (.inl h)
  exact .inr (.inr (.inl h)))).trans (hs7.mono (fun b hb=>List.mem_append_left _ hb))
 have hz7:=hs57.size
 cases go with
 | false =>
  have hb8:=hno8 rfl;refine⟨rfl,g,cap,vx,q,h7.below hb8,rfl,by rw [Xa HADD];simp,Xa Hwg,fun d hd=>.inl hd,hs57.trans (Spares.of_below hb8)⟩
 | true =>
  obtain⟨g2,cap2,ys,hqv,hhp,hpm,hg2,hs8⟩:=hgo8 rfl;refine⟨rfl,g,cap,{ vx with due:=.slice (some ⟨g2,0,none⟩) ys.length cap2 },ys,h7.Xc6 hqv.v rfl rfl h7.wh.v.t0 h7.wh.v.t1 hqv.row hhp hs8,rfl,by rw [Xa HADD];exact hpm,Xa Hwg,fun d hd=>?_,hs57.trans (hs8.mono (fun b hb=>?_))⟩
  ·have e:g2=d:=by simpa [Value.ownBlock] using hd
   rcases hg2 with h | h
   ·exact .inl (by rw [h,e])
   exact .inr (by omega)
  rcases List.mem_cons.1 hb with rfl | hb
  ·simp [X8,Blk.turns]
  simp only [X8,List.mem_append,List.mem_cons];exact .inr (.inr (.inr hb))
section
variable {W:World} {vb mt ml:Nat} {vx:VX} {tm tn ln:Int} {tks:List Xd} {lks:List Xc}
theorem Tryz.Xq.Xsf (h:Xq W vb mt ml vx tm tn ln tks lks) {t:Xd} (ht:t∈tks) :
  (Instr.lookup 120 (.map (some mt)) (nmV (1,(t.n:Int))) false).run prog W=.ok (.agg t.cells) W:=by
 obtain⟨n,_,hm⟩:=h.held.mapT;exact Xz.Xhh h.ok.ksT.1 (Xdw (.inl rfl) (h.ok.limT t ht).1) hm underlying120 (Xih _) (Z0 h.ok.ksT.1 (List.mem_reverse.2 (List.mem_map.2 ⟨t,ht,rfl⟩)))
theorem Tryz.Xq.Xse (h:Xq W vb mt ml vx tm tn ln tks lks) {t:Xc} (ht:t∈lks) :
  (Instr.lookup 121 (.map (some ml)) (nmV (2,(t.n:Int))) false).run prog W=.ok (.agg t.cells) W:=by
 obtain⟨n,_,hm⟩:=h.held.mapL;exact Xz.Xhh h.ok.ksL.1 (Xdw (.inr rfl) (h.ok.limL t ht).1) hm underlying121 (Xim _) (Z0 h.ok.ksL.1 (List.mem_reverse.2 (List.mem_map.2 ⟨t,ht,rfl⟩)))
end
section
variable {B:Nat} {W W':World} {k:Blk} {vx:VX} {tm:Int} {s:VSt} {c:List UInt8} {l f:Int} {rb:Nat} {fl:Int} {v:Value} {xs:List Value} {q:List Xe}
theorem Tryz.TAt.own (h:TAt B W k vx tm s c l f rb fl v xs q) {row:Option Nat} (hg:W.grownBy W' row) (hr:∀ r,row=some r->(6<=r/\k.mt≠r/\k.ml≠r/\k.md≠r/\k.mn≠r)/\∃ o:Obj,W.heap[r]? = some o/\o.isCells=false):TAt B W' k vx tm s c l f rb fl v xs q:=by
 have hS:Spares row.toList W W':=Spares.Xaw hg (fun b hb=>by rw [hb];simp)
 have nb:∀ {b:Nat} {t:TypeId} {cs:Array Value},BoxN W b t cs->b∉row.toList:=fun {b} {t} {cs} hB hm=>by
  obtain⟨-,o,ho,hc⟩:=hr b (by simpa using hm);rw [show W.heap[b]? = _ from hB] at ho;cases ho;cases hc
 obtain⟨fd,fn,hd,⟨e1,e2⟩,hs⟩:=h.sep
 have hmt:k.mt∉row.toList:=fun hm=>(hr _ (by simpa using hm)).1.2.1 rfl
 have hml:k.ml∉row.toList:=fun hm=>(hr _ (by simpa using hm)).1.2.2.1 rfl
 have hmd:k.md∉row.toList:=fun hm=>(hr _ (by simpa using hm)).1.2.2.2.1 rfl
 have hmn:k.mn∉row.toList:=fun hm=>(hr _ (by simpa using hm)).1.2.2.2.2 rfl
 have hD:=hd.spared hS (nb hd.box) hmd hmn (fun p hp=>nb (hd.sd p hp)) (fun p hp=>nb (hd.sn p hp))
 have hrow:∀ {e:TypeId} {sz n:Nat} {v:Value} {xs:List Value},W.ownsRow B e sz v n xs->W'.ownsRow B e sz v n xs:=fun ho=>hS.J2 ho (fun g hg=>by
  obtain⟨-,cs,h2⟩:=Xm ho hg
  exact nb h2)
 exact { h with wh:={ h.wh with v:=h.wh.v.spared hS (nb h.wh.v.va.v) hmt hml (fun b hb=>(hr b (by simpa using hb)).1.1),j:=hS.box h.wh.j (nb h.wh.j),d:=⟨fd,fn,hD,e1,e2⟩ },sep:=⟨fd,fn,hD,⟨e1,e2⟩,hs⟩,due:=hrow h.due,rbx:=hS.box h.rbx (nb h.rbx),row:=hrow h.row,bw:=Nat.le_trans h.bw hS.size }
end
def Yv (s:VSt) (tm:Int) (t:Xd):List Xe:=if t.pd&&decide (t.at_<=tm) && !(s.tks.any (fun x=>x.ak==1&&(x.au:Int)==(t.n:Int))||s.lks.any (fun x=>x.ak==1&&(x.au:Int)==(t.n:Int))) then [⟨t.at_,1,t.n⟩] else []
def Zw (tm:Int) (t:Xc):List Xe:=if t.at_<=tm then [⟨t.at_,2,t.n⟩] else []
def Tryz.QAt (B:Nat) (w:World) (k:Blk) (vx:VX) (tm:Int) (s:VSt) (c:List UInt8) (l f:Int) (rb:Nat) (fl:Int) (v:Value) (xs:List Value) (zs:List Xe) (V:World):Prop:=
 ∃ vx' q,q.Perm zs/\TAt B V k vx' tm s c l f rb fl v xs q/\vx'.tk=vx.tk/\vx'.jn=vx.jn/\(∀ d,vx'.due.ownBlock=some d->vx.due.ownBlock=some d\/w.heap.size<=d)/\Spares (k.vb :: vx.due.ownBlock.toList) w V
section
variable {B:Nat} {w V V':World} {k:Blk} {vx:VX} {tm:Int} {s:VSt} {c:List UInt8} {l f:Int} {rb:Nat} {fl:Int} {v:Value} {xs:List Value} {zs:List Xe}
theorem Tryz.QAt.own (h:QAt B w k vx tm s c l f rb fl v xs zs V) (hw:k.mt<w.heap.size/\k.ml<w.heap.size/\k.md<w.heap.size/\k.mn<w.heap.size/\6<=w.heap.size) {row:Option Nat} (hg:V.grownBy V' row) (hr:∀ r,row=some r->w.heap.size<=r/\∃ o:Obj,V.heap[r]? = some o/\o.isCells=false):QAt B w k vx tm s c l f rb fl v xs zs V':=by
 obtain⟨vx',q,h1,h2,h3,h4,h5,h6⟩:=h;refine⟨vx',q,h1,h2.own hg (fun r e=>⟨?_,(hr r e).2⟩),h3,h4,h5,⟨hg.os.trans h6.os,hg.tape.trans h6.tape,hg.output.trans h6.output,Nat.le_trans h6.size hg.size,fun j hj hn=>(hg.block j (Nat.lt_of_lt_of_le hj h6.size) (fun e=>by have:=(hr j e.symm).1;omega)).trans (h6.block j hj hn)⟩⟩;have:=(hr r e).1
 refine⟨?_,?_,?_,?_,?_⟩ <;> omega
theorem Tryz.QAt.below (h:QAt B w k vx tm s c l f rb fl v xs zs V) (hb:Below V.heap.size V V'):QAt B w k vx tm s c l f rb fl v xs zs V':=by
 obtain⟨vx',q,h1,h2,h3,h4,h5,h6⟩:=h;exact⟨vx',q,h1,h2.below hb,h3,h4,h5,h6.trans (Spares.of_below hb)⟩
theorem Tryz.TAt.Xsh {vx':VX} {q:List Xe} (h:TAt B V k vx' tm s c l f rb fl v xs q) (hp:q.Perm zs) (htk:vx'.tk=vx.tk) (hjn:vx'.jn=vx.jn) (hd:∀ d,vx'.due.ownBlock=some d->vx.due.ownBlock=some d\/w.heap.size<=d) (hS:Spares (k.vb :: vx.due.ownBlock.toList) w V) {g cap:Nat} {ys:List Xe} {t:Xe} (hq:QV B k.vb (Y8 vx' tm k.mt k.ml s.tn s.ln) g cap ys V') (hH:Xay ys) (hpm:ys.Perm (q ++ [t])) (hg:vx'.due.ownBlock=some g\/V.heap.size<=g) (hs:Spares (k.vb :: vx'.due.ownBlock.toList) V V'):QAt B w k vx tm s c l f rb fl v xs (zs ++ [t]) V':=by
 have hz:=hS.size;refine⟨{ vx' with due:=.slice (some ⟨g,0,none⟩) ys.length cap },ys,hpm.trans (List.Perm.append_right _ hp),h.Xc6 hq.v rfl rfl h.wh.v.t0 h.wh.v.t1 hq.row hH hs,htk,hjn,fun d hd'=>?_,?_⟩
 ·have e:g=d:=by simpa [Value.ownBlock] using hd'
  subst e
  rcases hg with hg | hg
  ·exact hd g hg
  exact .inr (by omega)
 refine⟨hs.os.trans hS.os,hs.tape.trans hS.tape,hs.output.trans hS.output,Nat.le_trans hS.size hs.size,fun j hj hn=>(hs.block j (Nat.lt_of_lt_of_le hj hS.size) (fun hm=>?_)).trans (hS.block j hj hn)⟩
 rcases List.mem_cons.1 hm with e | hm
 ·exact hn (by rw [e];simp)
 rcases hd j (by simpa using hm) with h | h
 ·exact hn (List.mem_cons_of_mem _ (by simpa using h))
 omega
theorem Tryz.QAt.tok (h:QAt B w k vx tm s c l f rb fl v xs zs V) (hz:zs.length<=100) (t:Xd) (ht:t∈s.tks) :
  Calls prog 130 #[.pointer (some ⟨k.vb,0,none⟩),nmV (1,(t.n:Int))] V fun e V'=>e=.returned (.tuple #[])/\QAt B w k vx tm s c l f rb fl v xs (zs++Yv s tm t) V'/\∃ bs,Spares bs V V'/\∀ b∈bs,∃ t cs,BoxN V b t cs/\(t=126\/t=144):=by
 obtain⟨vx',q,h1,h2,h3,h4,h5,h6⟩:=h
 have hlk:=fun W' (hb:Below V.heap.size V W')=>(h2.wh.v.va.below hb).Xsf ht
 unfold Xd.cells at hlk
 obtain⟨go,hgo⟩:∃ go,go=(t.pd&&decide (t.at_<=tm) && !(s.tks.any (fun x=>x.ak==1&&(x.au:Int)==(t.n:Int))||s.lks.any (fun x=>x.ak==1&&(x.au:Int)==(t.n:Int)))):=⟨_,rfl⟩
 refine(Xbq B k.vb k.mt k.ml vx' tm s.tn s.ln s.tks s.lks V h2.wh.v.va (1,(t.n:Int)) t.ak t.au t.at_ t.tr t.pd hlk q h2.due h2.hp h2.bw (by rw [h1.length_eq];exact hz) go hgo).mono ?_;rintro e V' ⟨rfl,hno,hyes⟩;refine⟨rfl,?_⟩
 have hdu:Yv s tm t=if go then [⟨t.at_,1,t.n⟩] else []:=by rw [hgo];rfl
 rw [hdu]
 cases go with
 | false =>
  have hb:=hno rfl;exact⟨by simpa using⟨vx',q,h1,h2.below hb,h3,h4,h5,h6.trans (Spares.of_below hb)⟩,[],Spares.of_below hb,by simp⟩
 | true =>
  obtain⟨g,cap,ys,hq,hH,hpm,hg,hs⟩:=hyes rfl;refine⟨h2.Xsh h1 h3 h4 h5 h6 hq hH hpm hg hs,_,hs,fun b hb=>?_⟩
  rcases List.mem_cons.1 hb with rfl | hb
  ·exact⟨_,_,h2.wh.v.va.v,.inl rfl⟩
  obtain⟨-,cs,hB⟩:=Xm h2.due (g:=b) (by simpa using hb);exact⟨_,_,hB,.inr rfl⟩
end
end Go.Proofs
