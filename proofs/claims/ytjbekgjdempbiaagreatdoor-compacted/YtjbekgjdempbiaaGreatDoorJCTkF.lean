import Derived.Test.YtjbekgjdempbiaaGreatDoorJSq
import Derived.Test.YtjbekgjdempbiaaGreatDoorJCTkE
set_option maxRecDepth 100000
set_option maxHeartbeats 8000000
namespace Go.Proofs
open Go.RowKit Go.Sort Go.Lib Go.Shelf Go.Maps
abbrev Tryz.QtP (vb tb nb:Nat) (tm at_ k u:Int) (pd:Bool) (W:World):Prop:=W.cell? ⟨vb,2,none⟩=some (.int .u64 tm)/\W.cell? ⟨tb,2,none⟩=some (.int .u64 at_)/\W.cell? ⟨tb,4,none⟩=some (.bool pd)/\W.cell? ⟨nb,0,none⟩=some (.int .i64 k)/\W.cell? ⟨nb,1,none⟩=some (.int .u64 u)
theorem Tryz.QtP.below {vb tb nb:Nat} {tm at_ k u:Int} {pd:Bool} {W W':World} (h:QtP vb tb nb tm at_ k u pd W) (hb:Below W.heap.size W W'):QtP vb tb nb tm at_ k u pd W':=⟨cell_later hb h.1,cell_later hb h.2.1,cell_later hb h.2.2.1,cell_later hb h.2.2.2.1,cell_later hb h.2.2.2.2⟩
theorem Tryz.Mf (B vb mt ml:Nat) (vx:VX) (tm tn ln:Int) (tks:List Xe) (lks:List Xd) (w:World) (hV:X0 w vb mt ml vx tm tn ln tks lks) (x:Int × Int) (ak au at_ tr:Int) (pd:Bool) (hP:∀ W,Below w.heap.size w W->(Instr.lookup 120 (.map (some mt)) (nmV x) false).run prog W=.ok (.agg #[.int .i64 ak,.int .u64 au,.int .u64 at_,.int .i64 tr,.bool pd]) W)
  (q:List Xc) (hrow:w.ownsRow B 144 3 vx.due q.length (Yd q)) (hH:Vh q) (hB:B<=w.heap.size) (hn:q.length<=100) (go:Bool) (hgo:go=(pd&&decide (at_<=tm) && !(tks.any (fun t=>t.ak==x.1&&(t.au:Int)==x.2)||lks.any (fun t=>t.ak==x.1&&(t.au:Int)==x.2)))) :
  Calls prog 130 #[.pointer (some ⟨vb,0,none⟩),nmV x] w fun e w'=>e=.returned (.tuple #[])/\(go=false->Below w.heap.size w w')/\(go=true->∃ g cap ys,QV B vb (Yp vx tm mt ml tn ln) g cap ys w'/\Vh ys/\ys.Perm (q ++ [⟨at_,x.1,x.2⟩])/\(vx.due.ownBlock=some g\/w.heap.size<=g)/\Spares (vb :: vx.due.ownBlock.toList) w w'):=by
 have hB0:Below w.heap.size w (w.alloc (.cells #[.int .i64 x.1,.int .u64 x.2] 114)):=(Below.refl _ w).alloc (Nat.le_refl _) _;have bN:=BoxN.new w 114 #[.int .i64 x.1,.int .u64 x.2]
 have hs0:(w.alloc (.cells #[.int .i64 x.1,.int .u64 x.2] 114)).heap.size=w.heap.size+1:=by simp
 unfold nmV at *;go_enter func130,ntmps130
 go_wp2_with fail
 generalize (w.alloc (.cells #[.int .i64 x.1,.int .u64 x.2] 114))=W1 at *
 have hS:∀ W,Below (w.heap.size+1) W1 W->Xnb vb 3 mt w.heap.size 120 x.1 x.2 (.agg #[.int .i64 ak,.int .u64 au,.int .u64 at_,.int .i64 tr,.bool pd]) W:=fun W hb=>by
  have bN':=bN.below hb (by omega);have hB:=hB0.trans (hb.mono (by omega));exact⟨(hV.below hB).v.cell 3 rfl,bN'.cell 0 rfl,bN'.cell 1 rfl,hP W hB⟩
 have hb1:Below (w.heap.size+1) W1 W1.drew:=(Below.refl _ _).drew;refine wp_region_held_drew (S:=(Xnb vb 3 mt w.heap.size 120 x.1 x.2 (.agg #[.int .i64 ak,.int .u64 au,.int .u64 at_,.int .i64 tr,.bool pd]))) (by kernel_rfl) (hS _ hb1) (fun hS0=>?_);refine Xt 0 ?vk0 rfl ?yk0 hS0 ?_
 case yk0=>(rintro w ⟨q0,q1,q2,q3⟩;go_simp;try with_reducible rfl)
 refine Xt 1 ?vk1 rfl ?yk1 hS0 ?_
 case yk1=>(rintro w ⟨q0,q1,q2,q3⟩;go_simp;try with_reducible rfl)
 refine Xt 2 ?vk2 rfl ?yk2 hS0 ?_
 case yk2=>(rintro w ⟨q0,q1,q2,q3⟩;go_simp;try with_reducible rfl)
 refine Xt 3 ?vk3 rfl ?yk3 hS0 ?_
 case yk3=>(rintro w ⟨q0,q1,q2,q3⟩;go_simp;try with_reducible rfl)
 refine Xt 4 ?vk4 rfl ?yk4 hS0 ?_
 case yk4=>(rintro w ⟨q0,q1,q2,q3⟩;go_simp;try with_reducible rfl)
 refine Xt 5 ?vk5 rfl ?yk5 hS0 ?_
 case yk5=>(rintro w ⟨q0,q1,q2,q3⟩;go_simp;try with_reducible rfl)
 refine Xh 6 rfl fun K hK=>?_;go_simp;refine hK.out _ _ (hS _ (hb1.alloc (by simp [hs0]) _)) (fun hS1=>?_);clear hK K;refine Xh 7 rfl fun K hK=>?_;go_simp;have hb2:Below (w.heap.size+1) W1 (W1.alloc (.cells #[.int .i64 ak,.int .u64 au,.int .u64 at_,.int .i64 tr,.bool pd] 153)).drew:=((Below.refl _ _).alloc (by omega) _).drew;refine hK.out _ _ (hS _ hb2) (fun hS2=>?_);clear hK K hS0 hS1 hS2;refine wpAnyH_done (by kernel_rfl) ?_ _
 have bT:BoxN (W1.alloc (.cells #[.int .i64 ak,.int .u64 au,.int .u64 at_,.int .i64 tr,.bool pd] 153)).drew (w.heap.size+1) 153 #[.int .i64 ak,.int .u64 au,.int .u64 at_,.int .i64 tr,.bool pd]:=by
  have h:=BoxN.new W1 153 #[.int .i64 ak,.int .u64 au,.int .u64 at_,.int .i64 tr,.bool pd];rw [hs0] at h;exact h
 have bN2:=bN.below hb2 (by omega);have hBf:=hB0.trans (hb2.mono (by omega));clear hS hP hb1 hb2 hB0 bN hs0;generalize (W1.alloc (.cells #[.int .i64 ak,.int .u64 au,.int .u64 at_,.int .i64 tr,.bool pd] 153)).drew=W2 at *;have hV2:=hV.below hBf
 have hQ2:QtP vb (w.heap.size+1) w.heap.size tm at_ x.1 x.2 pd W2.drew:=⟨hV2.v.cell 2 rfl,bT.cell 2 rfl,bT.cell 4 rfl,bN2.cell 0 rfl,bN2.cell 1 rfl⟩
 have hL:=Vd (w.heap.size+1) pd W2.drew (bT.cell 4 rfl);have hHB:=Xki vb mt ml vx tm tn ln tks lks W2.drew (hV2.below (Below.refl _ W2).drew) x.1 x.2;unfold nmV at hHB;generalize (tks.any (fun t=>t.ak==x.1&&(t.au:Int)==x.2)||lks.any (fun t=>t.ak==x.1&&(t.au:Int)==x.2))=hb at *
 go_wp2_with fail
 cases pd
 ·subst hgo
  refine wp_region_held_drew (S:=QtP vb (w.heap.size+1) w.heap.size tm at_ x.1 x.2 false) (by kernel_rfl) hQ2 (fun hS0=>?_);refine Xt 0 ?av0 rfl ?ay0 hS0 ?_
  case ay0=>(rintro w ⟨q0,q1,q2,q3,q4⟩;go_simp;try with_reducible rfl)
  refine Xh 1 rfl fun K hK=>?_;go_simp;refine hL.mono ?_;rintro e w5 ⟨rfl,rfl⟩;refine hK.out _ _ hQ2 (fun hS1=>?_);clear hK K;refine Xt 2 ?av2 rfl ?ay2 hS1 ?_
  case ay2=>(rintro w ⟨q0,q1,q2,q3,q4⟩;go_simp;try with_reducible rfl)
  refine Xt 3 ?av3 rfl ?ay3 hS1 ?_
  case ay3=>(rintro w ⟨q0,q1,q2,q3,q4⟩;go_simp;try with_reducible rfl)
  refine Xu 4 rfl hS1 ?_;refine Xu 5 rfl hS1 ?_;refine Xu 6 rfl hS1 ?_;refine Xu 7 rfl hS1 ?_;refine Xu 8 rfl hS1 ?_;refine Xu 9 rfl hS1 ?_;refine Xu 10 rfl hS1 ?_;refine Xu 11 rfl hS1 ?_;refine Xt 12 ?av12 rfl ?ay12 hS1 ?_
  case ay12=>(rintro w ⟨q0,q1,q2,q3,q4⟩;go_simp;try with_reducible rfl)
  refine Xt 13 ?av13 rfl ?ay13 hS1 ?_
  case ay13=>(rintro w ⟨q0,q1,q2,q3,q4⟩;go_simp;try with_reducible rfl)
  refine Xu 14 rfl hS1 ?_;refine Xu 15 rfl hS1 ?_;refine Xu 16 rfl hS1 ?_;refine Xu 17 rfl hS1 ?_;refine Xt 18 ?av18 rfl ?ay18 hS1 ?_
  case ay18=>(rintro w ⟨q0,q1,q2,q3,q4⟩;go_simp;try with_reducible rfl)
  refine wpAnyH_done (by kernel_rfl) ?_ _;go_simp;go_wp2
  go_end0
  first
   | exact⟨rfl,fun _=>hBf.drew,fun h=>by simp at h⟩
   | exact⟨rfl,hBf.drew⟩
 by_cases hat:at_<=tm
 ·cases hb
  ·have hgo2:go=true:=by simp [hgo,hat]
   clear hgo;subst hgo2;refine wp_region_held_drew (S:=QtP vb (w.heap.size+1) w.heap.size tm at_ x.1 x.2 true) (by kernel_rfl) hQ2 (fun hS0=>?_);refine Xt 0 ?cv0 rfl ?cy0 hS0 ?_
   case cy0=>(rintro w ⟨q0,q1,q2,q3,q4⟩;go_simp;try with_reducible rfl)
   refine Xh 1 rfl fun K hK=>?_;go_simp;refine hL.mono ?_;rintro e w5 ⟨rfl,rfl⟩;refine hK.out _ _ hQ2 (fun hS1=>?_);clear hK K;refine Xt 2 ?cv2 rfl ?cy2 hS1 ?_
   case cy2=>(rintro w ⟨q0,q1,q2,q3,q4⟩;go_simp;try with_reducible rfl)
   refine Xt 3 ?cv3 rfl ?cy3 hS1 ?_
   case cy3=>(rintro w ⟨q0,q1,q2,q3,q4⟩;go_simp;try with_reducible rfl)
   refine Xt 4 ?cv4 rfl ?cy4 hS1 ?_
   case cy4=>(rintro w ⟨q0,q1,q2,q3,q4⟩;go_simp;try with_reducible rfl)
   refine Xt 5 ?cv5 rfl ?cy5 hS1 ?_
   case cy5=>(rintro w ⟨q0,q1,q2,q3,q4⟩;go_simp;try with_reducible rfl)
   refine Xt 6 ?cv6 rfl ?cy6 hS1 ?_
   case cy6=>(rintro w ⟨q0,q1,q2,q3,q4⟩;go_simp;try with_reducible rfl)
   refine Xt 7 ?cv7 rfl ?cy7 hS1 ?_
   case cy7=>(rintro w ⟨q0,q1,q2,q3,q4⟩;go_simp;try with_reducible rfl)
   refine Xt 8 ?cv8 rfl ?cy8 hS1 ?_
   case cy8=>(rintro w ⟨q0,q1,q2,q3,q4⟩;go_simp;try with_reducible rfl)
   refine Xt 9 ?cv9 rfl ?cy9 hS1 ?_
   case cy9=>(rintro w ⟨q0,q1,q2,q3,q4⟩;go_simp;try with_reducible rfl)
   refine Xt 10 ?cv10 rfl ?cy10 hS1 ?_
   case cy10=>(rintro w ⟨q0,q1,q2,q3,q4⟩;go_simp;try with_reducible rfl)
   refine Xt 11 ?cv11 rfl ?cy11 hS1 ?_
   case cy11=>(rintro w ⟨q0,q1,q2,q3,q4⟩;go_simp;try with_reducible rfl)
   refine Xt 12 ?cv12 rfl ?cy12 hS1 ?_
   case cy12=>(rintro w ⟨q0,q1,q2,q3,q4⟩;go_simp;try with_reducible rfl)
   refine Xt 13 ?cv13 rfl ?cy13 hS1 ?_
   case cy13=>(rintro w ⟨q0,q1,q2,q3,q4⟩;go_simp;try with_reducible rfl)
   refine Xt 14 ?cv14 rfl ?cy14 hS1 ?_
   case cy14=>(rintro w ⟨q0,q1,q2,q3,q4⟩;go_simp;try with_reducible rfl)
   refine Xt 15 ?cv15 rfl ?cy15 hS1 ?_
   case cy15=>(rintro w ⟨q0,q1,q2,q3,q4⟩;go_simp;try with_reducible rfl)
   refine Xh 16 rfl fun K hK=>?_;go_simp;refine hHB.mono ?_;rintro e w6 ⟨rfl,hb6⟩;have hQ6:=QtP.below hQ2 hb6;refine hK.out _ _ hQ6 (fun hS2=>?_);clear hK K;refine Xt 17 ?cv17 rfl ?cy17 hS2 ?_
   case cy17=>(rintro w ⟨q0,q1,q2,q3,q4⟩;go_simp;try with_reducible rfl)
   refine Xt 18 ?cv18 rfl ?cy18 hS2 ?_
   case cy18=>(rintro w ⟨q0,q1,q2,q3,q4⟩;go_simp;try with_reducible rfl)
   refine wpAnyH_done (by kernel_rfl) ?_ _;go_simp;have hBf6:Below w.heap.size w w6:=hBf.drew.trans (hb6.mono hBf.drew.size);clear hS0 hS1 hS2 hQ2 hb6 hHB hL
   have hPu:=fun W (hb:Below w.heap.size w W)=>Xn5 B vb vx.due q.length q (Yp vx tm mt ml tn ln) ⟨at_,x.1,x.2⟩ W (hV.below hb).v rfl (ownsRow_below hrow hb) hH (Nat.le_trans hB hb.size) hn
   simp only [Xc.cells] at hPu;have hB6d:=hBf6.drew;have hQ6d:QtP vb (w.heap.size+1) w.heap.size tm at_ x.1 x.2 true w6.drew:=hQ6;have hPu6:=hPu w6.drew hB6d;have l1:w.heap.size+1<w6.drew.heap.size:=World.block_lt_of_cell? _ _ hQ6d.2.1;have l0:w.heap.size<w6.drew.heap.size:=World.block_lt_of_cell? _ _ hQ6d.2.2.2.1;have lv:=hV.v.lt
   have hdl:∀ b∈vx.due.ownBlock.toList,b<w.heap.size:=fun b hb=>(hrow.lt b (by simpa using hb)).2
   have hn1:w.heap.size+1∉vb :: vx.due.ownBlock.toList:=fun hm=>by
    rcases List.mem_cons.1 hm with e | hm
    ·omega
    have:=hdl _ hm;omega
   have hn0:w.heap.size∉vb :: vx.due.ownBlock.toList:=fun hm=>by
    rcases List.mem_cons.1 hm with e | hm
    ·omega
    have:=hdl _ hm;omega
   go_wp2_with fail
   go_region_held3 (QtP vb (w.heap.size+1) w.heap.size tm at_ x.1 x.2 true) (first
    | with_reducible exact hQ6d
    | with_reducible exact hQ7
    | with_reducible assumption) (first
    | (go_at_call 131;refine hPu6.mono ?_;rintro e w7 ⟨rfl,g,cap,ys,hqv,hhp,hpm,hwg,hsp⟩;have hQ7:QtP vb (w.heap.size+1) w.heap.size tm at_ x.1 x.2 true w7:=⟨hqv.v.cell 2 rfl,(cell_of_block (hsp.block _ l1 hn1) _).1.trans hQ6d.2.1,(cell_of_block (hsp.block _ l1 hn1) _).1.trans hQ6d.2.2.1,(cell_of_block (hsp.block _ l0 hn0) _).1.trans hQ6d.2.2.2.1,(cell_of_block (hsp.block _ l0 hn0) _).1.trans hQ6d.2.2.2.2⟩))
   all_goals
    go_wp2
    go_end0
    refine⟨rfl,g,cap,ys,hqv,hhp,hpm,?_,(Spares.of_below hB6d).trans hsp⟩
    rcases hwg with h | h
    ·exact .inl h
    ·exact .inr (Nat.le_trans hB6d.size h)
  have hgo2:go=false:=by simp [hgo]
  clear hgo;subst hgo2;refine wp_region_held_drew (S:=QtP vb (w.heap.size+1) w.heap.size tm at_ x.1 x.2 true) (by kernel_rfl) hQ2 (fun hS0=>?_);refine Xt 0 ?dv0 rfl ?dy0 hS0 ?_
  case dy0=>(rintro w ⟨q0,q1,q2,q3,q4⟩;go_simp;try with_reducible rfl)
  refine Xh 1 rfl fun K hK=>?_;go_simp;refine hL.mono ?_;rintro e w5 ⟨rfl,rfl⟩;refine hK.out _ _ hQ2 (fun hS1=>?_);clear hK K;refine Xt 2 ?dv2 rfl ?dy2 hS1 ?_
  case dy2=>(rintro w ⟨q0,q1,q2,q3,q4⟩;go_simp;try with_reducible rfl)
  refine Xt 3 ?dv3 rfl ?dy3 hS1 ?_
  case dy3=>(rintro w ⟨q0,q1,q2,q3,q4⟩;go_simp;try with_reducible rfl)
  refine Xt 4 ?dv4 rfl ?dy4 hS1 ?_
  case dy4=>(rintro w ⟨q0,q1,q2,q3,q4⟩;go_simp;try with_reducible rfl)
  refine Xt 5 ?dv5 rfl ?dy5 hS1 ?_
  case dy5=>(rintro w ⟨q0,q1,q2,q3,q4⟩;go_simp;try with_reducible rfl)
  refine Xt 6 ?dv6 rfl ?dy6 hS1 ?_
  case dy6=>(rintro w ⟨q0,q1,q2,q3,q4⟩;go_simp;try with_reducible rfl)
  refine Xt 7 ?dv7 rfl ?dy7 hS1 ?_
  case dy7=>(rintro w ⟨q0,q1,q2,q3,q4⟩;go_simp;try with_reducible rfl)
  refine Xt 8 ?dv8 rfl ?dy8 hS1 ?_
  case dy8=>(rintro w ⟨q0,q1,q2,q3,q4⟩;go_simp;try with_reducible rfl)
  refine Xt 9 ?dv9 rfl ?dy9 hS1 ?_
  case dy9=>(rintro w ⟨q0,q1,q2,q3,q4⟩;go_simp;try with_reducible rfl)
  refine Xt 10 ?dv10 rfl ?dy10 hS1 ?_
  case dy10=>(rintro w ⟨q0,q1,q2,q3,q4⟩;go_simp;try with_reducible rfl)
  refine Xt 11 ?dv11 rfl ?dy11 hS1 ?_
  case dy11=>(rintro w ⟨q0,q1,q2,q3,q4⟩;go_simp;try with_reducible rfl)
  refine Xt 12 ?dv12 rfl ?dy12 hS1 ?_
  case dy12=>(rintro w ⟨q0,q1,q2,q3,q4⟩;go_simp;try with_reducible rfl)
  refine Xt 13 ?dv13 rfl ?dy13 hS1 ?_
  case dy13=>(rintro w ⟨q0,q1,q2,q3,q4⟩;go_simp;try with_reducible rfl)
  refine Xt 14 ?dv14 rfl ?dy14 hS1 ?_
  case dy14=>(rintro w ⟨q0,q1,q2,q3,q4⟩;go_simp;try with_reducible rfl)
  refine Xt 15 ?dv15 rfl ?dy15 hS1 ?_
  case dy15=>(rintro w ⟨q0,q1,q2,q3,q4⟩;go_simp;try with_reducible rfl)
  refine Xh 16 rfl fun K hK=>?_;go_simp;refine hHB.mono ?_;rintro e w6 ⟨rfl,hb6⟩;have hQ6:=QtP.below hQ2 hb6;refine hK.out _ _ hQ6 (fun hS2=>?_);clear hK K;refine Xt 17 ?dv17 rfl ?dy17 hS2 ?_
  case dy17=>(rintro w ⟨q0,q1,q2,q3,q4⟩;go_simp;try with_reducible rfl)
  refine Xt 18 ?dv18 rfl ?dy18 hS2 ?_
  case dy18=>(rintro w ⟨q0,q1,q2,q3,q4⟩;go_simp;try with_reducible rfl)
  refine wpAnyH_done (by kernel_rfl) ?_ _;go_simp;have hBf6:Below w.heap.size w w6:=hBf.drew.trans (hb6.mono hBf.drew.size);clear hS0 hS1 hS2 hQ2 hb6 hHB hL;go_wp2
  go_end0
  first
   | exact⟨rfl,fun _=>hBf6,fun h=>by simp at h⟩
   | exact⟨rfl,hBf6⟩
 have hgo2:go=false:=by simp [hgo,hat]
 clear hgo;subst hgo2;refine wp_region_held_drew (S:=QtP vb (w.heap.size+1) w.heap.size tm at_ x.1 x.2 true) (by kernel_rfl) hQ2 (fun hS0=>?_);refine Xt 0 ?bv0 rfl ?by0 hS0 ?_
 case by0=>(rintro w ⟨q0,q1,q2,q3,q4⟩;go_simp;try with_reducible rfl)
 refine Xh 1 rfl fun K hK=>?_;go_simp;refine hL.mono ?_;rintro e w5 ⟨rfl,rfl⟩;refine hK.out _ _ hQ2 (fun hS1=>?_);clear hK K;refine Xt 2 ?bv2 rfl ?by2 hS1 ?_
 case by2=>(rintro w ⟨q0,q1,q2,q3,q4⟩;go_simp;try with_reducible rfl)
 refine Xt 3 ?bv3 rfl ?by3 hS1 ?_
 case by3=>(rintro w ⟨q0,q1,q2,q3,q4⟩;go_simp;try with_reducible rfl)
 refine Xt 4 ?bv4 rfl ?by4 hS1 ?_
 case by4=>(rintro w ⟨q0,q1,q2,q3,q4⟩;go_simp;try with_reducible rfl)
 refine Xt 5 ?bv5 rfl ?by5 hS1 ?_
 case by5=>(rintro w ⟨q0,q1,q2,q3,q4⟩;go_simp;try with_reducible rfl)
 refine Xt 6 ?bv6 rfl ?by6 hS1 ?_
 case by6=>(rintro w ⟨q0,q1,q2,q3,q4⟩;go_simp;try with_reducible rfl)
 refine Xt 7 ?bv7 rfl ?by7 hS1 ?_
 case by7=>(rintro w ⟨q0,q1,q2,q3,q4⟩;go_simp;try with_reducible rfl)
 refine Xt 8 ?bv8 rfl ?by8 hS1 ?_
 case by8=>(rintro w ⟨q0,q1,q2,q3,q4⟩;go_simp;try with_reducible rfl)
 refine Xt 9 ?bv9 rfl ?by9 hS1 ?_
 case by9=>(rintro w ⟨q0,q1,q2,q3,q4⟩;go_simp;try with_reducible rfl)
 refine Xt 10 ?bv10 rfl ?by10 hS1 ?_
 case by10=>(rintro w ⟨q0,q1,q2,q3,q4⟩;go_simp;try with_reducible rfl)
 refine Xt 11 ?bv11 rfl ?by11 hS1 ?_
 case by11=>(rintro w ⟨q0,q1,q2,q3,q4⟩;go_simp;try with_reducible rfl)
 refine Xt 12 ?bv12 rfl ?by12 hS1 ?_
 case by12=>(rintro w ⟨q0,q1,q2,q3,q4⟩;go_simp;try with_reducible rfl)
 refine Xt 13 ?bv13 rfl ?by13 hS1 ?_
 case by13=>(rintro w ⟨q0,q1,q2,q3,q4⟩;go_simp;try with_reducible rfl)
 refine Xu 14 rfl hS1 ?_;refine Xu 15 rfl hS1 ?_;refine Xu 16 rfl hS1 ?_;refine Xu 17 rfl hS1 ?_;refine Xt 18 ?bv18 rfl ?by18 hS1 ?_
 case by18=>(rintro w ⟨q0,q1,q2,q3,q4⟩;go_simp;try with_reducible rfl)
 refine wpAnyH_done (by kernel_rfl) ?_ _;go_simp;go_wp2
 go_end0
 first
  | exact⟨rfl,fun _=>hBf.drew,fun h=>by simp at h⟩
  | exact⟨rfl,hBf.drew⟩
end Go.Proofs
