import Derived.Test.YtjbekgjdempbiaaGreatDoorJSq
import Derived.Test.YtjbekgjdempbiaaGreatDoorJRvG
import Derived.Test.YtjbekgjdempbiaaGreatDoorJTkC
import Derived.Test.YtjbekgjdempbiaaGreatDoorJRvC
set_option maxRecDepth 100000
set_option maxHeartbeats 8000000
namespace Go.Proofs
open Go.RowKit Go.Sort Go.Lib Go.Shelf Go.Maps Go.WideMaps
attribute [local go_sem] Oper.semAt_some
theorem Tryz.Xmb (k:Blk) (vx:VX) (tm:Int) (tn ln:Nat) (tks:List Xd) (lks:List Xc) (c:List UInt8) (l f:Int) (w:World) (hW:Whole w k vx tm ⟨tn,ln,tks,lks⟩ c l f) (hl:l<0) (hl1 : -999999990<=l) (hf:f<0) (hf1 : -999999990<=f) (hc:c.length<=900000000000) (nT:tks.length<=20) (nL:lks.length<=20) (id:List UInt8) (hid:id.length<=1000000) (t:Xd) (ht:t∈tks) (h0:t.n≠0) (hp:parseN id=(1,(t.n:Int))) (bL:Xc->Bool) (bT:Xd->Bool) (hCL:∀ l∈lks,∃ n,Vk tks (1,(t.n:Int)) (bL l) n (l.ak,(l.au:Int))) (hCT:∀ z∈tks,∃ n,Vk tks (1,(t.n:Int)) (bT z) n (1,(z.n:Int))) :
  CallsIn Fence.wide 9 prog 50 #[.pointer (some ⟨k.vb,0,none⟩),.string ⟨id.toArray⟩] w fun e w'=>e=.returned .nilIface/\(∃ c' l' f',c'.length<=c.length+70000/\Whole w' k vx tm ⟨tn,ln,tks.map (fun z=>if !z.pd&&bT z then U8 tm z else z),lks.map (fun z=>if goL tm bL z then Z8 tm z else z)⟩ c' l' f')/\Spares k.turns w w':=by
 obtain⟨vb,hvb⟩:∃ vb,vb=k.vb:=⟨_,rfl⟩
 obtain⟨mt,hmt⟩:∃ mt,mt=k.mt:=⟨_,rfl⟩
 obtain⟨ml,hml⟩:∃ ml,ml=k.ml:=⟨_,rfl⟩
 have hV:Xq w vb mt ml vx tm tn ln tks lks:=by rw [hvb,hmt,hml];exact hW.v.va
 rw [<- hvb];have HKB:=Xb (And.intro hvb (And.intro hmt hml));have HW:=Xb hW;clear hvb hmt hml hW;have H0:=Xb h0;clear h0;have hB0:Below w.heap.size w (w.alloc (.cells #[.pointer (some ⟨vb,0,none⟩)] 76)):=(Below.refl _ w).alloc (Nat.le_refl _) _;have hV0:=hV.below hB0;have hP:=parse ⟨id.toArray⟩ (by simpa [ByteArray.size] using hid) _ hV0.env hV0.six;simp only [hp] at hP;have bV:=BoxN.new w 76 #[.pointer (some ⟨vb,0,none⟩)];have lv:=hV.v.lt;have hfp:Fence.wide.fn 63:=trivial;have hfr:Fence.wide.fn 85:=trivial;unfold nmV at hP;refine callsIn_of_wp_marks func50 rfl trivial ?_ rfl;simp only [ntmps50,List.size_toArray,List.length_cons,List.length_nil,Nat.reduceAdd,Nat.reduceSub,Array.replicate_succ,Array.replicate_zero,List.push_toArray,List.append_toArray,List.nil_append,List.cons_append]
 gi_wp2_with (gi_at_call 63;refine(callsIn_wide.2 hP).mono ?_;rintro e w1 ⟨rfl,hb1'⟩)
 have hB1:=(hB0.trans (hb1'.mono hB0.size)).alloc (Nat.le_trans hB0.size hb1'.size) (.cells #[.int .i64 1,.int .u64 (t.n:Int)] 114);have bN:=BoxN.new w1 114 #[.int .i64 1,.int .u64 (t.n:Int)];have bV1:=(bV.below hb1' bV.lt).alloc (.cells #[.int .i64 1,.int .u64 (t.n:Int)] 114)
 obtain⟨N,hs0⟩:∃ N,(w1.alloc (.cells #[.int .i64 1,.int .u64 (t.n:Int)] 114)).heap.size=N:=⟨_,rfl⟩
 have hN:N=w1.heap.size+1:=by rw [<- hs0];simp
 obtain⟨nb,hnb⟩:∃ nb,w1.heap.size=nb:=⟨_,rfl⟩
 have hz1:w.heap.size<nb:=by rw [<- hnb];have:=hb1'.size;simp at this;omega
 rw [hnb] at bN hN;rw [hnb];generalize (w1.alloc (.cells #[.int .i64 1,.int .u64 (t.n:Int)] 114))=W1 at *;clear hnb hb1' hP hV0 hB0 bV
 have hS:∀ W,Below N W1 W->LkV w.heap.size vb 3 mt nb 120 1 (t.n:Int) (.tuple #[.agg #[.int .i64 t.ak,.int .u64 (t.au:Int),.int .u64 t.at_,.int .i64 t.tr,.bool t.pd],.bool true]) W:=fun W hb=>by
  have bN':=bN.below hb (by omega);have bV':=bV1.below hb (by omega);have hV':=hV.below (hB1.trans (hb.mono (by omega)));exact⟨bV'.cell 0 rfl,hV'.v.cell 3 rfl,bN'.cell 0 rfl,bN'.cell 1 rfl,hV'.Xhi ht⟩
 have hb1:Below N W1 W1.drew:=(Below.refl _ _).drew;refine wpIn_wide.2 (Uq ?_);refine wp_region_held_drew (S:=(LkV w.heap.size vb 3 mt nb 120 1 (t.n:Int) (.tuple #[.agg #[.int .i64 t.ak,.int .u64 (t.au:Int),.int .u64 t.at_,.int .i64 t.tr,.bool t.pd],.bool true]))) (by kernel_rfl) (hS _ hb1) (fun hS0=>?_);refine Xt 0 ?v0 rfl ?y0 hS0 ?_
 case y0=>(rintro w ⟨q0,q1,q2,q3,q4⟩;go_simp;try with_reducible rfl)
 refine Xt 1 ?v1 rfl ?y1 hS0 ?_
 case y1=>(rintro w ⟨q0,q1,q2,q3,q4⟩;go_simp;try with_reducible rfl)
 refine Xt 2 ?v2 rfl ?y2 hS0 ?_
 case y2=>(rintro w ⟨q0,q1,q2,q3,q4⟩;go_simp;try with_reducible rfl)
 refine Xt 3 ?v3 rfl ?y3 hS0 ?_
 case y3=>(rintro w ⟨q0,q1,q2,q3,q4⟩;go_simp;try with_reducible rfl)
 refine Xt 4 ?v4 rfl ?y4 hS0 ?_
 case y4=>(rintro w ⟨q0,q1,q2,q3,q4⟩;go_simp;try with_reducible rfl)
 refine Xt 5 ?v5 rfl ?y5 hS0 ?_
 case y5=>(rintro w ⟨q0,q1,q2,q3,q4⟩;go_simp;try with_reducible rfl)
 refine Xt 6 ?v6 rfl ?y6 hS0 ?_
 case y6=>(rintro w ⟨q0,q1,q2,q3,q4⟩;go_simp;try with_reducible rfl)
 refine Xt 7 ?v7 rfl ?y7 hS0 ?_
 case y7=>(rintro w ⟨q0,q1,q2,q3,q4⟩;go_simp;try with_reducible rfl)
 refine Xt 8 ?v8 rfl ?y8 hS0 ?_
 case y8=>(rintro w ⟨q0,q1,q2,q3,q4⟩;go_simp;try with_reducible rfl)
 refine Xh 9 rfl fun K hK=>?_;go_simp;refine hK.out _ _ (hS _ (hb1.alloc (by simp [hs0]) _)) (fun hS1=>?_);clear hK K;refine Xh 10 rfl fun K hK=>?_;go_simp;have hb2:Below N W1 (W1.alloc (.cells #[.int .i64 t.ak,.int .u64 (t.au:Int),.int .u64 t.at_,.int .i64 t.tr,.bool t.pd] 153)).drew:=((Below.refl _ _).alloc (by omega) _).drew;refine hK.out _ _ (hS _ hb2) (fun hS2=>?_);clear hK K;refine Xh 11 rfl fun K hK=>?_;go_simp;refine hK.out _ _ hS2 (fun _=>?_);clear hK K hS0 hS1 hS2;refine wpAnyH_done (by kernel_rfl) ?_ _;have bN2:=bN.below hb2 (by omega);have hB2:=hB1.trans (hb2.mono (by omega));clear hS hb1;have bV2:=bV1.below hb2 (by omega);clear hb2;generalize (W1.alloc (.cells #[.int .i64 t.ak,.int .u64 (t.au:Int),.int .u64 t.at_,.int .i64 t.tr,.bool t.pd] 153)).drew=W2 at *
 have hQ2:NbP nb 1 (t.n:Int) W2.drew:=⟨bN2.cell 0 rfl,bN2.cell 1 rfl⟩
 gi_wp2_with fail
 refine wpIn_wide.2 (Uq ?_);refine wp_region_held_drew (S:=NbP nb 1 (t.n:Int)) (by kernel_rfl) hQ2 (fun hS1=>?_);refine Xt 0 ?av0 rfl ?ay0 hS1 ?_
 case ay0=>(rintro w ⟨q0,q1⟩;go_simp;try with_reducible rfl)
 refine Xt 1 ?av1 rfl ?ay1 hS1 ?_
 case ay1=>(rintro w ⟨q0,q1⟩;go_simp;try with_reducible rfl)
 refine Xt 2 ?av2 rfl ?ay2 hS1 ?_
 case ay2=>(rintro w ⟨q0,q1⟩;go_simp;try with_reducible rfl)
 have h0':((t.n:Int)==0)=false:=by have:=Xa H0;rw [beq_eq_false_iff_ne];omega
 refine Xt 3 ?av3 rfl ?ay3 hS1 ?_
 case ay3=>(rintro w ⟨q0,q1⟩;go_simp;try with_reducible rfl)
 refine Xh 4 rfl fun K hK=>?_;go_simp;have hRt:=root W2.drew;unfold nmV at hRt;refine hRt.mono ?_;rintro e w5 ⟨rfl,hb5⟩
 have hQ5:NbP nb 1 (t.n:Int) w5:=⟨cell_later hb5 hQ2.1,cell_later hb5 hQ2.2⟩
 refine hK.out _ _ hQ5 (fun hS2=>?_);clear hK K;refine Xt 5 ?av5 rfl ?ay5 hS2 ?_
 case ay5=>(rintro w ⟨q0,q1⟩;go_simp;try with_reducible rfl)
 refine Xt 6 ?av6 rfl ?ay6 hS2 ?_
 case ay6=>(rintro w ⟨q0,q1⟩;go_simp;try with_reducible rfl)
 refine wpAnyH_done (by kernel_rfl) ?_ _;go_simp
 have hmf:∀(fn:Fn) (first cap:Array Value) (w:World),(Instr.makeFunc fn first cap).run prog w=.ok (.func fn first cap) w:=fun _ _ _ _=>rfl
 have bV5:=(show BoxN W2.drew _ _ _ from bV2).below hb5 bV2.lt;have bN5:=(show BoxN W2.drew _ _ _ from bN2).below hb5 bN2.lt;have cV5:=bV5.cell 0 (v:=.pointer (some ⟨vb,0,none⟩)) rfl;have hB5:Below w.heap.size w w5:=hB2.drew.trans (hb5.mono hB2.drew.size);have hV5:=hV.below hB5
 have hRL:=(callsIn_wide (n:=8)).2 (callsIn_wide.1 (Xny vb mt ml vx tm tn ln tks lks w5 hV5 w.heap.size nb bL (fun l hl W' hb'=>by
  obtain⟨m,hm⟩:=hCL l hl
  exact Xra vb mt ml vx tm tn ln tks lks w.heap.size nb (1,(t.n:Int)) l W' (hV5.below hb') (bV5.below hb' bV5.lt) (bN5.below hb' bN5.lt) (bL l) m hm)))
 have hfq:Fence.wide.fn 86:=trivial;have hfw:Fence.wide.fn 79:=trivial;have hfk:Fence.wide.fn 66:=trivial;clear hRt hQ5 hS2 hQ2 hS1 hb5 hB2 bV2 bN2 bV1 hB1 bN
 gi_wp2_with (first
  | (gi_at_call 86;refine hRL.mono ?_;rintro e w6 ⟨v,rfl,hr6,hb6⟩;obtain⟨pp,pcap,rfl⟩:=Xtd hr6;have hB6:Below w.heap.size w w6:=hB5.trans (hb6.mono hB5.size);have bV6:=(bV5.below hb6 bV5.lt).alloc (.cells #[.slice pp (X3 tm bL lks).length pcap] 162);have bN6:=(bN5.below hb6 bN5.lt).alloc (.cells #[.slice pp (X3 tm bL lks).length pcap] 162);have cV6:=bV6.cell 0 (v:=.pointer (some ⟨vb,0,none⟩)) rfl;have hV6:=(hV.below hB6);have bVl:=hV6.v.alloc (.cells #[.slice pp (X3 tm bL lks).length pcap] 162);have cM6:=bVl.cell 3 (v:=.map (some mt)) rfl)
  | (gi_at_call 79;refine(callsIn_wide.2 (Xhr (some mt) _)).mono ?_;rintro e w' ⟨rfl,rfl⟩))
 obtain⟨v0,hv0⟩:∃ v0,v0=Value.slice pp (X3 tm bL lks).length pcap:=⟨_,rfl⟩
 rw [<- hv0] at hr6 bV6 bN6 cV6 bVl cM6 ⊢;clear hv0;obtain⟨i0,hi,hz0,hz1,hz2⟩:=info_parts Xbr;have hok:=hV.ok;have bL6:BoxN (w6.alloc (.cells #[v0] 162)) w6.heap.size 162 #[v0]:=BoxN.new w6 162 #[v0];have hr7:=hr6.alloc (.cells #[v0] 162);have bM8:=BoxN.new (w6.alloc (.cells #[v0] 162)) 120 #[.map (some mt)];rw [World.size_alloc] at bM8;have hB7:=hB6.alloc hB6.size (.cells #[v0] 162)
 have hz7:(w6.alloc (.cells #[v0] 162)).heap.size=w6.heap.size+1:=by simp
 have hB8:=hB7.alloc hB7.size (.cells #[.map (some mt)] 120)
 have hz8:((w6.alloc (.cells #[v0] 162)).alloc (.cells #[.map (some mt)] 120)).heap.size=w6.heap.size+1+1:=by simp
 have hV8:=hV.below hB8;have bV8:=bV6.alloc (.cells #[.map (some mt)] 120);have bN8:=bN6.alloc (.cells #[.map (some mt)] 120);have bL8:=bL6.alloc (.cells #[.map (some mt)] 120);have hr8:=hr7.alloc (.cells #[.map (some mt)] 120)
 obtain⟨B0,hB0e⟩:∃ B0,w5.heap.size=B0:=⟨_,rfl⟩
 rw [hB0e] at hr8
 have hB0w:w.heap.size<=B0:=by rw [<- hB0e];exact hB5.size
 have hlo6:B0<=w6.heap.size:=by rw [<- hB0e];exact hb6.size
 obtain⟨LI,hLI⟩:∃ LI,LI=X3 tm bL lks:=⟨_,rfl⟩
 rw [<- hLI] at hr8
 have hlLI:LI.length<=20:=by rw [hLI];exact Nat.le_trans Xiu nL
 have nbl:nb<w6.heap.size:=by have:=(bN5.below hb6 bN5.lt).lt;exact this
 have HLI:=Xb hLI;clear hLI hB0e hr6 hr7 bV6 bN6 cV6 bVl cM6 bL6 hB7 hV6 hB6 hRL hV5 hB5 cV5 bV5 bN5 hb6
 obtain⟨LB,hLB⟩:∃ LB,LB=w6.heap.size:=⟨_,rfl⟩
 rw [<- hLB] at bM8 hz7 hz8 bL8 hlo6 nbl ⊢;generalize ((w6.alloc (.cells #[v0] 162)).alloc (.cells #[.map (some mt)] 120))=W1 at *;clear hLB hz7;obtain⟨kT,sT⟩:=hV8.ok.ksT;obtain⟨nTm,hnT,mT⟩:=hV8.held.mapT
 refine wpIn_rangeFunc_ownH rfl (by omega) (gf:=136) (lb:=#[.pointer (some ⟨LB+1,0,none⟩)]) rfl trivial Xcs
  (Vl 8 (by omega) Xsu (by decide) (by decide) (LB+1) mt nTm (tks.map Xd.key) kT sT (by have:=hok.lenT;simp;omega) (Xd.sh tks) W1 bM8 mT) Jr Jo (Below.refl _ _) (fun _=>rfl)
  (fun pre V=>(((∃ v,Boxed V LB 162 v/\V.ownsRow B0 135 10 v (LI++Zl tm bT (pre.map X7)).length (Yi ((LI++Zl tm bT (pre.map X7)).map Item.rec_))/\True)/\BoxN V w.heap.size 76 #[.pointer (some ⟨vb,0,none⟩)])/\BoxN V nb 114 #[.int .i64 1,.int .u64 (t.n:Int)])/\Below w.heap.size w V)
  (fun _ _ _=>False)
  (OwnFrom.and (OwnFrom.and (OwnFrom.and (Own.from (holdsRow_own _ _ _ _ _ (fun pre:List { x // x∈tks.map Xd.key }=>(LI++Zl tm bT (pre.map X7)).length) (fun pre=>Yi ((LI++Zl tm bT (pre.map X7)).map Item.rec_)) (fun _ _=>True)) _) (Own.from (Xy _ _ (fun _=>#[.pointer (some ⟨vb,0,none⟩)])) _)) (Own.from (Xy _ _ (fun _=>#[.int .i64 1,.int .u64 (t.n:Int)])) _)) (ownFrom_below (Nat.le_refl _) (by omega)))
  (fun _ _ _ _ _ hs _ _=>hs)
  ⟨⟨⟨⟨_,bL8,by simpa [Zl] using hr8,trivial⟩,bV8⟩,bN8⟩,hB8⟩
  (fun x a' V=>∃ Bx Bt,LB<Bx/\LB<Bt/\Bx≠Bt/\BoxN V Bx 114 #[.int .i64 x.1.1.1,.int .u64 x.1.1.2]/\BoxN V Bt 153 (X7 x).cells/\a' = { tmps:=#[.pointer (some ⟨vb,0,none⟩),.string ⟨id.toArray⟩,.pointer (some ⟨w.heap.size,0,none⟩),undef,.nilIface,.pointer (some ⟨nb,0,none⟩),.pointer (some ⟨nb+1,0,none⟩),.bool true,.pointer (some ⟨LB,0,none⟩),.pointer (some ⟨Bx,0,none⟩),.pointer (some ⟨Bt,0,none⟩),.string ⟨id.toArray⟩,.agg #[.int .i64 1,.int .u64 (t.n:Int)],.tuple #[.agg #[.int .i64 t.ak,.int .u64 (t.au:Int),.int .u64 t.at_,.int .i64 t.tr,.bool t.pd],.bool true],.pointer (some ⟨vb,0,none⟩),.pointer (some ⟨vb,0,none⟩),.pointer (some ⟨vb,3,none⟩),.map (some mt),.agg #[.int .i64 1,.int .u64 (t.n:Int)],.tuple #[.agg #[.int .i64 t.ak,.int .u64 (t.au:Int),.int .u64 t.at_,.int .i64 t.tr,.bool t.pd],.bool true],.agg #[.int .i64 t.ak,.int .u64 (t.au:Int),.int .u64 t.at_,.int .i64 t.tr,.bool t.pd],.bool true,.bool true,.bool false,.bool false,.agg #[.int .i64 1,.int .u64 (t.n:Int)],.agg #[.int .i64 1,.int .u64 0],.bool false,.bool false,undef,.pointer (some ⟨vb,0,none⟩),.func (.func 87) #[] #[.pointer (some ⟨w.heap.size,0,none⟩),.pointer (some ⟨nb,0,none⟩)],v0,.pointer (some ⟨vb,0,none⟩),.pointer (some ⟨vb,0,none⟩),.pointer (some ⟨vb,3,none⟩),.map (some mt),.func (.func 136) #[] #[.pointer (some ⟨LB+1,0,none⟩)],.agg #[.int .i64 x.1.1.1,.int .u64 x.1.1.2],.agg (X7 x).cells,undef,undef,undef,undef,undef,undef,undef,undef,undef,undef,undef,undef,undef,undef,undef,undef,undef,undef,undef,undef,undef,undef,undef],defers:=[] })
  (fun x a' _ X Y row hs hgr hr=>by obtain⟨Bx,Bt,h1,h2,h3,h4,h5,h6⟩:=hs;exact⟨Bx,Bt,h1,h2,h3,Xy Bx 114 (fun(_:Unit)=>#[.int .i64 x.1.1.1,.int .u64 x.1.1.2]) () X Y row h4 hgr (fun r e=>(hr r e).2),Xy Bt 153 (fun(_:Unit)=>(X7 x).cells) () X Y row h5 hgr (fun r e=>(hr r e).2),h6⟩)
  ?assign ?body ?done ?stop
 case assign =>
  rintro ll pre x X K ⟨⟨⟨⟨v,b1,hr1,-⟩,bV⟩,bN⟩,hBX⟩ hK
  have e2:x.1.2=.agg (X7 x).cells:=by rw [<- (Je x).2];rfl
  rw [e2];unfold nmV;simp only [Xd.cells] at hK ⊢
  gi_wp2
  have hBB:Below X.heap.size X ((X.alloc (.cells #[.int .i64 x.1.1.1,.int .u64 x.1.1.2] 114)).alloc (.cells (X7 x).cells 153)):=((Below.refl _ X).alloc (Nat.le_refl _) _).alloc (by simp) _;have hl1:=b1.lt;refine hK _ _ (((KeepsOthers.alloc _ _).from _).trans ((KeepsOthers.alloc _ _).from _)) ((KeepsT.alloc _ _).trans (KeepsT.alloc _ _)) ⟨⟨⟨⟨v,(b1.alloc _).alloc _,(hr1.alloc _).alloc _,trivial⟩,(bV.alloc _).alloc _⟩,(bN.alloc _).alloc _⟩,hBX.trans (hBB.mono hBX.size)⟩ ⟨X.heap.size,X.heap.size+1,hl1,by omega,by omega,(BoxN.new X 114 _).alloc _,?_,?_⟩
  ·have:=BoxN.new (X.alloc (.cells #[.int .i64 x.1.1.1,.int .u64 x.1.1.2] 114)) 153 (X7 x).cells
   rwa [World.size_alloc] at this
  simp
 case body =>
  rintro ll pre x a' V hl ⟨r,hr⟩ ⟨⟨⟨⟨v,b1,hr1,-⟩,bV⟩,bN⟩,hBV⟩ ⟨Bx,Bt,hx1,hx2,hx3,bX,bTk,rfl⟩ hlt';obtain⟨htm,hkx⟩:=Je x
  have hsn:LI++Zl tm bT ((pre ++ [x]).map X7)=(LI++Zl tm bT (pre.map X7))++Zl tm bT [X7 x]:=by simp [Zl]
  obtain⟨tk,htk⟩:∃ tk,X7 x=tk:=⟨_,rfl⟩
  rw [htk] at htm hkx bTk hsn ⊢;obtain⟨x,hxm⟩:=x;simp only at hkx;subst hkx
  have hlr:(LI++Zl tm bT (pre.map X7)).length<=1000:=by
   have e1:(Zl tm bT (pre.map X7)).length<=(pre.map X7).length:=by unfold Zl;rw [List.length_map];exact List.length_filter_le _ _
   simp at hlt' e1;rw [List.length_append];omega
  obtain⟨J,hJ⟩:∃ J,J=LI++Zl tm bT (pre.map X7):=⟨_,rfl⟩
  rw [<- hJ] at hsn hr1 hlr
  have hend:∀ V' v',KeepsFrom W1.heap.size V V'->KeepsT Xsu V V'->Boxed V' LB 162 v'->V'.ownsRow B0 135 10 v' (J++Zl tm bT [tk]).length (Yi ((J++Zl tm bT [tk]).map Item.rec_))->BoxN V' w.heap.size 76 #[.pointer (some ⟨vb,0,none⟩)]->BoxN V' nb 114 #[.int .i64 1,.int .u64 (t.n:Int)]->Below w.heap.size w V'->KeepsFrom W1.heap.size V V'/\KeepsT Xsu V V'/\(((∃ v,Boxed V' LB 162 v/\V'.ownsRow B0 135 10 v (LI++Zl tm bT ((pre ++ [(⟨tk.key,hxm⟩:{ p // p∈tks.map Xd.key })]).map X7)).length (Yi ((LI++Zl tm bT ((pre ++ [(⟨tk.key,hxm⟩:{ p // p∈tks.map Xd.key })]).map X7)).map Item.rec_))/\True)/\BoxN V' w.heap.size 76 #[.pointer (some ⟨vb,0,none⟩)])/\BoxN V' nb 114 #[.int .i64 1,.int .u64 (t.n:Int)])/\Below w.heap.size w V':=fun V' v' h1 h2 h3 h4 h5 h6 h7=>⟨h1,h2,⟨⟨⟨v',h3,by rw [hsn];exact h4,trivial⟩,h5⟩,h6⟩,h7⟩
  have hVV:=hV.below hBV;have ct:=hVV.v.cell 2 (v:=.int .u64 tm) rfl;have cB:=bV.cell 0 (v:=.pointer (some ⟨vb,0,none⟩)) rfl;have cN0:=bN.cell 0 (v:=.int .i64 1) rfl;have cN1:=bN.cell 1 (v:=.int .u64 (t.n:Int)) rfl;have cX0:=bX.cell 0 (v:=.int .i64 1) rfl;have cX1:=bX.cell 1 (v:=.int .u64 (tk.n:Int)) rfl;have hL:=Vr Bt tk.pd V (bTk.cell 4 rfl);obtain⟨mC,hmC⟩:=hCT tk htm;have hPl:=Xkj vb mt ml vx tm tn ln tks lks V hVV (1,(tk.n:Int)) (1,(t.n:Int)) mC (bT tk) hmC;have hfl:Fence.wide.fn 89:=trivial;have hfc:Fence.wide.fn 88:=trivial;have hfe:Fence.wide.fn 90:=trivial;have hfd:Fence.wide.fn 84:=trivial;have HE:=Xb hend;have hBVs:=hBV.size;simp only [Xd.key] at HE ⊢;clear hend hsn hVV hJ;unfold nmV at hPl;simp only [Xd.cells] at hPl ⊢
  by_cases hpd:tk.pd=true
  ·rw [hpd] at hL
   have hno:Zl tm bT [tk] = []:=by simp [Zl,hpd]
   rw [hno,List.append_nil] at HE
   gi_wp2_with (gi_at_call 89;refine(callsIn_wide.2 hL).mono ?_;rintro e V ⟨rfl,rfl⟩)
   exact(Xa HE) _ v (X0 _ (Below.refl _ _)) (KeepsT.below (Below.refl _ _)) b1 hr1 bV bN hBV
  have hpd:tk.pd=false:=by simpa using hpd
  rw [hpd] at hL
  cases hpt:bT tk with
  | false =>
   rw [hpt] at hPl
   have hno:Zl tm bT [tk] = []:=by simp [Zl,hpt]
   rw [hno,List.append_nil] at HE
   gi_wp2_with (first
    | (gi_at_call 89;refine(callsIn_wide.2 hL).mono ?_;rintro e V ⟨rfl,rfl⟩)
    | (gi_at_call 88;refine(callsIn_wide.2 hPl).mono ?_;rintro e w4 ⟨rfl,hb4⟩))
   exact(Xa HE) _ v (X0 _ hb4) (KeepsT.below hb4) ((show BoxN _ _ _ _ from b1).below hb4 b1.lt) (ownsRow_below hr1 hb4) (bV.below hb4 bV.lt) (bN.below hb4 bN.lt) (hBV.trans (hb4.mono hBVs))
  | true =>
   rw [hpt] at hPl
   have hyes:Zl tm bT [tk] = [.tok (U8 tm tk)]:=by simp [Zl,hpd,hpt]
   rw [hyes] at HE
   gi_wp2_with (first
    | (gi_at_call 89;refine(callsIn_wide.2 hL).mono ?_;rintro e V ⟨rfl,rfl⟩)
    | (gi_at_call 88;refine(callsIn_wide.2 hPl).mono ?_;rintro e w4 ⟨rfl,hb4⟩;have bT4:=bTk.below hb4 bTk.lt;have bV4:=bV.below hb4 bV.lt;have cB4:=bV4.cell 0 (v:=.pointer (some ⟨vb,0,none⟩)) rfl;have ct4:=cell_later hb4 ct;have hRv:=Xd3 Bt 153 tk.ak (tk.au:Int) tk.at_ tk.tr tm tk.pd [] w4 (by simpa [Xd.cells] using bT4))
    | (gi_at_call 90;refine(callsIn_wide.2 hRv).mono ?_;rintro e w5 ⟨rfl,bT5,hs5⟩))
   have bX5:=hs5.box (bX.below hb4 bX.lt) (fun hm=>hx3 (List.mem_singleton.1 hm));have bL5:BoxN w5 LB 162 #[v]:=hs5.box ((show BoxN _ _ _ _ from b1).below hb4 b1.lt) (fun hm=>by have:=List.mem_singleton.1 hm;omega);have bV5:=hs5.box bV4 (fun hm=>by have:=List.mem_singleton.1 hm;omega);have bN5:=hs5.box (bN.below hb4 bN.lt) (fun hm=>by have:=List.mem_singleton.1 hm;omega)
   have hr5:=hs5.J2 (ownsRow_below hr1 hb4) (fun g hg hm=>by
    obtain⟨-,cs,hB⟩:=Xm (ownsRow_below hr1 hb4) hg
    exact hB.ne bT4 (by decide) (List.mem_singleton.1 hm))
   have hB5:Below w.heap.size w w5:=(hBV.trans (hb4.mono hBVs)).trans (hs5.below (Nat.le_trans hBVs hb4.size) (fun b hb=>by rw [List.mem_singleton.1 hb];omega));have kf5:KeepsFrom W1.heap.size V w5:=Yk ((X0 0 hb4).trans (hs5.Jm (fun b hb=>by rw [List.mem_singleton.1 hb];exact⟨_,_,bT4⟩) 0)) (Nat.zero_le _);have kt5:KeepsT Xsu V w5:=(KeepsT.below hb4).trans (hs5.M9 (fun b hb=>by rw [List.mem_singleton.1 hb];exact⟨_,_,bT4,by decide⟩))
   have hrec:∀ m X,Below w5.heap.size w5 X->CallsIn Fence.wide m prog 84 #[.pointer (some ⟨Bt,0,none⟩),.agg #[.int .i64 1,.int .u64 (tk.n:Int)]] X fun e X'=>e=.returned (.agg (Xi 1 1 (tk.n:Int) tk.ak (tk.au:Int) true tm tk.tr 0 []))/\Below X.heap.size X X':=fun m X hbX=>by
    have bTX:=bT5.below hbX bT5.lt;exact callsIn_wide.2 (Xak Bt 1 (tk.n:Int) tk.ak (tk.au:Int) tm tk.tr true X (bTX.cell 0 (by simp)) (bTX.cell 1 (by simp)) (bTX.cell 2 (by simp)) (bTX.cell 3 (by simp)) (bTX.cell 4 (by simp)))
   unfold Xi at hrec
   have hfin:∀(V5 w8:World) (g8 cap8:Nat),Below w5.heap.size w5 V5->(V5.alloc (.cells #[.int .i64 1,.int .i64 1,.int .u64 (tk.n:Int),.int .i64 tk.ak,.int .u64 (tk.au:Int),.bool true,.int .u64 tm,.int .i64 tk.tr,.int .u64 0,.string ⟨#[]⟩] 135)).grownBy w8 v.ownBlock->w8.ownsRow B0 135 10 (.slice (some ⟨g8,0,none⟩) (J.length+1) cap8) (J.length+1) (Yi (J.map Item.rec_) ++ [.int .i64 1,.int .i64 1,.int .u64 (tk.n:Int),.int .i64 tk.ak,.int .u64 (tk.au:Int),.bool true,.int .u64 tm,.int .i64 tk.tr,.int .u64 0,.string ⟨#[]⟩])->BoxN w8 LB 162 #[v]->_:=fun V5 w8 g8 cap8 hw5 h83 h82 bL8=>by
    have hS8:Spares (v.ownBlock.toList ++ [LB]) w5 w8:=((Spares.of_below hw5).alloc _).trans (Spares.Vz h83 (fun r hr=>List.mem_append_left _ (by simpa using hr)));have hS9:Spares [LB] w8 (w8.setCell ⟨LB,0,none⟩ (.slice (some ⟨g8,0,none⟩) (J.length+1) cap8)):=(Spares.of_below (Below.refl _ w8)).set (by simp) _ _;have hS:=hS8.trans (hS9.mono (fun b hb=>List.mem_append_right _ hb))
    have hbx:∀ b∈v.ownBlock.toList ++ [LB],∃ t cs,BoxN w5 b t cs/\(t=135\/t=162)/\w.heap.size<=b:=fun b hb=>by
     rcases List.mem_append.1 hb with hb | hb
     ·obtain⟨hlo,cs,hB⟩:=Xm hr5 (g:=b) (by simpa using hb)
      exact⟨_,_,hB,.inl rfl,by omega⟩
     rw [List.mem_singleton.1 hb];exact⟨_,_,bL5,.inr rfl,by omega⟩
    have hno:∀ {b:Nat} {t:TypeId} {cs:Array Value},BoxN w5 b t cs->t≠135->t≠162->b∉v.ownBlock.toList ++ [LB]:=fun hB n1 n2 hm=>by
     obtain⟨t',cs',hB',ht',-⟩:=hbx _ hm
     rcases ht' with rfl | rfl
     ·exact hB.ne hB' n1 rfl
     exact hB.ne hB' n2 rfl
    have hrow9:=hS9.J2 h82 (fun g hg hm=>by
     obtain⟨-,cs,hB⟩:=Xm h82 hg
     exact hB.ne bL8 (by decide) (List.mem_singleton.1 hm))
    exact(Xa HE) _ (.slice (some ⟨g8,0,none⟩) (J.length+1) cap8) (kf5.trans (Yk (hS.Jm (fun b hb=>by obtain⟨t,cs,hB,-,-⟩:=hbx b hb;exact⟨t,cs,hB⟩) 0) (Nat.zero_le _))) (kt5.trans (hS.M9 (fun b hb=>by obtain⟨t,cs,hB,ht,-⟩:=hbx b hb;exact⟨t,cs,hB,by rcases ht with rfl | rfl <;> decide⟩))) (bL8.set 0 (.slice (some ⟨g8,0,none⟩) (J.length+1) cap8)) (by simpa [Yi,Item.rec_,Xd.rec_,U8,Yf.cells,Xi] using hrow9) (hS.box bV5 (hno bV5 (by decide) (by decide))) (hS.box bN5 (hno bN5 (by decide) (by decide))) (hB5.trans (hS.below hB5.size (fun b hb=>by obtain⟨t,cs,hB,-,hlo⟩:=hbx b hb;exact hlo)))
   have HFI:=Xb hfin;clear hfin;have y0:=bX5.cell 0 (v:=.int .i64 1) rfl;have y1:=bX5.cell 1 (v:=.int .u64 (tk.n:Int)) rfl;have yL:=bL5.cell 0 (v:=v) rfl;have fL:=bL5.frozen 0;have hB5s:=hB5.size
   have hlo5:B0<=w5.heap.size:=by have:=bL5.lt;omega
   have HK:=Xb (And.intro kf5 (And.intro kt5 (And.intro bV5 (And.intro bN5 (And.intro hB5 (And.intro hr5 bL5))))));clear kf5 kt5 bV5 bN5 hB5 hr5 hs5 bT5 bT4 bV4 cB4 ct4 hRv hb4 cB cN0 cN1 cX0 cX1 ct hL hPl bTk bX b1 hr1 bV bN hBV bM8 hB8 hV8 mT bV8 bN8 bL8 kT sT hr8;refine wpIn_region_any (by kernel_rfl) (X1 ll (by kernel_rfl) _ _ _ _ ?_)
   change wpAnyIn _ _ _ _ _ _ _ _ _ (World.drew _)
   refine Xv 1 (.pointer (some ⟨Bt,0,none⟩)) rfl ?_
   refine Xs 0 2 rfl rfl (fun K hK=>?_) fun K hK=>?_
   focus
    go_simp;refine hK _ _ ?_;clear hK K;refine Xr 2 rfl fun K hK=>?_;go_simp;refine hK _ _ ?_;clear hK K;refine Xr 3 rfl fun K hK=>?_;go_simp;refine(hrec _ w5.drew (Below.refl _ _).drew).mono ?_;rintro e V5 ⟨rfl,hb5⟩;have hw5:Below w5.heap.size w5 V5:=(Below.refl _ w5).drew.trans hb5;have bL6:=bL5.below hw5 bL5.lt;have yL6:=bL6.cell 0 (v:=v) rfl;have bL7:=bL6.alloc (.cells #[.int .i64 1,.int .i64 1,.int .u64 (tk.n:Int),.int .i64 tk.ak,.int .u64 (tk.au:Int),.bool true,.int .u64 tm,.int .i64 tk.tr,.int .u64 0,.string ⟨#[]⟩] 135);have yL7:=bL7.cell 0 (v:=v) rfl;have lL6:=bL6.lt;refine hK _ _ ?_;clear hK K;refine wpAnyIn_ready (rs:=[4]) (by kernel_rfl) (by simp) ?_
   rotate_left
   focus
    go_simp;refine hK _ _ ?_;clear hK K;refine Xs 0 3 rfl rfl (fun K hK=>?_) fun K hK=>?_
    focus
     go_simp;refine hK _ _ ?_;clear hK K;refine Xr 3 rfl fun K hK=>?_;go_simp;refine(hrec _ w5.drew (Below.refl _ _).drew).mono ?_;rintro e V5 ⟨rfl,hb5⟩;have hw5:Below w5.heap.size w5 V5:=(Below.refl _ w5).drew.trans hb5;have bL6:=bL5.below hw5 bL5.lt;have yL6:=bL6.cell 0 (v:=v) rfl;have bL7:=bL6.alloc (.cells #[.int .i64 1,.int .i64 1,.int .u64 (tk.n:Int),.int .i64 tk.ak,.int .u64 (tk.au:Int),.bool true,.int .u64 tm,.int .i64 tk.tr,.int .u64 0,.string ⟨#[]⟩] 135);have yL7:=bL7.cell 0 (v:=v) rfl;have lL6:=bL6.lt;refine hK _ _ ?_;clear hK K;refine wpAnyIn_ready (rs:=[4]) (by kernel_rfl) (by simp) ?_
    rotate_left
    focus
     go_simp;refine(hrec _ w5.drew (Below.refl _ _).drew).mono ?_;rintro e V5 ⟨rfl,hb5⟩;have hw5:Below w5.heap.size w5 V5:=(Below.refl _ w5).drew.trans hb5;have bL6:=bL5.below hw5 bL5.lt;have yL6:=bL6.cell 0 (v:=v) rfl;have bL7:=bL6.alloc (.cells #[.int .i64 1,.int .i64 1,.int .u64 (tk.n:Int),.int .i64 tk.ak,.int .u64 (tk.au:Int),.bool true,.int .u64 tm,.int .i64 tk.tr,.int .u64 0,.string ⟨#[]⟩] 135);have yL7:=bL7.cell 0 (v:=v) rfl;have lL6:=bL6.lt;refine hK _ _ ?_;clear hK K;refine Xs 0 4 rfl rfl (fun K hK=>?_) fun K hK=>?_
     focus
      go_simp;refine hK _ _ ?_;clear hK K;refine wpAnyIn_ready (rs:=[4]) (by kernel_rfl) (by simp) ?_
     rotate_left
     focus
      go_simp;refine hK _ _ ?_;clear hK K;refine wpAnyIn_ready (rs:=[0]) (by kernel_rfl) (by simp) ?_
     rotate_left
    rotate_left 2
   rotate_left 3
   all_goals
    refine AllReadyIn.cons rfl (fun K hK=>?_) (AllReadyIn.nil);go_simp;refine hK _ _ ?_;clear hK K;refine Xr 5 rfl fun K hK=>?_;have hr7:=(ownsRow_below (Xa HK).2.2.2.2.2.1 hw5).alloc (.cells #[.int .i64 1,.int .i64 1,.int .u64 (tk.n:Int),.int .i64 tk.ak,.int .u64 (tk.au:Int),.bool true,.int .u64 tm,.int .i64 tk.tr,.int .u64 0,.string ⟨#[]⟩] 135);have hsz7:=hw5.size;obtain⟨g8,cap8,w8,hrun,h82,h83,h84,-⟩:=run_append_lies (P:=prog) (V5.alloc (.cells #[.int .i64 1,.int .i64 1,.int .u64 (tk.n:Int),.int .i64 tk.ak,.int .u64 (tk.au:Int),.bool true,.int .u64 tm,.int .i64 tk.tr,.int .u64 0,.string ⟨#[]⟩] 135)) 162 162 B0 135 i0 _ 10 88 underlying162 hi hz0 hz1 hz2 rfl (by decide) v _ _ hr7 ⟨V5.heap.size,0,none⟩ 1 1 [.int .i64 1,.int .i64 1,.int .u64 (tk.n:Int),.int .i64 tk.ak,.int .u64 (tk.au:Int),.bool true,.int .u64 tm,.int .i64 tk.tr,.int .u64 0,.string ⟨#[]⟩] rfl (Mf _ _ _ _ _ _ _ _ _ _ _ _) (by simp [Value.oneCell']) (by omega) (by unfold maxLen;omega) (by omega) (by simp;omega) _ rfl;have bL8:=bL7.kept h83 (BoxN.not_row bL7 (by decide) hr7);have yL8:=bL8.cell 0 (v:=v) rfl;have fL8:=bL8.frozen 0;refine Vj rfl _ _ _ rfl rfl rfl hrun ?_;refine hK _ _ ?_;clear hK K;refine Xr 6 rfl fun K hK=>?_;go_simp;refine hK _ _ ?_;clear hK K;refine wpAnyIn_done (by kernel_rfl) ?_ _
    gi_wp2
    exact(Xa HFI) _ _ _ _ hw5 h83 h82 bL8
 case done =>
  rintro D zs V hD hzs ⟨⟨⟨⟨v,b1,hr1,-⟩,bV⟩,bN⟩,hBV⟩ hK
  have hzs':zs.map X7=tks:=by rw [hzs];exact V6 hok.incT
  rw [hzs'] at hr1;have hW:=Xa HW;have hLI:=Xa HLI
  have hF:Yr (LI++Zl tm bT tks) ⟨tn,ln,tks,lks⟩:=U9 _ _ (fun i hi=>by
   rcases List.mem_append.1 hi with hi | hi
   ·rw [hLI] at hi;exact Xkn (s:=⟨tn,ln,tks,lks⟩) hW.v.t0 hW.v.t1 hok hW.v.okL i hi
   exact Xrr (s:=⟨tn,ln,tks,lks⟩) hW.v.t0 hW.v.t1 hok hW.v.okT i hi) hok.incT hok.incL (by show tks.length<500;omega) (by show lks.length<500;omega)
  have hst:Yq (LI++Zl tm bT tks) ⟨tn,ln,tks,lks⟩=⟨tn,ln,tks.map (fun z=>if !z.pd&&bT z then U8 tm z else z),lks.map (fun z=>if goL tm bL z then Z8 tm z else z)⟩:=by
   rw [Xf8,hLI,Xfc hok.incL hW.v.nl,Xli hok.incT hW.v.nt]
  have hKp:=Xm0 B0 k vx tm ⟨tn,ln,tks,lks⟩ c l f _ v V (hW.below hBV) hl hl1 hf hf1 hc hr1 (by rw [List.length_append];have:=@Xq4 tm bT tks;omega) hF;rw [hst] at hKp;have hlts:=hW.lts;have h9:=hW.v.nine;rw [show k.vb=vb from (Xa HKB).1.symm] at hKp;have cV:=bV.cell 0 (v:=.pointer (some ⟨vb,0,none⟩)) rfl;have cL:=b1.cell;have hDl:D<V.heap.size:=(Array.getElem?_eq_some_iff.1 hK).1;have hBVs:=hBV.size;have HFD:=Xb (And.intro hlts h9);clear hF hst hW hLI hlts h9 hr1 hzs'
  gi_wp2_with (gi_at_call 66;refine(callsIn_wide.2 hKp).mono ?_;rintro e w7 ⟨rfl,⟨c',l',f',hc',hW7⟩,hs7⟩)
  obtain⟨hlts,h9⟩:=Xa HFD
  have hDn:D∉k.turns:=fun hm=>by have:=hlts D hm;omega
  have hK7:w7.heap[D]? = some (.deferred (some [])):=(hs7.block D hDl hDn).trans hK;refine⟨by simp,.inl ⟨_,_,rfl,run_takeDeferred hK7,?_⟩⟩;have hSp:Spares [D] w7 (w7.putObj D (.deferred none)):=Spares.Vz (grownBy_putObj' w7 D (.deferred none)) (fun r hr=>by cases hr;simp);refine⟨_,results_tmp rfl _ _ _,rfl,⟨c',l',f',hc',hW7.own hSp hK7 rfl (by omega) hDn⟩,?_⟩
  exact((Spares.of_below (bs:=k.turns ++ [D]) hBV).trans ((hs7.mono (fun b hb=>List.mem_append_left _ hb)).trans (hSp.mono (fun b hb=>List.mem_append_right _ hb)))).Xwa (fun b hb=>by
   rcases List.mem_append.1 hb with hb | hb
   ·exact .inl hb
   exact .inr (by rw [List.mem_singleton.1 hb];omega))
 case stop =>
  rintro D c pre V _ _ h _;exact h.elim
end Go.Proofs
namespace Go.Proofs
open Go.RowKit Go.Sort Go.Lib Go.Shelf
def upI (n:Int) (L:List ThingD):Int:=L.foldl (fun u t=>if t.token&&(t.n:Int)==n then t.of_ else u) (-1)
theorem Xp3 (n:Int) (L:List ThingD) (t:ThingD):upI n (L ++ [t])=if t.token&&(t.n:Int)==n then t.of_ else upI n L:=by simp [upI]
theorem Xhx {p:Int->Prop} (n:Int) (h0:p (-1)):∀(L:List ThingD),(∀ t∈L,t.token=true->(t.n:Int)=n->p t.of_)->p (upI n L):=by
 intro L;unfold upI
 suffices ∀ u,p u->(∀ t∈L,t.token=true->(t.n:Int)=n->p t.of_)->p (L.foldl (fun u t=>if t.token&&(t.n:Int)==n then t.of_ else u) u) from this _ h0
 induction L with
 | nil=>intro u hu _;exact hu
 | cons t L ih =>
  intro u hu h;rw [List.foldl_cons];refine ih _ ?_ (fun x hx=>h x (List.mem_cons_of_mem _ hx))
  by_cases hc:(t.token&&(t.n:Int)==n)=true
  ·rw [if_pos hc]
   simp only [Bool.and_eq_true,beq_iff_eq] at hc;exact h t (List.mem_cons_self ..) hc.1 hc.2
  rw [if_neg hc];exact hu
def Xa7 (L:List ThingD):Prop:=∀ t∈L,t.token=true->t.of_<t.n
theorem Xii {L:List ThingD} (h:Xa7 L) {n:Int} (hn:0<=n):upI n L<n:=
 Xhx (p:=fun u=>u<n) n (by omega) L (fun t ht h1 h2=>by have:=h t ht h1;omega)
def Jq (L:List ThingD) (top:Int):Nat->Int->Bool
 | 0,_=>false
 | f+1,n=>if n<0 then false else if n=top then true else Jq L top f (upI n L)
theorem Ux (L:List ThingD) (top:Int) (f:Nat) {n:Int} (h:n<0):Jq L top f n=false:=by
 cases f with
 | zero=>rfl
 | succ f=>rw [Jq,if_pos h]
theorem Xdf {L:List ThingD} (h:Xa7 L) (top:Int):∀(f f':Nat) (n:Int),n<f->n<f'->Jq L top f n=Jq L top f' n
 | 0,f',n,h1,_=>by rw [Ux L top 0 (by omega),Ux L top f' (by omega)]
 | f+1,0,n,_,h2=>by rw [Ux L top _ (by omega),Ux L top 0 (by omega)]
 | f+1,f'+1,n,h1,h2=>by
  rw [Jq,Jq]
  by_cases hn:n<0
  ·rw [if_pos hn,if_pos hn]
  rw [if_neg hn,if_neg hn]
  by_cases ht:n=top
  ·rw [if_pos ht,if_pos ht]
  rw [if_neg ht,if_neg ht];have:=Xii h (n:=n) (by omega);exact Xdf h top f f' _ (by omega) (by omega)
def Yp (L:List ThingD) (top n:Int):Bool:=Jq L top (n.toNat+1) n
theorem Mc (L:List ThingD) (top:Int) {n:Int} (h:n<0):Yp L top n=false:=Ux L top _ h
theorem Xem (L:List ThingD) {top:Int} (h:0<=top):Yp L top top=true:=by
 rw [Yp,Jq,if_neg (by omega),if_pos rfl]
theorem Xcx {L:List ThingD} (h:Xa7 L) {top n:Int} (hn:0<=n) (ht:n≠top):Yp L top n=Yp L top (upI n L):=by
 rw [Yp,Jq,if_neg (by omega),if_neg ht];have:=Xii h hn;exact Xdf h top _ _ _ (by omega) (by omega)
theorem Tryz.Xvk (B:Nat) (vb g cap:Nat) (L:List ThingD) (tm tn ln:Int) (n top:Int) (h1 : -1<=n) (h2:n<9223372036854775808) (hup:Xa7 L) (w:World) (h:Xk B w vb g cap L tm tn ln) :
  Calls prog 160 #[.pointer (some ⟨vb,0,none⟩),.int .i64 n,.int .i64 top] w fun e w'=>e=.returned (.bool (Yp L top n))/\w'=w:=by
 have c0:=h.v.cell 0 (v:=.slice (some ⟨g,0,none⟩) L.length cap) rfl;have hlim:=h.lim
 obtain⟨len,hlen⟩:∃ len,L.length=len:=⟨_,rfl⟩
 rw [hlen] at c0 hlim;have Hlen:=Xb hlen;clear hlen;have hofs:=Xb (fun m=>Xhx (p:=fun u=>-1<=u) m (by omega) L (fun t ht _ _=>by rcases h.ofs t ht with e | ⟨_,e,_⟩ <;> rw [e] <;> omega));have hupm:=Xb (fun m (hm:0<=m)=>Xii hup (n:=m) hm);have hbu:=Xb (fun m (hm:0<=m) (ht:m≠top)=>Xcx hup (top:=top) hm ht);have hbn:=Xb (fun m (hm:m<0)=>Mc L top hm);have hbt:=Xb (fun(hm:0<=top)=>Xem L hm);clear hup;go_enter func160,ntmps160;go_wp2
 go_loopw [1] (fun m wr=>∃ u:Int,-1<=u/\u<9223372036854775808/\m=.int .i64 u/\Hid (Yp L top n=Yp L top u)/\wr=w) (fun m _=>(intOf m+1).toNat)
 case atStart=>exact⟨n,h1,h2,rfl,Xb rfl,rfl⟩
 case round =>
  obtain⟨u,hu1,hu2,rfl,hbe,rfl⟩:=hrel
  by_cases hneg:u<0
  ·have hres:=Xb ((Xa hbe).trans (Xa hbn u hneg))
   have hu0:¬ 0<=u:=by omega
   go_wp2;go_ret;exact⟨by rw [Xa hres];rfl,rfl⟩
  have hu0:0<=u:=by omega
  clear hneg
  by_cases htop:u=top
  ·subst htop
   have hres:=Xb ((Xa hbe).trans (Xa hbt hu0));go_wp2;go_ret;exact⟨by rw [Xa hres];rfl,rfl⟩
  have hres:=Xb ((Xa hbe).trans (Xa hbu u hu0 htop));have hul:=Xa hupm u hu0;have huo:=Xa hofs u
  have hnt:(u==top)=false:=by simpa using htop
  clear htop;go_wp2
  go_loopw [7,8] (fun x i wx=>∃ k:Nat,k<=len/\i=.int .i64 k/\x=.int .i64 (upI u (L.take k))/\wx=wr) (fun _ i _=>len-(intOf i).toNat)
  case atStart=>exact⟨0,Nat.zero_le _,rfl,rfl,rfl⟩
  case round =>
   obtain⟨k,hk,rfl,rfl,rfl⟩:=hrel
   by_cases hkl:k<len
   ·obtain⟨t,ht⟩:∃ t,L[k]? = some t:=⟨L[k]'(by have:=Xa Hlen;omega),by simp [Xa Hlen,hkl]⟩
    obtain⟨x0,x1,x2,x3,x4,x5,x6,x7⟩:=h.cells ht;have hsn:=Xb (Xp3 u (L.take k) t);have htk:=Xb (Zs ht);generalize upI u (L.take k)=c at *;obtain⟨tk,n,o,p,a,l,dm,tr⟩:=t;clear ht;simp only at *
    by_cases hnu:(n:Int)=u
    focus
     have hnu':((n:Int)==u)=true:=by simpa using hnu
     rw [hnu] at x1
    rotate_left
    focus
     have hnu':((n:Int)==u)=false:=by simpa using hnu
    rotate_left
    all_goals
     clear hnu;cases tk
     all_goals
      go_wp2
      go_roundw
      case rel=>exact⟨k+1,by omega,rfl,by rw [Xa htk,Xa hsn,hnu'];rfl,by first | rfl | trivial⟩
      case measure=>simp [intOf];omega
   obtain rfl:k=len:=by omega
   have htk:=Xb (Ua (Nat.le_of_eq (Xa Hlen)));rw [Xa htk];generalize upI u L=c at *;go_wp2
   go_roundw
   case rel=>exact⟨c,by omega,by omega,rfl,hres,by first | rfl | trivial⟩
   case measure=>simp [intOf];omega
def ThingD.kin (t:ThingD):Bool × Nat × Int:=(t.token,t.n,t.of_)
theorem Xnc (n:Int) (L:List ThingD):upI n L=(L.map ThingD.kin).foldl (fun u x=>if x.1&&(x.2.1:Int)==n then x.2.2 else u) (-1):=by
 rw [List.foldl_map];rfl
theorem Xe4 {L L':List ThingD} (h:L.map ThingD.kin=L'.map ThingD.kin) (top:Int):∀(f:Nat) (n:Int),Jq L top f n=Jq L' top f n
 | 0,_=>rfl
 | f+1,n=>by rw [Jq,Jq,Xnc n L,Xnc n L',h,Xe4 h top f]
theorem Xkw {L L':List ThingD} (h:L.map ThingD.kin=L'.map ThingD.kin) (top n:Int):Yp L top n=Yp L' top n:=Xe4 h top _ n
theorem Xa7.kin {L L':List ThingD} (h:L.map ThingD.kin=L'.map ThingD.kin) (ho:Xa7 L):Xa7 L':=by
 intro t ht h1
 have hm:t.kin∈L.map ThingD.kin:=by rw [h];exact List.mem_map_of_mem ht
 obtain⟨s,hs,he⟩:=List.mem_map.1 hm;have e1:s.token=t.token:=congrArg (·.1) he;have e2:s.n=t.n:=congrArg (·.2.1) he;have e3:s.of_=t.of_:=congrArg (·.2.2) he;have:=ho s hs (by rw [e1];exact h1);rw [<- e2,<- e3];exact this
theorem Xl9 (tm:Int) (t:ThingD):(Y2 tm t).kin=t.kin:=by unfold Y2;split <;> rfl
theorem Xrp {f:ThingD->ThingD} (hf:∀ t,(f t).kin=t.kin) (k:Nat) (L:List ThingD):(Uy f k L).map ThingD.kin=L.map ThingD.kin:=by
 have hc:ThingD.kin ∘ f=ThingD.kin:=funext hf;rw [Uy,List.map_append,List.map_map,hc,<- List.map_append,List.take_append_drop]
def ThingD.Xdz (t:ThingD):Int:=if t.token then (t.n:Int) else t.of_
def tokF (L:List ThingD) (top tm:Int) (t:ThingD):ThingD:=if Yp L top t.Xdz then Y2 tm t else t
theorem Xqv (L:List ThingD) (top tm:Int) (t:ThingD):(tokF L top tm t).kin=t.kin:=by
 unfold tokF;split
 ·exact Xl9 tm t
 rfl
theorem Tryz.Xin (B:Nat) (vb g cap:Nat) (L:List ThingD) (tm tn ln:Int) (id:List UInt8) (w:World) (h:Xk B w vb g cap L tm tn ln) (hm:Ud id L = -1\/∃(i:Nat) (t:ThingD),L[i]? = some t/\Ud id L=i/\(t.token=false\/t.n=0)) :
  Calls prog 116 #[.pointer (some ⟨vb,0,none⟩),.string ⟨id.toArray⟩] w fun e w'=>e=.returned (.int .i64 1)/\Below w.heap.size w w':=by
 have hF:=Xj4 B vb g cap L tm tn ln id w h
 rcases hm with hm | ⟨i,t,ht,hfi,htk⟩
 ·rw [hm] at hF
  clear hm;go_enter func116,ntmps116
  go_wp2_with (go_at_call 157;refine hF.mono ?_;rintro e w1 ⟨rfl,hb1⟩)
  exact bodyPost_ret (v:=.int .i64 1) (by simp [results,results116,go_sem]) rfl ⟨rfl,hb1⟩
 rw [hfi] at hF;have hlim:=h.lim;have hil:i<L.length:=(List.getElem?_eq_some_iff.1 ht).1
 have hc:=fun W (hb:Below w.heap.size w W)=>((h.below hb).cells ht).1
 have hc1:=fun W (hb:Below w.heap.size w W)=>((h.below hb).cells ht).2.1
 have hv:=fun W (hb:Below w.heap.size w W)=>(h.below hb).v.cell 0 (v:=.slice (some ⟨g,0,none⟩) L.length cap) rfl
 obtain⟨len,hlen⟩:∃ len,L.length=len:=⟨_,rfl⟩
 rw [hlen] at hil hlim;simp only [hlen] at hv;clear hlen hfi
 have hnn:¬ (i:Int)<0:=by omega
 obtain⟨tk,n,o,p,a,l,dm,tr⟩:=t;clear ht;simp only at *;cases tk
 ·clear htk
  go_enter func116,ntmps116
  go_wp2_with (go_at_call 157;refine hF.mono ?_;rintro e w1 ⟨rfl,hb1⟩;have x0:=hc w1 hb1;have v0:=hv w1 hb1)
  exact bodyPost_ret (v:=.int .i64 1) (by simp [results,results116,go_sem]) rfl ⟨rfl,hb1⟩
 obtain rfl:n=0:=by simpa using htk
 clear htk;go_enter func116,ntmps116
 go_wp2_with (go_at_call 157;refine hF.mono ?_;rintro e w1 ⟨rfl,hb1⟩;have x0:=hc w1 hb1;have x1:=hc1 w1 hb1;have v0:=hv w1 hb1)
 exact bodyPost_ret (v:=.int .i64 1) (by simp [results,results116,go_sem]) rfl ⟨rfl,hb1⟩
theorem Tryz.Xkf (B:Nat) (vb g cap:Nat) (L:List ThingD) (tm tn ln:Int) (id:List UInt8) (w:World) (h:Xk B w vb g cap L tm tn ln) (hB:B<=w.heap.size) (hne:vb≠g) (hup:Xa7 L) (i:Nat) (t:ThingD) (ht:L[i]? = some t) (hfi:Ud id L=i) (htk:t.token=true) (hn0:t.n≠0) :
  Calls prog 116 #[.pointer (some ⟨vb,0,none⟩),.string ⟨id.toArray⟩] w fun e w'=>e=.returned (.int .i64 0)/\Xk B w' vb g cap (L.map (tokF L t.n tm)) tm tn ln/\Below B w w'/\Spares [vb,g] w w':=by
 have hF:=Xj4 B vb g cap L tm tn ln id w h;rw [hfi] at hF;have hlim:=h.lim;have hil:i<L.length:=(List.getElem?_eq_some_iff.1 ht).1
 have hc:=fun W (hb:Below w.heap.size w W)=>((h.below hb).cells ht).1
 have hc1:=fun W (hb:Below w.heap.size w W)=>((h.below hb).cells ht).2.1
 rw [htk] at hc
 have hv:=fun W (hb:Below w.heap.size w W)=>(h.below hb).v.cell 0 (v:=.slice (some ⟨g,0,none⟩) L.length cap) rfl
 have Hnum:=Xb h.num;have Hofs:=Xb h.ofs
 obtain⟨len,hlen⟩:∃ len,L.length=len:=⟨_,rfl⟩
 rw [hlen] at hil hlim;simp only [hlen] at hv;have Hlen:=Xb hlen;have hR0:=Xb (fun W (hb:Below w.heap.size w W)=>h.below hb);clear hlen hfi htk h ht
 have hnn:¬ (i:Int)<0:=by omega
 have hn0':((t.n:Int)==0)=false:=by rw [beq_eq_false_iff_ne];omega
 clear hn0
 obtain⟨top,htop⟩:∃ top:Int,(t.n:Int)=top:=⟨_,rfl⟩
 rw [htop] at hn0' ⊢;simp only [htop] at hc1;clear htop;have Hup:=Xb hup;clear hup;go_enter func116,ntmps116
 go_wp2_with (go_at_call 157;refine hF.mono ?_;rintro e w1 ⟨rfl,hb1⟩;have x0:=hc w1 hb1;have x1:=hc1 w1 hb1;have v0:=hv w1 hb1)
 have hB1:=hb1.mono hB;have hS1:Spares [vb,g] w w1:=Spares.of_below hb1;have hR1:=Xa hR0 w1 hb1;have hBw1:B<=w1.heap.size:=Nat.le_trans hB hb1.size;clear hF hc hc1 hv hR0 hb1
 go_loopw [7] (fun i wr=>∃ k:Nat,k<=len/\i=.int .i64 k/\Xk B wr vb g cap (Uy (tokF L top tm) k L) tm tn ln/\Below B w wr/\Spares [vb,g] w wr/\B<=wr.heap.size) (fun i _=>len-(intOf i).toNat)
 case atStart=>exact⟨0,Nat.zero_le _,rfl,by rw [Xg8];exact hR1,hB1,hS1,hBw1⟩
 case round =>
  obtain⟨k,hk,rfl,hR,hBw,hSp,hBs⟩:=hrel
  rename_i wr
  have c0:=hR.v.cell 0 (v:=.slice (some ⟨g,0,none⟩) (Uy (tokF L top tm) k L).length cap) rfl;rw [M4,Xa Hlen] at c0
  by_cases hkl:k<len
  ·obtain⟨s,hs⟩:∃ s,L[k]? = some s:=⟨L[k]'(by have:=Xa Hlen;omega),by simp [Xa Hlen,hkl]⟩
   have hsm:=Xjy (tokF L top tm) hs;have hms:=Xb (Xgc (tokF L top tm) hs);have hkeep:=Xb (fun(e:tokF L top tm s=s)=>(show (Uy (tokF L top tm) k L).set k (tokF L top tm s)=Uy (tokF L top tm) k L by rw [e];exact Xb5 hsm));have hkin:=Xrp (Xqv L top tm) k L;have hpf:Hid (tokF L top tm s=if Yp L top s.Xdz then Y2 tm s else s):=Xb rfl;have hown:Hid (s.Xdz=if s.token then (s.n:Int) else s.of_):=Xb rfl;have hnum:=Xa Hnum s (List.mem_of_getElem? hs);have hofs:=Xa Hofs s (List.mem_of_getElem? hs)
   have hownB : -1<=s.Xdz/\s.Xdz<9223372036854775808:=by
    rw [Xa hown]
    split
    ·omega
    rcases hofs with e | ⟨m,e,hm⟩ <;> rw [e] <;> omega
   have hBl:=fun W (hb:Below wr.heap.size wr W)=>Xvk B vb g cap _ tm tn ln s.Xdz top hownB.1 hownB.2 (Xa7.kin hkin.symm (Xa Hup)) W (hR.below hb)
   simp only [Xkw hkin] at hBl;have hD:=Xb (fun W (hb:Below wr.heap.size wr W)=>Xpv B vb g cap _ tm tn ln W (hR.below hb) (Nat.le_trans hBs hb.size) hne k s hsm);obtain⟨y0,y1,y2,y3,y4,y5,y6,y7⟩:=hR.cells hsm;have HR:=Xb hR;generalize tokF L top tm s=ff at *;generalize hbb:Yp L top s.Xdz=bb at *;generalize hoo:s.Xdz=oo at *;obtain⟨tk,n,o,p,a,l,dm,tr⟩:=s;clear hR hs hsm hkin hnum hofs hownB hbb hoo;simp only at *;cases tk
   case' false =>
    have ho:oo=o:=Xa hown;rw [<- ho] at y2
   case' true =>
    have ho:oo=(n:Int):=Xa hown;rw [<- ho] at y1
   all_goals
    clear ho hown;cases bb
   all_goals
    go_wp2_with (first
     | (go_at_call 160;refine(hBl _ (by first | exact(Below.refl _ _).alloc (Nat.le_refl _) _ | exact((Below.refl _ _).alloc (Nat.le_refl _) _).drew)).mono ?_;rintro e w3 ⟨rfl,rfl⟩)
     | (go_at_call 158;refine(Xa hD _ (by first | exact(Below.refl _ _).alloc (Nat.le_refl _) _ | exact((Below.refl _ _).alloc (Nat.le_refl _) _).drew)).mono ?_;rintro e w5 ⟨rfl,hr5,hb5,hs5⟩))
    go_roundw
    case rel=>first
     | exact⟨k+1,by omega,rfl,by rw [Xa hms,Xa hpf];exact hr5,(hBw.alloc hBs _).trans hb5,(hSp.alloc _).trans hs5,Nat.le_trans hBs (Nat.le_trans (by simp) hb5.size)⟩
     | exact⟨k+1,by omega,rfl,by rw [Xa hms,Xa hkeep (Xa hpf)];exact(Xa HR).below ((Below.refl _ _).alloc (Nat.le_refl _) _),hBw.alloc hBs _,hSp.alloc _,by simp;omega⟩
    case measure=>simp [intOf];omega
  obtain rfl:k=len:=by omega
  have hmx:=Xb (Xjm (tokF L top tm) L (Nat.le_of_eq (Xa Hlen)));have HR:=Xb hR;clear hR;go_wp2;exact bodyPost_ret (v:=.int .i64 0) (by simp [results,results116,go_sem]) rfl ⟨rfl,by rw [<- Xa hmx];exact Xa HR,hBw,hSp⟩
end Go.Proofs
