import Derived.Test.YtjbekgjdempbiaaGreatDoorJRvG
set_option maxRecDepth 100000
set_option maxHeartbeats 8000000
namespace Go.Proofs
open Go.RowKit Go.Sort Go.Lib Go.Shelf Go.Maps Go.WideMaps
attribute [local go_sem] Oper.semAt_some
theorem Tryz.vRevTok_ok (k:Blk) (vx:VX) (tm:Int) (tn ln:Nat) (tks:List TokE) (lks:List LeaE) (c:List UInt8) (l f:Int) (w:World) (hW:Whole w k vx tm ⟨tn,ln,tks,lks⟩ c l f) (hl:l<0) (hl1 : -999999990≤l) (hf:f<0) (hf1 : -999999990≤f) (hc:c.length≤900000000000) (nT:tks.length≤200) (nL:lks.length≤200) (id:List UInt8) (hid:id.length≤1000000) (t:TokE) (ht:t∈tks) (h0:t.n≠0) (hp:parseN id=(1,(t.n:Int))) (bL:LeaE→Bool) (bT:TokE→Bool) (hCL:∀ l∈lks,∃ n,ClimbN tks (1,(t.n:Int)) (bL l) n (l.ak,(l.au:Int))) (hCT:∀ z∈tks,∃ n,ClimbN tks (1,(t.n:Int)) (bT z) n (1,(z.n:Int))) :
  CallsIn Fence.wide 9 prog 50 #[.pointer (some ⟨k.vb,0,none⟩),.string ⟨id.toArray⟩] w fun e w'=>e=.returned .nilIface∧(∃ c' l' f',c'.length≤c.length+1300000∧Whole w' k vx tm ⟨tn,ln,tks.map (fun z=>if !z.pd&&bT z then revT tm z else z),lks.map (fun z=>if goL tm bL z then revL tm z else z)⟩ c' l' f')∧Spares k.turns w w':=by
 obtain⟨vb,hvb⟩:∃ vb,vb=k.vb:=⟨_,rfl⟩
 obtain⟨mt,hmt⟩:∃ mt,mt=k.mt:=⟨_,rfl⟩
 obtain⟨ml,hml⟩:∃ ml,ml=k.ml:=⟨_,rfl⟩
 have hV:VaultAt w vb mt ml vx tm tn ln tks lks:=by rw [hvb,hmt,hml];exact hW.v.va
 rw [← hvb];have HKB:=hid_intro (And.intro hvb (And.intro hmt hml));have HW:=hid_intro hW;clear hvb hmt hml hW;have H0:=hid_intro h0;clear h0;have hB0:Below w.heap.size w (w.alloc (.cells #[.pointer (some ⟨vb,0,none⟩)] 76)):=(Below.refl _ w).alloc (Nat.le_refl _) _;have hV0:=hV.below hB0;have hP:=parse ⟨id.toArray⟩ (by simpa [ByteArray.size] using hid) _ hV0.env hV0.six;simp only [hp] at hP;have bV:=BoxN.new w 76 #[.pointer (some ⟨vb,0,none⟩)];have lv:=hV.v.lt;have hfp:Fence.wide.fn 63:=trivial;have hfr:Fence.wide.fn 85:=trivial;unfold nmV at hP;refine callsIn_of_wp_marks func50 rfl trivial ?_ rfl;simp only [ntmps50,List.size_toArray,List.length_cons,List.length_nil,Nat.reduceAdd,Nat.reduceSub,Array.replicate_succ,Array.replicate_zero,List.push_toArray,List.append_toArray,List.nil_append,List.cons_append]
 gi_wp2_with (gi_at_call 63;refine(callsIn_wide.2 hP).mono ?_;rintro e w1 ⟨rfl,hb1'⟩)
 have hB1:=(hB0.trans (hb1'.mono hB0.size)).alloc (Nat.le_trans hB0.size hb1'.size) (.cells #[.int .i64 1,.int .u64 (t.n:Int)] 114);have bN:=BoxN.new w1 114 #[.int .i64 1,.int .u64 (t.n:Int)];have bV1:=(bV.below hb1' bV.lt).alloc (.cells #[.int .i64 1,.int .u64 (t.n:Int)] 114)
 obtain⟨N,hs0⟩:∃ N,(w1.alloc (.cells #[.int .i64 1,.int .u64 (t.n:Int)] 114)).heap.size=N:=⟨_,rfl⟩
 have hN:N=w1.heap.size+1:=by rw [← hs0];simp
 obtain⟨nb,hnb⟩:∃ nb,w1.heap.size=nb:=⟨_,rfl⟩
 have hz1:w.heap.size<nb:=by rw [← hnb];have:=hb1'.size;simp at this;omega
 rw [hnb] at bN hN;rw [hnb];generalize (w1.alloc (.cells #[.int .i64 1,.int .u64 (t.n:Int)] 114))=W1 at *;clear hnb hb1' hP hV0 hB0 bV
 have hS:∀ W,Below N W1 W→LkV w.heap.size vb 3 mt nb 120 1 (t.n:Int) (.tuple #[.agg #[.int .i64 t.ak,.int .u64 (t.au:Int),.int .u64 t.at_,.int .i64 t.tr,.bool t.pd],.bool true]) W:=fun W hb=>by
  have bN':=bN.below hb (by omega);have bV':=bV1.below hb (by omega);have hV':=hV.below (hB1.trans (hb.mono (by omega)));exact⟨bV'.cell 0 rfl,hV'.v.cell 3 rfl,bN'.cell 0 rfl,bN'.cell 1 rfl,hV'.lookT ht⟩
 have hb1:Below N W1 W1.drew:=(Below.refl _ _).drew;refine wpIn_wide.2 (wp_normal ?_);refine wp_region_held_drew (S:=(LkV w.heap.size vb 3 mt nb 120 1 (t.n:Int) (.tuple #[.agg #[.int .i64 t.ak,.int .u64 (t.au:Int),.int .u64 t.at_,.int .i64 t.tr,.bool t.pd],.bool true]))) (by kernel_rfl) (hS _ hb1) (fun hS0=>?_);refine wpAnyH_take (i:=0) (v:=?v0) rfl (by kernel_rfl) (by kernel_rfl) (by kernel_rfl) (fun _ _ _ h=>h) (Or.inl ⟨by kernel_rfl,?y0⟩) hS0 ?_
 case y0=>(intro w hSw;obtain⟨q0,q1,q2,q3,q4⟩:=hSw;go_simp;try with_reducible rfl)
 refine wpAnyH_take (i:=1) (v:=?v1) rfl (by kernel_rfl) (by kernel_rfl) (by kernel_rfl) (fun _ _ _ h=>h) (Or.inl ⟨by kernel_rfl,?y1⟩) hS0 ?_
 case y1=>(intro w hSw;obtain⟨q0,q1,q2,q3,q4⟩:=hSw;go_simp;try with_reducible rfl)
 refine wpAnyH_take (i:=2) (v:=?v2) rfl (by kernel_rfl) (by kernel_rfl) (by kernel_rfl) (fun _ _ _ h=>h) (Or.inl ⟨by kernel_rfl,?y2⟩) hS0 ?_
 case y2=>(intro w hSw;obtain⟨q0,q1,q2,q3,q4⟩:=hSw;go_simp;try with_reducible rfl)
 refine wpAnyH_take (i:=3) (v:=?v3) rfl (by kernel_rfl) (by kernel_rfl) (by kernel_rfl) (fun _ _ _ h=>h) (Or.inl ⟨by kernel_rfl,?y3⟩) hS0 ?_
 case y3=>(intro w hSw;obtain⟨q0,q1,q2,q3,q4⟩:=hSw;go_simp;try with_reducible rfl)
 refine wpAnyH_take (i:=4) (v:=?v4) rfl (by kernel_rfl) (by kernel_rfl) (by kernel_rfl) (fun _ _ _ h=>h) (Or.inl ⟨by kernel_rfl,?y4⟩) hS0 ?_
 case y4=>(intro w hSw;obtain⟨q0,q1,q2,q3,q4⟩:=hSw;go_simp;try with_reducible rfl)
 refine wpAnyH_take (i:=5) (v:=?v5) rfl (by kernel_rfl) (by kernel_rfl) (by kernel_rfl) (fun _ _ _ h=>h) (Or.inl ⟨by kernel_rfl,?y5⟩) hS0 ?_
 case y5=>(intro w hSw;obtain⟨q0,q1,q2,q3,q4⟩:=hSw;go_simp;try with_reducible rfl)
 refine wpAnyH_take (i:=6) (v:=?v6) rfl (by kernel_rfl) (by kernel_rfl) (by kernel_rfl) (fun _ _ _ h=>h) (Or.inl ⟨by kernel_rfl,?y6⟩) hS0 ?_
 case y6=>(intro w hSw;obtain⟨q0,q1,q2,q3,q4⟩:=hSw;go_simp;try with_reducible rfl)
 refine wpAnyH_take (i:=7) (v:=?v7) rfl (by kernel_rfl) (by kernel_rfl) (by kernel_rfl) (fun _ _ _ h=>h) (Or.inl ⟨by kernel_rfl,?y7⟩) hS0 ?_
 case y7=>(intro w hSw;obtain⟨q0,q1,q2,q3,q4⟩:=hSw;go_simp;try with_reducible rfl)
 refine wpAnyH_take (i:=8) (v:=?v8) rfl (by kernel_rfl) (by kernel_rfl) (by kernel_rfl) (fun _ _ _ h=>h) (Or.inl ⟨by kernel_rfl,?y8⟩) hS0 ?_
 case y8=>(intro w hSw;obtain⟨q0,q1,q2,q3,q4⟩:=hSw;go_simp;try with_reducible rfl)
 refine wpAnyH_ready (rs:=[9]) (by kernel_rfl) (by simp) ?_;refine AllReadyH.cons rfl (fun K hK=>?_) AllReadyH.nil;go_simp;refine hK.out _ _ (hS _ (hb1.alloc (by simp [hs0]) _)) (fun hS1=>?_);clear hK K;refine wpAnyH_ready (rs:=[10]) (by kernel_rfl) (by simp) ?_;refine AllReadyH.cons rfl (fun K hK=>?_) AllReadyH.nil;go_simp;have hb2:Below N W1 (W1.alloc (.cells #[.int .i64 t.ak,.int .u64 (t.au:Int),.int .u64 t.at_,.int .i64 t.tr,.bool t.pd] 153)).drew:=((Below.refl _ _).alloc (by omega) _).drew;refine hK.out _ _ (hS _ hb2) (fun hS2=>?_);clear hK K;refine wpAnyH_ready (rs:=[11]) (by kernel_rfl) (by simp) ?_;refine AllReadyH.cons rfl (fun K hK=>?_) AllReadyH.nil;go_simp;refine hK.out _ _ hS2 (fun _=>?_);clear hK K hS0 hS1 hS2;refine wpAnyH_done (by kernel_rfl) ?_ _;have bN2:=bN.below hb2 (by omega);have hB2:=hB1.trans (hb2.mono (by omega));clear hS hb1;have bV2:=bV1.below hb2 (by omega);clear hb2;generalize (W1.alloc (.cells #[.int .i64 t.ak,.int .u64 (t.au:Int),.int .u64 t.at_,.int .i64 t.tr,.bool t.pd] 153)).drew=W2 at *
 have hQ2:NbP nb 1 (t.n:Int) W2.drew:=⟨bN2.cell 0 rfl,bN2.cell 1 rfl⟩
 gi_wp2_with fail
 refine wpIn_wide.2 (wp_normal ?_);refine wp_region_held_drew (S:=NbP nb 1 (t.n:Int)) (by kernel_rfl) hQ2 (fun hS1=>?_);refine wpAnyH_take (i:=0) (v:=?av0) rfl (by kernel_rfl) (by kernel_rfl) (by kernel_rfl) (fun _ _ _ h=>h) (Or.inl ⟨by kernel_rfl,?ay0⟩) hS1 ?_
 case ay0=>(intro w hSw;obtain⟨q0,q1⟩:=hSw;go_simp;try with_reducible rfl)
 refine wpAnyH_take (i:=1) (v:=?av1) rfl (by kernel_rfl) (by kernel_rfl) (by kernel_rfl) (fun _ _ _ h=>h) (Or.inl ⟨by kernel_rfl,?ay1⟩) hS1 ?_
 case ay1=>(intro w hSw;obtain⟨q0,q1⟩:=hSw;go_simp;try with_reducible rfl)
 refine wpAnyH_take (i:=2) (v:=?av2) rfl (by kernel_rfl) (by kernel_rfl) (by kernel_rfl) (fun _ _ _ h=>h) (Or.inl ⟨by kernel_rfl,?ay2⟩) hS1 ?_
 case ay2=>(intro w hSw;obtain⟨q0,q1⟩:=hSw;go_simp;try with_reducible rfl)
 have h0':((t.n:Int)==0)=false:=by have:=hid_elim H0;rw [beq_eq_false_iff_ne];omega
 refine wpAnyH_take (i:=3) (v:=?av3) rfl (by kernel_rfl) (by kernel_rfl) (by kernel_rfl) (fun _ _ _ h=>h) (Or.inl ⟨by kernel_rfl,?ay3⟩) hS1 ?_
 case ay3=>(intro w hSw;obtain⟨q0,q1⟩:=hSw;go_simp;try with_reducible rfl)
 refine wpAnyH_ready (rs:=[4]) (by kernel_rfl) (by simp) ?_;refine AllReadyH.cons rfl (fun K hK=>?_) AllReadyH.nil;go_simp;have hRt:=root W2.drew;unfold nmV at hRt;refine hRt.mono ?_;rintro e w5 ⟨rfl,hb5⟩
 have hQ5:NbP nb 1 (t.n:Int) w5:=⟨cell_later hb5 hQ2.1,cell_later hb5 hQ2.2⟩
 refine hK.out _ _ hQ5 (fun hS2=>?_);clear hK K;refine wpAnyH_take (i:=5) (v:=?av5) rfl (by kernel_rfl) (by kernel_rfl) (by kernel_rfl) (fun _ _ _ h=>h) (Or.inl ⟨by kernel_rfl,?ay5⟩) hS2 ?_
 case ay5=>(intro w hSw;obtain⟨q0,q1⟩:=hSw;go_simp;try with_reducible rfl)
 refine wpAnyH_take (i:=6) (v:=?av6) rfl (by kernel_rfl) (by kernel_rfl) (by kernel_rfl) (fun _ _ _ h=>h) (Or.inl ⟨by kernel_rfl,?ay6⟩) hS2 ?_
 case ay6=>(intro w hSw;obtain⟨q0,q1⟩:=hSw;go_simp;try with_reducible rfl)
 refine wpAnyH_done (by kernel_rfl) ?_ _;go_simp
 have hmf:∀(fn:Fn) (first cap:Array Value) (w:World),(Instr.makeFunc fn first cap).run prog w=.ok (.func fn first cap) w:=fun _ _ _ _=>rfl
 have bV5:=(show BoxN W2.drew _ _ _ from bV2).below hb5 bV2.lt;have bN5:=(show BoxN W2.drew _ _ _ from bN2).below hb5 bN2.lt;have cV5:=bV5.cell 0 (v:=.pointer (some ⟨vb,0,none⟩)) rfl;have hB5:Below w.heap.size w w5:=hB2.drew.trans (hb5.mono hB2.drew.size);have hV5:=hV.below hB5
 have hRL:=(callsIn_wide (n:=8)).2 (callsIn_wide.1 (revLeaTok vb mt ml vx tm tn ln tks lks w5 hV5 w.heap.size nb bL (fun l hl W' hb'=>by
  obtain⟨m,hm⟩:=hCL l hl
  exact vRevTok1 vb mt ml vx tm tn ln tks lks w.heap.size nb (1,(t.n:Int)) l W' (hV5.below hb') (bV5.below hb' bV5.lt) (bN5.below hb' bN5.lt) (bL l) m hm)))
 have hfq:Fence.wide.fn 86:=trivial;have hfw:Fence.wide.fn 79:=trivial;have hfk:Fence.wide.fn 66:=trivial;clear hRt hQ5 hS2 hQ2 hS1 hb5 hB2 bV2 bN2 bV1 hB1 bN
 gi_wp2_with (first
  | (gi_at_call 86;refine hRL.mono ?_;rintro e w6 ⟨v,rfl,hr6,hb6⟩;obtain⟨pp,pcap,rfl⟩:=rowForm hr6;have hB6:Below w.heap.size w w6:=hB5.trans (hb6.mono hB5.size);have bV6:=(bV5.below hb6 bV5.lt).alloc (.cells #[.slice pp (revI tm bL lks).length pcap] 162);have bN6:=(bN5.below hb6 bN5.lt).alloc (.cells #[.slice pp (revI tm bL lks).length pcap] 162);have cV6:=bV6.cell 0 (v:=.pointer (some ⟨vb,0,none⟩)) rfl;have hV6:=(hV.below hB6);have bVl:=hV6.v.alloc (.cells #[.slice pp (revI tm bL lks).length pcap] 162);have cM6:=bVl.cell 3 (v:=.map (some mt)) rfl)
  | (gi_at_call 79;refine(callsIn_wide.2 (walkTok (some mt) _)).mono ?_;rintro e w' ⟨rfl,rfl⟩))
 obtain⟨v0,hv0⟩:∃ v0,v0=Value.slice pp (revI tm bL lks).length pcap:=⟨_,rfl⟩
 rw [← hv0] at hr6 bV6 bN6 cV6 bVl cM6 ⊢;clear hv0;obtain⟨i0,hi,hz0,hz1,hz2⟩:=info_parts recInfo;have hok:=hV.ok;have bL6:BoxN (w6.alloc (.cells #[v0] 162)) w6.heap.size 162 #[v0]:=BoxN.new w6 162 #[v0];have hr7:=hr6.alloc (.cells #[v0] 162);have bM8:=BoxN.new (w6.alloc (.cells #[v0] 162)) 120 #[.map (some mt)];rw [World.size_alloc] at bM8;have hB7:=hB6.alloc hB6.size (.cells #[v0] 162)
 have hz7:(w6.alloc (.cells #[v0] 162)).heap.size=w6.heap.size+1:=by simp
 have hB8:=hB7.alloc hB7.size (.cells #[.map (some mt)] 120)
 have hz8:((w6.alloc (.cells #[v0] 162)).alloc (.cells #[.map (some mt)] 120)).heap.size=w6.heap.size+1+1:=by simp
 have hV8:=hV.below hB8;have bV8:=bV6.alloc (.cells #[.map (some mt)] 120);have bN8:=bN6.alloc (.cells #[.map (some mt)] 120);have bL8:=bL6.alloc (.cells #[.map (some mt)] 120);have hr8:=hr7.alloc (.cells #[.map (some mt)] 120)
 obtain⟨B0,hB0e⟩:∃ B0,w5.heap.size=B0:=⟨_,rfl⟩
 rw [hB0e] at hr8
 have hB0w:w.heap.size≤B0:=by rw [← hB0e];exact hB5.size
 have hlo6:B0≤w6.heap.size:=by rw [← hB0e];exact hb6.size
 obtain⟨LI,hLI⟩:∃ LI,LI=revI tm bL lks:=⟨_,rfl⟩
 rw [← hLI] at hr8
 have hlLI:LI.length≤200:=by rw [hLI];exact Nat.le_trans revI_len nL
 have nbl:nb<w6.heap.size:=by have:=(bN5.below hb6 bN5.lt).lt;exact this
 have HLI:=hid_intro hLI;clear hLI hB0e hr6 hr7 bV6 bN6 cV6 bVl cM6 bL6 hB7 hV6 hB6 hRL hV5 hB5 cV5 bV5 bN5 hb6
 obtain⟨LB,hLB⟩:∃ LB,LB=w6.heap.size:=⟨_,rfl⟩
 rw [← hLB] at bM8 hz7 hz8 bL8 hlo6 nbl ⊢;generalize ((w6.alloc (.cells #[v0] 162)).alloc (.cells #[.map (some mt)] 120))=W1 at *;clear hLB hz7;obtain⟨kT,sT⟩:=hV8.ok.ksT;obtain⟨nTm,hnT,mT⟩:=hV8.held.mapT
 refine wpIn_rangeFunc_ownH rfl (by omega) (gf:=136) (lb:=#[.pointer (some ⟨LB+1,0,none⟩)]) rfl trivial enters136
  (walkTok_stops 8 (by omega) badS (by decide) (by decide) (LB+1) mt nTm (tks.map TokE.key) kT sT (by have:=hok.lenT;simp;omega) (TokE.sh tks) W1 bM8 mT) keepsT_t keepsT_b (Below.refl _ _) (fun _=>rfl)
  (fun pre V=>(((∃ v,Boxed V LB 162 v∧V.ownsRow B0 135 10 v (LI++revJ tm bT (pre.map tokOf)).length (flatR ((LI++revJ tm bT (pre.map tokOf)).map Item.rec_))∧True)∧BoxN V w.heap.size 76 #[.pointer (some ⟨vb,0,none⟩)])∧BoxN V nb 114 #[.int .i64 1,.int .u64 (t.n:Int)])∧Below w.heap.size w V)
  (fun _ _ _=>False)
  (OwnFrom.and (OwnFrom.and (OwnFrom.and (Own.from (holdsRow_own _ _ _ _ _ (fun pre:List { x // x∈tks.map TokE.key }=>(LI++revJ tm bT (pre.map tokOf)).length) (fun pre=>flatR ((LI++revJ tm bT (pre.map tokOf)).map Item.rec_)) (fun _ _=>True)) _) (Own.from (boxN_own _ _ (fun _=>#[.pointer (some ⟨vb,0,none⟩)])) _)) (Own.from (boxN_own _ _ (fun _=>#[.int .i64 1,.int .u64 (t.n:Int)])) _)) (ownFrom_below (Nat.le_refl _) (by omega)))
  (fun _ _ _ _ _ hs _ _=>hs)
  ⟨⟨⟨⟨_,bL8,by simpa [revJ] using hr8,trivial⟩,bV8⟩,bN8⟩,hB8⟩
  (fun x a' V=>∃ Bx Bt,LB<Bx∧LB<Bt∧Bx≠Bt∧BoxN V Bx 114 #[.int .i64 x.1.1.1,.int .u64 x.1.1.2]∧BoxN V Bt 153 (tokOf x).cells∧a' = { tmps:=#[.pointer (some ⟨vb,0,none⟩),.string ⟨id.toArray⟩,.pointer (some ⟨w.heap.size,0,none⟩),undef,.nilIface,.pointer (some ⟨nb,0,none⟩),.pointer (some ⟨nb+1,0,none⟩),.bool true,.pointer (some ⟨LB,0,none⟩),.pointer (some ⟨Bx,0,none⟩),.pointer (some ⟨Bt,0,none⟩),.string ⟨id.toArray⟩,.agg #[.int .i64 1,.int .u64 (t.n:Int)],.tuple #[.agg #[.int .i64 t.ak,.int .u64 (t.au:Int),.int .u64 t.at_,.int .i64 t.tr,.bool t.pd],.bool true],.pointer (some ⟨vb,0,none⟩),.pointer (some ⟨vb,0,none⟩),.pointer (some ⟨vb,3,none⟩),.map (some mt),.agg #[.int .i64 1,.int .u64 (t.n:Int)],.tuple #[.agg #[.int .i64 t.ak,.int .u64 (t.au:Int),.int .u64 t.at_,.int .i64 t.tr,.bool t.pd],.bool true],.agg #[.int .i64 t.ak,.int .u64 (t.au:Int),.int .u64 t.at_,.int .i64 t.tr,.bool t.pd],.bool true,.bool true,.bool false,.bool false,.agg #[.int .i64 1,.int .u64 (t.n:Int)],.agg #[.int .i64 1,.int .u64 0],.bool false,.bool false,undef,.pointer (some ⟨vb,0,none⟩),.func (.func 87) #[] #[.pointer (some ⟨w.heap.size,0,none⟩),.pointer (some ⟨nb,0,none⟩)],v0,.pointer (some ⟨vb,0,none⟩),.pointer (some ⟨vb,0,none⟩),.pointer (some ⟨vb,3,none⟩),.map (some mt),.func (.func 136) #[] #[.pointer (some ⟨LB+1,0,none⟩)],.agg #[.int .i64 x.1.1.1,.int .u64 x.1.1.2],.agg (tokOf x).cells,undef,undef,undef,undef,undef,undef,undef,undef,undef,undef,undef,undef,undef,undef,undef,undef,undef,undef,undef,undef,undef,undef,undef],defers:=[] })
  (fun x a' _ X Y row hs hgr hr=>by obtain⟨Bx,Bt,h1,h2,h3,h4,h5,h6⟩:=hs;exact⟨Bx,Bt,h1,h2,h3,boxN_own Bx 114 (fun(_:Unit)=>#[.int .i64 x.1.1.1,.int .u64 x.1.1.2]) () X Y row h4 hgr (fun r e=>(hr r e).2),boxN_own Bt 153 (fun(_:Unit)=>(tokOf x).cells) () X Y row h5 hgr (fun r e=>(hr r e).2),h6⟩)
  ?assign ?body ?done ?stop
 case assign =>
  rintro ll pre x X K ⟨⟨⟨⟨v,b1,hr1,-⟩,bV⟩,bN⟩,hBX⟩ hK
  have e2:x.1.2=.agg (tokOf x).cells:=by rw [← (tokOf_spec x).2];rfl
  rw [e2];unfold nmV;simp only [TokE.cells] at hK ⊢
  gi_wp2
  have hBB:Below X.heap.size X ((X.alloc (.cells #[.int .i64 x.1.1.1,.int .u64 x.1.1.2] 114)).alloc (.cells (tokOf x).cells 153)):=((Below.refl _ X).alloc (Nat.le_refl _) _).alloc (by simp) _;have hl1:=b1.lt;refine hK _ _ (((KeepsOthers.alloc _ _).from _).trans ((KeepsOthers.alloc _ _).from _)) ((KeepsT.alloc _ _).trans (KeepsT.alloc _ _)) ⟨⟨⟨⟨v,(b1.alloc _).alloc _,(hr1.alloc _).alloc _,trivial⟩,(bV.alloc _).alloc _⟩,(bN.alloc _).alloc _⟩,hBX.trans (hBB.mono hBX.size)⟩ ⟨X.heap.size,X.heap.size+1,hl1,by omega,by omega,(BoxN.new X 114 _).alloc _,?_,?_⟩
  ·have:=BoxN.new (X.alloc (.cells #[.int .i64 x.1.1.1,.int .u64 x.1.1.2] 114)) 153 (tokOf x).cells
   rwa [World.size_alloc] at this
  ·simp
 case body =>
  rintro ll pre x a' V hl ⟨r,hr⟩ ⟨⟨⟨⟨v,b1,hr1,-⟩,bV⟩,bN⟩,hBV⟩ ⟨Bx,Bt,hx1,hx2,hx3,bX,bTk,rfl⟩ hlt';obtain⟨htm,hkx⟩:=tokOf_spec x
  have hsn:LI++revJ tm bT ((pre ++ [x]).map tokOf)=(LI++revJ tm bT (pre.map tokOf))++revJ tm bT [tokOf x]:=by simp [revJ]
  obtain⟨tk,htk⟩:∃ tk,tokOf x=tk:=⟨_,rfl⟩
  rw [htk] at htm hkx bTk hsn ⊢;obtain⟨x,hxm⟩:=x;simp only at hkx;subst hkx
  have hlr:(LI++revJ tm bT (pre.map tokOf)).length≤1000:=by
   have e1:(revJ tm bT (pre.map tokOf)).length≤(pre.map tokOf).length:=by unfold revJ;rw [List.length_map];exact List.length_filter_le _ _
   simp at hlt' e1;rw [List.length_append];omega
  obtain⟨J,hJ⟩:∃ J,J=LI++revJ tm bT (pre.map tokOf):=⟨_,rfl⟩
  rw [← hJ] at hsn hr1 hlr
  have hend:∀ V' v',KeepsFrom W1.heap.size V V'→KeepsT badS V V'→Boxed V' LB 162 v'→V'.ownsRow B0 135 10 v' (J++revJ tm bT [tk]).length (flatR ((J++revJ tm bT [tk]).map Item.rec_))→BoxN V' w.heap.size 76 #[.pointer (some ⟨vb,0,none⟩)]→BoxN V' nb 114 #[.int .i64 1,.int .u64 (t.n:Int)]→Below w.heap.size w V'→KeepsFrom W1.heap.size V V'∧KeepsT badS V V'∧(((∃ v,Boxed V' LB 162 v∧V'.ownsRow B0 135 10 v (LI++revJ tm bT ((pre ++ [(⟨tk.key,hxm⟩:{ p // p∈tks.map TokE.key })]).map tokOf)).length (flatR ((LI++revJ tm bT ((pre ++ [(⟨tk.key,hxm⟩:{ p // p∈tks.map TokE.key })]).map tokOf)).map Item.rec_))∧True)∧BoxN V' w.heap.size 76 #[.pointer (some ⟨vb,0,none⟩)])∧BoxN V' nb 114 #[.int .i64 1,.int .u64 (t.n:Int)])∧Below w.heap.size w V':=fun V' v' h1 h2 h3 h4 h5 h6 h7=>⟨h1,h2,⟨⟨⟨v',h3,by rw [hsn];exact h4,trivial⟩,h5⟩,h6⟩,h7⟩
  have hVV:=hV.below hBV;have ct:=hVV.v.cell 2 (v:=.int .u64 tm) rfl;have cB:=bV.cell 0 (v:=.pointer (some ⟨vb,0,none⟩)) rfl;have cN0:=bN.cell 0 (v:=.int .i64 1) rfl;have cN1:=bN.cell 1 (v:=.int .u64 (t.n:Int)) rfl;have cX0:=bX.cell 0 (v:=.int .i64 1) rfl;have cX1:=bX.cell 1 (v:=.int .u64 (tk.n:Int)) rfl;have hL:=entryLive Bt tk.pd V (bTk.cell 4 rfl);obtain⟨mC,hmC⟩:=hCT tk htm;have hPl:=isWithin vb mt ml vx tm tn ln tks lks V hVV (1,(tk.n:Int)) (1,(t.n:Int)) mC (bT tk) hmC;have hfl:Fence.wide.fn 89:=trivial;have hfc:Fence.wide.fn 88:=trivial;have hfe:Fence.wide.fn 90:=trivial;have hfd:Fence.wide.fn 84:=trivial;have HE:=hid_intro hend;have hBVs:=hBV.size;simp only [TokE.key] at HE ⊢;clear hend hsn hVV hJ;unfold nmV at hPl;simp only [TokE.cells] at hPl ⊢
  by_cases hpd:tk.pd=true
  ·rw [hpd] at hL
   have hno:revJ tm bT [tk] = []:=by simp [revJ,hpd]
   rw [hno,List.append_nil] at HE
   gi_wp2_with (gi_at_call 89;refine(callsIn_wide.2 hL).mono ?_;rintro e V ⟨rfl,rfl⟩)
   exact(hid_elim HE) _ v (keepsFrom_below _ (Below.refl _ _)) (KeepsT.below (Below.refl _ _)) b1 hr1 bV bN hBV
  ·have hpd:tk.pd=false:=by simpa using hpd
   rw [hpd] at hL
   cases hpt:bT tk with
   | false =>
    rw [hpt] at hPl
    have hno:revJ tm bT [tk] = []:=by simp [revJ,hpt]
    rw [hno,List.append_nil] at HE
    gi_wp2_with (first
     | (gi_at_call 89;refine(callsIn_wide.2 hL).mono ?_;rintro e V ⟨rfl,rfl⟩)
     | (gi_at_call 88;refine(callsIn_wide.2 hPl).mono ?_;rintro e w4 ⟨rfl,hb4⟩))
    exact(hid_elim HE) _ v (keepsFrom_below _ hb4) (KeepsT.below hb4) ((show BoxN _ _ _ _ from b1).below hb4 b1.lt) (ownsRow_below hr1 hb4) (bV.below hb4 bV.lt) (bN.below hb4 bN.lt) (hBV.trans (hb4.mono hBVs))
   | true =>
    rw [hpt] at hPl
    have hyes:revJ tm bT [tk] = [.tok (revT tm tk)]:=by simp [revJ,hpd,hpt]
    rw [hyes] at HE
    gi_wp2_with (first
     | (gi_at_call 89;refine(callsIn_wide.2 hL).mono ?_;rintro e V ⟨rfl,rfl⟩)
     | (gi_at_call 88;refine(callsIn_wide.2 hPl).mono ?_;rintro e w4 ⟨rfl,hb4⟩;have bT4:=bTk.below hb4 bTk.lt;have bV4:=bV.below hb4 bV.lt;have cB4:=bV4.cell 0 (v:=.pointer (some ⟨vb,0,none⟩)) rfl;have ct4:=cell_later hb4 ct;have hRv:=eRevoke Bt 153 tk.ak (tk.au:Int) tk.at_ tk.tr tm tk.pd [] w4 (by simpa [TokE.cells] using bT4))
     | (gi_at_call 90;refine(callsIn_wide.2 hRv).mono ?_;rintro e w5 ⟨rfl,bT5,hs5⟩))
    have bX5:=hs5.box (bX.below hb4 bX.lt) (fun hm=>hx3 (List.mem_singleton.1 hm));have bL5:BoxN w5 LB 162 #[v]:=hs5.box ((show BoxN _ _ _ _ from b1).below hb4 b1.lt) (fun hm=>by have:=List.mem_singleton.1 hm;omega);have bV5:=hs5.box bV4 (fun hm=>by have:=List.mem_singleton.1 hm;omega);have bN5:=hs5.box (bN.below hb4 bN.lt) (fun hm=>by have:=List.mem_singleton.1 hm;omega)
    have hr5:=hs5.row' (ownsRow_below hr1 hb4) (fun g hg hm=>by
     obtain⟨-,cs,hB⟩:=row_box (ownsRow_below hr1 hb4) hg
     exact hB.ne bT4 (by decide) (List.mem_singleton.1 hm))
    have hB5:Below w.heap.size w w5:=(hBV.trans (hb4.mono hBVs)).trans (hs5.below (Nat.le_trans hBVs hb4.size) (fun b hb=>by rw [List.mem_singleton.1 hb];omega));have kf5:KeepsFrom W1.heap.size V w5:=keepsFrom_up ((keepsFrom_below 0 hb4).trans (hs5.keepsFrom (fun b hb=>by rw [List.mem_singleton.1 hb];exact⟨_,_,bT4⟩) 0)) (Nat.zero_le _);have kt5:KeepsT badS V w5:=(KeepsT.below hb4).trans (hs5.keepsT (fun b hb=>by rw [List.mem_singleton.1 hb];exact⟨_,_,bT4,by decide⟩))
    have hrec:∀ m X,Below w5.heap.size w5 X→CallsIn Fence.wide m prog 84 #[.pointer (some ⟨Bt,0,none⟩),.agg #[.int .i64 1,.int .u64 (tk.n:Int)]] X fun e X'=>e=.returned (.agg (recCells 1 1 (tk.n:Int) tk.ak (tk.au:Int) true tm tk.tr 0 []))∧Below X.heap.size X X':=fun m X hbX=>by
     have bTX:=bT5.below hbX bT5.lt;exact callsIn_wide.2 (entRecord Bt 1 (tk.n:Int) tk.ak (tk.au:Int) tm tk.tr true X (bTX.cell 0 (by simp)) (bTX.cell 1 (by simp)) (bTX.cell 2 (by simp)) (bTX.cell 3 (by simp)) (bTX.cell 4 (by simp)))
    unfold recCells at hrec
    have hfin:∀(V5 w8:World) (g8 cap8:Nat),Below w5.heap.size w5 V5→(V5.alloc (.cells #[.int .i64 1,.int .i64 1,.int .u64 (tk.n:Int),.int .i64 tk.ak,.int .u64 (tk.au:Int),.bool true,.int .u64 tm,.int .i64 tk.tr,.int .u64 0,.string ⟨#[]⟩] 135)).grownBy w8 v.ownBlock→w8.ownsRow B0 135 10 (.slice (some ⟨g8,0,none⟩) (J.length+1) cap8) (J.length+1) (flatR (J.map Item.rec_) ++ [.int .i64 1,.int .i64 1,.int .u64 (tk.n:Int),.int .i64 tk.ak,.int .u64 (tk.au:Int),.bool true,.int .u64 tm,.int .i64 tk.tr,.int .u64 0,.string ⟨#[]⟩])→BoxN w8 LB 162 #[v]→_:=fun V5 w8 g8 cap8 hw5 h83 h82 bL8=>by
     have hS8:Spares (v.ownBlock.toList ++ [LB]) w5 w8:=((Spares.of_below hw5).alloc _).trans (Spares.of_grownO h83 (fun r hr=>List.mem_append_left _ (by simpa using hr)));have hS9:Spares [LB] w8 (w8.setCell ⟨LB,0,none⟩ (.slice (some ⟨g8,0,none⟩) (J.length+1) cap8)):=(Spares.of_below (Below.refl _ w8)).set (by simp) _ _;have hS:=hS8.trans (hS9.mono (fun b hb=>List.mem_append_right _ hb))
     have hbx:∀ b∈v.ownBlock.toList ++ [LB],∃ t cs,BoxN w5 b t cs∧(t=135∨t=162)∧w.heap.size≤b:=fun b hb=>by
      rcases List.mem_append.1 hb with hb | hb
      ·obtain⟨hlo,cs,hB⟩:=row_box hr5 (g:=b) (by simpa using hb)
       exact⟨_,_,hB,.inl rfl,by omega⟩
      ·rw [List.mem_singleton.1 hb];exact⟨_,_,bL5,.inr rfl,by omega⟩
     have hno:∀ {b:Nat} {t:TypeId} {cs:Array Value},BoxN w5 b t cs→t≠135→t≠162→b∉v.ownBlock.toList ++ [LB]:=fun hB n1 n2 hm=>by
      obtain⟨t',cs',hB',ht',-⟩:=hbx _ hm
      rcases ht' with rfl | rfl
      ·exact hB.ne hB' n1 rfl
      ·exact hB.ne hB' n2 rfl
     have hrow9:=hS9.row' h82 (fun g hg hm=>by
      obtain⟨-,cs,hB⟩:=row_box h82 hg
      exact hB.ne bL8 (by decide) (List.mem_singleton.1 hm))
     exact(hid_elim HE) _ (.slice (some ⟨g8,0,none⟩) (J.length+1) cap8) (kf5.trans (keepsFrom_up (hS.keepsFrom (fun b hb=>by obtain⟨t,cs,hB,-,-⟩:=hbx b hb;exact⟨t,cs,hB⟩) 0) (Nat.zero_le _))) (kt5.trans (hS.keepsT (fun b hb=>by obtain⟨t,cs,hB,ht,-⟩:=hbx b hb;exact⟨t,cs,hB,by rcases ht with rfl | rfl <;> decide⟩))) (bL8.set 0 (.slice (some ⟨g8,0,none⟩) (J.length+1) cap8)) (by simpa [flatR,Item.rec_,TokE.rec_,revT,RecD.cells,recCells] using hrow9) (hS.box bV5 (hno bV5 (by decide) (by decide))) (hS.box bN5 (hno bN5 (by decide) (by decide))) (hB5.trans (hS.below hB5.size (fun b hb=>by obtain⟨t,cs,hB,-,hlo⟩:=hbx b hb;exact hlo)))
    have HFI:=hid_intro hfin;clear hfin;have y0:=bX5.cell 0 (v:=.int .i64 1) rfl;have y1:=bX5.cell 1 (v:=.int .u64 (tk.n:Int)) rfl;have yL:=bL5.cell 0 (v:=v) rfl;have fL:=bL5.frozen 0;have hB5s:=hB5.size
    have hlo5:B0≤w5.heap.size:=by have:=bL5.lt;omega
    have HK:=hid_intro (And.intro kf5 (And.intro kt5 (And.intro bV5 (And.intro bN5 (And.intro hB5 (And.intro hr5 bL5))))));clear kf5 kt5 bV5 bN5 hB5 hr5 hs5 bT5 bT4 bV4 cB4 ct4 hRv hb4 cB cN0 cN1 cX0 cX1 ct hL hPl bTk bX b1 hr1 bV bN hBV bM8 hB8 hV8 mT bV8 bN8 bL8 kT sT hr8;refine wpIn_region_any (by kernel_rfl) (wpAnyIn_inRound ll (by kernel_rfl) _ _ _ _ ?_)
    change wpAnyIn _ _ _ _ _ _ _ _ _ (World.drew _)
    refine wpAnyIn_take (i:=1) (v:=.pointer (some ⟨Bt,0,none⟩)) rfl rfl (by kernel_rfl) (by kernel_rfl) (by kernel_rfl) (fun _ _ _ h=>h) ⟨Or.inl ⟨by kernel_rfl,?_⟩,fun _=>rfl⟩ ?_
    ·intro w;go_simp
    refine wpAnyIn_ready (rs:=[0,2]) (by kernel_rfl) (by simp) ?_;refine AllReadyIn.cons rfl (fun K hK=>?_) (AllReadyIn.cons rfl (fun K hK=>?_) (AllReadyIn.nil))
    ·go_simp
     refine hK _ _ ?_;clear hK K;refine wpAnyIn_ready (rs:=[2]) (by kernel_rfl) (by simp) ?_;refine AllReadyIn.cons rfl (fun K hK=>?_) (AllReadyIn.nil)
     ·go_simp
      refine hK _ _ ?_;clear hK K;refine wpAnyIn_ready (rs:=[3]) (by kernel_rfl) (by simp) ?_;refine AllReadyIn.cons rfl (fun K hK=>?_) (AllReadyIn.nil)
      ·go_simp
       refine(hrec _ w5.drew (Below.refl _ _).drew).mono ?_;rintro e V5 ⟨rfl,hb5⟩;have hw5:Below w5.heap.size w5 V5:=(Below.refl _ w5).drew.trans hb5;have bL6:=bL5.below hw5 bL5.lt;have yL6:=bL6.cell 0 (v:=v) rfl;have bL7:=bL6.alloc (.cells #[.int .i64 1,.int .i64 1,.int .u64 (tk.n:Int),.int .i64 tk.ak,.int .u64 (tk.au:Int),.bool true,.int .u64 tm,.int .i64 tk.tr,.int .u64 0,.string ⟨#[]⟩] 135);have yL7:=bL7.cell 0 (v:=v) rfl;have lL6:=bL6.lt;refine hK _ _ ?_;clear hK K;refine wpAnyIn_ready (rs:=[4]) (by kernel_rfl) (by simp) ?_;refine AllReadyIn.cons rfl (fun K hK=>?_) (AllReadyIn.nil)
       ·go_simp
        refine hK _ _ ?_;clear hK K;refine wpAnyIn_ready (rs:=[5]) (by kernel_rfl) (by simp) ?_;refine AllReadyIn.cons rfl (fun K hK=>?_) (AllReadyIn.nil)
        ·have hr7:=(ownsRow_below (hid_elim HK).2.2.2.2.2.1 hw5).alloc (.cells #[.int .i64 1,.int .i64 1,.int .u64 (tk.n:Int),.int .i64 tk.ak,.int .u64 (tk.au:Int),.bool true,.int .u64 tm,.int .i64 tk.tr,.int .u64 0,.string ⟨#[]⟩] 135)
         have hsz7:=hw5.size;obtain⟨g8,cap8,w8,hrun,h82,h83,h84,-⟩:=run_append_lies (P:=prog) (V5.alloc (.cells #[.int .i64 1,.int .i64 1,.int .u64 (tk.n:Int),.int .i64 tk.ak,.int .u64 (tk.au:Int),.bool true,.int .u64 tm,.int .i64 tk.tr,.int .u64 0,.string ⟨#[]⟩] 135)) 162 162 B0 135 i0 _ 10 88 underlying162 hi hz0 hz1 hz2 rfl (by decide) v _ _ hr7 ⟨V5.heap.size,0,none⟩ 1 1 [.int .i64 1,.int .i64 1,.int .u64 (tk.n:Int),.int .i64 tk.ak,.int .u64 (tk.au:Int),.bool true,.int .u64 tm,.int .i64 tk.tr,.int .u64 0,.string ⟨#[]⟩] rfl (cell_ten_new _ _ _ _ _ _ _ _ _ _ _ _) (by simp [Value.oneCell']) (by omega) (by unfold maxLen;omega) (by omega) (by simp;omega) _ rfl;have bL8:=bL7.kept h83 (BoxN.not_row bL7 (by decide) hr7);have yL8:=bL8.cell 0 (v:=v) rfl;have fL8:=bL8.frozen 0;refine stepIn_append rfl _ _ _ rfl rfl rfl hrun ?_;refine hK _ _ ?_;clear hK K;refine wpAnyIn_ready (rs:=[6]) (by kernel_rfl) (by simp) ?_;refine AllReadyIn.cons rfl (fun K hK=>?_) (AllReadyIn.nil)
         ·go_simp
          refine hK _ _ ?_;clear hK K;refine wpAnyIn_done (by kernel_rfl) ?_ _
          gi_wp2
          exact(hid_elim HFI) _ _ _ _ hw5 h83 h82 bL8
    ·go_simp
     refine hK _ _ ?_;clear hK K;refine wpAnyIn_ready (rs:=[0,3]) (by kernel_rfl) (by simp) ?_;refine AllReadyIn.cons rfl (fun K hK=>?_) (AllReadyIn.cons rfl (fun K hK=>?_) (AllReadyIn.nil))
     ·go_simp
      refine hK _ _ ?_;clear hK K;refine wpAnyIn_ready (rs:=[3]) (by kernel_rfl) (by simp) ?_;refine AllReadyIn.cons rfl (fun K hK=>?_) (AllReadyIn.nil)
      ·go_simp
       refine(hrec _ w5.drew (Below.refl _ _).drew).mono ?_;rintro e V5 ⟨rfl,hb5⟩;have hw5:Below w5.heap.size w5 V5:=(Below.refl _ w5).drew.trans hb5;have bL6:=bL5.below hw5 bL5.lt;have yL6:=bL6.cell 0 (v:=v) rfl;have bL7:=bL6.alloc (.cells #[.int .i64 1,.int .i64 1,.int .u64 (tk.n:Int),.int .i64 tk.ak,.int .u64 (tk.au:Int),.bool true,.int .u64 tm,.int .i64 tk.tr,.int .u64 0,.string ⟨#[]⟩] 135);have yL7:=bL7.cell 0 (v:=v) rfl;have lL6:=bL6.lt;refine hK _ _ ?_;clear hK K;refine wpAnyIn_ready (rs:=[4]) (by kernel_rfl) (by simp) ?_;refine AllReadyIn.cons rfl (fun K hK=>?_) (AllReadyIn.nil)
       ·go_simp
        refine hK _ _ ?_;clear hK K;refine wpAnyIn_ready (rs:=[5]) (by kernel_rfl) (by simp) ?_;refine AllReadyIn.cons rfl (fun K hK=>?_) (AllReadyIn.nil)
        ·have hr7:=(ownsRow_below (hid_elim HK).2.2.2.2.2.1 hw5).alloc (.cells #[.int .i64 1,.int .i64 1,.int .u64 (tk.n:Int),.int .i64 tk.ak,.int .u64 (tk.au:Int),.bool true,.int .u64 tm,.int .i64 tk.tr,.int .u64 0,.string ⟨#[]⟩] 135)
         have hsz7:=hw5.size;obtain⟨g8,cap8,w8,hrun,h82,h83,h84,-⟩:=run_append_lies (P:=prog) (V5.alloc (.cells #[.int .i64 1,.int .i64 1,.int .u64 (tk.n:Int),.int .i64 tk.ak,.int .u64 (tk.au:Int),.bool true,.int .u64 tm,.int .i64 tk.tr,.int .u64 0,.string ⟨#[]⟩] 135)) 162 162 B0 135 i0 _ 10 88 underlying162 hi hz0 hz1 hz2 rfl (by decide) v _ _ hr7 ⟨V5.heap.size,0,none⟩ 1 1 [.int .i64 1,.int .i64 1,.int .u64 (tk.n:Int),.int .i64 tk.ak,.int .u64 (tk.au:Int),.bool true,.int .u64 tm,.int .i64 tk.tr,.int .u64 0,.string ⟨#[]⟩] rfl (cell_ten_new _ _ _ _ _ _ _ _ _ _ _ _) (by simp [Value.oneCell']) (by omega) (by unfold maxLen;omega) (by omega) (by simp;omega) _ rfl;have bL8:=bL7.kept h83 (BoxN.not_row bL7 (by decide) hr7);have yL8:=bL8.cell 0 (v:=v) rfl;have fL8:=bL8.frozen 0;refine stepIn_append rfl _ _ _ rfl rfl rfl hrun ?_;refine hK _ _ ?_;clear hK K;refine wpAnyIn_ready (rs:=[6]) (by kernel_rfl) (by simp) ?_;refine AllReadyIn.cons rfl (fun K hK=>?_) (AllReadyIn.nil)
         ·go_simp
          refine hK _ _ ?_;clear hK K;refine wpAnyIn_done (by kernel_rfl) ?_ _
          gi_wp2
          exact(hid_elim HFI) _ _ _ _ hw5 h83 h82 bL8
     ·go_simp
      refine(hrec _ w5.drew (Below.refl _ _).drew).mono ?_;rintro e V5 ⟨rfl,hb5⟩;have hw5:Below w5.heap.size w5 V5:=(Below.refl _ w5).drew.trans hb5;have bL6:=bL5.below hw5 bL5.lt;have yL6:=bL6.cell 0 (v:=v) rfl;have bL7:=bL6.alloc (.cells #[.int .i64 1,.int .i64 1,.int .u64 (tk.n:Int),.int .i64 tk.ak,.int .u64 (tk.au:Int),.bool true,.int .u64 tm,.int .i64 tk.tr,.int .u64 0,.string ⟨#[]⟩] 135);have yL7:=bL7.cell 0 (v:=v) rfl;have lL6:=bL6.lt;refine hK _ _ ?_;clear hK K;refine wpAnyIn_ready (rs:=[0,4]) (by kernel_rfl) (by simp) ?_;refine AllReadyIn.cons rfl (fun K hK=>?_) (AllReadyIn.cons rfl (fun K hK=>?_) (AllReadyIn.nil))
      ·go_simp
       refine hK _ _ ?_;clear hK K;refine wpAnyIn_ready (rs:=[4]) (by kernel_rfl) (by simp) ?_;refine AllReadyIn.cons rfl (fun K hK=>?_) (AllReadyIn.nil)
       ·go_simp
        refine hK _ _ ?_;clear hK K;refine wpAnyIn_ready (rs:=[5]) (by kernel_rfl) (by simp) ?_;refine AllReadyIn.cons rfl (fun K hK=>?_) (AllReadyIn.nil)
        ·have hr7:=(ownsRow_below (hid_elim HK).2.2.2.2.2.1 hw5).alloc (.cells #[.int .i64 1,.int .i64 1,.int .u64 (tk.n:Int),.int .i64 tk.ak,.int .u64 (tk.au:Int),.bool true,.int .u64 tm,.int .i64 tk.tr,.int .u64 0,.string ⟨#[]⟩] 135)
         have hsz7:=hw5.size;obtain⟨g8,cap8,w8,hrun,h82,h83,h84,-⟩:=run_append_lies (P:=prog) (V5.alloc (.cells #[.int .i64 1,.int .i64 1,.int .u64 (tk.n:Int),.int .i64 tk.ak,.int .u64 (tk.au:Int),.bool true,.int .u64 tm,.int .i64 tk.tr,.int .u64 0,.string ⟨#[]⟩] 135)) 162 162 B0 135 i0 _ 10 88 underlying162 hi hz0 hz1 hz2 rfl (by decide) v _ _ hr7 ⟨V5.heap.size,0,none⟩ 1 1 [.int .i64 1,.int .i64 1,.int .u64 (tk.n:Int),.int .i64 tk.ak,.int .u64 (tk.au:Int),.bool true,.int .u64 tm,.int .i64 tk.tr,.int .u64 0,.string ⟨#[]⟩] rfl (cell_ten_new _ _ _ _ _ _ _ _ _ _ _ _) (by simp [Value.oneCell']) (by omega) (by unfold maxLen;omega) (by omega) (by simp;omega) _ rfl;have bL8:=bL7.kept h83 (BoxN.not_row bL7 (by decide) hr7);have yL8:=bL8.cell 0 (v:=v) rfl;have fL8:=bL8.frozen 0;refine stepIn_append rfl _ _ _ rfl rfl rfl hrun ?_;refine hK _ _ ?_;clear hK K;refine wpAnyIn_ready (rs:=[6]) (by kernel_rfl) (by simp) ?_;refine AllReadyIn.cons rfl (fun K hK=>?_) (AllReadyIn.nil)
         ·go_simp
          refine hK _ _ ?_;clear hK K;refine wpAnyIn_done (by kernel_rfl) ?_ _
          gi_wp2
          exact(hid_elim HFI) _ _ _ _ hw5 h83 h82 bL8
      ·go_simp
       refine hK _ _ ?_;clear hK K;refine wpAnyIn_ready (rs:=[0]) (by kernel_rfl) (by simp) ?_;refine AllReadyIn.cons rfl (fun K hK=>?_) (AllReadyIn.nil)
       ·go_simp
        refine hK _ _ ?_;clear hK K;refine wpAnyIn_ready (rs:=[5]) (by kernel_rfl) (by simp) ?_;refine AllReadyIn.cons rfl (fun K hK=>?_) (AllReadyIn.nil)
        ·have hr7:=(ownsRow_below (hid_elim HK).2.2.2.2.2.1 hw5).alloc (.cells #[.int .i64 1,.int .i64 1,.int .u64 (tk.n:Int),.int .i64 tk.ak,.int .u64 (tk.au:Int),.bool true,.int .u64 tm,.int .i64 tk.tr,.int .u64 0,.string ⟨#[]⟩] 135)
         have hsz7:=hw5.size;obtain⟨g8,cap8,w8,hrun,h82,h83,h84,-⟩:=run_append_lies (P:=prog) (V5.alloc (.cells #[.int .i64 1,.int .i64 1,.int .u64 (tk.n:Int),.int .i64 tk.ak,.int .u64 (tk.au:Int),.bool true,.int .u64 tm,.int .i64 tk.tr,.int .u64 0,.string ⟨#[]⟩] 135)) 162 162 B0 135 i0 _ 10 88 underlying162 hi hz0 hz1 hz2 rfl (by decide) v _ _ hr7 ⟨V5.heap.size,0,none⟩ 1 1 [.int .i64 1,.int .i64 1,.int .u64 (tk.n:Int),.int .i64 tk.ak,.int .u64 (tk.au:Int),.bool true,.int .u64 tm,.int .i64 tk.tr,.int .u64 0,.string ⟨#[]⟩] rfl (cell_ten_new _ _ _ _ _ _ _ _ _ _ _ _) (by simp [Value.oneCell']) (by omega) (by unfold maxLen;omega) (by omega) (by simp;omega) _ rfl;have bL8:=bL7.kept h83 (BoxN.not_row bL7 (by decide) hr7);have yL8:=bL8.cell 0 (v:=v) rfl;have fL8:=bL8.frozen 0;refine stepIn_append rfl _ _ _ rfl rfl rfl hrun ?_;refine hK _ _ ?_;clear hK K;refine wpAnyIn_ready (rs:=[6]) (by kernel_rfl) (by simp) ?_;refine AllReadyIn.cons rfl (fun K hK=>?_) (AllReadyIn.nil)
         ·go_simp
          refine hK _ _ ?_;clear hK K;refine wpAnyIn_done (by kernel_rfl) ?_ _
          gi_wp2
          exact(hid_elim HFI) _ _ _ _ hw5 h83 h82 bL8
 case done =>
  rintro D zs V hD hzs ⟨⟨⟨⟨v,b1,hr1,-⟩,bV⟩,bN⟩,hBV⟩ hK
  have hzs':zs.map tokOf=tks:=by rw [hzs];exact attach_tok hok.incT
  rw [hzs'] at hr1;have hW:=hid_elim HW;have hLI:=hid_elim HLI
  have hF:FitsAll (LI++revJ tm bT tks) ⟨tn,ln,tks,lks⟩:=fitsAll_old _ _ (fun i hi=>by
   rcases List.mem_append.1 hi with hi | hi
   ·rw [hLI] at hi;exact revI_old (s:=⟨tn,ln,tks,lks⟩) hW.v.t0 hW.v.t1 hok hW.v.okL i hi
   ·exact revJ_old (s:=⟨tn,ln,tks,lks⟩) hW.v.t0 hW.v.t1 hok hW.v.okT i hi) hok.incT hok.incL (by show tks.length<500;omega) (by show lks.length<500;omega)
  have hst:appAll (LI++revJ tm bT tks) ⟨tn,ln,tks,lks⟩=⟨tn,ln,tks.map (fun z=>if !z.pd&&bT z then revT tm z else z),lks.map (fun z=>if goL tm bL z then revL tm z else z)⟩:=by
   rw [appAll_append,hLI,revI_state hok.incL hW.v.nl,revJ_state hok.incT hW.v.nt]
  have hKp:=keepRow B0 k vx tm ⟨tn,ln,tks,lks⟩ c l f _ v V (hW.below hBV) hl hl1 hf hf1 hc hr1 (by rw [List.length_append];have:=@revJ_len tm bT tks;omega) hF;rw [hst] at hKp;have hlts:=hW.lts;have h9:=hW.v.nine;rw [show k.vb=vb from (hid_elim HKB).1.symm] at hKp;have cV:=bV.cell 0 (v:=.pointer (some ⟨vb,0,none⟩)) rfl;have cL:=b1.cell;have hDl:D<V.heap.size:=(Array.getElem?_eq_some_iff.1 hK).1;have hBVs:=hBV.size;have HFD:=hid_intro (And.intro hlts h9);clear hF hst hW hLI hlts h9 hr1 hzs'
  gi_wp2_with (gi_at_call 66;refine(callsIn_wide.2 hKp).mono ?_;rintro e w7 ⟨rfl,⟨c',l',f',hc',hW7⟩,hs7⟩)
  obtain⟨hlts,h9⟩:=hid_elim HFD
  have hDn:D∉k.turns:=fun hm=>by have:=hlts D hm;omega
  have hK7:w7.heap[D]? = some (.deferred (some [])):=(hs7.block D hDl hDn).trans hK;refine⟨by simp,.inl ⟨_,_,rfl,run_takeDeferred hK7,?_⟩⟩;have hSp:Spares [D] w7 (w7.putObj D (.deferred none)):=Spares.of_grownO (grownBy_putObj' w7 D (.deferred none)) (fun r hr=>by cases hr;simp);refine⟨_,results_tmp rfl _ _ _,rfl,⟨c',l',f',hc',hW7.own hSp hK7 rfl (by omega) hDn⟩,?_⟩
  exact((Spares.of_below (bs:=k.turns ++ [D]) hBV).trans ((hs7.mono (fun b hb=>List.mem_append_left _ hb)).trans (hSp.mono (fun b hb=>List.mem_append_right _ hb)))).shed (fun b hb=>by
   rcases List.mem_append.1 hb with hb | hb
   ·exact .inl hb
   ·exact .inr (by rw [List.mem_singleton.1 hb];omega))
 case stop =>
  rintro D c pre V _ _ h _;exact h.elim
end Go.Proofs
namespace Go.Proofs
open Go.RowKit Go.Sort Go.Lib Go.Shelf Go.Maps
section
variable {B hb rb:Nat} {k:Blk} {vx:VX} {tm:Int} {tn ln:Nat} {tks:List TokE} {lks:List LeaE} {c:List UInt8} {w:World}
theorem Tryz.kCreate (hS:Sys B w hb rb ⟨k,vx,tm,⟨tn,ln,tks,lks⟩,c⟩) (m:TokE) (hm:m∈tks) (hlv:m.pd=false) (h10:tks.length<10) (htn:tn<1000000) (hc:c.length≤900000000000) (cc dd:Int) :
  Calls prog 25 #[.pointer (some ⟨hb,0,none⟩),.string ⟨(nmStr 1 m.n).toArray⟩,fallV (-1) (-1) cc dd] w fun e w'=>e=.returned (.tuple #[.string ⟨(nmStr 1 (tn+1)).toArray⟩,.int .i64 0])∧(∃ c',c'.length≤c.length+1300000∧Sys B w' hb rb ⟨k,vx,tm,⟨tn+1,ln,tks ++ [newT (tn+1) m.n],lks⟩,c'⟩)∧Spares k.turns w w':=by
 have t0:=hS.wh.v.t0;have t1:=hS.wh.v.t1;have hlim:=(hS.wh.v.va.ok.limT m hm).1;have hkl:(keepLine tm [.tok (newT (tn+1) m.n)]).length≤1300000:=keepLine_len t0 t1 (s:=⟨tn,ln,tks,lks⟩) ⟨⟨⟨show (0:Int)≤18446744073709551615 by decide,show (18446744073709551615:Int)≤18446744073709551615 by decide,show (0:Int)≤0 by decide,⟨show (0:Int)≤1000000000 by decide,.inl rfl⟩⟩,.inr (fun x hx=>by have:=hS.wh.v.nt x hx;show x.n<tn+1;simp at this;omega),by show tks.length<500;omega,show tn+1<u64lim by unfold u64lim;omega,hlim⟩,trivial⟩ (by simp)
 have h:=hCreate B hb rb _ w hS (nmStr 1 m.n) cc dd (.string ⟨(nmStr 1 (tn+1)).toArray⟩) .nilIface 0 (fun W _=>told_nil W) (fun σ'=>σ'=⟨k,vx,tm,⟨tn+1,ln,tks ++ [newT (tn+1) m.n],lks⟩,c++keepLine tm [.tok (newT (tn+1) m.n)]⟩)
  (fun W _ hV=>by
   refine(vCreate_ok k vx tm ⟨tn,ln,tks,lks⟩ c (-1) (-1) W hV (by decide) (by decide) (by decide) (by decide) hc (nmStr 1 m.n) (nm_len1 hlim) m.n hlim (parse_tok hlim) (fun W2 hb2=>?_) h10 (by show tn<_;omega)).mono ?_
   ·rw [parse_tok hlim]
    have hl:=isLive_hit k.vb k.mt k.ml vx tm _ _ tks lks W2 (hV.v.va.below hb2) m hm;rw [hlv] at hl;exact hl
   ·rintro e w' ⟨rfl,hV',hs'⟩
    exact⟨rfl,⟨_,_,_,⟨rfl,rfl,rfl⟩,hV'⟩,hs'⟩)
 refine h.mono ?_;rintro e w' ⟨rfl,⟨σ',⟨rfl,-,-⟩,hS'⟩,hs⟩;exact⟨rfl,⟨_,by simp only [List.length_append];omega,hS'⟩,hs⟩
theorem Tryz.kTree (hS:Sys B w hb rb ⟨k,vx,tm,⟨tn,ln,tks,lks⟩,c⟩) (t:TokE) (ht:t∈tks) (h0:t.n≠0) (nT:tks.length≤200) (nL:lks.length≤200) (hc:c.length≤900000000000) (bL:LeaE→Bool) (bT:TokE→Bool) (hCL:∀ l∈lks,∃ n,ClimbN tks (1,(t.n:Int)) (bL l) n (l.ak,(l.au:Int))) (hCT:∀ z∈tks,∃ n,ClimbN tks (1,(t.n:Int)) (bT z) n (1,(z.n:Int))) (cc dd:Int) :
  Calls prog 26 #[.pointer (some ⟨hb,0,none⟩),.string ⟨(nmStr 1 t.n).toArray⟩,fallV (-1) (-1) cc dd] w fun e w'=>e=.returned (.int .i64 0)∧(∃ c',c'.length≤c.length+1300000∧Sys B w' hb rb ⟨k,vx,tm,⟨tn,ln,tks.map (fun z=>if !z.pd&&bT z then revT tm z else z),lks.map (fun z=>if goL tm bL z then revL tm z else z)⟩,c'⟩)∧Spares k.turns w w':=by
 have hlim:=(hS.wh.v.va.ok.limT t ht).1
 have h:=hRevTok B hb rb _ w hS (nmStr 1 t.n) cc dd .nilIface 0 (fun W _=>told_nil W) (fun σ'=>∃ c',c'.length≤c.length+1300000∧σ'=⟨k,vx,tm,⟨tn,ln,tks.map (fun z=>if !z.pd&&bT z then revT tm z else z),lks.map (fun z=>if goL tm bL z then revL tm z else z)⟩,c'⟩)
  (fun W _ hV=>by
   refine(callsIn_wide.1 (vRevTok_ok k vx tm tn ln tks lks c (-1) (-1) W hV (by decide) (by decide) (by decide) (by decide) hc nT nL (nmStr 1 t.n) (nm_len1 hlim) t ht h0 (parse_tok hlim) bL bT hCL hCT)).mono ?_;rintro e w' ⟨rfl,⟨c',l',f',hc',hV'⟩,hs'⟩
   exact⟨rfl,⟨_,l',f',⟨⟨c',hc',rfl⟩,rfl,rfl⟩,hV'⟩,hs'⟩)
 refine h.mono ?_;rintro e w' ⟨rfl,⟨σ',⟨⟨c',hc',rfl⟩,-,-⟩,hS'⟩,hs⟩;exact⟨rfl,⟨c',hc',hS'⟩,hs⟩
theorem Tryz.kAuthNo (hS:Sys B w hb rb ⟨k,vx,tm,⟨tn,ln,tks,lks⟩,c⟩) (n:Nat) (hlim:n<u64lim) (hn:∀ l∈lks,l.n≠n) (pth:List UInt8) :
  Calls prog 23 #[.pointer (some ⟨hb,0,none⟩),.string ⟨(nmStr 2 n).toArray⟩,.string ⟨pth.toArray⟩] w fun e w'=>e=.returned (.bool false)∧Below w.heap.size w w':=by
 have hP:=parse ⟨(nmStr 2 n).toArray⟩ (by simpa [ByteArray.size] using nm_len hlim) w hS.wh.v.va.env hS.wh.v.va.six;simp only [parse_lea hlim] at hP;exact hAuth hb k.db rb k.vb w hS.host _ _ _ (vAuth_any k.vb w (nmStr 2 n) pth _ 0 0 0 0 false [] 0 false hP (fun W2 hb2=>liveLease_miss k.vb k.mt k.ml vx tm tn ln tks lks W2 (hS.wh.v.va.below hb2) (2,(n:Int)) (wfNm (.inr rfl) hlim) (fun l hl e=>hn l hl (by have:=(Prod.mk.inj e).2;omega))))
end
end Go.Proofs
