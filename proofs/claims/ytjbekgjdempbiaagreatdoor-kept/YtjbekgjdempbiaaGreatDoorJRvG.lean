import Derived.Test.YtjbekgjdempbiaaGreatDoorJSq
import Derived.Test.YtjbekgjdempbiaaGreatDoorJRvF
import Derived.Test.YtjbekgjdempbiaaGreatDoorJOpnA
set_option maxRecDepth 100000
set_option maxHeartbeats 8000000
namespace Go.Proofs
open Go.RowKit Go.Sort Go.Lib Go.Shelf Go.Maps Go.WideMaps
attribute [local go_sem] Oper.semAt_some
structure Tryz.LkV (bv vb c m nb:Nat) (tm:TypeId) (k u:Int) (r:Value) (W:World):Prop where
 bx:W.cell? ⟨bv,0,none⟩=some (.pointer (some ⟨vb,0,none⟩))
 mp:W.cell? ⟨vb,c,none⟩=some (.map (some m))
 n0:W.cell? ⟨nb,0,none⟩=some (.int .i64 k)
 n1:W.cell? ⟨nb,1,none⟩=some (.int .u64 u)
 lk:(Instr.lookup tm (.map (some m)) (.agg #[.int .i64 k,.int .u64 u]) true).run Tryz.prog W=.ok r W
theorem Xtd {W:World} {B size n:Nat} {e:TypeId} {v:Value} {xs:List Value} (h:W.ownsRow B e size v n xs):∃ p cap,v=.slice p n cap:=by
 rcases h.2 with⟨rfl,h0⟩ | ⟨g,cap,cur,rfl,-⟩
 ·exact⟨none,0,by rw [show n=0 from by omega]⟩
 exact⟨_,cap,rfl⟩
theorem Tryz.Whole.own {W W':World} {k:Blk} {vx:VX} {tm:Int} {s:VSt} {c:List UInt8} {l f:Int} (h:Whole W k vx tm s c l f) {r:Nat} {o:Obj} (hS:Spares [r] W W') (ho:W.heap[r]? = some o) (hc:o.isCells=false) (h6:6<=r) (hr:r∉k.turns):Whole W' k vx tm s c l f:=by
 have nb:∀ {b:Nat} {t:TypeId} {cs:Array Value},BoxN W b t cs->b ∉ [r]:=fun {b} {t} {cs} hB hm=>by
  rw [<- List.mem_singleton.1 hm,show W.heap[b]? = _ from hB] at ho;cases ho;cases hc
 exact h.spared hS (fun b hb hm=>hr (by rw [<- List.mem_singleton.1 hm];exact hb)) (nb h.j) (fun b x hx=>nb hx) (fun b hb=>by rw [List.mem_singleton.1 hb];exact h6)
theorem Xrr {tm:Int} {p:Xd->Bool} {s:VSt} (t0:0<=tm) (t1:tm<=18446744073709551615) (hok:Xx s.tks s.lks) (okT:∀ l∈s.tks,Xdo l):∀ i∈Zl tm p s.tks,i.Old s:=fun i hi=>by
 obtain⟨l,hl,rfl⟩:=List.mem_map.1 hi;have hm:=(List.mem_filter.1 hl).1;have ho:=okT l hm;exact⟨⟨t0,t1,ho.r0,ho.r1⟩,⟨l,hm,rfl⟩,(hok.limT l hm).1,(hok.limT l hm).2⟩
theorem Xq4 {tm:Int} {p:Xd->Bool} {tks:List Xd}:(Zl tm p tks).length<=tks.length:=by unfold Zl;rw [List.length_map];exact List.length_filter_le _ _
theorem Xli {tm:Int} {p:Xd->Bool} {tn ln:Nat} {tks:List Xd} {lks:List Xc} (hs:tks.Pairwise (fun a b=>a.n<b.n)) (hn:∀ l∈tks,l.n<=tn):Yq (Zl tm p tks) ⟨tn,ln,tks,lks⟩=⟨tn,ln,tks.map fun z=>if !z.pd&&p z then U8 tm z else z,lks⟩:=by
 rw [Mq tks ⟨tn,ln,tks,lks⟩ hs hs (fun _ h=>h) hn]
 congr 1
 exact List.map_congr_left (fun z hz=>by rw [Xj9 (f:=Xd.n) hz,Bool.true_and])
def Tryz.Xsu (t:TypeId):Bool:=t==162||t==135||t==153
theorem Uq {P:Program} {c:Code} {K:Act->World->Prop} {Q:Exit->Act->World->Prop} {a:Act} {w:World} (h:c.wp P (Exit.then K (fun _ _ _=>False)) a w):c.wp P (Exit.then K Q) a w:=
 wp_mono h (fun e a w hq=>by cases e <;> first | exact hq | exact hq.elim)
abbrev Tryz.NbP (nb:Nat) (k u:Int) (W:World):Prop:=W.cell? ⟨nb,0,none⟩=some (.int .i64 k)/\W.cell? ⟨nb,1,none⟩=some (.int .u64 u)
theorem Tryz.Xlt (vb mt ml:Nat) (vx:VX) (tm tn ln:Int) (tks:List Xd) (lks:List Xc) (w:World) (hV:Xq w vb mt ml vx tm tn ln tks lks) (id:List UInt8) (hid:id.length<=1000000) (x:Int × Int) (hp:parseN id=x) (hw:Zr x) (hn:∀ t∈tks,x≠(1,(t.n:Int))) :
  CallsIn Fence.wide 9 prog 50 #[.pointer (some ⟨vb,0,none⟩),.string ⟨id.toArray⟩] w fun e w'=>e=.returned (Jf 1)/\Below w.heap.size w w':=by
 have hB0:Below w.heap.size w (w.alloc (.cells #[.pointer (some ⟨vb,0,none⟩)] 76)):=(Below.refl _ w).alloc (Nat.le_refl _) _;have hV0:=hV.below hB0;have hP:=parse ⟨id.toArray⟩ (by simpa [ByteArray.size] using hid) _ hV0.env hV0.six;simp only [hp] at hP;have bV:=BoxN.new w 76 #[.pointer (some ⟨vb,0,none⟩)];have lv:=hV.v.lt;have hfp:Fence.wide.fn 63:=trivial;have hfr:Fence.wide.fn 85:=trivial;unfold nmV at hP;refine callsIn_of_wp_marks func50 rfl trivial ?_ rfl;simp only [ntmps50,List.size_toArray,List.length_cons,List.length_nil,Nat.reduceAdd,Nat.reduceSub,Array.replicate_succ,Array.replicate_zero,List.push_toArray,List.append_toArray,List.nil_append,List.cons_append]
 gi_wp2_with (gi_at_call 63;refine(callsIn_wide.2 hP).mono ?_;rintro e w1 ⟨rfl,hb1'⟩)
 have hB1:=(hB0.trans (hb1'.mono hB0.size)).alloc (Nat.le_trans hB0.size hb1'.size) (.cells #[.int .i64 x.1,.int .u64 x.2] 114);have bN:=BoxN.new w1 114 #[.int .i64 x.1,.int .u64 x.2];have bV1:=(bV.below hb1' bV.lt).alloc (.cells #[.int .i64 x.1,.int .u64 x.2] 114)
 obtain⟨N,hs0⟩:∃ N,(w1.alloc (.cells #[.int .i64 x.1,.int .u64 x.2] 114)).heap.size=N:=⟨_,rfl⟩
 have hN:N=w1.heap.size+1:=by rw [<- hs0];simp
 obtain⟨nb,hnb⟩:∃ nb,w1.heap.size=nb:=⟨_,rfl⟩
 have hz1:w.heap.size<nb:=by rw [<- hnb];have:=hb1'.size;simp at this;omega
 rw [hnb] at bN hN;rw [hnb];generalize (w1.alloc (.cells #[.int .i64 x.1,.int .u64 x.2] 114))=W1 at *;clear hnb hb1' hP hV0 hB0 bV
 have hS:∀ W,Below N W1 W->LkV w.heap.size vb 3 mt nb 120 x.1 x.2 (.tuple #[.agg #[.int .i64 0,.int .u64 0,.int .u64 0,.int .i64 0,.bool false],.bool false]) W:=fun W hb=>by
  have bN':=bN.below hb (by omega);have bV':=bV1.below hb (by omega);have hV':=hV.below (hB1.trans (hb.mono (by omega)));exact⟨bV'.cell 0 rfl,hV'.v.cell 3 rfl,bN'.cell 0 rfl,bN'.cell 1 rfl,hV'.Xaa hw hn⟩
 have hb1:Below N W1 W1.drew:=(Below.refl _ _).drew;refine wpIn_wide.2 (Uq ?_);refine wp_region_held_drew (S:=(LkV w.heap.size vb 3 mt nb 120 x.1 x.2 (.tuple #[.agg #[.int .i64 0,.int .u64 0,.int .u64 0,.int .i64 0,.bool false],.bool false]))) (by kernel_rfl) (hS _ hb1) (fun hS0=>?_);refine Xt 0 ?v0 rfl ?y0 hS0 ?_
 case y0=>(rintro w ⟨q0,q1,q2,q3,q4⟩;go_simp;try with_reducible rfl)
 refine Xt 1 ?v1 rfl ?y1 hS0 ?_
 case y1=>(rintro w ⟨q0,q1,q2,q3,q4⟩;go_simp;try with_reducible rfl)
 refine Xt 2 ?v2 rfl ?y2 hS0 ?_
 case y2=>(rintro w ⟨q0,q1,q2,q3,q4⟩;go_simp;try with_reducible rfl)
 refine Xt 3 ?v3 rfl ?y3 hS0 ?_
 case y3=>(rintro w ⟨q0,q1,q2,q3,q4⟩;go_simp;try with_reducible rfl)
 refine Xt 4 ?v4 rfl ?y4 hS0 ?_
 case y4=>(rintro w ⟨q0,q1,q2,q3,q4⟩;go_simp;try with_reducible rfl)
 refine Xt 5 ?v5 rfl ?y5 hS0 ?_
 case y5=>(rintro w ⟨q0,q1,q2,q3,q4⟩;go_simp;try with_reducible rfl)
 refine Xt 6 ?v6 rfl ?y6 hS0 ?_
 case y6=>(rintro w ⟨q0,q1,q2,q3,q4⟩;go_simp;try with_reducible rfl)
 refine Xt 7 ?v7 rfl ?y7 hS0 ?_
 case y7=>(rintro w ⟨q0,q1,q2,q3,q4⟩;go_simp;try with_reducible rfl)
 refine Xt 8 ?v8 rfl ?y8 hS0 ?_
 case y8=>(rintro w ⟨q0,q1,q2,q3,q4⟩;go_simp;try with_reducible rfl)
 refine Xh 9 rfl fun K hK=>?_;go_simp;refine hK.out _ _ (hS _ (hb1.alloc (by simp [hs0]) _)) (fun hS1=>?_);clear hK K;refine Xh 10 rfl fun K hK=>?_;go_simp;have hb2:Below N W1 (W1.alloc (.cells #[.int .i64 0,.int .u64 0,.int .u64 0,.int .i64 0,.bool false] 153)).drew:=((Below.refl _ _).alloc (by omega) _).drew;refine hK.out _ _ (hS _ hb2) (fun hS2=>?_);clear hK K;refine Xh 11 rfl fun K hK=>?_;go_simp;refine hK.out _ _ hS2 (fun _=>?_);clear hK K hS0 hS1 hS2;refine wpAnyH_done (by kernel_rfl) ?_ _;have bN2:=bN.below hb2 (by omega);have hB2:=hB1.trans (hb2.mono (by omega));clear hS hb1 hb2;generalize (W1.alloc (.cells #[.int .i64 0,.int .u64 0,.int .u64 0,.int .i64 0,.bool false] 153)).drew=W2 at *
 have hQ2:NbP nb x.1 x.2 W2.drew:=⟨bN2.cell 0 rfl,bN2.cell 1 rfl⟩
 gi_wp2_with fail
 refine wpIn_wide.2 (Uq ?_);refine wp_region_held_drew (S:=NbP nb x.1 x.2) (by kernel_rfl) hQ2 (fun hS1=>?_);refine Xt 0 ?av0 rfl ?ay0 hS1 ?_
 case ay0=>(rintro w ⟨q0,q1⟩;go_simp;try with_reducible rfl)
 refine Xt 1 ?av1 rfl ?ay1 hS1 ?_
 case ay1=>(rintro w ⟨q0,q1⟩;go_simp;try with_reducible rfl)
 refine Xt 2 ?av2 rfl ?ay2 hS1 ?_
 case ay2=>(rintro w ⟨q0,q1⟩;go_simp;try with_reducible rfl)
 refine Xu 3 rfl hS1 ?_;refine Xu 4 rfl hS1 ?_;refine Xu 5 rfl hS1 ?_;refine Xt 6 ?av6 rfl ?ay6 hS1 ?_
 case ay6=>(rintro w ⟨q0,q1⟩;go_simp;try with_reducible rfl)
 refine wpAnyH_done (by kernel_rfl) ?_ _;go_simp
 gi_wp2
 exact⟨_,results_tmp rfl _ _ _,by simp [Jf],hB2.drew⟩
theorem Tryz.Xik (vb mt ml:Nat) (vx:VX) (tm tn ln:Int) (tks:List Xd) (lks:List Xc) (w:World) (hV:Xq w vb mt ml vx tm tn ln tks lks) (id:List UInt8) (hid:id.length<=1000000) (t:Xd) (ht:t∈tks) (h0:t.n=0) (hp:parseN id=(1,(t.n:Int))) :
  CallsIn Fence.wide 9 prog 50 #[.pointer (some ⟨vb,0,none⟩),.string ⟨id.toArray⟩] w fun e w'=>e=.returned (Jf 1)/\Below w.heap.size w w':=by
 have H0:=Xb h0;clear h0;have hB0:Below w.heap.size w (w.alloc (.cells #[.pointer (some ⟨vb,0,none⟩)] 76)):=(Below.refl _ w).alloc (Nat.le_refl _) _;have hV0:=hV.below hB0;have hP:=parse ⟨id.toArray⟩ (by simpa [ByteArray.size] using hid) _ hV0.env hV0.six;simp only [hp] at hP;have bV:=BoxN.new w 76 #[.pointer (some ⟨vb,0,none⟩)];have lv:=hV.v.lt;have hfp:Fence.wide.fn 63:=trivial;have hfr:Fence.wide.fn 85:=trivial;unfold nmV at hP;refine callsIn_of_wp_marks func50 rfl trivial ?_ rfl;simp only [ntmps50,List.size_toArray,List.length_cons,List.length_nil,Nat.reduceAdd,Nat.reduceSub,Array.replicate_succ,Array.replicate_zero,List.push_toArray,List.append_toArray,List.nil_append,List.cons_append]
 gi_wp2_with (gi_at_call 63;refine(callsIn_wide.2 hP).mono ?_;rintro e w1 ⟨rfl,hb1'⟩)
 have hB1:=(hB0.trans (hb1'.mono hB0.size)).alloc (Nat.le_trans hB0.size hb1'.size) (.cells #[.int .i64 1,.int .u64 (t.n:Int)] 114);have bN:=BoxN.new w1 114 #[.int .i64 1,.int .u64 (t.n:Int)];have bV1:=(bV.below hb1' bV.lt).alloc (.cells #[.int .i64 1,.int .u64 (t.n:Int)] 114)
 obtain⟨N,hs0⟩:∃ N,(w1.alloc (.cells #[.int .i64 1,.int .u64 (t.n:Int)] 114)).heap.size=N:=⟨_,rfl⟩
 have hN:N=w1.heap.size+1:=by rw [<- hs0];simp
 obtain⟨nb,hnb⟩:∃ nb,w1.heap.size=nb:=⟨_,rfl⟩
 have hz1:w.heap.size<nb:=by rw [<- hnb];have:=hb1'.size;simp at this;omega
 rw [hnb] at bN hN;rw [hnb];generalize (w1.alloc (.cells #[.int .i64 1,.int .u64 (t.n:Int)] 114))=W1 at *;clear hnb hb1' hP hV0 hB0 bV
 have hS:∀ W,Below N W1 W->LkV w.heap.size vb 3 mt nb 120 1 (t.n:Int) (.tuple #[.agg #[.int .i64 t.ak,.int .u64 (t.au:Int),.int .u64 t.at_,.int .i64 t.tr,.bool t.pd],.bool true]) W:=fun W hb=>by
  have bN':=bN.below hb (by omega);have bV':=bV1.below hb (by omega);have hV':=hV.below (hB1.trans (hb.mono (by omega)));exact⟨bV'.cell 0 rfl,hV'.v.cell 3 rfl,bN'.cell 0 rfl,bN'.cell 1 rfl,hV'.Xhi ht⟩
 have hb1:Below N W1 W1.drew:=(Below.refl _ _).drew;refine wpIn_wide.2 (Uq ?_);refine wp_region_held_drew (S:=(LkV w.heap.size vb 3 mt nb 120 1 (t.n:Int) (.tuple #[.agg #[.int .i64 t.ak,.int .u64 (t.au:Int),.int .u64 t.at_,.int .i64 t.tr,.bool t.pd],.bool true]))) (by kernel_rfl) (hS _ hb1) (fun hS0=>?_);refine Xt 0 ?v0 rfl ?y0 hS0 ?_
 case y0=>(rintro w ⟨q0,q1,q2,q3,q4⟩;go_simp;try with_reducible rfl)
 refine Xt 1 ?v1 rfl ?y1 hS0 ?_
 case y1=>(rintro w ⟨q0,q1,q2,q3,q4⟩;go_simp;try with_reducible rfl)
 refine Xt 2 ?v2 rfl ?y2 hS0 ?_
 case y2=>(rintro w ⟨q0,q1,q2,q3,q4⟩;go_simp;try with_reducible rfl)
 refine Xt 3 ?v3 rfl ?y3 hS0 ?_
 case y3=>(rintro w ⟨q0,q1,q2,q3,q4⟩;go_simp;try with_reducible rfl)
 refine Xt 4 ?v4 rfl ?y4 hS0 ?_
 case y4=>(rintro w ⟨q0,q1,q2,q3,q4⟩;go_simp;try with_reducible rfl)
 refine Xt 5 ?v5 rfl ?y5 hS0 ?_
 case y5=>(rintro w ⟨q0,q1,q2,q3,q4⟩;go_simp;try with_reducible rfl)
 refine Xt 6 ?v6 rfl ?y6 hS0 ?_
 case y6=>(rintro w ⟨q0,q1,q2,q3,q4⟩;go_simp;try with_reducible rfl)
 refine Xt 7 ?v7 rfl ?y7 hS0 ?_
 case y7=>(rintro w ⟨q0,q1,q2,q3,q4⟩;go_simp;try with_reducible rfl)
 refine Xt 8 ?v8 rfl ?y8 hS0 ?_
 case y8=>(rintro w ⟨q0,q1,q2,q3,q4⟩;go_simp;try with_reducible rfl)
 refine Xh 9 rfl fun K hK=>?_;go_simp;refine hK.out _ _ (hS _ (hb1.alloc (by simp [hs0]) _)) (fun hS1=>?_);clear hK K;refine Xh 10 rfl fun K hK=>?_;go_simp;have hb2:Below N W1 (W1.alloc (.cells #[.int .i64 t.ak,.int .u64 (t.au:Int),.int .u64 t.at_,.int .i64 t.tr,.bool t.pd] 153)).drew:=((Below.refl _ _).alloc (by omega) _).drew;refine hK.out _ _ (hS _ hb2) (fun hS2=>?_);clear hK K;refine Xh 11 rfl fun K hK=>?_;go_simp;refine hK.out _ _ hS2 (fun _=>?_);clear hK K hS0 hS1 hS2;refine wpAnyH_done (by kernel_rfl) ?_ _;have bN2:=bN.below hb2 (by omega);have hB2:=hB1.trans (hb2.mono (by omega));clear hS hb1 hb2;generalize (W1.alloc (.cells #[.int .i64 t.ak,.int .u64 (t.au:Int),.int .u64 t.at_,.int .i64 t.tr,.bool t.pd] 153)).drew=W2 at *
 have hQ2:NbP nb 1 (t.n:Int) W2.drew:=⟨bN2.cell 0 rfl,bN2.cell 1 rfl⟩
 gi_wp2_with fail
 refine wpIn_wide.2 (Uq ?_);refine wp_region_held_drew (S:=NbP nb 1 (t.n:Int)) (by kernel_rfl) hQ2 (fun hS1=>?_);refine Xt 0 ?av0 rfl ?ay0 hS1 ?_
 case ay0=>(rintro w ⟨q0,q1⟩;go_simp;try with_reducible rfl)
 refine Xt 1 ?av1 rfl ?ay1 hS1 ?_
 case ay1=>(rintro w ⟨q0,q1⟩;go_simp;try with_reducible rfl)
 refine Xt 2 ?av2 rfl ?ay2 hS1 ?_
 case ay2=>(rintro w ⟨q0,q1⟩;go_simp;try with_reducible rfl)
 have h0':((t.n:Int)==0)=true:=by have:=Xa H0;rw [beq_iff_eq];omega
 refine Xt 3 ?av3 rfl ?ay3 hS1 ?_
 case ay3=>(rintro w ⟨q0,q1⟩;go_simp;try with_reducible rfl)
 refine Xh 4 rfl fun K hK=>?_;go_simp;have hRt:=root W2.drew;unfold nmV at hRt;refine hRt.mono ?_;rintro e w5 ⟨rfl,hb5⟩
 have hQ5:NbP nb 1 (t.n:Int) w5:=⟨cell_later hb5 hQ2.1,cell_later hb5 hQ2.2⟩
 refine hK.out _ _ hQ5 (fun hS2=>?_);clear hK K;refine Xt 5 ?av5 rfl ?ay5 hS2 ?_
 case ay5=>(rintro w ⟨q0,q1⟩;go_simp;try with_reducible rfl)
 refine Xt 6 ?av6 rfl ?ay6 hS2 ?_
 case ay6=>(rintro w ⟨q0,q1⟩;go_simp;try with_reducible rfl)
 refine wpAnyH_done (by kernel_rfl) ?_ _;go_simp
 gi_wp2
 exact⟨_,results_tmp rfl _ _ _,by simp [Jf],hB2.drew.trans (hb5.mono hB2.drew.size)⟩
end Go.Proofs
