import Derived.Test.YtjbekgjdempbiaaGreatDoorJRel
import Derived.Test.YtjbekgjdempbiaaGreatDoorJRefH
set_option maxRecDepth 100000
set_option maxHeartbeats 8000000
namespace Go.Proofs
open Go.RowKit Go.Sort Go.Lib Go.Shelf Go.Maps
theorem Tryz.later (a b:Int) (ha:0≤a) (ha1:a≤18446744073709551615) (hb0:0≤b) (hb:b≤18446744073709551615) (w:World) :
  Calls prog 65 #[.int .u64 a,.int .u64 b] w fun e w'=>e=.returned (.int .u64 (plusI a b))∧w'=w:=by
 have hr:Hid (plusI a b=if 18446744073709551615-b<a then 18446744073709551615 else a+b):=hid_intro rfl;generalize plusI a b=r at *
 by_cases h:18446744073709551615-a<b
 ·obtain rfl:r=18446744073709551615:=by rw [hid_elim hr,if_pos (by omega)]
  clear hr;go_enter func65,ntmps65;go_wp2;go_ret;exact⟨rfl,rfl⟩
 ·obtain rfl:r=a+b:=by rw [hid_elim hr,if_neg (by omega)]
  clear hr;go_enter func65,ntmps65;go_wp2;go_ret;exact⟨ret_int (by omega),rfl⟩
theorem Tryz.zeroTok (w:World):(zeroValue 153).run prog w=.ok (.agg #[.int .i64 0,.int .u64 0,.int .u64 0,.int .i64 0,.bool false]) w:=zeroValue153 w
theorem Tryz.zeroLea (w:World):(zeroValue 131).run prog w=.ok (.agg #[.int .i64 0,.int .u64 0,.int .u64 0,.int .i64 0,.bool false,.string ⟨#[]⟩,.int .u64 0]) w:=zeroValue131 w
section
variable {W:World} {vb mt ml:Nat} {vx:VX} {tm tn ln:Int} {tks:List TokE} {lks:List LeaE}
theorem Tryz.VaultAt.lookT (h:VaultAt W vb mt ml vx tm tn ln tks lks) {t:TokE} (ht:t∈tks) :
  (Instr.lookup 120 (.map (some mt)) (nmV (1,(t.n:Int))) true).run prog W=.ok (.tuple #[.agg t.cells,.bool true]) W:=by
 obtain⟨n,_,hm⟩:=h.held.mapT;exact nmType.look_hit h.ok.ksT.1 (wfNm (.inl rfl) (h.ok.limT t ht).1) hm underlying120 (zeroTok _) (ksGet_of_mem h.ok.ksT.1 (List.mem_reverse.2 (List.mem_map.2 ⟨t,ht,rfl⟩)))
theorem Tryz.VaultAt.lookT_no (h:VaultAt W vb mt ml vx tm tn ln tks lks) {x:Int × Int} (hx:NmWf x) (hn:∀ t∈tks,x≠(1,(t.n:Int))) :
  (Instr.lookup 120 (.map (some mt)) (nmV x) true).run prog W=.ok (.tuple #[.agg #[.int .i64 0,.int .u64 0,.int .u64 0,.int .i64 0,.bool false],.bool false]) W:=by
 obtain⟨n,_,hm⟩:=h.held.mapT;refine nmType.look_miss h.ok.ksT.1 hx hm underlying120 (zeroTok _) (ksGet_none.2 fun p hp e=>?_);obtain⟨t,ht,rfl⟩:=List.mem_map.1 (List.mem_reverse.1 hp);exact hn t ht e.symm
theorem Tryz.VaultAt.lookL (h:VaultAt W vb mt ml vx tm tn ln tks lks) {t:LeaE} (ht:t∈lks) :
  (Instr.lookup 121 (.map (some ml)) (nmV (2,(t.n:Int))) true).run prog W=.ok (.tuple #[.agg t.cells,.bool true]) W:=by
 obtain⟨n,_,hm⟩:=h.held.mapL;exact nmType.look_hit h.ok.ksL.1 (wfNm (.inr rfl) (h.ok.limL t ht).1) hm underlying121 (zeroLea _) (ksGet_of_mem h.ok.ksL.1 (List.mem_reverse.2 (List.mem_map.2 ⟨t,ht,rfl⟩)))
theorem Tryz.VaultAt.lookL_no (h:VaultAt W vb mt ml vx tm tn ln tks lks) {x:Int × Int} (hx:NmWf x) (hn:∀ t∈lks,x≠(2,(t.n:Int))) :
  (Instr.lookup 121 (.map (some ml)) (nmV x) true).run prog W=.ok (.tuple #[.agg #[.int .i64 0,.int .u64 0,.int .u64 0,.int .i64 0,.bool false,.string ⟨#[]⟩,.int .u64 0],.bool false]) W:=by
 obtain⟨n,_,hm⟩:=h.held.mapL;refine nmType.look_miss h.ok.ksL.1 hx hm underlying121 (zeroLea _) (ksGet_none.2 fun p hp e=>?_);obtain⟨t,ht,rfl⟩:=List.mem_map.1 (List.mem_reverse.1 hp);exact hn t ht e.symm
theorem Tryz.VaultAt.alloc (h:VaultAt W vb mt ml vx tm tn ln tks lks) (o:Obj):VaultAt (W.alloc o) vb mt ml vx tm tn ln tks lks:=h.below ((Below.refl _ W).alloc (Nat.le_refl _) o)
end
structure Tryz.LkP (vb c m nb:Nat) (tm:TypeId) (k u:Int) (r:Value) (W:World):Prop where
 mp:W.cell? ⟨vb,c,none⟩=some (.map (some m))
 n0:W.cell? ⟨nb,0,none⟩=some (.int .i64 k)
 n1:W.cell? ⟨nb,1,none⟩=some (.int .u64 u)
 lk:(Instr.lookup tm (.map (some m)) (.agg #[.int .i64 k,.int .u64 u]) true).run Tryz.prog W=.ok r W
theorem Tryz.isLive_any (vb mt:Nat) (x:Int × Int) (ak au at_ tr:Int) (pd b:Bool) (w:World) (hP:∀ W,Below w.heap.size w W→W.cell? ⟨vb,3,none⟩=some (.map (some mt))∧(Instr.lookup 120 (.map (some mt)) (nmV x) true).run prog W=.ok (.tuple #[.agg #[.int .i64 ak,.int .u64 au,.int .u64 at_,.int .i64 tr,.bool pd],.bool b]) W) :
  Calls prog 83 #[.pointer (some ⟨vb,0,none⟩),nmV x] w fun e w'=>e=.returned (.bool (b && !pd))∧Below w.heap.size w w':=by
 have hB0:Below w.heap.size w (w.alloc (.cells #[.int .i64 x.1,.int .u64 x.2] 114)):=(Below.refl _ w).alloc (Nat.le_refl _) _;have bN:=BoxN.new w 114 #[.int .i64 x.1,.int .u64 x.2]
 have hS:∀ W,Below (w.heap.size+1) (w.alloc (.cells #[.int .i64 x.1,.int .u64 x.2] 114)) W→LkP vb 3 mt w.heap.size 120 x.1 x.2 (.tuple #[.agg #[.int .i64 ak,.int .u64 au,.int .u64 at_,.int .i64 tr,.bool pd],.bool b]) W:=fun W hb=>by
  have bN':=bN.below hb (by omega);obtain⟨h1,h2⟩:=hP W (hB0.trans (hb.mono (by omega)));exact⟨h1,bN'.cell 0 rfl,bN'.cell 1 rfl,h2⟩
 have hs0:(w.alloc (.cells #[.int .i64 x.1,.int .u64 x.2] 114)).heap.size=w.heap.size+1:=by simp
 unfold nmV;go_enter func83,ntmps83
 go_wp2_with fail
 generalize w.alloc (.cells #[.int .i64 x.1,.int .u64 x.2] 114)=W1 at *;have hb1:Below (w.heap.size+1) W1 W1.drew:=(Below.refl _ _).drew;refine wp_region_held_drew (S:=LkP vb 3 mt w.heap.size 120 x.1 x.2 (.tuple #[.agg #[.int .i64 ak,.int .u64 au,.int .u64 at_,.int .i64 tr,.bool pd],.bool b])) (by kernel_rfl) (hS _ hb1) (fun hS0=>?_);refine wpAnyH_take (i:=0) (v:=?v0) rfl (by kernel_rfl) (by kernel_rfl) (by kernel_rfl) (fun _ _ _ h=>h) (Or.inl ⟨by rfl,?y0⟩) hS0 ?_
 case y0=>(intro w hSw;obtain⟨q0,q1,q2,q3⟩:=hSw;go_simp;try with_reducible rfl)
 refine wpAnyH_take (i:=1) (v:=?v1) rfl (by kernel_rfl) (by kernel_rfl) (by kernel_rfl) (fun _ _ _ h=>h) (Or.inl ⟨by rfl,?y1⟩) hS0 ?_
 case y1=>(intro w hSw;obtain⟨q0,q1,q2,q3⟩:=hSw;go_simp;try with_reducible rfl)
 refine wpAnyH_take (i:=2) (v:=?v2) rfl (by kernel_rfl) (by kernel_rfl) (by kernel_rfl) (fun _ _ _ h=>h) (Or.inl ⟨by rfl,?y2⟩) hS0 ?_
 case y2=>(intro w hSw;obtain⟨q0,q1,q2,q3⟩:=hSw;go_simp;try with_reducible rfl)
 refine wpAnyH_take (i:=3) (v:=?v3) rfl (by kernel_rfl) (by kernel_rfl) (by kernel_rfl) (fun _ _ _ h=>h) (Or.inl ⟨by rfl,?y3⟩) hS0 ?_
 case y3=>(intro w hSw;obtain⟨q0,q1,q2,q3⟩:=hSw;go_simp;try with_reducible rfl)
 refine wpAnyH_take (i:=4) (v:=?v4) rfl (by kernel_rfl) (by kernel_rfl) (by kernel_rfl) (fun _ _ _ h=>h) (Or.inl ⟨by rfl,?y4⟩) hS0 ?_
 case y4=>(intro w hSw;obtain⟨q0,q1,q2,q3⟩:=hSw;go_simp;try with_reducible rfl)
 refine wpAnyH_take (i:=5) (v:=?v5) rfl (by kernel_rfl) (by kernel_rfl) (by kernel_rfl) (fun _ _ _ h=>h) (Or.inl ⟨by rfl,?y5⟩) hS0 ?_
 case y5=>(intro w hSw;obtain⟨q0,q1,q2,q3⟩:=hSw;go_simp;try with_reducible rfl)
 refine wpAnyH_take (i:=6) (v:=?v6) rfl (by kernel_rfl) (by kernel_rfl) (by kernel_rfl) (fun _ _ _ h=>h) (Or.inl ⟨by rfl,?y6⟩) hS0 ?_
 case y6=>(intro w hSw;obtain⟨q0,q1,q2,q3⟩:=hSw;go_simp;try with_reducible rfl)
 refine wpAnyH_take (i:=7) (v:=?v7) rfl (by kernel_rfl) (by kernel_rfl) (by kernel_rfl) (fun _ _ _ h=>h) (Or.inl ⟨by rfl,?y7⟩) hS0 ?_
 case y7=>(intro w hSw;obtain⟨q0,q1,q2,q3⟩:=hSw;go_simp;try with_reducible rfl)
 refine wpAnyH_take (i:=8) (v:=?v8) rfl (by kernel_rfl) (by kernel_rfl) (by kernel_rfl) (fun _ _ _ h=>h) (Or.inl ⟨by rfl,?y8⟩) hS0 ?_
 case y8=>(intro w hSw;obtain⟨q0,q1,q2,q3⟩:=hSw;go_simp;try with_reducible rfl)
 refine wpAnyH_ready (rs:=[9]) (by kernel_rfl) (by simp) ?_;refine AllReadyH.cons rfl (fun K hK=>?_) AllReadyH.nil;go_simp;refine hK.out _ _ (hS _ (hb1.alloc (by simp [hs0]) _)) (fun hS1=>?_);clear hK K;refine wpAnyH_ready (rs:=[10]) (by kernel_rfl) (by simp) ?_;refine AllReadyH.cons rfl (fun K hK=>?_) AllReadyH.nil;go_simp;have hb2:Below (w.heap.size+1) W1 (W1.alloc (.cells #[.int .i64 ak,.int .u64 au,.int .u64 at_,.int .i64 tr,.bool pd] 153)).drew:=((Below.refl _ _).alloc (by omega) _).drew
 have bT:BoxN (W1.alloc (.cells #[.int .i64 ak,.int .u64 au,.int .u64 at_,.int .i64 tr,.bool pd] 153)).drew (w.heap.size+1) 153 #[.int .i64 ak,.int .u64 au,.int .u64 at_,.int .i64 tr,.bool pd]:=by
  have h:=BoxN.new W1 153 #[.int .i64 ak,.int .u64 au,.int .u64 at_,.int .i64 tr,.bool pd];rw [hs0] at h;exact h
 refine hK.out _ _ (hS _ hb2) (fun hS2=>?_);clear hK K;refine wpAnyH_ready (rs:=[11]) (by kernel_rfl) (by simp) ?_;refine AllReadyH.cons rfl (fun K hK=>?_) AllReadyH.nil;go_simp;refine hK.out _ _ hS2 (fun _=>?_);clear hK K;refine wpAnyH_done (by kernel_rfl) ?_ _;have hBf:Below w.heap.size w (W1.alloc (.cells #[.int .i64 ak,.int .u64 au,.int .u64 at_,.int .i64 tr,.bool pd] 153)).drew:=hB0.trans (hb2.mono (by omega));clear hS hP hS0 hS1 hS2 hb1 hb2 hB0 bN;generalize (W1.alloc (.cells #[.int .i64 ak,.int .u64 au,.int .u64 at_,.int .i64 tr,.bool pd] 153)).drew=W2 at *;have hL:=entryLive (w.heap.size+1) pd W2 (bT.cell 4 rfl);cases b
 ·go_wp2_with (go_at_call 89;fail)
  go_ret;exact⟨rfl,hBf⟩
 ·go_wp2_with (go_at_call 89;refine hL.mono ?_;rintro e w5 ⟨rfl,rfl⟩)
  go_ret;exact⟨by simp,hBf⟩
theorem Tryz.isLive_hit (vb mt ml:Nat) (vx:VX) (tm tn ln:Int) (tks:List TokE) (lks:List LeaE) (w:World) (hV:VaultAt w vb mt ml vx tm tn ln tks lks) (t:TokE) (ht:t∈tks) :
  Calls prog 83 #[.pointer (some ⟨vb,0,none⟩),nmV (1,(t.n:Int))] w fun e w'=>e=.returned (.bool (!t.pd))∧Below w.heap.size w w':=by
 have h:=isLive_any vb mt (1,(t.n:Int)) t.ak t.au t.at_ t.tr t.pd true w (fun W hb=>⟨(hV.below hb).v.cell 3 rfl,(hV.below hb).lookT ht⟩)
 simpa using h
end Go.Proofs
namespace Go.Proofs
open Go.RowKit Go.Sort Go.Lib Go.Shelf Go.Maps Go.WideMaps
def putTok (t:TokE) (l:List TokE):List TokE:=if l.any (fun x=>x.n==t.n) then l.map (fun x=>if x.n=t.n then t else x) else l ++ [t]
def delTok (n:Nat) (l:List TokE):List TokE:=l.filter (fun x=>x.n != n)
theorem keyTok_iff (x t:TokE):(TokE.key x).1=(TokE.key t).1↔x.n=t.n:=by
 simp [TokE.key];omega
theorem putTok_split {t:TokE} {l:List TokE} (hs:l.Pairwise (fun a b=>a.n<b.n)):(∃ a x b,l=a++x :: b∧x.n=t.n∧putTok t l=a++t :: b∧(∀ y∈a++b,y.n≠t.n))∨((∀ y∈l,y.n≠t.n)∧putTok t l=l ++ [t]):=by
 by_cases h:l.any (fun x=>x.n==t.n)=true
 ·obtain⟨x,hx,hn⟩:=List.any_eq_true.1 h
  have hn:x.n=t.n:=by simpa using hn
  obtain⟨a,b,rfl⟩:=List.append_of_mem hx;obtain⟨h1,h2,h3⟩:=List.pairwise_append.1 hs;obtain⟨h4,h5⟩:=List.pairwise_cons.1 h2
  have hne:∀ y∈a++b,y.n≠t.n:=fun y hy=>by
   rcases List.mem_append.1 hy with hy | hy
   ·have:=h3 y hy x (by simp);omega
   ·have:=h4 y hy;omega
  refine .inl ⟨a,x,b,rfl,hn,?_,hne⟩;unfold putTok;rw [if_pos h,List.map_append,List.map_cons,if_pos hn]
  have m:∀ c:List TokE,(∀ y∈c,y.n≠t.n)→c.map (fun x=>if x.n=t.n then t else x)=c:=fun c hc=>by
   conv=>rhs;rw [← List.map_id c]
   exact List.map_congr_left fun y hy=>by simp [hc y hy]
  rw [m a (fun y hy=>hne y (by simp [hy])),m b (fun y hy=>hne y (by simp [hy]))]
 ·have hf:l.any (fun x=>x.n==t.n)=false:=by simpa using h
  refine .inr ⟨fun y hy e=>?_,by unfold putTok;rw [if_neg h]⟩;exact h (List.any_eq_true.2 ⟨y,hy,by simpa using e⟩)
theorem putTok_perm {l:List TokE} (hs:l.Pairwise (fun a b=>a.n<b.n)) (t:TokE):((TokE.key t) :: ((l.map TokE.key).reverse.filter (fun p=>decide (p.1≠(TokE.key t).1)))).Perm ((putTok t l).map TokE.key).reverse:=by
 have keep:∀ c:List TokE,(∀ y∈c,y.n≠t.n)→(c.map TokE.key).reverse.filter (fun p=>decide (p.1≠(TokE.key t).1))=(c.map TokE.key).reverse:=fun c hc=>List.filter_eq_self.2 fun p hp=>by
  obtain⟨y,hy,rfl⟩:=List.mem_map.1 (List.mem_reverse.1 hp)
  simpa using fun e=>hc y hy ((keyTok_iff y t).1 e)
 rcases putTok_split (t:=t) hs with⟨a,x,b,rfl,hn,hp,hne⟩ | ⟨hne,hp⟩
 ·rw [hp]
  simp only [List.map_append,List.map_cons,List.reverse_append,List.reverse_cons,List.filter_append,List.append_assoc];rw [keep a (fun y hy=>hne y (by simp [hy])),keep b (fun y hy=>hne y (by simp [hy]))]
  have e : [TokE.key x].filter (fun p=>decide (p.1≠(TokE.key t).1)) = []:=by
   simp [(keyTok_iff x t).2 hn]
  rw [e,List.nil_append];exact List.perm_middle.symm
 ·rw [hp,keep l hne,List.map_append,List.reverse_append]
  exact List.Perm.refl _
theorem delTok_filter (n:Nat) (l:List TokE) (t:TokE) (ht:t.n=n):(l.map TokE.key).reverse.filter (fun p=>decide (p.1≠(TokE.key t).1))=((delTok n l).map TokE.key).reverse:=by
 unfold delTok;rw [List.filter_reverse,List.filter_map]
 congr 2
 refine List.filter_congr fun x _=>?_
 have:=keyTok_iff x t;rw [ht] at this
 by_cases e:x.n=n
 ·simp [e,this.2 e]
 ·have h2:(TokE.key x).1≠(TokE.key t).1:=fun h=>e (this.1 h)
  simp [e,h2]
theorem putTok_mem {t y:TokE} {l:List TokE} (hs:l.Pairwise (fun a b=>a.n<b.n)) (h:y∈putTok t l):y=t∨y∈l:=by
 rcases putTok_split (t:=t) hs with⟨a,x,b,rfl,hn,hp,hne⟩ | ⟨hne,hp⟩
 ·rw [hp] at h
  simp at h ⊢
  rcases h with h | h | h
  ·exact .inr (.inl h)
  ·exact .inl h
  ·exact .inr (.inr (.inr h))
 ·rw [hp] at h
  simp at h
  rcases h with h | h
  ·exact .inr h
  ·exact .inl h
theorem putTok_len {t:TokE} {l:List TokE} (hs:l.Pairwise (fun a b=>a.n<b.n)):(putTok t l).length≤l.length+1:=by
 rcases putTok_split (t:=t) hs with⟨a,x,b,rfl,hn,hp,hne⟩ | ⟨hne,hp⟩
 ·rw [hp];simp
 ·rw [hp];simp
def FitsTok (t:TokE) (l:List TokE):Prop:=(∃ x∈l,x.n=t.n)∨∀ x∈l,x.n<t.n
theorem putTok_inc {t:TokE} {l:List TokE} (hs:l.Pairwise (fun a b=>a.n<b.n)) (hf:FitsTok t l):(putTok t l).Pairwise (fun a b=>a.n<b.n):=by
 rcases putTok_split (t:=t) hs with⟨a,x,b,rfl,hn,hp,hne⟩ | ⟨hne,hp⟩
 ·rw [hp]
  obtain⟨h1,h2,h3⟩:=List.pairwise_append.1 hs;obtain⟨h4,h5⟩:=List.pairwise_cons.1 h2;refine List.pairwise_append.2 ⟨h1,List.pairwise_cons.2 ⟨fun y hy=>by rw [← hn];exact h4 y hy,h5⟩,fun y hy z hz=>?_⟩
  rcases List.mem_cons.1 hz with rfl | hz
  ·rw [← hn];exact h3 y hy x (by simp)
  ·exact h3 y hy z (List.mem_cons_of_mem _ hz)
 ·rw [hp]
  refine List.pairwise_append.2 ⟨hs,by simp,fun y hy z hz=>?_⟩;rw [List.mem_singleton.1 hz]
  rcases hf with⟨x,hx,e⟩ | h
  ·exact absurd e (hne x hx)
  ·exact h y hy
def putLea (t:LeaE) (l:List LeaE):List LeaE:=if l.any (fun x=>x.n==t.n) then l.map (fun x=>if x.n=t.n then t else x) else l ++ [t]
def delLea (n:Nat) (l:List LeaE):List LeaE:=l.filter (fun x=>x.n != n)
theorem keyLea_iff (x t:LeaE):(LeaE.key x).1=(LeaE.key t).1↔x.n=t.n:=by
 simp [LeaE.key];omega
theorem putLea_split {t:LeaE} {l:List LeaE} (hs:l.Pairwise (fun a b=>a.n<b.n)):(∃ a x b,l=a++x :: b∧x.n=t.n∧putLea t l=a++t :: b∧(∀ y∈a++b,y.n≠t.n))∨((∀ y∈l,y.n≠t.n)∧putLea t l=l ++ [t]):=by
 by_cases h:l.any (fun x=>x.n==t.n)=true
 ·obtain⟨x,hx,hn⟩:=List.any_eq_true.1 h
  have hn:x.n=t.n:=by simpa using hn
  obtain⟨a,b,rfl⟩:=List.append_of_mem hx;obtain⟨h1,h2,h3⟩:=List.pairwise_append.1 hs;obtain⟨h4,h5⟩:=List.pairwise_cons.1 h2
  have hne:∀ y∈a++b,y.n≠t.n:=fun y hy=>by
   rcases List.mem_append.1 hy with hy | hy
   ·have:=h3 y hy x (by simp);omega
   ·have:=h4 y hy;omega
  refine .inl ⟨a,x,b,rfl,hn,?_,hne⟩;unfold putLea;rw [if_pos h,List.map_append,List.map_cons,if_pos hn]
  have m:∀ c:List LeaE,(∀ y∈c,y.n≠t.n)→c.map (fun x=>if x.n=t.n then t else x)=c:=fun c hc=>by
   conv=>rhs;rw [← List.map_id c]
   exact List.map_congr_left fun y hy=>by simp [hc y hy]
  rw [m a (fun y hy=>hne y (by simp [hy])),m b (fun y hy=>hne y (by simp [hy]))]
 ·have hf:l.any (fun x=>x.n==t.n)=false:=by simpa using h
  refine .inr ⟨fun y hy e=>?_,by unfold putLea;rw [if_neg h]⟩;exact h (List.any_eq_true.2 ⟨y,hy,by simpa using e⟩)
theorem putLea_perm {l:List LeaE} (hs:l.Pairwise (fun a b=>a.n<b.n)) (t:LeaE):((LeaE.key t) :: ((l.map LeaE.key).reverse.filter (fun p=>decide (p.1≠(LeaE.key t).1)))).Perm ((putLea t l).map LeaE.key).reverse:=by
 have keep:∀ c:List LeaE,(∀ y∈c,y.n≠t.n)→(c.map LeaE.key).reverse.filter (fun p=>decide (p.1≠(LeaE.key t).1))=(c.map LeaE.key).reverse:=fun c hc=>List.filter_eq_self.2 fun p hp=>by
  obtain⟨y,hy,rfl⟩:=List.mem_map.1 (List.mem_reverse.1 hp)
  simpa using fun e=>hc y hy ((keyLea_iff y t).1 e)
 rcases putLea_split (t:=t) hs with⟨a,x,b,rfl,hn,hp,hne⟩ | ⟨hne,hp⟩
 ·rw [hp]
  simp only [List.map_append,List.map_cons,List.reverse_append,List.reverse_cons,List.filter_append,List.append_assoc];rw [keep a (fun y hy=>hne y (by simp [hy])),keep b (fun y hy=>hne y (by simp [hy]))]
  have e : [LeaE.key x].filter (fun p=>decide (p.1≠(LeaE.key t).1)) = []:=by
   simp [(keyLea_iff x t).2 hn]
  rw [e,List.nil_append];exact List.perm_middle.symm
 ·rw [hp,keep l hne,List.map_append,List.reverse_append]
  exact List.Perm.refl _
theorem delLea_filter (n:Nat) (l:List LeaE) (t:LeaE) (ht:t.n=n):(l.map LeaE.key).reverse.filter (fun p=>decide (p.1≠(LeaE.key t).1))=((delLea n l).map LeaE.key).reverse:=by
 unfold delLea;rw [List.filter_reverse,List.filter_map]
 congr 2
 refine List.filter_congr fun x _=>?_
 have:=keyLea_iff x t;rw [ht] at this
 by_cases e:x.n=n
 ·simp [e,this.2 e]
 ·have h2:(LeaE.key x).1≠(LeaE.key t).1:=fun h=>e (this.1 h)
  simp [e,h2]
theorem putLea_mem {t y:LeaE} {l:List LeaE} (hs:l.Pairwise (fun a b=>a.n<b.n)) (h:y∈putLea t l):y=t∨y∈l:=by
 rcases putLea_split (t:=t) hs with⟨a,x,b,rfl,hn,hp,hne⟩ | ⟨hne,hp⟩
 ·rw [hp] at h
  simp at h ⊢
  rcases h with h | h | h
  ·exact .inr (.inl h)
  ·exact .inl h
  ·exact .inr (.inr (.inr h))
 ·rw [hp] at h
  simp at h
  rcases h with h | h
  ·exact .inr h
  ·exact .inl h
theorem putLea_len {t:LeaE} {l:List LeaE} (hs:l.Pairwise (fun a b=>a.n<b.n)):(putLea t l).length≤l.length+1:=by
 rcases putLea_split (t:=t) hs with⟨a,x,b,rfl,hn,hp,hne⟩ | ⟨hne,hp⟩
 ·rw [hp];simp
 ·rw [hp];simp
def FitsLea (t:LeaE) (l:List LeaE):Prop:=(∃ x∈l,x.n=t.n)∨∀ x∈l,x.n<t.n
theorem putLea_inc {t:LeaE} {l:List LeaE} (hs:l.Pairwise (fun a b=>a.n<b.n)) (hf:FitsLea t l):(putLea t l).Pairwise (fun a b=>a.n<b.n):=by
 rcases putLea_split (t:=t) hs with⟨a,x,b,rfl,hn,hp,hne⟩ | ⟨hne,hp⟩
 ·rw [hp]
  obtain⟨h1,h2,h3⟩:=List.pairwise_append.1 hs;obtain⟨h4,h5⟩:=List.pairwise_cons.1 h2;refine List.pairwise_append.2 ⟨h1,List.pairwise_cons.2 ⟨fun y hy=>by rw [← hn];exact h4 y hy,h5⟩,fun y hy z hz=>?_⟩
  rcases List.mem_cons.1 hz with rfl | hz
  ·rw [← hn];exact h3 y hy x (by simp)
  ·exact h3 y hy z (List.mem_cons_of_mem _ hz)
 ·rw [hp]
  refine List.pairwise_append.2 ⟨hs,by simp,fun y hy z hz=>?_⟩;rw [List.mem_singleton.1 hz]
  rcases hf with⟨x,hx,e⟩ | h
  ·exact absurd e (hne x hx)
  ·exact h y hy
theorem ListsOk.putT {tks:List TokE} {lks:List LeaE} (h:ListsOk tks lks) {t:TokE} (hf:FitsTok t tks) (hl:tks.length<500) (h1:t.n<u64lim) (h2:t.au<u64lim):ListsOk (putTok t tks) lks:=
 ⟨by have:=putTok_len (t:=t) h.incT;omega,h.lenL,putTok_inc h.incT hf,h.incL,fun x hx=>by rcases putTok_mem h.incT hx with rfl | hx;exact⟨h1,h2⟩;exact h.limT x hx,h.limL⟩
theorem ListsOk.putL {tks:List TokE} {lks:List LeaE} (h:ListsOk tks lks) {t:LeaE} (hf:FitsLea t lks) (hl:lks.length<500) (h1:t.n<u64lim) (h2:t.au<u64lim):ListsOk tks (putLea t lks):=
 ⟨h.lenT,by have:=putLea_len (t:=t) h.incL;omega,h.incT,putLea_inc h.incL hf,h.limT,fun x hx=>by rcases putLea_mem h.incL hx with rfl | hx;exact⟨h1,h2⟩;exact h.limL x hx⟩
theorem ListsOk.delT {tks:List TokE} {lks:List LeaE} (h:ListsOk tks lks) (n:Nat):ListsOk (delTok n tks) lks:=
 ⟨Nat.le_trans (List.length_filter_le _ _) h.lenT,h.lenL,h.incT.filter _,h.incL,fun x hx=>h.limT x (List.mem_filter.1 hx).1,h.limL⟩
theorem ListsOk.delL {tks:List TokE} {lks:List LeaE} (h:ListsOk tks lks) (n:Nat):ListsOk tks (delLea n lks):=
 ⟨h.lenT,Nat.le_trans (List.length_filter_le _ _) h.lenL,h.incT,h.incL.filter _,h.limT,fun x hx=>h.limL x (List.mem_filter.1 hx).1⟩
theorem ownsMap_tight {H:Type} {P:Program} {k:TypeId} {R:Value→Option (DataW H × List MemPlace)} {D:DataW H} {W:World} {b n:Nat} (h:W.ownsMap P k R b n D):W.ownsMap P k R b (Maps.size D) D:=by
 obtain⟨es,clock,hb,F,hs,rfl⟩:=h;exact⟨es,clock,hb,F,by simp [Maps.size,length_sorted],rfl⟩
section
variable {W:World} {mt ml:Nat} {tks:List TokE} {lks:List LeaE}
theorem Tryz.storeT (hH:Held W mt ml tks lks) (ok:ListsOk tks lks) {t:TokE} (hf:FitsTok t tks) (hl:tks.length<500) (h1:t.n<u64lim) (h2:t.au<u64lim) :
  ∃ w',(Instr.mapUpdate 120 (.map (some mt)) (nmV (1,(t.n:Int))) (.agg t.cells)).run prog W=.ok () w'∧(∃ n,n≤1000∧w'.ownsMap prog 114 valR mt n (mapD ((putTok t tks).map TokE.key).reverse))∧W.grownBy w' (some mt):=by
 obtain⟨n,hn,hm⟩:=hH.mapT;have hx:NmWf (1,(t.n:Int)):=wfNm (.inl rfl) h1;have ok2:=ok.putT hf hl h1 h2;obtain⟨w',hrun,hM,hT⟩:=hm.store (Keyed.of_law nmType.law) underlying120 (by unfold maxLen;omega) (key:=nmV (1,(t.n:Int))) (val:=.agg t.cells) (nmType.keyOf hx) (d:=.held (.agg t.cells)) (ps:=[]) rfl;refine⟨w',hrun,⟨Maps.size (mapD ((putTok t tks).map TokE.key).reverse),?_,?_⟩,hT.grown⟩
 ·rw [nmType.size_mapD _ ok2.ksT.1];have:=ok2.lenT;simp;omega
 ·have e:=nmType.mapD_put ok.ksT.1 hx (.agg t.cells)
  have e2:mapD (((1,(t.n:Int)),Value.agg t.cells) :: (tks.map TokE.key).reverse.filter (fun p=>decide (p.1≠(1,(t.n:Int)))))=mapD ((putTok t tks).map TokE.key).reverse:=
   (nmType.mapD_perm ok2.ksT.1 (putTok_perm ok.incT t).symm).symm
  rw [e2] at e;have hM':=ownsMap_tight hM;rw [show Lit.string (nmB (1,(t.n:Int)))=nmL (1,(t.n:Int)) from rfl,e] at hM';exact hM'
theorem Tryz.storeL (hH:Held W mt ml tks lks) (ok:ListsOk tks lks) {t:LeaE} (hf:FitsLea t lks) (hl:lks.length<500) (h1:t.n<u64lim) (h2:t.au<u64lim) :
  ∃ w',(Instr.mapUpdate 121 (.map (some ml)) (nmV (2,(t.n:Int))) (.agg t.cells)).run prog W=.ok () w'∧(∃ n,n≤1000∧w'.ownsMap prog 114 valR ml n (mapD ((putLea t lks).map LeaE.key).reverse))∧W.grownBy w' (some ml):=by
 obtain⟨n,hn,hm⟩:=hH.mapL;have hx:NmWf (2,(t.n:Int)):=wfNm (.inr rfl) h1;have ok2:=ok.putL hf hl h1 h2;obtain⟨w',hrun,hM,hT⟩:=hm.store (Keyed.of_law nmType.law) underlying121 (by unfold maxLen;omega) (key:=nmV (2,(t.n:Int))) (val:=.agg t.cells) (nmType.keyOf hx) (d:=.held (.agg t.cells)) (ps:=[]) rfl;refine⟨w',hrun,⟨Maps.size (mapD ((putLea t lks).map LeaE.key).reverse),?_,?_⟩,hT.grown⟩
 ·rw [nmType.size_mapD _ ok2.ksL.1];have:=ok2.lenL;simp;omega
 ·have e:=nmType.mapD_put ok.ksL.1 hx (.agg t.cells)
  have e2:mapD (((2,(t.n:Int)),Value.agg t.cells) :: (lks.map LeaE.key).reverse.filter (fun p=>decide (p.1≠(2,(t.n:Int)))))=mapD ((putLea t lks).map LeaE.key).reverse:=
   (nmType.mapD_perm ok2.ksL.1 (putLea_perm ok.incL t).symm).symm
  rw [e2] at e;have hM':=ownsMap_tight hM;rw [show Lit.string (nmB (2,(t.n:Int)))=nmL (2,(t.n:Int)) from rfl,e] at hM';exact hM'
end
end Go.Proofs
namespace Go.Proofs
open Go.RowKit Go.Sort
theorem BoxN.open5 {W:World} {q:Nat} {t:TypeId} {c0 c1 c2 c3 c4:Value} (h:BoxN W q t #[c0,c1,c2,c3,c4]):(W.cell? ⟨q,0,none⟩=some c0∧W.cell? ⟨q,1,none⟩=some c1∧W.cell? ⟨q,2,none⟩=some c2∧W.cell? ⟨q,3,none⟩=some c3∧W.cell? ⟨q,4,none⟩=some c4)∧(W.frozen? ⟨q,0,none⟩=false∧W.frozen? ⟨q,1,none⟩=false∧W.frozen? ⟨q,2,none⟩=false∧W.frozen? ⟨q,3,none⟩=false∧W.frozen? ⟨q,4,none⟩=false):=
 ⟨⟨h.cell 0 rfl,h.cell 1 rfl,h.cell 2 rfl,h.cell 3 rfl,h.cell 4 rfl⟩,⟨h.frozen 0,h.frozen 1,h.frozen 2,h.frozen 3,h.frozen 4⟩⟩
theorem BoxN.sets5 {W:World} {q:Nat} {t:TypeId} {c0 c1 c2 c3 c4:Value} (h:BoxN W q t #[c0,c1,c2,c3,c4]) (v0 v1 v2 v3 v4:Value):BoxN (((((W.setCell ⟨q,0,none⟩ v0).setCell ⟨q,1,none⟩ v1).setCell ⟨q,2,none⟩ v2).setCell ⟨q,3,none⟩ v3).setCell ⟨q,4,none⟩ v4) q t #[v0,v1,v2,v3,v4]:=by
 have h1:BoxN (W.setCell ⟨q,0,none⟩ v0) q t #[v0,c1,c2,c3,c4]:=h.set 0 v0;have h2:BoxN ((W.setCell ⟨q,0,none⟩ v0).setCell ⟨q,1,none⟩ v1) q t #[v0,v1,c2,c3,c4]:=h1.set 1 v1;have h3:BoxN (((W.setCell ⟨q,0,none⟩ v0).setCell ⟨q,1,none⟩ v1).setCell ⟨q,2,none⟩ v2) q t #[v0,v1,v2,c3,c4]:=h2.set 2 v2;have h4:BoxN ((((W.setCell ⟨q,0,none⟩ v0).setCell ⟨q,1,none⟩ v1).setCell ⟨q,2,none⟩ v2).setCell ⟨q,3,none⟩ v3) q t #[v0,v1,v2,v3,c4]:=h3.set 3 v3;have h5:BoxN (((((W.setCell ⟨q,0,none⟩ v0).setCell ⟨q,1,none⟩ v1).setCell ⟨q,2,none⟩ v2).setCell ⟨q,3,none⟩ v3).setCell ⟨q,4,none⟩ v4) q t #[v0,v1,v2,v3,v4]:=h4.set 4 v4;exact h5
theorem belowSets5 {B:Nat} {w W:World} (hb:Below B w W) {q:Nat} (hq:B≤q) (v0 v1 v2 v3 v4:Value):Below B w (((((W.setCell ⟨q,0,none⟩ v0).setCell ⟨q,1,none⟩ v1).setCell ⟨q,2,none⟩ v2).setCell ⟨q,3,none⟩ v3).setCell ⟨q,4,none⟩ v4):=(((((hb.setCell (p:=⟨q,0,none⟩) hq v0).setCell (p:=⟨q,1,none⟩) hq v1).setCell (p:=⟨q,2,none⟩) hq v2).setCell (p:=⟨q,3,none⟩) hq v3).setCell (p:=⟨q,4,none⟩) hq v4)
abbrev Row5 (W:World) (rb:Nat):Prop:=
 (W.cell? ⟨rb,0,none⟩=some (cellOr W ⟨rb,0,none⟩)∧W.cell? ⟨rb,1,none⟩=some (cellOr W ⟨rb,1,none⟩)∧W.cell? ⟨rb,2,none⟩=some (cellOr W ⟨rb,2,none⟩)∧W.cell? ⟨rb,3,none⟩=some (cellOr W ⟨rb,3,none⟩)∧W.cell? ⟨rb,4,none⟩=some (cellOr W ⟨rb,4,none⟩)) ∧
 (W.frozen? ⟨rb,0,none⟩=false∧W.frozen? ⟨rb,1,none⟩=false∧W.frozen? ⟨rb,2,none⟩=false∧W.frozen? ⟨rb,3,none⟩=false∧W.frozen? ⟨rb,4,none⟩=false)
theorem Row5.below {W W':World} {rb:Nat} (h:Row5 W rb) (hb:Below W.heap.size W W'):Row5 W' rb:=by
 have hlt:rb<W.heap.size:=World.block_lt_of_cell? _ _ h.1.1
 have c:∀ i,W'.cell? ⟨rb,i,none⟩=W.cell? ⟨rb,i,none⟩:=fun i=>hb.cell (p:=⟨rb,i,none⟩) hlt
 have f:∀ i,W'.frozen? ⟨rb,i,none⟩=W.frozen? ⟨rb,i,none⟩:=fun i=>hb.frozen (p:=⟨rb,i,none⟩) hlt
 have e:∀ i,cellOr W' ⟨rb,i,none⟩=cellOr W ⟨rb,i,none⟩:=fun i=>by unfold cellOr;rw [c i]
 simp only [Row5,c,f,e];exact h
theorem Row5.mk {W:World} {rb:Nat} (h:∀ i,i<5→(W.cell? ⟨rb,i,none⟩).isSome) (f:∀ i,i<5→W.frozen? ⟨rb,i,none⟩=false):Row5 W rb:=
 ⟨⟨cellOr_some (h 0 (by omega)),cellOr_some (h 1 (by omega)),cellOr_some (h 2 (by omega)),cellOr_some (h 3 (by omega)),cellOr_some (h 4 (by omega))⟩,f 0 (by omega),f 1 (by omega),f 2 (by omega),f 3 (by omega),f 4 (by omega)⟩
theorem Row5.set {W:World} {rb:Nat} (h:Row5 W rb) (a:Addr) (v:Value):Row5 (W.setCell a v) rb:=by
 obtain⟨⟨c0,c1,c2,c3,c4⟩,f0,f1,f2,f3,f4⟩:=h
 have g:∀ i,(W.cell? ⟨rb,i,none⟩).isSome→((W.setCell a v).cell? ⟨rb,i,none⟩).isSome:=fun i hi=>by
  obtain⟨x,hx⟩:=Option.isSome_iff_exists.1 hi;obtain⟨y,hy⟩:=cell?_setCell_some (w:=W) (p:=a) (x:=v) hx;rw [hy];rfl
 have f:∀ i,(W.setCell a v).frozen? ⟨rb,i,none⟩=W.frozen? ⟨rb,i,none⟩:=fun i=>World.frozen?_setCell _ _ _ _
 exact⟨⟨cellOr_some (g 0 (by rw [c0];rfl)),cellOr_some (g 1 (by rw [c1];rfl)),cellOr_some (g 2 (by rw [c2];rfl)),cellOr_some (g 3 (by rw [c3];rfl)),cellOr_some (g 4 (by rw [c4];rfl))⟩,(f 0).trans f0,(f 1).trans f1,(f 2).trans f2,(f 3).trans f3,(f 4).trans f4⟩
theorem Row5.sets {W:World} {rb:Nat} (h:Row5 W rb) (v0 v1 v2 v3 v4:Value):(((((W.setCell ⟨rb,0,none⟩ v0).setCell ⟨rb,1,none⟩ v1).setCell ⟨rb,2,none⟩ v2).setCell ⟨rb,3,none⟩ v3).setCell ⟨rb,4,none⟩ v4).cell? ⟨rb,0,none⟩=some v0∧(((((W.setCell ⟨rb,0,none⟩ v0).setCell ⟨rb,1,none⟩ v1).setCell ⟨rb,2,none⟩ v2).setCell ⟨rb,3,none⟩ v3).setCell ⟨rb,4,none⟩ v4).cell? ⟨rb,1,none⟩=some v1∧(((((W.setCell ⟨rb,0,none⟩ v0).setCell ⟨rb,1,none⟩ v1).setCell ⟨rb,2,none⟩ v2).setCell ⟨rb,3,none⟩ v3).setCell ⟨rb,4,none⟩ v4).cell? ⟨rb,2,none⟩=some v2∧(((((W.setCell ⟨rb,0,none⟩ v0).setCell ⟨rb,1,none⟩ v1).setCell ⟨rb,2,none⟩ v2).setCell ⟨rb,3,none⟩ v3).setCell ⟨rb,4,none⟩ v4).cell? ⟨rb,3,none⟩=some v3∧(((((W.setCell ⟨rb,0,none⟩ v0).setCell ⟨rb,1,none⟩ v1).setCell ⟨rb,2,none⟩ v2).setCell ⟨rb,3,none⟩ v3).setCell ⟨rb,4,none⟩ v4).cell? ⟨rb,4,none⟩=some v4:=by
 have o:∀(V:World) (i j:Nat) (v:Value),i≠j→(V.setCell ⟨rb,i,none⟩ v).cell? ⟨rb,j,none⟩=V.cell? ⟨rb,j,none⟩:=fun V i j v _=>World.cell?_setCell_other _ _ _ _ (by simp)
 have h0:=h;have h1:=h0.set ⟨rb,0,none⟩ v0;have h2:=h1.set ⟨rb,1,none⟩ v1;have h3:=h2.set ⟨rb,2,none⟩ v2;have h4:=h3.set ⟨rb,3,none⟩ v3;have s0:=World.cell?_setCell_same _ _ v0 h0.1.1;have s1:=World.cell?_setCell_same _ _ v1 h1.1.2.1;have s2:=World.cell?_setCell_same _ _ v2 h2.1.2.2.1;have s3:=World.cell?_setCell_same _ _ v3 h3.1.2.2.2.1;have s4:=World.cell?_setCell_same _ _ v4 h4.1.2.2.2.2;refine⟨?_,?_,?_,?_,s4⟩
 ·rw [o _ 4 0 _ (by omega),o _ 3 0 _ (by omega),o _ 2 0 _ (by omega),o _ 1 0 _ (by omega),s0]
 ·rw [o _ 4 1 _ (by omega),o _ 3 1 _ (by omega),o _ 2 1 _ (by omega),s1]
 ·rw [o _ 4 2 _ (by omega),o _ 3 2 _ (by omega),s2]
 ·rw [o _ 4 3 _ (by omega),s3]
theorem BoxN.open7 {W:World} {q:Nat} {t:TypeId} {c0 c1 c2 c3 c4 c5 c6:Value} (h:BoxN W q t #[c0,c1,c2,c3,c4,c5,c6]):(W.cell? ⟨q,0,none⟩=some c0∧W.cell? ⟨q,1,none⟩=some c1∧W.cell? ⟨q,2,none⟩=some c2∧W.cell? ⟨q,3,none⟩=some c3∧W.cell? ⟨q,4,none⟩=some c4∧W.cell? ⟨q,5,none⟩=some c5∧W.cell? ⟨q,6,none⟩=some c6)∧(W.frozen? ⟨q,0,none⟩=false∧W.frozen? ⟨q,1,none⟩=false∧W.frozen? ⟨q,2,none⟩=false∧W.frozen? ⟨q,3,none⟩=false∧W.frozen? ⟨q,4,none⟩=false∧W.frozen? ⟨q,5,none⟩=false∧W.frozen? ⟨q,6,none⟩=false):=
 ⟨⟨h.cell 0 rfl,h.cell 1 rfl,h.cell 2 rfl,h.cell 3 rfl,h.cell 4 rfl,h.cell 5 rfl,h.cell 6 rfl⟩,⟨h.frozen 0,h.frozen 1,h.frozen 2,h.frozen 3,h.frozen 4,h.frozen 5,h.frozen 6⟩⟩
theorem BoxN.sets7 {W:World} {q:Nat} {t:TypeId} {c0 c1 c2 c3 c4 c5 c6:Value} (h:BoxN W q t #[c0,c1,c2,c3,c4,c5,c6]) (v0 v1 v2 v3 v4 v5 v6:Value):BoxN (((((((W.setCell ⟨q,0,none⟩ v0).setCell ⟨q,1,none⟩ v1).setCell ⟨q,2,none⟩ v2).setCell ⟨q,3,none⟩ v3).setCell ⟨q,4,none⟩ v4).setCell ⟨q,5,none⟩ v5).setCell ⟨q,6,none⟩ v6) q t #[v0,v1,v2,v3,v4,v5,v6]:=by
 have h1:BoxN (W.setCell ⟨q,0,none⟩ v0) q t #[v0,c1,c2,c3,c4,c5,c6]:=h.set 0 v0;have h2:BoxN ((W.setCell ⟨q,0,none⟩ v0).setCell ⟨q,1,none⟩ v1) q t #[v0,v1,c2,c3,c4,c5,c6]:=h1.set 1 v1;have h3:BoxN (((W.setCell ⟨q,0,none⟩ v0).setCell ⟨q,1,none⟩ v1).setCell ⟨q,2,none⟩ v2) q t #[v0,v1,v2,c3,c4,c5,c6]:=h2.set 2 v2;have h4:BoxN ((((W.setCell ⟨q,0,none⟩ v0).setCell ⟨q,1,none⟩ v1).setCell ⟨q,2,none⟩ v2).setCell ⟨q,3,none⟩ v3) q t #[v0,v1,v2,v3,c4,c5,c6]:=h3.set 3 v3;have h5:BoxN (((((W.setCell ⟨q,0,none⟩ v0).setCell ⟨q,1,none⟩ v1).setCell ⟨q,2,none⟩ v2).setCell ⟨q,3,none⟩ v3).setCell ⟨q,4,none⟩ v4) q t #[v0,v1,v2,v3,v4,c5,c6]:=h4.set 4 v4;have h6:BoxN ((((((W.setCell ⟨q,0,none⟩ v0).setCell ⟨q,1,none⟩ v1).setCell ⟨q,2,none⟩ v2).setCell ⟨q,3,none⟩ v3).setCell ⟨q,4,none⟩ v4).setCell ⟨q,5,none⟩ v5) q t #[v0,v1,v2,v3,v4,v5,c6]:=h5.set 5 v5;have h7:BoxN (((((((W.setCell ⟨q,0,none⟩ v0).setCell ⟨q,1,none⟩ v1).setCell ⟨q,2,none⟩ v2).setCell ⟨q,3,none⟩ v3).setCell ⟨q,4,none⟩ v4).setCell ⟨q,5,none⟩ v5).setCell ⟨q,6,none⟩ v6) q t #[v0,v1,v2,v3,v4,v5,v6]:=h6.set 6 v6;exact h7
abbrev Row7 (W:World) (rb:Nat):Prop:=
 (W.cell? ⟨rb,0,none⟩=some (cellOr W ⟨rb,0,none⟩)∧W.cell? ⟨rb,1,none⟩=some (cellOr W ⟨rb,1,none⟩)∧W.cell? ⟨rb,2,none⟩=some (cellOr W ⟨rb,2,none⟩)∧W.cell? ⟨rb,3,none⟩=some (cellOr W ⟨rb,3,none⟩)∧W.cell? ⟨rb,4,none⟩=some (cellOr W ⟨rb,4,none⟩)∧W.cell? ⟨rb,5,none⟩=some (cellOr W ⟨rb,5,none⟩)∧W.cell? ⟨rb,6,none⟩=some (cellOr W ⟨rb,6,none⟩)) ∧
 (W.frozen? ⟨rb,0,none⟩=false∧W.frozen? ⟨rb,1,none⟩=false∧W.frozen? ⟨rb,2,none⟩=false∧W.frozen? ⟨rb,3,none⟩=false∧W.frozen? ⟨rb,4,none⟩=false∧W.frozen? ⟨rb,5,none⟩=false∧W.frozen? ⟨rb,6,none⟩=false)
theorem Row7.below {W W':World} {rb:Nat} (h:Row7 W rb) (hb:Below W.heap.size W W'):Row7 W' rb:=by
 have hlt:rb<W.heap.size:=World.block_lt_of_cell? _ _ h.1.1
 have c:∀ i,W'.cell? ⟨rb,i,none⟩=W.cell? ⟨rb,i,none⟩:=fun i=>hb.cell (p:=⟨rb,i,none⟩) hlt
 have f:∀ i,W'.frozen? ⟨rb,i,none⟩=W.frozen? ⟨rb,i,none⟩:=fun i=>hb.frozen (p:=⟨rb,i,none⟩) hlt
 have e:∀ i,cellOr W' ⟨rb,i,none⟩=cellOr W ⟨rb,i,none⟩:=fun i=>by unfold cellOr;rw [c i]
 simp only [Row7,c,f,e];exact h
theorem Row7.mk {W:World} {rb:Nat} (h:∀ i,i<7→(W.cell? ⟨rb,i,none⟩).isSome) (f:∀ i,i<7→W.frozen? ⟨rb,i,none⟩=false):Row7 W rb:=
 ⟨⟨cellOr_some (h 0 (by omega)),cellOr_some (h 1 (by omega)),cellOr_some (h 2 (by omega)),cellOr_some (h 3 (by omega)),cellOr_some (h 4 (by omega)),cellOr_some (h 5 (by omega)),cellOr_some (h 6 (by omega))⟩,f 0 (by omega),f 1 (by omega),f 2 (by omega),f 3 (by omega),f 4 (by omega),f 5 (by omega),f 6 (by omega)⟩
theorem BoxN.row7 {W:World} {q:Nat} {t:TypeId} {c0 c1 c2 c3 c4 c5 c6:Value} (h:BoxN W q t #[c0,c1,c2,c3,c4,c5,c6]):Row7 W q:=by
 refine Row7.mk (fun i hi=>?_) (fun i _=>h.frozen i);rw [h.cell i (v:=#[c0,c1,c2,c3,c4,c5,c6][i]) (by simp [hi])];rfl
theorem Row7.set {W:World} {rb:Nat} (h:Row7 W rb) (a:Addr) (v:Value):Row7 (W.setCell a v) rb:=by
 obtain⟨⟨c0,c1,c2,c3,c4,c5,c6⟩,f0,f1,f2,f3,f4,f5,f6⟩:=h
 have g:∀ i,(W.cell? ⟨rb,i,none⟩).isSome→((W.setCell a v).cell? ⟨rb,i,none⟩).isSome:=fun i hi=>by
  obtain⟨x,hx⟩:=Option.isSome_iff_exists.1 hi;obtain⟨y,hy⟩:=cell?_setCell_some (w:=W) (p:=a) (x:=v) hx;rw [hy];rfl
 have f:∀ i,(W.setCell a v).frozen? ⟨rb,i,none⟩=W.frozen? ⟨rb,i,none⟩:=fun i=>World.frozen?_setCell _ _ _ _
 exact⟨⟨cellOr_some (g 0 (by rw [c0];rfl)),cellOr_some (g 1 (by rw [c1];rfl)),cellOr_some (g 2 (by rw [c2];rfl)),cellOr_some (g 3 (by rw [c3];rfl)),cellOr_some (g 4 (by rw [c4];rfl)),cellOr_some (g 5 (by rw [c5];rfl)),cellOr_some (g 6 (by rw [c6];rfl))⟩,(f 0).trans f0,(f 1).trans f1,(f 2).trans f2,(f 3).trans f3,(f 4).trans f4,(f 5).trans f5,(f 6).trans f6⟩
theorem Row7.sets {W:World} {rb:Nat} (h:Row7 W rb) (v0 v1 v2 v3 v4 v5 v6:Value):(((((((W.setCell ⟨rb,0,none⟩ v0).setCell ⟨rb,1,none⟩ v1).setCell ⟨rb,2,none⟩ v2).setCell ⟨rb,3,none⟩ v3).setCell ⟨rb,4,none⟩ v4).setCell ⟨rb,5,none⟩ v5).setCell ⟨rb,6,none⟩ v6).cell? ⟨rb,0,none⟩=some v0∧(((((((W.setCell ⟨rb,0,none⟩ v0).setCell ⟨rb,1,none⟩ v1).setCell ⟨rb,2,none⟩ v2).setCell ⟨rb,3,none⟩ v3).setCell ⟨rb,4,none⟩ v4).setCell ⟨rb,5,none⟩ v5).setCell ⟨rb,6,none⟩ v6).cell? ⟨rb,1,none⟩=some v1∧(((((((W.setCell ⟨rb,0,none⟩ v0).setCell ⟨rb,1,none⟩ v1).setCell ⟨rb,2,none⟩ v2).setCell ⟨rb,3,none⟩ v3).setCell ⟨rb,4,none⟩ v4).setCell ⟨rb,5,none⟩ v5).setCell ⟨rb,6,none⟩ v6).cell? ⟨rb,2,none⟩=some v2∧(((((((W.setCell ⟨rb,0,none⟩ v0).setCell ⟨rb,1,none⟩ v1).setCell ⟨rb,2,none⟩ v2).setCell ⟨rb,3,none⟩ v3).setCell ⟨rb,4,none⟩ v4).setCell ⟨rb,5,none⟩ v5).setCell ⟨rb,6,none⟩ v6).cell? ⟨rb,3,none⟩=some v3∧(((((((W.setCell ⟨rb,0,none⟩ v0).setCell ⟨rb,1,none⟩ v1).setCell ⟨rb,2,none⟩ v2).setCell ⟨rb,3,none⟩ v3).setCell ⟨rb,4,none⟩ v4).setCell ⟨rb,5,none⟩ v5).setCell ⟨rb,6,none⟩ v6).cell? ⟨rb,4,none⟩=some v4∧(((((((W.setCell ⟨rb,0,none⟩ v0).setCell ⟨rb,1,none⟩ v1).setCell ⟨rb,2,none⟩ v2).setCell ⟨rb,3,none⟩ v3).setCell ⟨rb,4,none⟩ v4).setCell ⟨rb,5,none⟩ v5).setCell ⟨rb,6,none⟩ v6).cell? ⟨rb,5,none⟩=some v5∧(((((((W.setCell ⟨rb,0,none⟩ v0).setCell ⟨rb,1,none⟩ v1).setCell ⟨rb,2,none⟩ v2).setCell ⟨rb,3,none⟩ v3).setCell ⟨rb,4,none⟩ v4).setCell ⟨rb,5,none⟩ v5).setCell ⟨rb,6,none⟩ v6).cell? ⟨rb,6,none⟩=some v6:=by
 have o:∀(V:World) (i j:Nat) (v:Value),i≠j→(V.setCell ⟨rb,i,none⟩ v).cell? ⟨rb,j,none⟩=V.cell? ⟨rb,j,none⟩:=fun V i j v _=>World.cell?_setCell_other _ _ _ _ (by simp)
 have h0:=h;have h1:=h0.set ⟨rb,0,none⟩ v0;have h2:=h1.set ⟨rb,1,none⟩ v1;have h3:=h2.set ⟨rb,2,none⟩ v2;have h4:=h3.set ⟨rb,3,none⟩ v3;have h5:=h4.set ⟨rb,4,none⟩ v4;have h6:=h5.set ⟨rb,5,none⟩ v5;have s0:=World.cell?_setCell_same _ _ v0 h0.1.1;have s1:=World.cell?_setCell_same _ _ v1 h1.1.2.1;have s2:=World.cell?_setCell_same _ _ v2 h2.1.2.2.1;have s3:=World.cell?_setCell_same _ _ v3 h3.1.2.2.2.1;have s4:=World.cell?_setCell_same _ _ v4 h4.1.2.2.2.2.1;have s5:=World.cell?_setCell_same _ _ v5 h5.1.2.2.2.2.2.1;have s6:=World.cell?_setCell_same _ _ v6 h6.1.2.2.2.2.2.2;refine⟨?_,?_,?_,?_,?_,?_,s6⟩
 ·rw [o _ 6 0 _ (by omega),o _ 5 0 _ (by omega),o _ 4 0 _ (by omega),o _ 3 0 _ (by omega),o _ 2 0 _ (by omega),o _ 1 0 _ (by omega),s0]
 ·rw [o _ 6 1 _ (by omega),o _ 5 1 _ (by omega),o _ 4 1 _ (by omega),o _ 3 1 _ (by omega),o _ 2 1 _ (by omega),s1]
 ·rw [o _ 6 2 _ (by omega),o _ 5 2 _ (by omega),o _ 4 2 _ (by omega),o _ 3 2 _ (by omega),s2]
 ·rw [o _ 6 3 _ (by omega),o _ 5 3 _ (by omega),o _ 4 3 _ (by omega),s3]
 ·rw [o _ 6 4 _ (by omega),o _ 5 4 _ (by omega),s4]
 ·rw [o _ 6 5 _ (by omega),s5]
theorem BoxN.open10 {W:World} {q:Nat} {t:TypeId} {c0 c1 c2 c3 c4 c5 c6 c7 c8 c9:Value} (h:BoxN W q t #[c0,c1,c2,c3,c4,c5,c6,c7,c8,c9]):(W.cell? ⟨q,0,none⟩=some c0∧W.cell? ⟨q,1,none⟩=some c1∧W.cell? ⟨q,2,none⟩=some c2∧W.cell? ⟨q,3,none⟩=some c3∧W.cell? ⟨q,4,none⟩=some c4∧W.cell? ⟨q,5,none⟩=some c5∧W.cell? ⟨q,6,none⟩=some c6∧W.cell? ⟨q,7,none⟩=some c7∧W.cell? ⟨q,8,none⟩=some c8∧W.cell? ⟨q,9,none⟩=some c9)∧(W.frozen? ⟨q,0,none⟩=false∧W.frozen? ⟨q,1,none⟩=false∧W.frozen? ⟨q,2,none⟩=false∧W.frozen? ⟨q,3,none⟩=false∧W.frozen? ⟨q,4,none⟩=false∧W.frozen? ⟨q,5,none⟩=false∧W.frozen? ⟨q,6,none⟩=false∧W.frozen? ⟨q,7,none⟩=false∧W.frozen? ⟨q,8,none⟩=false∧W.frozen? ⟨q,9,none⟩=false):=
 ⟨⟨h.cell 0 rfl,h.cell 1 rfl,h.cell 2 rfl,h.cell 3 rfl,h.cell 4 rfl,h.cell 5 rfl,h.cell 6 rfl,h.cell 7 rfl,h.cell 8 rfl,h.cell 9 rfl⟩,⟨h.frozen 0,h.frozen 1,h.frozen 2,h.frozen 3,h.frozen 4,h.frozen 5,h.frozen 6,h.frozen 7,h.frozen 8,h.frozen 9⟩⟩
theorem BoxN.sets10 {W:World} {q:Nat} {t:TypeId} {c0 c1 c2 c3 c4 c5 c6 c7 c8 c9:Value} (h:BoxN W q t #[c0,c1,c2,c3,c4,c5,c6,c7,c8,c9]) (v0 v1 v2 v3 v4 v5 v6 v7 v8 v9:Value):BoxN ((((((((((W.setCell ⟨q,0,none⟩ v0).setCell ⟨q,1,none⟩ v1).setCell ⟨q,2,none⟩ v2).setCell ⟨q,3,none⟩ v3).setCell ⟨q,4,none⟩ v4).setCell ⟨q,5,none⟩ v5).setCell ⟨q,6,none⟩ v6).setCell ⟨q,7,none⟩ v7).setCell ⟨q,8,none⟩ v8).setCell ⟨q,9,none⟩ v9) q t #[v0,v1,v2,v3,v4,v5,v6,v7,v8,v9]:=by
 have h1:BoxN (W.setCell ⟨q,0,none⟩ v0) q t #[v0,c1,c2,c3,c4,c5,c6,c7,c8,c9]:=h.set 0 v0;have h2:BoxN ((W.setCell ⟨q,0,none⟩ v0).setCell ⟨q,1,none⟩ v1) q t #[v0,v1,c2,c3,c4,c5,c6,c7,c8,c9]:=h1.set 1 v1;have h3:BoxN (((W.setCell ⟨q,0,none⟩ v0).setCell ⟨q,1,none⟩ v1).setCell ⟨q,2,none⟩ v2) q t #[v0,v1,v2,c3,c4,c5,c6,c7,c8,c9]:=h2.set 2 v2;have h4:BoxN ((((W.setCell ⟨q,0,none⟩ v0).setCell ⟨q,1,none⟩ v1).setCell ⟨q,2,none⟩ v2).setCell ⟨q,3,none⟩ v3) q t #[v0,v1,v2,v3,c4,c5,c6,c7,c8,c9]:=h3.set 3 v3;have h5:BoxN (((((W.setCell ⟨q,0,none⟩ v0).setCell ⟨q,1,none⟩ v1).setCell ⟨q,2,none⟩ v2).setCell ⟨q,3,none⟩ v3).setCell ⟨q,4,none⟩ v4) q t #[v0,v1,v2,v3,v4,c5,c6,c7,c8,c9]:=h4.set 4 v4;have h6:BoxN ((((((W.setCell ⟨q,0,none⟩ v0).setCell ⟨q,1,none⟩ v1).setCell ⟨q,2,none⟩ v2).setCell ⟨q,3,none⟩ v3).setCell ⟨q,4,none⟩ v4).setCell ⟨q,5,none⟩ v5) q t #[v0,v1,v2,v3,v4,v5,c6,c7,c8,c9]:=h5.set 5 v5;have h7:BoxN (((((((W.setCell ⟨q,0,none⟩ v0).setCell ⟨q,1,none⟩ v1).setCell ⟨q,2,none⟩ v2).setCell ⟨q,3,none⟩ v3).setCell ⟨q,4,none⟩ v4).setCell ⟨q,5,none⟩ v5).setCell ⟨q,6,none⟩ v6) q t #[v0,v1,v2,v3,v4,v5,v6,c7,c8,c9]:=h6.set 6 v6;have h8:BoxN ((((((((W.setCell ⟨q,0,none⟩ v0).setCell ⟨q,1,none⟩ v1).setCell ⟨q,2,none⟩ v2).setCell ⟨q,3,none⟩ v3).setCell ⟨q,4,none⟩ v4).setCell ⟨q,5,none⟩ v5).setCell ⟨q,6,none⟩ v6).setCell ⟨q,7,none⟩ v7) q t #[v0,v1,v2,v3,v4,v5,v6,v7,c8,c9]:=h7.set 7 v7;have h9:BoxN (((((((((W.setCell ⟨q,0,none⟩ v0).setCell ⟨q,1,none⟩ v1).setCell ⟨q,2,none⟩ v2).setCell ⟨q,3,none⟩ v3).setCell ⟨q,4,none⟩ v4).setCell ⟨q,5,none⟩ v5).setCell ⟨q,6,none⟩ v6).setCell ⟨q,7,none⟩ v7).setCell ⟨q,8,none⟩ v8) q t #[v0,v1,v2,v3,v4,v5,v6,v7,v8,c9]:=h8.set 8 v8;have h10:BoxN ((((((((((W.setCell ⟨q,0,none⟩ v0).setCell ⟨q,1,none⟩ v1).setCell ⟨q,2,none⟩ v2).setCell ⟨q,3,none⟩ v3).setCell ⟨q,4,none⟩ v4).setCell ⟨q,5,none⟩ v5).setCell ⟨q,6,none⟩ v6).setCell ⟨q,7,none⟩ v7).setCell ⟨q,8,none⟩ v8).setCell ⟨q,9,none⟩ v9) q t #[v0,v1,v2,v3,v4,v5,v6,v7,v8,v9]:=h9.set 9 v9;exact h10
theorem belowSets10 {B:Nat} {w W:World} (hb:Below B w W) {q:Nat} (hq:B≤q) (v0 v1 v2 v3 v4 v5 v6 v7 v8 v9:Value):Below B w ((((((((((W.setCell ⟨q,0,none⟩ v0).setCell ⟨q,1,none⟩ v1).setCell ⟨q,2,none⟩ v2).setCell ⟨q,3,none⟩ v3).setCell ⟨q,4,none⟩ v4).setCell ⟨q,5,none⟩ v5).setCell ⟨q,6,none⟩ v6).setCell ⟨q,7,none⟩ v7).setCell ⟨q,8,none⟩ v8).setCell ⟨q,9,none⟩ v9):=((((((((((hb.setCell (p:=⟨q,0,none⟩) hq v0).setCell (p:=⟨q,1,none⟩) hq v1).setCell (p:=⟨q,2,none⟩) hq v2).setCell (p:=⟨q,3,none⟩) hq v3).setCell (p:=⟨q,4,none⟩) hq v4).setCell (p:=⟨q,5,none⟩) hq v5).setCell (p:=⟨q,6,none⟩) hq v6).setCell (p:=⟨q,7,none⟩) hq v7).setCell (p:=⟨q,8,none⟩) hq v8).setCell (p:=⟨q,9,none⟩) hq v9)
abbrev Row10 (W:World) (rb:Nat):Prop:=
 (W.cell? ⟨rb,0,none⟩=some (cellOr W ⟨rb,0,none⟩)∧W.cell? ⟨rb,1,none⟩=some (cellOr W ⟨rb,1,none⟩)∧W.cell? ⟨rb,2,none⟩=some (cellOr W ⟨rb,2,none⟩)∧W.cell? ⟨rb,3,none⟩=some (cellOr W ⟨rb,3,none⟩)∧W.cell? ⟨rb,4,none⟩=some (cellOr W ⟨rb,4,none⟩)∧W.cell? ⟨rb,5,none⟩=some (cellOr W ⟨rb,5,none⟩)∧W.cell? ⟨rb,6,none⟩=some (cellOr W ⟨rb,6,none⟩)∧W.cell? ⟨rb,7,none⟩=some (cellOr W ⟨rb,7,none⟩)∧W.cell? ⟨rb,8,none⟩=some (cellOr W ⟨rb,8,none⟩)∧W.cell? ⟨rb,9,none⟩=some (cellOr W ⟨rb,9,none⟩)) ∧
 (W.frozen? ⟨rb,0,none⟩=false∧W.frozen? ⟨rb,1,none⟩=false∧W.frozen? ⟨rb,2,none⟩=false∧W.frozen? ⟨rb,3,none⟩=false∧W.frozen? ⟨rb,4,none⟩=false∧W.frozen? ⟨rb,5,none⟩=false∧W.frozen? ⟨rb,6,none⟩=false∧W.frozen? ⟨rb,7,none⟩=false∧W.frozen? ⟨rb,8,none⟩=false∧W.frozen? ⟨rb,9,none⟩=false)
theorem Row10.below {W W':World} {rb:Nat} (h:Row10 W rb) (hb:Below W.heap.size W W'):Row10 W' rb:=by
 have hlt:rb<W.heap.size:=World.block_lt_of_cell? _ _ h.1.1
 have c:∀ i,W'.cell? ⟨rb,i,none⟩=W.cell? ⟨rb,i,none⟩:=fun i=>hb.cell (p:=⟨rb,i,none⟩) hlt
 have f:∀ i,W'.frozen? ⟨rb,i,none⟩=W.frozen? ⟨rb,i,none⟩:=fun i=>hb.frozen (p:=⟨rb,i,none⟩) hlt
 have e:∀ i,cellOr W' ⟨rb,i,none⟩=cellOr W ⟨rb,i,none⟩:=fun i=>by unfold cellOr;rw [c i]
 simp only [Row10,c,f,e];exact h
theorem Row10.mk {W:World} {rb:Nat} (h:∀ i,i<10→(W.cell? ⟨rb,i,none⟩).isSome) (f:∀ i,i<10→W.frozen? ⟨rb,i,none⟩=false):Row10 W rb:=
 ⟨⟨cellOr_some (h 0 (by omega)),cellOr_some (h 1 (by omega)),cellOr_some (h 2 (by omega)),cellOr_some (h 3 (by omega)),cellOr_some (h 4 (by omega)),cellOr_some (h 5 (by omega)),cellOr_some (h 6 (by omega)),cellOr_some (h 7 (by omega)),cellOr_some (h 8 (by omega)),cellOr_some (h 9 (by omega))⟩,f 0 (by omega),f 1 (by omega),f 2 (by omega),f 3 (by omega),f 4 (by omega),f 5 (by omega),f 6 (by omega),f 7 (by omega),f 8 (by omega),f 9 (by omega)⟩
theorem BoxN.row10 {W:World} {q:Nat} {t:TypeId} {c0 c1 c2 c3 c4 c5 c6 c7 c8 c9:Value} (h:BoxN W q t #[c0,c1,c2,c3,c4,c5,c6,c7,c8,c9]):Row10 W q:=by
 refine Row10.mk (fun i hi=>?_) (fun i _=>h.frozen i);rw [h.cell i (v:=#[c0,c1,c2,c3,c4,c5,c6,c7,c8,c9][i]) (by simp [hi])];rfl
theorem Row10.set {W:World} {rb:Nat} (h:Row10 W rb) (a:Addr) (v:Value):Row10 (W.setCell a v) rb:=by
 obtain⟨⟨c0,c1,c2,c3,c4,c5,c6,c7,c8,c9⟩,f0,f1,f2,f3,f4,f5,f6,f7,f8,f9⟩:=h
 have g:∀ i,(W.cell? ⟨rb,i,none⟩).isSome→((W.setCell a v).cell? ⟨rb,i,none⟩).isSome:=fun i hi=>by
  obtain⟨x,hx⟩:=Option.isSome_iff_exists.1 hi;obtain⟨y,hy⟩:=cell?_setCell_some (w:=W) (p:=a) (x:=v) hx;rw [hy];rfl
 have f:∀ i,(W.setCell a v).frozen? ⟨rb,i,none⟩=W.frozen? ⟨rb,i,none⟩:=fun i=>World.frozen?_setCell _ _ _ _
 exact⟨⟨cellOr_some (g 0 (by rw [c0];rfl)),cellOr_some (g 1 (by rw [c1];rfl)),cellOr_some (g 2 (by rw [c2];rfl)),cellOr_some (g 3 (by rw [c3];rfl)),cellOr_some (g 4 (by rw [c4];rfl)),cellOr_some (g 5 (by rw [c5];rfl)),cellOr_some (g 6 (by rw [c6];rfl)),cellOr_some (g 7 (by rw [c7];rfl)),cellOr_some (g 8 (by rw [c8];rfl)),cellOr_some (g 9 (by rw [c9];rfl))⟩,(f 0).trans f0,(f 1).trans f1,(f 2).trans f2,(f 3).trans f3,(f 4).trans f4,(f 5).trans f5,(f 6).trans f6,(f 7).trans f7,(f 8).trans f8,(f 9).trans f9⟩
theorem Row10.sets {W:World} {rb:Nat} (h:Row10 W rb) (v0 v1 v2 v3 v4 v5 v6 v7 v8 v9:Value):((((((((((W.setCell ⟨rb,0,none⟩ v0).setCell ⟨rb,1,none⟩ v1).setCell ⟨rb,2,none⟩ v2).setCell ⟨rb,3,none⟩ v3).setCell ⟨rb,4,none⟩ v4).setCell ⟨rb,5,none⟩ v5).setCell ⟨rb,6,none⟩ v6).setCell ⟨rb,7,none⟩ v7).setCell ⟨rb,8,none⟩ v8).setCell ⟨rb,9,none⟩ v9).cell? ⟨rb,0,none⟩=some v0∧((((((((((W.setCell ⟨rb,0,none⟩ v0).setCell ⟨rb,1,none⟩ v1).setCell ⟨rb,2,none⟩ v2).setCell ⟨rb,3,none⟩ v3).setCell ⟨rb,4,none⟩ v4).setCell ⟨rb,5,none⟩ v5).setCell ⟨rb,6,none⟩ v6).setCell ⟨rb,7,none⟩ v7).setCell ⟨rb,8,none⟩ v8).setCell ⟨rb,9,none⟩ v9).cell? ⟨rb,1,none⟩=some v1∧((((((((((W.setCell ⟨rb,0,none⟩ v0).setCell ⟨rb,1,none⟩ v1).setCell ⟨rb,2,none⟩ v2).setCell ⟨rb,3,none⟩ v3).setCell ⟨rb,4,none⟩ v4).setCell ⟨rb,5,none⟩ v5).setCell ⟨rb,6,none⟩ v6).setCell ⟨rb,7,none⟩ v7).setCell ⟨rb,8,none⟩ v8).setCell ⟨rb,9,none⟩ v9).cell? ⟨rb,2,none⟩=some v2∧((((((((((W.setCell ⟨rb,0,none⟩ v0).setCell ⟨rb,1,none⟩ v1).setCell ⟨rb,2,none⟩ v2).setCell ⟨rb,3,none⟩ v3).setCell ⟨rb,4,none⟩ v4).setCell ⟨rb,5,none⟩ v5).setCell ⟨rb,6,none⟩ v6).setCell ⟨rb,7,none⟩ v7).setCell ⟨rb,8,none⟩ v8).setCell ⟨rb,9,none⟩ v9).cell? ⟨rb,3,none⟩=some v3∧((((((((((W.setCell ⟨rb,0,none⟩ v0).setCell ⟨rb,1,none⟩ v1).setCell ⟨rb,2,none⟩ v2).setCell ⟨rb,3,none⟩ v3).setCell ⟨rb,4,none⟩ v4).setCell ⟨rb,5,none⟩ v5).setCell ⟨rb,6,none⟩ v6).setCell ⟨rb,7,none⟩ v7).setCell ⟨rb,8,none⟩ v8).setCell ⟨rb,9,none⟩ v9).cell? ⟨rb,4,none⟩=some v4∧((((((((((W.setCell ⟨rb,0,none⟩ v0).setCell ⟨rb,1,none⟩ v1).setCell ⟨rb,2,none⟩ v2).setCell ⟨rb,3,none⟩ v3).setCell ⟨rb,4,none⟩ v4).setCell ⟨rb,5,none⟩ v5).setCell ⟨rb,6,none⟩ v6).setCell ⟨rb,7,none⟩ v7).setCell ⟨rb,8,none⟩ v8).setCell ⟨rb,9,none⟩ v9).cell? ⟨rb,5,none⟩=some v5∧((((((((((W.setCell ⟨rb,0,none⟩ v0).setCell ⟨rb,1,none⟩ v1).setCell ⟨rb,2,none⟩ v2).setCell ⟨rb,3,none⟩ v3).setCell ⟨rb,4,none⟩ v4).setCell ⟨rb,5,none⟩ v5).setCell ⟨rb,6,none⟩ v6).setCell ⟨rb,7,none⟩ v7).setCell ⟨rb,8,none⟩ v8).setCell ⟨rb,9,none⟩ v9).cell? ⟨rb,6,none⟩=some v6∧((((((((((W.setCell ⟨rb,0,none⟩ v0).setCell ⟨rb,1,none⟩ v1).setCell ⟨rb,2,none⟩ v2).setCell ⟨rb,3,none⟩ v3).setCell ⟨rb,4,none⟩ v4).setCell ⟨rb,5,none⟩ v5).setCell ⟨rb,6,none⟩ v6).setCell ⟨rb,7,none⟩ v7).setCell ⟨rb,8,none⟩ v8).setCell ⟨rb,9,none⟩ v9).cell? ⟨rb,7,none⟩=some v7∧((((((((((W.setCell ⟨rb,0,none⟩ v0).setCell ⟨rb,1,none⟩ v1).setCell ⟨rb,2,none⟩ v2).setCell ⟨rb,3,none⟩ v3).setCell ⟨rb,4,none⟩ v4).setCell ⟨rb,5,none⟩ v5).setCell ⟨rb,6,none⟩ v6).setCell ⟨rb,7,none⟩ v7).setCell ⟨rb,8,none⟩ v8).setCell ⟨rb,9,none⟩ v9).cell? ⟨rb,8,none⟩=some v8∧((((((((((W.setCell ⟨rb,0,none⟩ v0).setCell ⟨rb,1,none⟩ v1).setCell ⟨rb,2,none⟩ v2).setCell ⟨rb,3,none⟩ v3).setCell ⟨rb,4,none⟩ v4).setCell ⟨rb,5,none⟩ v5).setCell ⟨rb,6,none⟩ v6).setCell ⟨rb,7,none⟩ v7).setCell ⟨rb,8,none⟩ v8).setCell ⟨rb,9,none⟩ v9).cell? ⟨rb,9,none⟩=some v9:=by
 have o:∀(V:World) (i j:Nat) (v:Value),i≠j→(V.setCell ⟨rb,i,none⟩ v).cell? ⟨rb,j,none⟩=V.cell? ⟨rb,j,none⟩:=fun V i j v _=>World.cell?_setCell_other _ _ _ _ (by simp)
 have h0:=h;have h1:=h0.set ⟨rb,0,none⟩ v0;have h2:=h1.set ⟨rb,1,none⟩ v1;have h3:=h2.set ⟨rb,2,none⟩ v2;have h4:=h3.set ⟨rb,3,none⟩ v3;have h5:=h4.set ⟨rb,4,none⟩ v4;have h6:=h5.set ⟨rb,5,none⟩ v5;have h7:=h6.set ⟨rb,6,none⟩ v6;have h8:=h7.set ⟨rb,7,none⟩ v7;have h9:=h8.set ⟨rb,8,none⟩ v8;have s0:=World.cell?_setCell_same _ _ v0 h0.1.1;have s1:=World.cell?_setCell_same _ _ v1 h1.1.2.1;have s2:=World.cell?_setCell_same _ _ v2 h2.1.2.2.1;have s3:=World.cell?_setCell_same _ _ v3 h3.1.2.2.2.1;have s4:=World.cell?_setCell_same _ _ v4 h4.1.2.2.2.2.1;have s5:=World.cell?_setCell_same _ _ v5 h5.1.2.2.2.2.2.1;have s6:=World.cell?_setCell_same _ _ v6 h6.1.2.2.2.2.2.2.1;have s7:=World.cell?_setCell_same _ _ v7 h7.1.2.2.2.2.2.2.2.1;have s8:=World.cell?_setCell_same _ _ v8 h8.1.2.2.2.2.2.2.2.2.1;have s9:=World.cell?_setCell_same _ _ v9 h9.1.2.2.2.2.2.2.2.2.2;refine⟨?_,?_,?_,?_,?_,?_,?_,?_,?_,s9⟩
 ·rw [o _ 9 0 _ (by omega),o _ 8 0 _ (by omega),o _ 7 0 _ (by omega),o _ 6 0 _ (by omega),o _ 5 0 _ (by omega),o _ 4 0 _ (by omega),o _ 3 0 _ (by omega),o _ 2 0 _ (by omega),o _ 1 0 _ (by omega),s0]
 ·rw [o _ 9 1 _ (by omega),o _ 8 1 _ (by omega),o _ 7 1 _ (by omega),o _ 6 1 _ (by omega),o _ 5 1 _ (by omega),o _ 4 1 _ (by omega),o _ 3 1 _ (by omega),o _ 2 1 _ (by omega),s1]
 ·rw [o _ 9 2 _ (by omega),o _ 8 2 _ (by omega),o _ 7 2 _ (by omega),o _ 6 2 _ (by omega),o _ 5 2 _ (by omega),o _ 4 2 _ (by omega),o _ 3 2 _ (by omega),s2]
 ·rw [o _ 9 3 _ (by omega),o _ 8 3 _ (by omega),o _ 7 3 _ (by omega),o _ 6 3 _ (by omega),o _ 5 3 _ (by omega),o _ 4 3 _ (by omega),s3]
 ·rw [o _ 9 4 _ (by omega),o _ 8 4 _ (by omega),o _ 7 4 _ (by omega),o _ 6 4 _ (by omega),o _ 5 4 _ (by omega),s4]
 ·rw [o _ 9 5 _ (by omega),o _ 8 5 _ (by omega),o _ 7 5 _ (by omega),o _ 6 5 _ (by omega),s5]
 ·rw [o _ 9 6 _ (by omega),o _ 8 6 _ (by omega),o _ 7 6 _ (by omega),s6]
 ·rw [o _ 9 7 _ (by omega),o _ 8 7 _ (by omega),s7]
 ·rw [o _ 9 8 _ (by omega),s8]
theorem below2 (w:World) (o o':Obj):Below w.heap.size w ((w.alloc o).alloc o'):=((Below.refl _ w).alloc (Nat.le_refl _) _).alloc (by simp) _
end Go.Proofs
