import Derived.Test.YtjbekgjdempbiaaGreatDoorJParse
import Derived.Test.YtjbekgjdempbiaaGreatDoorJRefG
set_option maxRecDepth 100000
set_option maxHeartbeats 8000000
namespace Go.Proofs
open Go.RowKit Go.Sort Go.Lib Go.Shelf
theorem parseM_snoc (M:Nat) (c:UInt8) (h1:48≤c.toNat) (h2:c.toNat≤57):∀(l:List UInt8) (acc u:Nat),Lib.parseUintM M acc l=.ok u→u<1844674407370955162→u*10+(c.toNat-48)≤M→Lib.parseUintM M acc (l ++ [c])=.ok (u*10+(c.toNat-48))
 | [],acc,u,h,hu,hm=>by
  have e:acc=u:=by simpa [Lib.parseUintM] using h
  subst e;simp only [List.nil_append,Lib.parseUintM];rw [if_pos ⟨h1,h2⟩,if_neg (by omega),if_neg (by omega)]
 | d :: l,acc,u,h,hu,hm=>by
  simp only [List.cons_append,Lib.parseUintM] at h ⊢
  split at h
  ·split at h
   ·cases h
   ·split at h
    ·cases h
    ·rename_i a b c'
     rw [if_pos a,if_neg b,if_neg c'];exact parseM_snoc M c h1 h2 l _ u h hu hm
  ·cases h
theorem dig_toNat (d:Nat) (h:d<10):(UInt8.ofNat (48+d)).toNat=48+d:=by simp;omega
theorem parseM_dec (u:Nat) (hu:u≤18446744073709551615):Lib.parseUintM 18446744073709551615 0 (Lib.decDigits u)=.ok u:=by
 induction u using Nat.strongRecOn with
 | ind u ih =>
  by_cases h:u<10
  ·rw [Lib.decDigits_one h]
   have hd:=dig_toNat u h;simp only [Lib.parseUintM,hd];rw [if_pos ⟨by omega,by omega⟩,if_neg (by omega),if_neg (by omega)]
   congr 1
   omega
  ·rw [Lib.decDigits,dif_neg h]
   have hd:=dig_toNat (u % 10) (by omega);have:=parseM_snoc 18446744073709551615 (UInt8.ofNat (48+u % 10)) (by omega) (by omega) _ 0 (u / 10) (ih (u / 10) (by omega) (by omega)) (by omega) (by omega);rw [this,hd]
   congr 1
   omega
theorem dec_ne_nil (u:Nat):Lib.decDigits u ≠ []:=by
 rw [Lib.decDigits]
 split <;> simp
theorem parse_dec (u:Nat) (hu:u<18446744073709551616):Lib.parseUintB 64 (Lib.decDigits u)=.ok u:=by
 unfold Lib.parseUintB;rw [if_neg (dec_ne_nil u)];exact parseM_dec u (by omega)
def kd (tk:Bool):Int:=if tk then 1 else 2
theorem parseN_nm (tk:Bool) {n:Nat} (h:n<u64lim):parseN (nmStr (kd tk) n)=(kd tk,(n:Int)):=by
 cases tk
 ·show parseN (108 :: Lib.decDigits n)=_
  simp only [parseN,parse_dec n h];rw [if_pos (show nmStr (kindI 108) n=108 :: Lib.decDigits n from rfl)];rfl
 ·show parseN (116 :: Lib.decDigits n)=_
  simp only [parseN,parse_dec n h];rw [if_pos (show nmStr (kindI 116) n=116 :: Lib.decDigits n from rfl)];rfl
def thT (t:TokE):ThingD:=⟨true,t.n,if t.ak=1 then (t.au:Int) else -1,[],t.at_,0,t.pd,t.tr⟩
def thL (l:LeaE):ThingD:=⟨false,l.n,(l.au:Int),l.pth,l.at_,l.last,l.pd,l.tr⟩
structure Rel (tks:List TokE) (lks:List LeaE) (L:List ThingD):Prop where
 toks:L.filter (fun t=>t.token==true)=tks.map thT
 leas:L.filter (fun t=>t.token==false)=lks.map thL
 akT:∀ t∈tks,t.ak=1∨t.ak=0
 akL:∀ l∈lks,l.ak=1
section
variable {tks:List TokE} {lks:List LeaE} {L:List ThingD}
theorem Rel.tok_mem (h:Rel tks lks L) {x:ThingD} (hx:x∈L) (ht:x.token=true):∃ t∈tks,thT t=x:=by
 have:x∈L.filter (fun t=>t.token==true):=List.mem_filter.2 ⟨hx,by simp [ht]⟩;rw [h.toks] at this
 simpa using this
theorem Rel.lea_mem (h:Rel tks lks L) {x:ThingD} (hx:x∈L) (ht:x.token=false):∃ t∈lks,thL t=x:=by
 have:x∈L.filter (fun t=>t.token==false):=List.mem_filter.2 ⟨hx,by simp [ht]⟩;rw [h.leas] at this
 simpa using this
theorem Rel.num (h:Rel tks lks L) (ok:ListsOk tks lks) {x:ThingD} (hx:x∈L):x.n<u64lim:=by
 cases hb:x.token
 ·obtain⟨a,ha,rfl⟩:=h.lea_mem hx hb
  exact(ok.limL a ha).1
 ·obtain⟨a,ha,rfl⟩:=h.tok_mem hx hb
  exact(ok.limT a ha).1
end
end Go.Proofs
namespace Go.Proofs
open Go.RowKit Go.Sort Go.Lib Go.Shelf Go.Maps
theorem Tryz.later (a b:Int) (ha:0≤a) (ha1:a≤18446744073709551615) (hb0:0≤b) (hb:b≤18446744073709551615) (w:World) :
  Calls prog 65 #[.int .u64 a,.int .u64 b] w fun e w'=>e=.returned (.int .u64 (plusI a b))∧w'=w:=by
 have hr:Hid (plusI a b=if 18446744073709551615-b<a then 18446744073709551615 else a+b):=hid_intro rfl;generalize plusI a b=r at *
 by_cases h:18446744073709551615-a<b
 ·obtain rfl:r=18446744073709551615:=by rw [hid_elim hr,if_pos (by omega)]
  clear hr;go_enter func65,ntmps65;go_wp2;go_ret;exact⟨rfl,rfl⟩
 ·obtain rfl:r=a+b:=by rw [hid_elim hr,if_neg (by omega)]
  clear hr;go_enter func65,ntmps65;go_wp2;go_ret;exact⟨ret_int (by omega),rfl⟩
theorem Tryz.zeroTok (w:World):(zeroValue 153).run prog w=.ok (.agg #[.int .i64 0,.int .u64 0,.int .u64 0,.int .i64 0,.bool false]) w:=zeroValue153 w
theorem Tryz.zeroLea (w:World):(zeroValue 131).run prog w=.ok (.agg #[.int .i64 0,.int .u64 0,.int .u64 0,.int .i64 0,.bool false,.string ⟨#[]⟩,.int .u64 0]) w:=zeroValue131 w
section
variable {W:World} {vb mt ml:Nat} {vx:VX} {tm tn ln:Int} {tks:List TokE} {lks:List LeaE}
theorem Tryz.VaultAt.lookT (h:VaultAt W vb mt ml vx tm tn ln tks lks) {t:TokE} (ht:t∈tks) :
  (Instr.lookup 120 (.map (some mt)) (nmV (1,(t.n:Int))) true).run prog W=.ok (.tuple #[.agg t.cells,.bool true]) W:=by
 obtain⟨n,_,hm⟩:=h.held.mapT;exact nmType.look_hit h.ok.ksT.1 (wfNm (.inl rfl) (h.ok.limT t ht).1) hm underlying120 (zeroTok _) (ksGet_of_mem h.ok.ksT.1 (List.mem_reverse.2 (List.mem_map.2 ⟨t,ht,rfl⟩)))
theorem Tryz.VaultAt.lookT_no (h:VaultAt W vb mt ml vx tm tn ln tks lks) {x:Int × Int} (hx:NmWf x) (hn:∀ t∈tks,x≠(1,(t.n:Int))) :
  (Instr.lookup 120 (.map (some mt)) (nmV x) true).run prog W=.ok (.tuple #[.agg #[.int .i64 0,.int .u64 0,.int .u64 0,.int .i64 0,.bool false],.bool false]) W:=by
 obtain⟨n,_,hm⟩:=h.held.mapT;refine nmType.look_miss h.ok.ksT.1 hx hm underlying120 (zeroTok _) (ksGet_none.2 fun p hp e=>?_);obtain⟨t,ht,rfl⟩:=List.mem_map.1 (List.mem_reverse.1 hp);exact hn t ht e.symm
theorem Tryz.VaultAt.lookL (h:VaultAt W vb mt ml vx tm tn ln tks lks) {t:LeaE} (ht:t∈lks) :
  (Instr.lookup 121 (.map (some ml)) (nmV (2,(t.n:Int))) true).run prog W=.ok (.tuple #[.agg t.cells,.bool true]) W:=by
 obtain⟨n,_,hm⟩:=h.held.mapL;exact nmType.look_hit h.ok.ksL.1 (wfNm (.inr rfl) (h.ok.limL t ht).1) hm underlying121 (zeroLea _) (ksGet_of_mem h.ok.ksL.1 (List.mem_reverse.2 (List.mem_map.2 ⟨t,ht,rfl⟩)))
theorem Tryz.VaultAt.alloc (h:VaultAt W vb mt ml vx tm tn ln tks lks) (o:Obj):VaultAt (W.alloc o) vb mt ml vx tm tn ln tks lks:=h.below ((Below.refl _ W).alloc (Nat.le_refl _) o)
end
structure Tryz.LkP (vb c m nb:Nat) (tm:TypeId) (k u:Int) (r:Value) (W:World):Prop where
 mp:W.cell? ⟨vb,c,none⟩=some (.map (some m))
 n0:W.cell? ⟨nb,0,none⟩=some (.int .i64 k)
 n1:W.cell? ⟨nb,1,none⟩=some (.int .u64 u)
 lk:(Instr.lookup tm (.map (some m)) (.agg #[.int .i64 k,.int .u64 u]) true).run Tryz.prog W=.ok r W
theorem Tryz.isLive_any (vb mt:Nat) (x:Int × Int) (ak au at_ tr:Int) (pd b:Bool) (w:World) (hP:∀ W,Below w.heap.size w W→W.cell? ⟨vb,3,none⟩=some (.map (some mt))∧(Instr.lookup 120 (.map (some mt)) (nmV x) true).run prog W=.ok (.tuple #[.agg #[.int .i64 ak,.int .u64 au,.int .u64 at_,.int .i64 tr,.bool pd],.bool b]) W) :
  Calls prog 83 #[.pointer (some ⟨vb,0,none⟩),nmV x] w fun e w'=>e=.returned (.bool (b && !pd))∧Below w.heap.size w w':=by
 have hB0:Below w.heap.size w (w.alloc (.cells #[.int .i64 x.1,.int .u64 x.2] 114)):=(Below.refl _ w).alloc (Nat.le_refl _) _;have bN:=BoxN.new w 114 #[.int .i64 x.1,.int .u64 x.2]
 have hS:∀ W,Below (w.heap.size+1) (w.alloc (.cells #[.int .i64 x.1,.int .u64 x.2] 114)) W→LkP vb 3 mt w.heap.size 120 x.1 x.2 (.tuple #[.agg #[.int .i64 ak,.int .u64 au,.int .u64 at_,.int .i64 tr,.bool pd],.bool b]) W:=fun W hb=>by
  have bN':=bN.below hb (by omega);obtain⟨h1,h2⟩:=hP W (hB0.trans (hb.mono (by omega)));exact⟨h1,bN'.cell 0 rfl,bN'.cell 1 rfl,h2⟩
 have hs0:(w.alloc (.cells #[.int .i64 x.1,.int .u64 x.2] 114)).heap.size=w.heap.size+1:=by simp
 unfold nmV;go_enter func83,ntmps83
 go_wp2_with fail
 generalize w.alloc (.cells #[.int .i64 x.1,.int .u64 x.2] 114)=W1 at *;have hb1:Below (w.heap.size+1) W1 W1.drew:=(Below.refl _ _).drew;refine wp_region_held_drew (S:=LkP vb 3 mt w.heap.size 120 x.1 x.2 (.tuple #[.agg #[.int .i64 ak,.int .u64 au,.int .u64 at_,.int .i64 tr,.bool pd],.bool b])) (by kernel_rfl) (hS _ hb1) (fun hS0=>?_);refine wpAnyH_take (i:=0) (v:=?v0) rfl (by kernel_rfl) (by kernel_rfl) (by kernel_rfl) (fun _ _ _ h=>h) (Or.inl ⟨by rfl,?y0⟩) hS0 ?_
 case y0=>(intro w hSw;obtain⟨q0,q1,q2,q3⟩:=hSw;go_simp;try with_reducible rfl)
 refine wpAnyH_take (i:=1) (v:=?v1) rfl (by kernel_rfl) (by kernel_rfl) (by kernel_rfl) (fun _ _ _ h=>h) (Or.inl ⟨by rfl,?y1⟩) hS0 ?_
 case y1=>(intro w hSw;obtain⟨q0,q1,q2,q3⟩:=hSw;go_simp;try with_reducible rfl)
 refine wpAnyH_take (i:=2) (v:=?v2) rfl (by kernel_rfl) (by kernel_rfl) (by kernel_rfl) (fun _ _ _ h=>h) (Or.inl ⟨by rfl,?y2⟩) hS0 ?_
 case y2=>(intro w hSw;obtain⟨q0,q1,q2,q3⟩:=hSw;go_simp;try with_reducible rfl)
 refine wpAnyH_take (i:=3) (v:=?v3) rfl (by kernel_rfl) (by kernel_rfl) (by kernel_rfl) (fun _ _ _ h=>h) (Or.inl ⟨by rfl,?y3⟩) hS0 ?_
 case y3=>(intro w hSw;obtain⟨q0,q1,q2,q3⟩:=hSw;go_simp;try with_reducible rfl)
 refine wpAnyH_take (i:=4) (v:=?v4) rfl (by kernel_rfl) (by kernel_rfl) (by kernel_rfl) (fun _ _ _ h=>h) (Or.inl ⟨by rfl,?y4⟩) hS0 ?_
 case y4=>(intro w hSw;obtain⟨q0,q1,q2,q3⟩:=hSw;go_simp;try with_reducible rfl)
 refine wpAnyH_take (i:=5) (v:=?v5) rfl (by kernel_rfl) (by kernel_rfl) (by kernel_rfl) (fun _ _ _ h=>h) (Or.inl ⟨by rfl,?y5⟩) hS0 ?_
 case y5=>(intro w hSw;obtain⟨q0,q1,q2,q3⟩:=hSw;go_simp;try with_reducible rfl)
 refine wpAnyH_take (i:=6) (v:=?v6) rfl (by kernel_rfl) (by kernel_rfl) (by kernel_rfl) (fun _ _ _ h=>h) (Or.inl ⟨by rfl,?y6⟩) hS0 ?_
 case y6=>(intro w hSw;obtain⟨q0,q1,q2,q3⟩:=hSw;go_simp;try with_reducible rfl)
 refine wpAnyH_take (i:=7) (v:=?v7) rfl (by kernel_rfl) (by kernel_rfl) (by kernel_rfl) (fun _ _ _ h=>h) (Or.inl ⟨by rfl,?y7⟩) hS0 ?_
 case y7=>(intro w hSw;obtain⟨q0,q1,q2,q3⟩:=hSw;go_simp;try with_reducible rfl)
 refine wpAnyH_take (i:=8) (v:=?v8) rfl (by kernel_rfl) (by kernel_rfl) (by kernel_rfl) (fun _ _ _ h=>h) (Or.inl ⟨by rfl,?y8⟩) hS0 ?_
 case y8=>(intro w hSw;obtain⟨q0,q1,q2,q3⟩:=hSw;go_simp;try with_reducible rfl)
 refine wpAnyH_ready (rs:=[9]) (by kernel_rfl) (by simp) ?_;refine AllReadyH.cons rfl (fun K hK=>?_) AllReadyH.nil;go_simp;refine hK.out _ _ (hS _ (hb1.alloc (by simp [hs0]) _)) (fun hS1=>?_);clear hK K;refine wpAnyH_ready (rs:=[10]) (by kernel_rfl) (by simp) ?_;refine AllReadyH.cons rfl (fun K hK=>?_) AllReadyH.nil;go_simp;have hb2:Below (w.heap.size+1) W1 (W1.alloc (.cells #[.int .i64 ak,.int .u64 au,.int .u64 at_,.int .i64 tr,.bool pd] 153)).drew:=((Below.refl _ _).alloc (by omega) _).drew
 have bT:BoxN (W1.alloc (.cells #[.int .i64 ak,.int .u64 au,.int .u64 at_,.int .i64 tr,.bool pd] 153)).drew (w.heap.size+1) 153 #[.int .i64 ak,.int .u64 au,.int .u64 at_,.int .i64 tr,.bool pd]:=by
  have h:=BoxN.new W1 153 #[.int .i64 ak,.int .u64 au,.int .u64 at_,.int .i64 tr,.bool pd];rw [hs0] at h;exact h
 refine hK.out _ _ (hS _ hb2) (fun hS2=>?_);clear hK K;refine wpAnyH_ready (rs:=[11]) (by kernel_rfl) (by simp) ?_;refine AllReadyH.cons rfl (fun K hK=>?_) AllReadyH.nil;go_simp;refine hK.out _ _ hS2 (fun _=>?_);clear hK K;refine wpAnyH_done (by kernel_rfl) ?_ _;have hBf:Below w.heap.size w (W1.alloc (.cells #[.int .i64 ak,.int .u64 au,.int .u64 at_,.int .i64 tr,.bool pd] 153)).drew:=hB0.trans (hb2.mono (by omega));clear hS hP hS0 hS1 hS2 hb1 hb2 hB0 bN;generalize (W1.alloc (.cells #[.int .i64 ak,.int .u64 au,.int .u64 at_,.int .i64 tr,.bool pd] 153)).drew=W2 at *;have hL:=entryLive (w.heap.size+1) pd W2 (bT.cell 4 rfl);cases b
 ·go_wp2_with (go_at_call 89;fail)
  go_ret;exact⟨rfl,hBf⟩
 ·go_wp2_with (go_at_call 89;refine hL.mono ?_;rintro e w5 ⟨rfl,rfl⟩)
  go_ret;exact⟨by simp,hBf⟩
theorem Tryz.isLive_hit (vb mt ml:Nat) (vx:VX) (tm tn ln:Int) (tks:List TokE) (lks:List LeaE) (w:World) (hV:VaultAt w vb mt ml vx tm tn ln tks lks) (t:TokE) (ht:t∈tks) :
  Calls prog 83 #[.pointer (some ⟨vb,0,none⟩),nmV (1,(t.n:Int))] w fun e w'=>e=.returned (.bool (!t.pd))∧Below w.heap.size w w':=by
 have h:=isLive_any vb mt (1,(t.n:Int)) t.ak t.au t.at_ t.tr t.pd true w (fun W hb=>⟨(hV.below hb).v.cell 3 rfl,(hV.below hb).lookT ht⟩)
 simpa using h
end Go.Proofs
namespace Go.Proofs
open Go.RowKit Go.Sort Go.Lib Go.Shelf Go.Maps Go.WideMaps
def putTok (t:TokE) (l:List TokE):List TokE:=if l.any (fun x=>x.n==t.n) then l.map (fun x=>if x.n=t.n then t else x) else l ++ [t]
def delTok (n:Nat) (l:List TokE):List TokE:=l.filter (fun x=>x.n != n)
theorem keyTok_iff (x t:TokE):(TokE.key x).1=(TokE.key t).1↔x.n=t.n:=by
 simp [TokE.key];omega
theorem putTok_split {t:TokE} {l:List TokE} (hs:l.Pairwise (fun a b=>a.n<b.n)):(∃ a x b,l=a++x :: b∧x.n=t.n∧putTok t l=a++t :: b∧(∀ y∈a++b,y.n≠t.n))∨((∀ y∈l,y.n≠t.n)∧putTok t l=l ++ [t]):=by
 by_cases h:l.any (fun x=>x.n==t.n)=true
 ·obtain⟨x,hx,hn⟩:=List.any_eq_true.1 h
  have hn:x.n=t.n:=by simpa using hn
  obtain⟨a,b,rfl⟩:=List.append_of_mem hx;obtain⟨h1,h2,h3⟩:=List.pairwise_append.1 hs;obtain⟨h4,h5⟩:=List.pairwise_cons.1 h2
  have hne:∀ y∈a++b,y.n≠t.n:=fun y hy=>by
   rcases List.mem_append.1 hy with hy | hy
   ·have:=h3 y hy x (by simp);omega
   ·have:=h4 y hy;omega
  refine .inl ⟨a,x,b,rfl,hn,?_,hne⟩;unfold putTok;rw [if_pos h,List.map_append,List.map_cons,if_pos hn]
  have m:∀ c:List TokE,(∀ y∈c,y.n≠t.n)→c.map (fun x=>if x.n=t.n then t else x)=c:=fun c hc=>by
   conv=>rhs;rw [← List.map_id c]
   exact List.map_congr_left fun y hy=>by simp [hc y hy]
  rw [m a (fun y hy=>hne y (by simp [hy])),m b (fun y hy=>hne y (by simp [hy]))]
 ·have hf:l.any (fun x=>x.n==t.n)=false:=by simpa using h
  refine .inr ⟨fun y hy e=>?_,by unfold putTok;rw [if_neg h]⟩;exact h (List.any_eq_true.2 ⟨y,hy,by simpa using e⟩)
theorem putTok_perm {l:List TokE} (hs:l.Pairwise (fun a b=>a.n<b.n)) (t:TokE):((TokE.key t) :: ((l.map TokE.key).reverse.filter (fun p=>decide (p.1≠(TokE.key t).1)))).Perm ((putTok t l).map TokE.key).reverse:=by
 have keep:∀ c:List TokE,(∀ y∈c,y.n≠t.n)→(c.map TokE.key).reverse.filter (fun p=>decide (p.1≠(TokE.key t).1))=(c.map TokE.key).reverse:=fun c hc=>List.filter_eq_self.2 fun p hp=>by
  obtain⟨y,hy,rfl⟩:=List.mem_map.1 (List.mem_reverse.1 hp)
  simpa using fun e=>hc y hy ((keyTok_iff y t).1 e)
 rcases putTok_split (t:=t) hs with⟨a,x,b,rfl,hn,hp,hne⟩ | ⟨hne,hp⟩
 ·rw [hp]
  simp only [List.map_append,List.map_cons,List.reverse_append,List.reverse_cons,List.filter_append,List.append_assoc];rw [keep a (fun y hy=>hne y (by simp [hy])),keep b (fun y hy=>hne y (by simp [hy]))]
  have e : [TokE.key x].filter (fun p=>decide (p.1≠(TokE.key t).1)) = []:=by
   simp [(keyTok_iff x t).2 hn]
  rw [e,List.nil_append];exact List.perm_middle.symm
 ·rw [hp,keep l hne,List.map_append,List.reverse_append]
  exact List.Perm.refl _
theorem delTok_filter (n:Nat) (l:List TokE) (t:TokE) (ht:t.n=n):(l.map TokE.key).reverse.filter (fun p=>decide (p.1≠(TokE.key t).1))=((delTok n l).map TokE.key).reverse:=by
 unfold delTok;rw [List.filter_reverse,List.filter_map]
 congr 2
 refine List.filter_congr fun x _=>?_
 have:=keyTok_iff x t;rw [ht] at this
 by_cases e:x.n=n
 ·simp [e,this.2 e]
 ·have h2:(TokE.key x).1≠(TokE.key t).1:=fun h=>e (this.1 h)
  simp [e,h2]
theorem putTok_mem {t y:TokE} {l:List TokE} (hs:l.Pairwise (fun a b=>a.n<b.n)) (h:y∈putTok t l):y=t∨y∈l:=by
 rcases putTok_split (t:=t) hs with⟨a,x,b,rfl,hn,hp,hne⟩ | ⟨hne,hp⟩
 ·rw [hp] at h
  simp at h ⊢
  rcases h with h | h | h
  ·exact .inr (.inl h)
  ·exact .inl h
  ·exact .inr (.inr (.inr h))
 ·rw [hp] at h
  simp at h
  rcases h with h | h
  ·exact .inr h
  ·exact .inl h
theorem putTok_len {t:TokE} {l:List TokE} (hs:l.Pairwise (fun a b=>a.n<b.n)):(putTok t l).length≤l.length+1:=by
 rcases putTok_split (t:=t) hs with⟨a,x,b,rfl,hn,hp,hne⟩ | ⟨hne,hp⟩
 ·rw [hp];simp
 ·rw [hp];simp
def FitsTok (t:TokE) (l:List TokE):Prop:=(∃ x∈l,x.n=t.n)∨∀ x∈l,x.n<t.n
theorem putTok_inc {t:TokE} {l:List TokE} (hs:l.Pairwise (fun a b=>a.n<b.n)) (hf:FitsTok t l):(putTok t l).Pairwise (fun a b=>a.n<b.n):=by
 rcases putTok_split (t:=t) hs with⟨a,x,b,rfl,hn,hp,hne⟩ | ⟨hne,hp⟩
 ·rw [hp]
  obtain⟨h1,h2,h3⟩:=List.pairwise_append.1 hs;obtain⟨h4,h5⟩:=List.pairwise_cons.1 h2;refine List.pairwise_append.2 ⟨h1,List.pairwise_cons.2 ⟨fun y hy=>by rw [← hn];exact h4 y hy,h5⟩,fun y hy z hz=>?_⟩
  rcases List.mem_cons.1 hz with rfl | hz
  ·rw [← hn];exact h3 y hy x (by simp)
  ·exact h3 y hy z (List.mem_cons_of_mem _ hz)
 ·rw [hp]
  refine List.pairwise_append.2 ⟨hs,by simp,fun y hy z hz=>?_⟩;rw [List.mem_singleton.1 hz]
  rcases hf with⟨x,hx,e⟩ | h
  ·exact absurd e (hne x hx)
  ·exact h y hy
def putLea (t:LeaE) (l:List LeaE):List LeaE:=if l.any (fun x=>x.n==t.n) then l.map (fun x=>if x.n=t.n then t else x) else l ++ [t]
def delLea (n:Nat) (l:List LeaE):List LeaE:=l.filter (fun x=>x.n != n)
theorem keyLea_iff (x t:LeaE):(LeaE.key x).1=(LeaE.key t).1↔x.n=t.n:=by
 simp [LeaE.key];omega
theorem putLea_split {t:LeaE} {l:List LeaE} (hs:l.Pairwise (fun a b=>a.n<b.n)):(∃ a x b,l=a++x :: b∧x.n=t.n∧putLea t l=a++t :: b∧(∀ y∈a++b,y.n≠t.n))∨((∀ y∈l,y.n≠t.n)∧putLea t l=l ++ [t]):=by
 by_cases h:l.any (fun x=>x.n==t.n)=true
 ·obtain⟨x,hx,hn⟩:=List.any_eq_true.1 h
  have hn:x.n=t.n:=by simpa using hn
  obtain⟨a,b,rfl⟩:=List.append_of_mem hx;obtain⟨h1,h2,h3⟩:=List.pairwise_append.1 hs;obtain⟨h4,h5⟩:=List.pairwise_cons.1 h2
  have hne:∀ y∈a++b,y.n≠t.n:=fun y hy=>by
   rcases List.mem_append.1 hy with hy | hy
   ·have:=h3 y hy x (by simp);omega
   ·have:=h4 y hy;omega
  refine .inl ⟨a,x,b,rfl,hn,?_,hne⟩;unfold putLea;rw [if_pos h,List.map_append,List.map_cons,if_pos hn]
  have m:∀ c:List LeaE,(∀ y∈c,y.n≠t.n)→c.map (fun x=>if x.n=t.n then t else x)=c:=fun c hc=>by
   conv=>rhs;rw [← List.map_id c]
   exact List.map_congr_left fun y hy=>by simp [hc y hy]
  rw [m a (fun y hy=>hne y (by simp [hy])),m b (fun y hy=>hne y (by simp [hy]))]
 ·have hf:l.any (fun x=>x.n==t.n)=false:=by simpa using h
  refine .inr ⟨fun y hy e=>?_,by unfold putLea;rw [if_neg h]⟩;exact h (List.any_eq_true.2 ⟨y,hy,by simpa using e⟩)
theorem putLea_perm {l:List LeaE} (hs:l.Pairwise (fun a b=>a.n<b.n)) (t:LeaE):((LeaE.key t) :: ((l.map LeaE.key).reverse.filter (fun p=>decide (p.1≠(LeaE.key t).1)))).Perm ((putLea t l).map LeaE.key).reverse:=by
 have keep:∀ c:List LeaE,(∀ y∈c,y.n≠t.n)→(c.map LeaE.key).reverse.filter (fun p=>decide (p.1≠(LeaE.key t).1))=(c.map LeaE.key).reverse:=fun c hc=>List.filter_eq_self.2 fun p hp=>by
  obtain⟨y,hy,rfl⟩:=List.mem_map.1 (List.mem_reverse.1 hp)
  simpa using fun e=>hc y hy ((keyLea_iff y t).1 e)
 rcases putLea_split (t:=t) hs with⟨a,x,b,rfl,hn,hp,hne⟩ | ⟨hne,hp⟩
 ·rw [hp]
  simp only [List.map_append,List.map_cons,List.reverse_append,List.reverse_cons,List.filter_append,List.append_assoc];rw [keep a (fun y hy=>hne y (by simp [hy])),keep b (fun y hy=>hne y (by simp [hy]))]
  have e : [LeaE.key x].filter (fun p=>decide (p.1≠(LeaE.key t).1)) = []:=by
   simp [(keyLea_iff x t).2 hn]
  rw [e,List.nil_append];exact List.perm_middle.symm
 ·rw [hp,keep l hne,List.map_append,List.reverse_append]
  exact List.Perm.refl _
theorem delLea_filter (n:Nat) (l:List LeaE) (t:LeaE) (ht:t.n=n):(l.map LeaE.key).reverse.filter (fun p=>decide (p.1≠(LeaE.key t).1))=((delLea n l).map LeaE.key).reverse:=by
 unfold delLea;rw [List.filter_reverse,List.filter_map]
 congr 2
 refine List.filter_congr fun x _=>?_
 have:=keyLea_iff x t;rw [ht] at this
 by_cases e:x.n=n
 ·simp [e,this.2 e]
 ·have h2:(LeaE.key x).1≠(LeaE.key t).1:=fun h=>e (this.1 h)
  simp [e,h2]
theorem putLea_mem {t y:LeaE} {l:List LeaE} (hs:l.Pairwise (fun a b=>a.n<b.n)) (h:y∈putLea t l):y=t∨y∈l:=by
 rcases putLea_split (t:=t) hs with⟨a,x,b,rfl,hn,hp,hne⟩ | ⟨hne,hp⟩
 ·rw [hp] at h
  simp at h ⊢
  rcases h with h | h | h
  ·exact .inr (.inl h)
  ·exact .inl h
  ·exact .inr (.inr (.inr h))
 ·rw [hp] at h
  simp at h
  rcases h with h | h
  ·exact .inr h
  ·exact .inl h
theorem putLea_len {t:LeaE} {l:List LeaE} (hs:l.Pairwise (fun a b=>a.n<b.n)):(putLea t l).length≤l.length+1:=by
 rcases putLea_split (t:=t) hs with⟨a,x,b,rfl,hn,hp,hne⟩ | ⟨hne,hp⟩
 ·rw [hp];simp
 ·rw [hp];simp
def FitsLea (t:LeaE) (l:List LeaE):Prop:=(∃ x∈l,x.n=t.n)∨∀ x∈l,x.n<t.n
theorem putLea_inc {t:LeaE} {l:List LeaE} (hs:l.Pairwise (fun a b=>a.n<b.n)) (hf:FitsLea t l):(putLea t l).Pairwise (fun a b=>a.n<b.n):=by
 rcases putLea_split (t:=t) hs with⟨a,x,b,rfl,hn,hp,hne⟩ | ⟨hne,hp⟩
 ·rw [hp]
  obtain⟨h1,h2,h3⟩:=List.pairwise_append.1 hs;obtain⟨h4,h5⟩:=List.pairwise_cons.1 h2;refine List.pairwise_append.2 ⟨h1,List.pairwise_cons.2 ⟨fun y hy=>by rw [← hn];exact h4 y hy,h5⟩,fun y hy z hz=>?_⟩
  rcases List.mem_cons.1 hz with rfl | hz
  ·rw [← hn];exact h3 y hy x (by simp)
  ·exact h3 y hy z (List.mem_cons_of_mem _ hz)
 ·rw [hp]
  refine List.pairwise_append.2 ⟨hs,by simp,fun y hy z hz=>?_⟩;rw [List.mem_singleton.1 hz]
  rcases hf with⟨x,hx,e⟩ | h
  ·exact absurd e (hne x hx)
  ·exact h y hy
theorem ListsOk.putT {tks:List TokE} {lks:List LeaE} (h:ListsOk tks lks) {t:TokE} (hf:FitsTok t tks) (hl:tks.length<500) (h1:t.n<u64lim) (h2:t.au<u64lim):ListsOk (putTok t tks) lks:=
 ⟨by have:=putTok_len (t:=t) h.incT;omega,h.lenL,putTok_inc h.incT hf,h.incL,fun x hx=>by rcases putTok_mem h.incT hx with rfl | hx;exact⟨h1,h2⟩;exact h.limT x hx,h.limL⟩
theorem ListsOk.putL {tks:List TokE} {lks:List LeaE} (h:ListsOk tks lks) {t:LeaE} (hf:FitsLea t lks) (hl:lks.length<500) (h1:t.n<u64lim) (h2:t.au<u64lim):ListsOk tks (putLea t lks):=
 ⟨h.lenT,by have:=putLea_len (t:=t) h.incL;omega,h.incT,putLea_inc h.incL hf,h.limT,fun x hx=>by rcases putLea_mem h.incL hx with rfl | hx;exact⟨h1,h2⟩;exact h.limL x hx⟩
theorem ListsOk.delT {tks:List TokE} {lks:List LeaE} (h:ListsOk tks lks) (n:Nat):ListsOk (delTok n tks) lks:=
 ⟨Nat.le_trans (List.length_filter_le _ _) h.lenT,h.lenL,h.incT.filter _,h.incL,fun x hx=>h.limT x (List.mem_filter.1 hx).1,h.limL⟩
theorem ListsOk.delL {tks:List TokE} {lks:List LeaE} (h:ListsOk tks lks) (n:Nat):ListsOk tks (delLea n lks):=
 ⟨h.lenT,Nat.le_trans (List.length_filter_le _ _) h.lenL,h.incT,h.incL.filter _,h.limT,fun x hx=>h.limL x (List.mem_filter.1 hx).1⟩
theorem ownsMap_tight {H:Type} {P:Program} {k:TypeId} {R:Value→Option (DataW H × List MemPlace)} {D:DataW H} {W:World} {b n:Nat} (h:W.ownsMap P k R b n D):W.ownsMap P k R b (Maps.size D) D:=by
 obtain⟨es,clock,hb,F,hs,rfl⟩:=h;exact⟨es,clock,hb,F,by simp [Maps.size,length_sorted],rfl⟩
section
variable {W:World} {mt ml:Nat} {tks:List TokE} {lks:List LeaE}
theorem Tryz.storeT (hH:Held W mt ml tks lks) (ok:ListsOk tks lks) {t:TokE} (hf:FitsTok t tks) (hl:tks.length<500) (h1:t.n<u64lim) (h2:t.au<u64lim) :
  ∃ w',(Instr.mapUpdate 120 (.map (some mt)) (nmV (1,(t.n:Int))) (.agg t.cells)).run prog W=.ok () w'∧(∃ n,n≤1000∧w'.ownsMap prog 114 valR mt n (mapD ((putTok t tks).map TokE.key).reverse))∧W.grownBy w' (some mt):=by
 obtain⟨n,hn,hm⟩:=hH.mapT;have hx:NmWf (1,(t.n:Int)):=wfNm (.inl rfl) h1;have ok2:=ok.putT hf hl h1 h2;obtain⟨w',hrun,hM,hT⟩:=hm.store (Keyed.of_law nmType.law) underlying120 (by unfold maxLen;omega) (key:=nmV (1,(t.n:Int))) (val:=.agg t.cells) (nmType.keyOf hx) (d:=.held (.agg t.cells)) (ps:=[]) rfl;refine⟨w',hrun,⟨Maps.size (mapD ((putTok t tks).map TokE.key).reverse),?_,?_⟩,hT.grown⟩
 ·rw [nmType.size_mapD _ ok2.ksT.1];have:=ok2.lenT;simp;omega
 ·have e:=nmType.mapD_put ok.ksT.1 hx (.agg t.cells)
  have e2:mapD (((1,(t.n:Int)),Value.agg t.cells) :: (tks.map TokE.key).reverse.filter (fun p=>decide (p.1≠(1,(t.n:Int)))))=mapD ((putTok t tks).map TokE.key).reverse:=
   (nmType.mapD_perm ok2.ksT.1 (putTok_perm ok.incT t).symm).symm
  rw [e2] at e;have hM':=ownsMap_tight hM;rw [show Lit.string (nmB (1,(t.n:Int)))=nmL (1,(t.n:Int)) from rfl,e] at hM';exact hM'
theorem Tryz.storeL (hH:Held W mt ml tks lks) (ok:ListsOk tks lks) {t:LeaE} (hf:FitsLea t lks) (hl:lks.length<500) (h1:t.n<u64lim) (h2:t.au<u64lim) :
  ∃ w',(Instr.mapUpdate 121 (.map (some ml)) (nmV (2,(t.n:Int))) (.agg t.cells)).run prog W=.ok () w'∧(∃ n,n≤1000∧w'.ownsMap prog 114 valR ml n (mapD ((putLea t lks).map LeaE.key).reverse))∧W.grownBy w' (some ml):=by
 obtain⟨n,hn,hm⟩:=hH.mapL;have hx:NmWf (2,(t.n:Int)):=wfNm (.inr rfl) h1;have ok2:=ok.putL hf hl h1 h2;obtain⟨w',hrun,hM,hT⟩:=hm.store (Keyed.of_law nmType.law) underlying121 (by unfold maxLen;omega) (key:=nmV (2,(t.n:Int))) (val:=.agg t.cells) (nmType.keyOf hx) (d:=.held (.agg t.cells)) (ps:=[]) rfl;refine⟨w',hrun,⟨Maps.size (mapD ((putLea t lks).map LeaE.key).reverse),?_,?_⟩,hT.grown⟩
 ·rw [nmType.size_mapD _ ok2.ksL.1];have:=ok2.lenL;simp;omega
 ·have e:=nmType.mapD_put ok.ksL.1 hx (.agg t.cells)
  have e2:mapD (((2,(t.n:Int)),Value.agg t.cells) :: (lks.map LeaE.key).reverse.filter (fun p=>decide (p.1≠(2,(t.n:Int)))))=mapD ((putLea t lks).map LeaE.key).reverse:=
   (nmType.mapD_perm ok2.ksL.1 (putLea_perm ok.incL t).symm).symm
  rw [e2] at e;have hM':=ownsMap_tight hM;rw [show Lit.string (nmB (2,(t.n:Int)))=nmL (2,(t.n:Int)) from rfl,e] at hM';exact hM'
end
end Go.Proofs
