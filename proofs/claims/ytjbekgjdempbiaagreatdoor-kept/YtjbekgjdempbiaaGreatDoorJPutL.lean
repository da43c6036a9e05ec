import Derived.Test.YtjbekgjdempbiaaGreatDoorJSq
import Derived.Test.YtjbekgjdempbiaaGreatDoorJRefG
import Derived.Test.YtjbekgjdempbiaaGreatDoorJRel
set_option maxRecDepth 100000
set_option maxHeartbeats 8000000
namespace Go.Proofs
open Go.RowKit Go.Sort Go.Lib Go.Shelf Go.Maps
theorem Xe8 (tm:Int) (L:List ThingD):(Xdd tm L).length<=2*L.length:=by
 have h1:=Xce tm true L;have h2:=Xce tm false L;simp only [Xdd,List.length_append];omega
theorem Tryz.Xm9 (B B' va g cap vc g' cap':Nat) (L L':List ThingD) (tm tn ln tm' tn' ln':Int) (w:World) (h:Xk B w va g cap L tm tn ln) (h':Xk B' w vc g' cap' L' tm' tn' ln') :
  Calls prog 113 #[.pointer (some ⟨va,0,none⟩),.pointer (some ⟨vc,0,none⟩)] w fun e w'=>∃ b,e=.returned (.bool b)/\Below w.heap.size w w':=by
 have hA:=Xvi B va g cap L tm tn ln w h;have hl:=h.lim;have hl':=h'.lim;have ht:=Xe8 tm L;have ht':=Xe8 tm' L';go_enter func113,ntmps113
 go_wp2_with (first
  | (go_at_call_of 57 (Value.pointer (some ⟨va,0,none⟩));refine hA.mono ?_;rintro e w1 ⟨x,rfl,hr1,hb1⟩)
  | (go_at_call_of 57 (Value.pointer (some ⟨vc,0,none⟩));refine(Xvi B' vc g' cap' L' tm' tn' ln' w1 (h'.below hb1)).mono ?_;rintro e w2 ⟨y,rfl,hr2,hb2⟩)
  | (go_at_call 58;refine(Xgj _ _ _ _ _ _ _ _ w2 (ownsRow_below hr1 hb2) hr2 rfl rfl (by omega) (by omega)).mono ?_;rintro e w3 ⟨b,rfl,hb,hb3⟩))
 go_ret;exact⟨!b,rfl,hb1.trans ((hb2.mono hb1.size).trans (hb3.mono (Nat.le_trans hb1.size hb2.size)))⟩
theorem Tryz.looks (B wb hb va g cap vb mt ml:Nat) (vx:VX) (tm tn ln tn' ln':Int) (tks:List Xd) (lks:List Xc) (L:List ThingD) (dv rv c1 c2 c3 c4:Value) (w:World) (hW:BoxN w wb 69 #[.pointer (some ⟨hb,0,none⟩),c1,c2,c3,c4]) (hH:BoxN w hb 78 #[dv,rv,.pointer (some ⟨vb,0,none⟩)]) (hV:Xq w vb mt ml vx tm tn ln tks lks) (hR:Xk B w va g cap L tm tn' ln') (hl:Rel tks lks L) :
  Calls prog 38 #[.pointer (some ⟨wb,0,none⟩),.pointer (some ⟨va,0,none⟩)] w fun e w'=>e=.returned (.bool true)/\Below w.heap.size w w':=by
 have hA:=callsIn_wide.1 (hAll0 hb vb mt ml vx tm tn ln tks lks w dv rv hH hV);have hI:=hl.infos tm;have hN:=hl.next tm;rw [hI] at hA hN;have hlim:=hR.lim;have ht:=Xe8 tm L
 have hX:=fun W (b:Below w.heap.size w W)=>hNext hb vb mt ml vx tm tn ln tks lks W dv rv (hH.below b hH.lt) (hV.below b)
 rw [hI,hN] at hX
 have hY:=fun W (b:Below w.heap.size w W)=>rNext B va g cap L tm tn' ln' W (hR.below b)
 have hw0:=fun W (b:Below w.heap.size w W)=>(hW.below b hW.lt).cell 0 (v:=.pointer (some ⟨hb,0,none⟩)) rfl
 have c0:=hw0 w (Below.refl _ _);clear hI hN;generalize minT L=mm at *;go_enter func38,ntmps38
 go_wp2_with (first
  | (go_at_call 24;refine hA.mono ?_;rintro e w1 ⟨x,rfl,hr1,hb1⟩)
  | (go_at_call 57;refine(Xvi B va g cap L tm tn' ln' w1 (hR.below hb1)).mono ?_;rintro e w2 ⟨y,rfl,hr2,hb2⟩)
  | (go_at_call 58;refine(Xgj _ _ _ _ _ _ _ _ w2 (ownsRow_below hr1 hb2) hr2 rfl rfl (by omega) (by omega)).mono ?_;rintro e w3 ⟨b,rfl,hsb,hb3⟩;obtain rfl:=hsb rfl;have hb9:=hb1.trans ((hb2.mono hb1.size).trans (hb3.mono (Nat.le_trans hb1.size hb2.size)));have c9:=hw0 _ hb9)
  | (go_at_call 21;refine(hX _ hb9).mono ?_;rintro e w4 ⟨rfl,hb4⟩)
  | (go_at_call 59;refine(hY _ (hb9.trans (hb4.mono hb9.size))).mono ?_;rintro e w5 ⟨rfl,rfl⟩))
 go_ret;exact⟨rfl,hb9.trans (hb4.mono hb9.size)⟩
theorem Tryz.turned (wb nb:Nat) (k:Int) (tu:Bool) (c0 c1 c2:Value) (sk:Bool) (w:World) (hW:BoxN w wb 69 #[c0,c1,c2,.bool sk,.bool false]) :
  Calls prog 110 #[.pointer (some ⟨wb,0,none⟩),.pointer (some ⟨nb,0,none⟩),.int .i64 k,.int .i64 k,.bool tu] w fun e w'=>e=.returned (.bool true)/\w'=w.setCell ⟨wb,1,none⟩ (.pointer (some ⟨nb,0,none⟩)):=by
 have h1:=hW.cell 1 (v:=c1) rfl;have h4:=hW.cell 4 (v:=.bool false) rfl;have f1:=hW.frozen 1
 by_cases hk:k=0
 ·subst hk
  cases tu
  all_goals
   go_enter func110,ntmps110;go_wp2;go_ret;exact⟨rfl,rfl⟩
 have hk':(k==0)=false:=by simpa using hk
 cases tu
 all_goals
  go_enter func110,ntmps110;go_wp2;go_ret;exact⟨by simp,rfl⟩
theorem Tryz.later (a b:Int) (ha:0<=a) (ha1:a<=18446744073709551615) (hb0:0<=b) (hb:b<=18446744073709551615) (w:World) :
  Calls prog 65 #[.int .u64 a,.int .u64 b] w fun e w'=>e=.returned (.int .u64 (plusI a b))/\w'=w:=by
 have hr:Hid (plusI a b=if 18446744073709551615-b<a then 18446744073709551615 else a+b):=Xb rfl;generalize plusI a b=r at *
 by_cases h:18446744073709551615-a<b
 ·obtain rfl:r=18446744073709551615:=by rw [Xa hr,if_pos (by omega)]
  clear hr;go_enter func65,ntmps65;go_wp2;go_ret;exact⟨rfl,rfl⟩
 obtain rfl:r=a+b:=by rw [Xa hr,if_neg (by omega)]
 clear hr;go_enter func65,ntmps65;go_wp2;go_ret;exact⟨Yw (by omega),rfl⟩
theorem Tryz.Xio (w:World):(zeroValue 153).run prog w=.ok (.agg #[.int .i64 0,.int .u64 0,.int .u64 0,.int .i64 0,.bool false]) w:=zeroValue153 w
theorem Tryz.Xhp (w:World):(zeroValue 131).run prog w=.ok (.agg #[.int .i64 0,.int .u64 0,.int .u64 0,.int .i64 0,.bool false,.string ⟨#[]⟩,.int .u64 0]) w:=zeroValue131 w
section
variable {W:World} {vb mt ml:Nat} {vx:VX} {tm tn ln:Int} {tks:List Xd} {lks:List Xc}
theorem Tryz.Xq.Xhi (h:Xq W vb mt ml vx tm tn ln tks lks) {t:Xd} (ht:t∈tks) :
  (Instr.lookup 120 (.map (some mt)) (nmV (1,(t.n:Int))) true).run prog W=.ok (.tuple #[.agg t.cells,.bool true]) W:=by
 obtain⟨n,_,hm⟩:=h.held.mapT;exact Xz.Xck h.ok.ksT.1 (Xdx (.inl rfl) (h.ok.limT t ht).1) hm underlying120 (Xio _) (Z0 h.ok.ksT.1 (List.mem_reverse.2 (List.mem_map.2 ⟨t,ht,rfl⟩)))
theorem Tryz.Xq.Xaa (h:Xq W vb mt ml vx tm tn ln tks lks) {x:Int × Int} (hx:Zr x) (hn:∀ t∈tks,x≠(1,(t.n:Int))) :
  (Instr.lookup 120 (.map (some mt)) (nmV x) true).run prog W=.ok (.tuple #[.agg #[.int .i64 0,.int .u64 0,.int .u64 0,.int .i64 0,.bool false],.bool false]) W:=by
 obtain⟨n,_,hm⟩:=h.held.mapT;refine Xz.Xhj h.ok.ksT.1 hx hm underlying120 (Xio _) (Xbm.2 fun p hp e=>?_);obtain⟨t,ht,rfl⟩:=List.mem_map.1 (List.mem_reverse.1 hp);exact hn t ht e.symm
theorem Tryz.Xq.Xsg (h:Xq W vb mt ml vx tm tn ln tks lks) {t:Xc} (ht:t∈lks) :
  (Instr.lookup 121 (.map (some ml)) (nmV (2,(t.n:Int))) true).run prog W=.ok (.tuple #[.agg t.cells,.bool true]) W:=by
 obtain⟨n,_,hm⟩:=h.held.mapL;exact Xz.Xck h.ok.ksL.1 (Xdx (.inr rfl) (h.ok.limL t ht).1) hm underlying121 (Xhp _) (Z0 h.ok.ksL.1 (List.mem_reverse.2 (List.mem_map.2 ⟨t,ht,rfl⟩)))
theorem Tryz.Xq.Xkp (h:Xq W vb mt ml vx tm tn ln tks lks) {x:Int × Int} (hx:Zr x) (hn:∀ t∈lks,x≠(2,(t.n:Int))) :
  (Instr.lookup 121 (.map (some ml)) (nmV x) true).run prog W=.ok (.tuple #[.agg #[.int .i64 0,.int .u64 0,.int .u64 0,.int .i64 0,.bool false,.string ⟨#[]⟩,.int .u64 0],.bool false]) W:=by
 obtain⟨n,_,hm⟩:=h.held.mapL;refine Xz.Xhj h.ok.ksL.1 hx hm underlying121 (Xhp _) (Xbm.2 fun p hp e=>?_);obtain⟨t,ht,rfl⟩:=List.mem_map.1 (List.mem_reverse.1 hp);exact hn t ht e.symm
end
structure Tryz.LkP (vb c m nb:Nat) (tm:TypeId) (k u:Int) (r:Value) (W:World):Prop where
 mp:W.cell? ⟨vb,c,none⟩=some (.map (some m))
 n0:W.cell? ⟨nb,0,none⟩=some (.int .i64 k)
 n1:W.cell? ⟨nb,1,none⟩=some (.int .u64 u)
 lk:(Instr.lookup tm (.map (some m)) (.agg #[.int .i64 k,.int .u64 u]) true).run Tryz.prog W=.ok r W
theorem Tryz.Xfj (vb mt:Nat) (x:Int × Int) (ak au at_ tr:Int) (pd b:Bool) (w:World) (hP:∀ W,Below w.heap.size w W->W.cell? ⟨vb,3,none⟩=some (.map (some mt))/\(Instr.lookup 120 (.map (some mt)) (nmV x) true).run prog W=.ok (.tuple #[.agg #[.int .i64 ak,.int .u64 au,.int .u64 at_,.int .i64 tr,.bool pd],.bool b]) W) :
  Calls prog 83 #[.pointer (some ⟨vb,0,none⟩),nmV x] w fun e w'=>e=.returned (.bool (b && !pd))/\Below w.heap.size w w':=by
 have hB0:Below w.heap.size w (w.alloc (.cells #[.int .i64 x.1,.int .u64 x.2] 114)):=(Below.refl _ w).alloc (Nat.le_refl _) _;have bN:=BoxN.new w 114 #[.int .i64 x.1,.int .u64 x.2]
 have hS:∀ W,Below (w.heap.size+1) (w.alloc (.cells #[.int .i64 x.1,.int .u64 x.2] 114)) W->LkP vb 3 mt w.heap.size 120 x.1 x.2 (.tuple #[.agg #[.int .i64 ak,.int .u64 au,.int .u64 at_,.int .i64 tr,.bool pd],.bool b]) W:=fun W hb=>by
  have bN':=bN.below hb (by omega);obtain⟨h1,h2⟩:=hP W (hB0.trans (hb.mono (by omega)));exact⟨h1,bN'.cell 0 rfl,bN'.cell 1 rfl,h2⟩
 have hs0:(w.alloc (.cells #[.int .i64 x.1,.int .u64 x.2] 114)).heap.size=w.heap.size+1:=by simp
 unfold nmV;go_enter func83,ntmps83
 go_wp2_with fail
 generalize w.alloc (.cells #[.int .i64 x.1,.int .u64 x.2] 114)=W1 at *;have hb1:Below (w.heap.size+1) W1 W1.drew:=(Below.refl _ _).drew;refine wp_region_held_drew (S:=LkP vb 3 mt w.heap.size 120 x.1 x.2 (.tuple #[.agg #[.int .i64 ak,.int .u64 au,.int .u64 at_,.int .i64 tr,.bool pd],.bool b])) (by kernel_rfl) (hS _ hb1) (fun hS0=>?_);refine Xt 0 ?v0 rfl ?y0 hS0 ?_
 case y0=>(rintro w ⟨q0,q1,q2,q3⟩;go_simp;try with_reducible rfl)
 refine Xt 1 ?v1 rfl ?y1 hS0 ?_
 case y1=>(rintro w ⟨q0,q1,q2,q3⟩;go_simp;try with_reducible rfl)
 refine Xt 2 ?v2 rfl ?y2 hS0 ?_
 case y2=>(rintro w ⟨q0,q1,q2,q3⟩;go_simp;try with_reducible rfl)
 refine Xt 3 ?v3 rfl ?y3 hS0 ?_
 case y3=>(rintro w ⟨q0,q1,q2,q3⟩;go_simp;try with_reducible rfl)
 refine Xt 4 ?v4 rfl ?y4 hS0 ?_
 case y4=>(rintro w ⟨q0,q1,q2,q3⟩;go_simp;try with_reducible rfl)
 refine Xt 5 ?v5 rfl ?y5 hS0 ?_
 case y5=>(rintro w ⟨q0,q1,q2,q3⟩;go_simp;try with_reducible rfl)
 refine Xt 6 ?v6 rfl ?y6 hS0 ?_
 case y6=>(rintro w ⟨q0,q1,q2,q3⟩;go_simp;try with_reducible rfl)
 refine Xt 7 ?v7 rfl ?y7 hS0 ?_
 case y7=>(rintro w ⟨q0,q1,q2,q3⟩;go_simp;try with_reducible rfl)
 refine Xt 8 ?v8 rfl ?y8 hS0 ?_
 case y8=>(rintro w ⟨q0,q1,q2,q3⟩;go_simp;try with_reducible rfl)
 refine Xh 9 rfl fun K hK=>?_;go_simp;refine hK.out _ _ (hS _ (hb1.alloc (by simp [hs0]) _)) (fun hS1=>?_);clear hK K;refine Xh 10 rfl fun K hK=>?_;go_simp;have hb2:Below (w.heap.size+1) W1 (W1.alloc (.cells #[.int .i64 ak,.int .u64 au,.int .u64 at_,.int .i64 tr,.bool pd] 153)).drew:=((Below.refl _ _).alloc (by omega) _).drew
 have bT:BoxN (W1.alloc (.cells #[.int .i64 ak,.int .u64 au,.int .u64 at_,.int .i64 tr,.bool pd] 153)).drew (w.heap.size+1) 153 #[.int .i64 ak,.int .u64 au,.int .u64 at_,.int .i64 tr,.bool pd]:=by
  have h:=BoxN.new W1 153 #[.int .i64 ak,.int .u64 au,.int .u64 at_,.int .i64 tr,.bool pd];rw [hs0] at h;exact h
 refine hK.out _ _ (hS _ hb2) (fun hS2=>?_);clear hK K;refine Xh 11 rfl fun K hK=>?_;go_simp;refine hK.out _ _ hS2 (fun _=>?_);clear hK K;refine wpAnyH_done (by kernel_rfl) ?_ _;have hBf:Below w.heap.size w (W1.alloc (.cells #[.int .i64 ak,.int .u64 au,.int .u64 at_,.int .i64 tr,.bool pd] 153)).drew:=hB0.trans (hb2.mono (by omega));clear hS hP hS0 hS1 hS2 hb1 hb2 hB0 bN;generalize (W1.alloc (.cells #[.int .i64 ak,.int .u64 au,.int .u64 at_,.int .i64 tr,.bool pd] 153)).drew=W2 at *;have hL:=Vr (w.heap.size+1) pd W2 (bT.cell 4 rfl);cases b
 ·go_wp2_with (go_at_call 89;fail)
  go_ret;exact⟨rfl,hBf⟩
 go_wp2_with (go_at_call 89;refine hL.mono ?_;rintro e w5 ⟨rfl,rfl⟩)
 go_ret;exact⟨by simp,hBf⟩
theorem Tryz.Xed (vb mt ml:Nat) (vx:VX) (tm tn ln:Int) (tks:List Xd) (lks:List Xc) (w:World) (hV:Xq w vb mt ml vx tm tn ln tks lks) (t:Xd) (ht:t∈tks) :
  Calls prog 83 #[.pointer (some ⟨vb,0,none⟩),nmV (1,(t.n:Int))] w fun e w'=>e=.returned (.bool (!t.pd))/\Below w.heap.size w w':=by
 have h:=Xfj vb mt (1,(t.n:Int)) t.ak t.au t.at_ t.tr t.pd true w (fun W hb=>⟨(hV.below hb).v.cell 3 rfl,(hV.below hb).Xhi ht⟩)
 simpa using h
theorem Tryz.Xjn (vb mt ml:Nat) (vx:VX) (tm tn ln:Int) (tks:List Xd) (lks:List Xc) (w:World) (hV:Xq w vb mt ml vx tm tn ln tks lks) (x:Int × Int) (hx:Zr x) (hn:∀ t∈tks,x≠(1,(t.n:Int))) :
  Calls prog 83 #[.pointer (some ⟨vb,0,none⟩),nmV x] w fun e w'=>e=.returned (.bool false)/\Below w.heap.size w w':=by
 have h:=Xfj vb mt x 0 0 0 0 false false w (fun W hb=>⟨(hV.below hb).v.cell 3 rfl,(hV.below hb).Xaa hx hn⟩)
 simpa using h
end Go.Proofs
namespace Go.Proofs
open Go.RowKit Go.Sort Go.Lib Go.Shelf Go.Maps Go.WideMaps
def Yh (t:Xd) (l:List Xd):List Xd:=if l.any (fun x=>x.n==t.n) then l.map (fun x=>if x.n=t.n then t else x) else l ++ [t]
def Xba (n:Nat) (l:List Xd):List Xd:=l.filter (fun x=>x.n != n)
theorem Xbh (x t:Xd):(Xd.key x).1=(Xd.key t).1↔x.n=t.n:=by
 simp [Xd.key];omega
theorem Yy {t:Xd} {l:List Xd} (hs:l.Pairwise (fun a b=>a.n<b.n)):(∃ a x b,l=a++x :: b/\x.n=t.n/\Yh t l=a++t :: b/\(∀ y∈a++b,y.n≠t.n))\/((∀ y∈l,y.n≠t.n)/\Yh t l=l ++ [t]):=by
 by_cases h:l.any (fun x=>x.n==t.n)=true
 ·obtain⟨x,hx,hn⟩:=List.any_eq_true.1 h
  have hn:x.n=t.n:=by simpa using hn
  obtain⟨a,b,rfl⟩:=List.append_of_mem hx;obtain⟨h1,h2,h3⟩:=List.pairwise_append.1 hs;obtain⟨h4,h5⟩:=List.pairwise_cons.1 h2
  have hne:∀ y∈a++b,y.n≠t.n:=fun y hy=>by
   rcases List.mem_append.1 hy with hy | hy
   ·have:=h3 y hy x (by simp);omega
   have:=h4 y hy;omega
  refine .inl ⟨a,x,b,rfl,hn,?_,hne⟩;unfold Yh;rw [if_pos h,List.map_append,List.map_cons,if_pos hn]
  have m:∀ c:List Xd,(∀ y∈c,y.n≠t.n)->c.map (fun x=>if x.n=t.n then t else x)=c:=fun c hc=>by
   conv=>rhs;rw [<- List.map_id c]
   exact List.map_congr_left fun y hy=>by simp [hc y hy]
  rw [m a (fun y hy=>hne y (by simp [hy])),m b (fun y hy=>hne y (by simp [hy]))]
 have hf:l.any (fun x=>x.n==t.n)=false:=by simpa using h
 refine .inr ⟨fun y hy e=>?_,by unfold Yh;rw [if_neg h]⟩;exact h (List.any_eq_true.2 ⟨y,hy,by simpa using e⟩)
theorem Xi4 {l:List Xd} (hs:l.Pairwise (fun a b=>a.n<b.n)) (t:Xd):((Xd.key t) :: ((l.map Xd.key).reverse.filter (fun p=>decide (p.1≠(Xd.key t).1)))).Perm ((Yh t l).map Xd.key).reverse:=by
 have keep:∀ c:List Xd,(∀ y∈c,y.n≠t.n)->(c.map Xd.key).reverse.filter (fun p=>decide (p.1≠(Xd.key t).1))=(c.map Xd.key).reverse:=fun c hc=>List.filter_eq_self.2 fun p hp=>by
  obtain⟨y,hy,rfl⟩:=List.mem_map.1 (List.mem_reverse.1 hp)
  simpa using fun e=>hc y hy ((Xbh y t).1 e)
 rcases Yy (t:=t) hs with⟨a,x,b,rfl,hn,hp,hne⟩ | ⟨hne,hp⟩
 ·rw [hp]
  simp only [List.map_append,List.map_cons,List.reverse_append,List.reverse_cons,List.filter_append,List.append_assoc];rw [keep a (fun y hy=>hne y (by simp [hy])),keep b (fun y hy=>hne y (by simp [hy]))]
  have e : [Xd.key x].filter (fun p=>decide (p.1≠(Xd.key t).1)) = []:=by
   simp [(Xbh x t).2 hn]
  rw [e,List.nil_append];exact List.perm_middle.symm
 rw [hp,keep l hne,List.map_append,List.reverse_append];exact List.Perm.refl _
theorem Xf2 (n:Nat) (l:List Xd) (t:Xd) (ht:t.n=n):(l.map Xd.key).reverse.filter (fun p=>decide (p.1≠(Xd.key t).1))=((Xba n l).map Xd.key).reverse:=by
 unfold Xba;rw [List.filter_reverse,List.filter_map]
 congr 2
 refine List.filter_congr fun x _=>?_
 have:=Xbh x t;rw [ht] at this
 by_cases e:x.n=n
 ·simp [e,this.2 e]
 have h2:(Xd.key x).1≠(Xd.key t).1:=fun h=>e (this.1 h)
 simp [e,h2]
theorem Zh {t y:Xd} {l:List Xd} (hs:l.Pairwise (fun a b=>a.n<b.n)) (h:y∈Yh t l):y=t\/y∈l:=by
 rcases Yy (t:=t) hs with⟨a,x,b,rfl,hn,hp,hne⟩ | ⟨hne,hp⟩
 ·rw [hp] at h
  simp at h ⊢
  rcases h with h | h | h
  ·exact .inr (.inl h)
  ·exact .inl h
  exact .inr (.inr (.inr h))
 rw [hp] at h;simp at h
 rcases h with h | h
 ·exact .inr h
 exact .inl h
theorem Xln {t:Xd} {l:List Xd} (hs:l.Pairwise (fun a b=>a.n<b.n)):(Yh t l).length<=l.length+1:=by
 rcases Yy (t:=t) hs with⟨a,x,b,rfl,hn,hp,hne⟩ | ⟨hne,hp⟩
 ·rw [hp];simp
 rw [hp];simp
def Xab (t:Xd) (l:List Xd):Prop:=(∃ x∈l,x.n=t.n)\/∀ x∈l,x.n<t.n
theorem Mh {t:Xd} {l:List Xd} (hs:l.Pairwise (fun a b=>a.n<b.n)) (hf:Xab t l):(Yh t l).Pairwise (fun a b=>a.n<b.n):=by
 rcases Yy (t:=t) hs with⟨a,x,b,rfl,hn,hp,hne⟩ | ⟨hne,hp⟩
 ·rw [hp]
  obtain⟨h1,h2,h3⟩:=List.pairwise_append.1 hs;obtain⟨h4,h5⟩:=List.pairwise_cons.1 h2;refine List.pairwise_append.2 ⟨h1,List.pairwise_cons.2 ⟨fun y hy=>by rw [<- hn];exact h4 y hy,h5⟩,fun y hy z hz=>?_⟩
  rcases List.mem_cons.1 hz with rfl | hz
  ·rw [<- hn];exact h3 y hy x (by simp)
  exact h3 y hy z (List.mem_cons_of_mem _ hz)
 rw [hp];refine List.pairwise_append.2 ⟨hs,by simp,fun y hy z hz=>?_⟩;rw [List.mem_singleton.1 hz]
 rcases hf with⟨x,hx,e⟩ | h
 ·exact absurd e (hne x hx)
 exact h y hy
def Yc (t:Xc) (l:List Xc):List Xc:=if l.any (fun x=>x.n==t.n) then l.map (fun x=>if x.n=t.n then t else x) else l ++ [t]
def Xa8 (n:Nat) (l:List Xc):List Xc:=l.filter (fun x=>x.n != n)
theorem Xbd (x t:Xc):(Xc.key x).1=(Xc.key t).1↔x.n=t.n:=by
 simp [Xc.key];omega
theorem Yx {t:Xc} {l:List Xc} (hs:l.Pairwise (fun a b=>a.n<b.n)):(∃ a x b,l=a++x :: b/\x.n=t.n/\Yc t l=a++t :: b/\(∀ y∈a++b,y.n≠t.n))\/((∀ y∈l,y.n≠t.n)/\Yc t l=l ++ [t]):=by
 by_cases h:l.any (fun x=>x.n==t.n)=true
 ·obtain⟨x,hx,hn⟩:=List.any_eq_true.1 h
  have hn:x.n=t.n:=by simpa using hn
  obtain⟨a,b,rfl⟩:=List.append_of_mem hx;obtain⟨h1,h2,h3⟩:=List.pairwise_append.1 hs;obtain⟨h4,h5⟩:=List.pairwise_cons.1 h2
  have hne:∀ y∈a++b,y.n≠t.n:=fun y hy=>by
   rcases List.mem_append.1 hy with hy | hy
   ·have:=h3 y hy x (by simp);omega
   have:=h4 y hy;omega
  refine .inl ⟨a,x,b,rfl,hn,?_,hne⟩;unfold Yc;rw [if_pos h,List.map_append,List.map_cons,if_pos hn]
  have m:∀ c:List Xc,(∀ y∈c,y.n≠t.n)->c.map (fun x=>if x.n=t.n then t else x)=c:=fun c hc=>by
   conv=>rhs;rw [<- List.map_id c]
   exact List.map_congr_left fun y hy=>by simp [hc y hy]
  rw [m a (fun y hy=>hne y (by simp [hy])),m b (fun y hy=>hne y (by simp [hy]))]
 have hf:l.any (fun x=>x.n==t.n)=false:=by simpa using h
 refine .inr ⟨fun y hy e=>?_,by unfold Yc;rw [if_neg h]⟩;exact h (List.any_eq_true.2 ⟨y,hy,by simpa using e⟩)
theorem Xkm {l:List Xc} (hs:l.Pairwise (fun a b=>a.n<b.n)) (t:Xc):((Xc.key t) :: ((l.map Xc.key).reverse.filter (fun p=>decide (p.1≠(Xc.key t).1)))).Perm ((Yc t l).map Xc.key).reverse:=by
 have keep:∀ c:List Xc,(∀ y∈c,y.n≠t.n)->(c.map Xc.key).reverse.filter (fun p=>decide (p.1≠(Xc.key t).1))=(c.map Xc.key).reverse:=fun c hc=>List.filter_eq_self.2 fun p hp=>by
  obtain⟨y,hy,rfl⟩:=List.mem_map.1 (List.mem_reverse.1 hp)
  simpa using fun e=>hc y hy ((Xbd y t).1 e)
 rcases Yx (t:=t) hs with⟨a,x,b,rfl,hn,hp,hne⟩ | ⟨hne,hp⟩
 ·rw [hp]
  simp only [List.map_append,List.map_cons,List.reverse_append,List.reverse_cons,List.filter_append,List.append_assoc];rw [keep a (fun y hy=>hne y (by simp [hy])),keep b (fun y hy=>hne y (by simp [hy]))]
  have e : [Xc.key x].filter (fun p=>decide (p.1≠(Xc.key t).1)) = []:=by
   simp [(Xbd x t).2 hn]
  rw [e,List.nil_append];exact List.perm_middle.symm
 rw [hp,keep l hne,List.map_append,List.reverse_append];exact List.Perm.refl _
theorem Xfx (n:Nat) (l:List Xc) (t:Xc) (ht:t.n=n):(l.map Xc.key).reverse.filter (fun p=>decide (p.1≠(Xc.key t).1))=((Xa8 n l).map Xc.key).reverse:=by
 unfold Xa8;rw [List.filter_reverse,List.filter_map]
 congr 2
 refine List.filter_congr fun x _=>?_
 have:=Xbd x t;rw [ht] at this
 by_cases e:x.n=n
 ·simp [e,this.2 e]
 have h2:(Xc.key x).1≠(Xc.key t).1:=fun h=>e (this.1 h)
 simp [e,h2]
theorem Jd {t y:Xc} {l:List Xc} (hs:l.Pairwise (fun a b=>a.n<b.n)) (h:y∈Yc t l):y=t\/y∈l:=by
 rcases Yx (t:=t) hs with⟨a,x,b,rfl,hn,hp,hne⟩ | ⟨hne,hp⟩
 ·rw [hp] at h
  simp at h ⊢
  rcases h with h | h | h
  ·exact .inr (.inl h)
  ·exact .inl h
  exact .inr (.inr (.inr h))
 rw [hp] at h;simp at h
 rcases h with h | h
 ·exact .inr h
 exact .inl h
theorem Xk1 {t:Xc} {l:List Xc} (hs:l.Pairwise (fun a b=>a.n<b.n)):(Yc t l).length<=l.length+1:=by
 rcases Yx (t:=t) hs with⟨a,x,b,rfl,hn,hp,hne⟩ | ⟨hne,hp⟩
 ·rw [hp];simp
 rw [hp];simp
def Xaj (t:Xc) (l:List Xc):Prop:=(∃ x∈l,x.n=t.n)\/∀ x∈l,x.n<t.n
theorem Mg {t:Xc} {l:List Xc} (hs:l.Pairwise (fun a b=>a.n<b.n)) (hf:Xaj t l):(Yc t l).Pairwise (fun a b=>a.n<b.n):=by
 rcases Yx (t:=t) hs with⟨a,x,b,rfl,hn,hp,hne⟩ | ⟨hne,hp⟩
 ·rw [hp]
  obtain⟨h1,h2,h3⟩:=List.pairwise_append.1 hs;obtain⟨h4,h5⟩:=List.pairwise_cons.1 h2;refine List.pairwise_append.2 ⟨h1,List.pairwise_cons.2 ⟨fun y hy=>by rw [<- hn];exact h4 y hy,h5⟩,fun y hy z hz=>?_⟩
  rcases List.mem_cons.1 hz with rfl | hz
  ·rw [<- hn];exact h3 y hy x (by simp)
  exact h3 y hy z (List.mem_cons_of_mem _ hz)
 rw [hp];refine List.pairwise_append.2 ⟨hs,by simp,fun y hy z hz=>?_⟩;rw [List.mem_singleton.1 hz]
 rcases hf with⟨x,hx,e⟩ | h
 ·exact absurd e (hne x hx)
 exact h y hy
theorem Xx.putT {tks:List Xd} {lks:List Xc} (h:Xx tks lks) {t:Xd} (hf:Xab t tks) (hl:tks.length<500) (h1:t.n<Xo) (h2:t.au<Xo):Xx (Yh t tks) lks:=
 ⟨by have:=Xln (t:=t) h.incT;omega,h.lenL,Mh h.incT hf,h.incL,fun x hx=>by rcases Zh h.incT hx with rfl | hx;exact⟨h1,h2⟩;exact h.limT x hx,h.limL⟩
theorem Xx.putL {tks:List Xd} {lks:List Xc} (h:Xx tks lks) {t:Xc} (hf:Xaj t lks) (hl:lks.length<500) (h1:t.n<Xo) (h2:t.au<Xo):Xx tks (Yc t lks):=
 ⟨h.lenT,by have:=Xk1 (t:=t) h.incL;omega,h.incT,Mg h.incL hf,h.limT,fun x hx=>by rcases Jd h.incL hx with rfl | hx;exact⟨h1,h2⟩;exact h.limL x hx⟩
theorem Xx.delT {tks:List Xd} {lks:List Xc} (h:Xx tks lks) (n:Nat):Xx (Xba n tks) lks:=
 ⟨Nat.le_trans (List.length_filter_le _ _) h.lenT,h.lenL,h.incT.filter _,h.incL,fun x hx=>h.limT x (List.mem_filter.1 hx).1,h.limL⟩
theorem Xx.delL {tks:List Xd} {lks:List Xc} (h:Xx tks lks) (n:Nat):Xx tks (Xa8 n lks):=
 ⟨h.lenT,Nat.le_trans (List.length_filter_le _ _) h.lenL,h.incT,h.incL.filter _,h.limT,fun x hx=>h.limL x (List.mem_filter.1 hx).1⟩
theorem J5 {H:Type} {P:Program} {k:TypeId} {R:Value->Option (DataW H × List MemPlace)} {D:DataW H} {W:World} {b n:Nat} (h:W.ownsMap P k R b n D):W.ownsMap P k R b (Maps.size D) D:=by
 obtain⟨es,clock,hb,F,hs,rfl⟩:=h;exact⟨es,clock,hb,F,by simp [Maps.size,length_sorted],rfl⟩
section
variable {W:World} {mt ml:Nat} {tks:List Xd} {lks:List Xc}
theorem Tryz.storeT (hH:Mk W mt ml tks lks) (ok:Xx tks lks) {t:Xd} (hf:Xab t tks) (hl:tks.length<500) (h1:t.n<Xo) (h2:t.au<Xo) :
  ∃ w',(Instr.mapUpdate 120 (.map (some mt)) (nmV (1,(t.n:Int))) (.agg t.cells)).run prog W=.ok () w'/\(∃ n,n<=1000/\w'.ownsMap prog 114 Ye mt n (mapD ((Yh t tks).map Xd.key).reverse))/\W.grownBy w' (some mt):=by
 obtain⟨n,hn,hm⟩:=hH.mapT;have hx:Zr (1,(t.n:Int)):=Xdx (.inl rfl) h1;have ok2:=ok.putT hf hl h1 h2;obtain⟨w',hrun,hM,hT⟩:=hm.store (Keyed.of_law Xz.law) underlying120 (by unfold maxLen;omega) (key:=nmV (1,(t.n:Int))) (val:=.agg t.cells) (Xz.keyOf hx) (d:=.held (.agg t.cells)) (ps:=[]) rfl;refine⟨w',hrun,⟨Maps.size (mapD ((Yh t tks).map Xd.key).reverse),?_,?_⟩,hT.grown⟩
 ·rw [Xz.Z6 _ ok2.ksT.1];have:=ok2.lenT;simp;omega
 have e:=Xz.Xft ok.ksT.1 hx (.agg t.cells)
 have e2:mapD (((1,(t.n:Int)),Value.agg t.cells) :: (tks.map Xd.key).reverse.filter (fun p=>decide (p.1≠(1,(t.n:Int)))))=mapD ((Yh t tks).map Xd.key).reverse:=
  (Xz.Xhk ok2.ksT.1 (Xi4 ok.incT t).symm).symm
 rw [e2] at e;have hM':=J5 hM;rw [show Lit.string (nmB (1,(t.n:Int)))=nmL (1,(t.n:Int)) from rfl,e] at hM';exact hM'
theorem Tryz.Xvy (hH:Mk W mt ml tks lks) (ok:Xx tks lks) {t:Xc} (hf:Xaj t lks) (hl:lks.length<500) (h1:t.n<Xo) (h2:t.au<Xo) :
  ∃ w',(Instr.mapUpdate 121 (.map (some ml)) (nmV (2,(t.n:Int))) (.agg t.cells)).run prog W=.ok () w'/\(∃ n,n<=1000/\w'.ownsMap prog 114 Ye ml n (mapD ((Yc t lks).map Xc.key).reverse))/\W.grownBy w' (some ml):=by
 obtain⟨n,hn,hm⟩:=hH.mapL;have hx:Zr (2,(t.n:Int)):=Xdx (.inr rfl) h1;have ok2:=ok.putL hf hl h1 h2;obtain⟨w',hrun,hM,hT⟩:=hm.store (Keyed.of_law Xz.law) underlying121 (by unfold maxLen;omega) (key:=nmV (2,(t.n:Int))) (val:=.agg t.cells) (Xz.keyOf hx) (d:=.held (.agg t.cells)) (ps:=[]) rfl;refine⟨w',hrun,⟨Maps.size (mapD ((Yc t lks).map Xc.key).reverse),?_,?_⟩,hT.grown⟩
 ·rw [Xz.Z6 _ ok2.ksL.1];have:=ok2.lenL;simp;omega
 have e:=Xz.Xft ok.ksL.1 hx (.agg t.cells)
 have e2:mapD (((2,(t.n:Int)),Value.agg t.cells) :: (lks.map Xc.key).reverse.filter (fun p=>decide (p.1≠(2,(t.n:Int)))))=mapD ((Yc t lks).map Xc.key).reverse:=
  (Xz.Xhk ok2.ksL.1 (Xkm ok.incL t).symm).symm
 rw [e2] at e;have hM':=J5 hM;rw [show Lit.string (nmB (2,(t.n:Int)))=nmL (2,(t.n:Int)) from rfl,e] at hM';exact hM'
end
end Go.Proofs
