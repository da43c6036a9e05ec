import Derived.Test.YtjbekgjdempbiaaGreatDoorJSq
import Derived.Test.YtjbekgjdempbiaaGreatDoorJRefJ
import Derived.Test.YtjbekgjdempbiaaGreatDoorJValid
import Derived.Test.YtjbekgjdempbiaaGreatDoorJCDiskB
import Derived.Test.YtjbekgjdempbiaaGreatDoorJSets
import Derived.Test.YtjbekgjdempbiaaGreatDoorJGlob
set_option maxRecDepth 100000
set_option maxHeartbeats 8000000
namespace Go.Proofs
open Go.RowKit Go.Sort Go.Lib Go.Shelf
theorem Xar (M:Nat) (c:UInt8) (h1:48<=c.toNat) (h2:c.toNat<=57):∀(l:List UInt8) (acc u:Nat),Lib.parseUintM M acc l=.ok u->u<1844674407370955162->u*10+(c.toNat-48)<=M->Lib.parseUintM M acc (l ++ [c])=.ok (u*10+(c.toNat-48))
 | [],acc,u,h,hu,hm=>by
  have e:acc=u:=by simpa [Lib.parseUintM] using h
  subst e;simp only [List.nil_append,Lib.parseUintM];rw [if_pos ⟨h1,h2⟩,if_neg (by omega),if_neg (by omega)]
 | d :: l,acc,u,h,hu,hm=>by
  simp only [List.cons_append,Lib.parseUintM] at h ⊢
  split at h
  ·split at h
   ·cases h
   split at h
   ·cases h
   rename_i a b c'
   rw [if_pos a,if_neg b,if_neg c'];exact Xar M c h1 h2 l _ u h hu hm
  cases h
theorem Xdk (d:Nat) (h:d<10):(UInt8.ofNat (48+d)).toNat=48+d:=by simp;omega
theorem Xhs (u:Nat) (hu:u<=18446744073709551615):Lib.parseUintM 18446744073709551615 0 (Lib.decDigits u)=.ok u:=by
 induction u using Nat.strongRecOn with
 | ind u ih =>
  by_cases h:u<10
  ·rw [Lib.decDigits_one h]
   have hd:=Xdk u h;simp only [Lib.parseUintM,hd];rw [if_pos ⟨by omega,by omega⟩,if_neg (by omega),if_neg (by omega)]
   congr 1
   omega
  rw [Lib.decDigits,dif_neg h];have hd:=Xdk (u % 10) (by omega);have:=Xar 18446744073709551615 (UInt8.ofNat (48+u % 10)) (by omega) (by omega) _ 0 (u / 10) (ih (u / 10) (by omega) (by omega)) (by omega) (by omega);rw [this,hd]
  congr 1
  omega
theorem Xbl (u:Nat):Lib.decDigits u ≠ []:=by
 rw [Lib.decDigits]
 split <;> simp
theorem Xaf (u:Nat) (hu:u<18446744073709551616):Lib.parseUintB 64 (Lib.decDigits u)=.ok u:=by
 unfold Lib.parseUintB;rw [if_neg (Xbl u)];exact Xhs u (by omega)
def kd (tk:Bool):Int:=if tk then 1 else 2
theorem U5 (tk:Bool) {n:Nat} (h:n<Xj):parseN (nmStr (kd tk) n)=(kd tk,(n:Int)):=by
 cases tk
 ·show parseN (108 :: Lib.decDigits n)=_
  simp only [parseN,Xaf n h];rw [if_pos (show nmStr (kindI 108) n=108 :: Lib.decDigits n from rfl)];rfl
 show parseN (116 :: Lib.decDigits n)=_
 simp only [parseN,Xaf n h];rw [if_pos (show nmStr (kindI 116) n=116 :: Lib.decDigits n from rfl)];rfl
def thT (t:Xe):Xm:=⟨true,t.n,if t.ak=1 then (t.au:Int) else -1,[],t.at_,0,t.pd,t.tr⟩
def thL (l:Xd):Xm:=⟨false,l.n,(l.au:Int),l.pth,l.at_,l.last,l.pd,l.tr⟩
structure Rel (tks:List Xe) (lks:List Xd) (L:List Xm):Prop where
 toks:L.filter (fun t=>t.token==true)=tks.map thT
 leas:L.filter (fun t=>t.token==false)=lks.map thL
 akT:∀ t∈tks,t.ak=1\/t.ak=0
 akL:∀ l∈lks,l.ak=1
section
variable {tks:List Xe} {lks:List Xd} {L:List Xm}
theorem Rel.Xn3 (h:Rel tks lks L) {x:Xm} (hx:x∈L) (ht:x.token=true):∃ t∈tks,thT t=x:=by
 have:x∈L.filter (fun t=>t.token==true):=List.mem_filter.2 ⟨hx,by simp [ht]⟩;rw [h.toks] at this
 simpa using this
theorem Rel.Xn0 (h:Rel tks lks L) {x:Xm} (hx:x∈L) (ht:x.token=false):∃ t∈lks,thL t=x:=by
 have:x∈L.filter (fun t=>t.token==false):=List.mem_filter.2 ⟨hx,by simp [ht]⟩;rw [h.leas] at this
 simpa using this
theorem Rel.num (h:Rel tks lks L) (ok:X5 tks lks) {x:Xm} (hx:x∈L):x.n<Xj:=by
 cases hb:x.token
 ·obtain⟨a,ha,rfl⟩:=h.Xn0 hx hb
  exact(ok.limL a ha).1
 obtain⟨a,ha,rfl⟩:=h.Xn3 hx hb;exact(ok.limT a ha).1
end
end Go.Proofs
namespace Go.Proofs
open Go.RowKit Go.Sort Go.Lib Go.Shelf Go.Maps
theorem Tryz.later (a b:Int) (ha:0<=a) (ha1:a<=18446744073709551615) (hb0:0<=b) (hb:b<=18446744073709551615) (w:World) :
  Calls prog 65 #[.int .u64 a,.int .u64 b] w fun e w'=>e=.returned (.int .u64 (plusI a b))/\w'=w:=by
 have hr:Hid (plusI a b=if 18446744073709551615-b<a then 18446744073709551615 else a+b):=Xb rfl;generalize plusI a b=r at *
 by_cases h:18446744073709551615-a<b
 ·obtain rfl:r=18446744073709551615:=by rw [Xa hr,if_pos (by omega)]
  clear hr;go_enter func65,ntmps65;go_wp2;go_ret;exact⟨rfl,rfl⟩
 obtain rfl:r=a+b:=by rw [Xa hr,if_neg (by omega)]
 clear hr;go_enter func65,ntmps65;go_wp2;go_ret;exact⟨Yj (by omega),rfl⟩
theorem Tryz.Xee (w:World):(zeroValue 153).run prog w=.ok (.agg #[.int .i64 0,.int .u64 0,.int .u64 0,.int .i64 0,.bool false]) w:=zeroValue153 w
theorem Tryz.Xih (w:World):(zeroValue 131).run prog w=.ok (.agg #[.int .i64 0,.int .u64 0,.int .u64 0,.int .i64 0,.bool false,.string ⟨#[]⟩,.int .u64 0]) w:=zeroValue131 w
section
variable {W:World} {vb mt ml:Nat} {vx:VX} {tm tn ln:Int} {tks:List Xe} {lks:List Xd}
theorem Tryz.X0.Xmo (h:X0 W vb mt ml vx tm tn ln tks lks) {t:Xe} (ht:t∈tks) :
  (Instr.lookup 120 (.map (some mt)) (nmV (1,(t.n:Int))) true).run prog W=.ok (.tuple #[.agg t.cells,.bool true]) W:=by
 obtain⟨n,_,hm⟩:=h.held.mapT;exact Xo.Mp h.ok.ksT.1 (Xbn (.inl rfl) (h.ok.limT t ht).1) hm underlying120 (Xee _) (Zh h.ok.ksT.1 (List.mem_reverse.2 (List.mem_map.2 ⟨t,ht,rfl⟩)))
theorem Tryz.X0.Xf7 (h:X0 W vb mt ml vx tm tn ln tks lks) {x:Int × Int} (hx:Zt x) (hn:∀ t∈tks,x≠(1,(t.n:Int))) :
  (Instr.lookup 120 (.map (some mt)) (nmV x) true).run prog W=.ok (.tuple #[.agg #[.int .i64 0,.int .u64 0,.int .u64 0,.int .i64 0,.bool false],.bool false]) W:=by
 obtain⟨n,_,hm⟩:=h.held.mapT;refine Xo.Xj8 h.ok.ksT.1 hx hm underlying120 (Xee _) (Xbt.2 fun p hp e=>?_);obtain⟨t,ht,rfl⟩:=List.mem_map.1 (List.mem_reverse.1 hp);exact hn t ht e.symm
theorem Tryz.X0.Xod (h:X0 W vb mt ml vx tm tn ln tks lks) {t:Xd} (ht:t∈lks) :
  (Instr.lookup 121 (.map (some ml)) (nmV (2,(t.n:Int))) true).run prog W=.ok (.tuple #[.agg t.cells,.bool true]) W:=by
 obtain⟨n,_,hm⟩:=h.held.mapL;exact Xo.Mp h.ok.ksL.1 (Xbn (.inr rfl) (h.ok.limL t ht).1) hm underlying121 (Xih _) (Zh h.ok.ksL.1 (List.mem_reverse.2 (List.mem_map.2 ⟨t,ht,rfl⟩)))
theorem Tryz.X0.alloc (h:X0 W vb mt ml vx tm tn ln tks lks) (o:Obj):X0 (W.alloc o) vb mt ml vx tm tn ln tks lks:=h.below ((Below.refl _ W).alloc (Nat.le_refl _) o)
end
structure Tryz.LkP (vb c m nb:Nat) (tm:TypeId) (k u:Int) (r:Value) (W:World):Prop where
 mp:W.cell? ⟨vb,c,none⟩=some (.map (some m))
 n0:W.cell? ⟨nb,0,none⟩=some (.int .i64 k)
 n1:W.cell? ⟨nb,1,none⟩=some (.int .u64 u)
 lk:(Instr.lookup tm (.map (some m)) (.agg #[.int .i64 k,.int .u64 u]) true).run Tryz.prog W=.ok r W
theorem Tryz.Xgh (vb mt:Nat) (x:Int × Int) (ak au at_ tr:Int) (pd b:Bool) (w:World) (hP:∀ W,Below w.heap.size w W->W.cell? ⟨vb,3,none⟩=some (.map (some mt))/\(Instr.lookup 120 (.map (some mt)) (nmV x) true).run prog W=.ok (.tuple #[.agg #[.int .i64 ak,.int .u64 au,.int .u64 at_,.int .i64 tr,.bool pd],.bool b]) W) :
  Calls prog 83 #[.pointer (some ⟨vb,0,none⟩),nmV x] w fun e w'=>e=.returned (.bool (b && !pd))/\Below w.heap.size w w':=by
 have hB0:Below w.heap.size w (w.alloc (.cells #[.int .i64 x.1,.int .u64 x.2] 114)):=(Below.refl _ w).alloc (Nat.le_refl _) _;have bN:=BoxN.new w 114 #[.int .i64 x.1,.int .u64 x.2]
 have hS:∀ W,Below (w.heap.size+1) (w.alloc (.cells #[.int .i64 x.1,.int .u64 x.2] 114)) W->LkP vb 3 mt w.heap.size 120 x.1 x.2 (.tuple #[.agg #[.int .i64 ak,.int .u64 au,.int .u64 at_,.int .i64 tr,.bool pd],.bool b]) W:=fun W hb=>by
  have bN':=bN.below hb (by omega);obtain⟨h1,h2⟩:=hP W (hB0.trans (hb.mono (by omega)));exact⟨h1,bN'.cell 0 rfl,bN'.cell 1 rfl,h2⟩
 have hs0:(w.alloc (.cells #[.int .i64 x.1,.int .u64 x.2] 114)).heap.size=w.heap.size+1:=by simp
 unfold nmV;go_enter func83,ntmps83
 go_wp2_with fail
 generalize w.alloc (.cells #[.int .i64 x.1,.int .u64 x.2] 114)=W1 at *;have hb1:Below (w.heap.size+1) W1 W1.drew:=(Below.refl _ _).drew;refine wp_region_held_drew (S:=LkP vb 3 mt w.heap.size 120 x.1 x.2 (.tuple #[.agg #[.int .i64 ak,.int .u64 au,.int .u64 at_,.int .i64 tr,.bool pd],.bool b])) (by kernel_rfl) (hS _ hb1) (fun hS0=>?_);refine Xt 0 ?v0 rfl ?y0 hS0 ?_
 case y0=>(rintro w ⟨q0,q1,q2,q3⟩;go_simp;try with_reducible rfl)
 refine Xt 1 ?v1 rfl ?y1 hS0 ?_
 case y1=>(rintro w ⟨q0,q1,q2,q3⟩;go_simp;try with_reducible rfl)
 refine Xt 2 ?v2 rfl ?y2 hS0 ?_
 case y2=>(rintro w ⟨q0,q1,q2,q3⟩;go_simp;try with_reducible rfl)
 refine Xt 3 ?v3 rfl ?y3 hS0 ?_
 case y3=>(rintro w ⟨q0,q1,q2,q3⟩;go_simp;try with_reducible rfl)
 refine Xt 4 ?v4 rfl ?y4 hS0 ?_
 case y4=>(rintro w ⟨q0,q1,q2,q3⟩;go_simp;try with_reducible rfl)
 refine Xt 5 ?v5 rfl ?y5 hS0 ?_
 case y5=>(rintro w ⟨q0,q1,q2,q3⟩;go_simp;try with_reducible rfl)
 refine Xt 6 ?v6 rfl ?y6 hS0 ?_
 case y6=>(rintro w ⟨q0,q1,q2,q3⟩;go_simp;try with_reducible rfl)
 refine Xt 7 ?v7 rfl ?y7 hS0 ?_
 case y7=>(rintro w ⟨q0,q1,q2,q3⟩;go_simp;try with_reducible rfl)
 refine Xt 8 ?v8 rfl ?y8 hS0 ?_
 case y8=>(rintro w ⟨q0,q1,q2,q3⟩;go_simp;try with_reducible rfl)
 refine Xh 9 rfl fun K hK=>?_;go_simp;refine hK.out _ _ (hS _ (hb1.alloc (by simp [hs0]) _)) (fun hS1=>?_);clear hK K;refine Xh 10 rfl fun K hK=>?_;go_simp;have hb2:Below (w.heap.size+1) W1 (W1.alloc (.cells #[.int .i64 ak,.int .u64 au,.int .u64 at_,.int .i64 tr,.bool pd] 153)).drew:=((Below.refl _ _).alloc (by omega) _).drew
 have bT:BoxN (W1.alloc (.cells #[.int .i64 ak,.int .u64 au,.int .u64 at_,.int .i64 tr,.bool pd] 153)).drew (w.heap.size+1) 153 #[.int .i64 ak,.int .u64 au,.int .u64 at_,.int .i64 tr,.bool pd]:=by
  have h:=BoxN.new W1 153 #[.int .i64 ak,.int .u64 au,.int .u64 at_,.int .i64 tr,.bool pd];rw [hs0] at h;exact h
 refine hK.out _ _ (hS _ hb2) (fun hS2=>?_);clear hK K;refine Xh 11 rfl fun K hK=>?_;go_simp;refine hK.out _ _ hS2 (fun _=>?_);clear hK K;refine wpAnyH_done (by kernel_rfl) ?_ _;have hBf:Below w.heap.size w (W1.alloc (.cells #[.int .i64 ak,.int .u64 au,.int .u64 at_,.int .i64 tr,.bool pd] 153)).drew:=hB0.trans (hb2.mono (by omega));clear hS hP hS0 hS1 hS2 hb1 hb2 hB0 bN;generalize (W1.alloc (.cells #[.int .i64 ak,.int .u64 au,.int .u64 at_,.int .i64 tr,.bool pd] 153)).drew=W2 at *;have hL:=Vd (w.heap.size+1) pd W2 (bT.cell 4 rfl);cases b
 ·go_wp2_with (go_at_call 89;fail)
  go_ret;exact⟨rfl,hBf⟩
 go_wp2_with (go_at_call 89;refine hL.mono ?_;rintro e w5 ⟨rfl,rfl⟩)
 go_ret;exact⟨by simp,hBf⟩
theorem Tryz.Xhe (vb mt ml:Nat) (vx:VX) (tm tn ln:Int) (tks:List Xe) (lks:List Xd) (w:World) (hV:X0 w vb mt ml vx tm tn ln tks lks) (t:Xe) (ht:t∈tks) :
  Calls prog 83 #[.pointer (some ⟨vb,0,none⟩),nmV (1,(t.n:Int))] w fun e w'=>e=.returned (.bool (!t.pd))/\Below w.heap.size w w':=by
 have h:=Xgh vb mt (1,(t.n:Int)) t.ak t.au t.at_ t.tr t.pd true w (fun W hb=>⟨(hV.below hb).v.cell 3 rfl,(hV.below hb).Xmo ht⟩)
 simpa using h
end Go.Proofs
namespace Go.Proofs
open Go.RowKit Go.Sort Go.Lib Go.Shelf Go.Maps Go.WideMaps
def Yl (t:Xe) (l:List Xe):List Xe:=if l.any (fun x=>x.n==t.n) then l.map (fun x=>if x.n=t.n then t else x) else l ++ [t]
def Xbu (n:Nat) (l:List Xe):List Xe:=l.filter (fun x=>x.n != n)
theorem Vq (x t:Xe):(Xe.key x).1=(Xe.key t).1↔x.n=t.n:=by
 simp [Xe.key];omega
theorem Yt {t:Xe} {l:List Xe} (hs:l.Pairwise (fun a b=>a.n<b.n)):(∃ a x b,l=a++x :: b/\x.n=t.n/\Yl t l=a++t :: b/\(∀ y∈a++b,y.n≠t.n))\/((∀ y∈l,y.n≠t.n)/\Yl t l=l ++ [t]):=by
 by_cases h:l.any (fun x=>x.n==t.n)=true
 ·obtain⟨x,hx,hn⟩:=List.any_eq_true.1 h
  have hn:x.n=t.n:=by simpa using hn
  obtain⟨a,b,rfl⟩:=List.append_of_mem hx;obtain⟨h1,h2,h3⟩:=List.pairwise_append.1 hs;obtain⟨h4,h5⟩:=List.pairwise_cons.1 h2
  have hne:∀ y∈a++b,y.n≠t.n:=fun y hy=>by
   rcases List.mem_append.1 hy with hy | hy
   ·have:=h3 y hy x (by simp);omega
   have:=h4 y hy;omega
  refine .inl ⟨a,x,b,rfl,hn,?_,hne⟩;unfold Yl;rw [if_pos h,List.map_append,List.map_cons,if_pos hn]
  have m:∀ c:List Xe,(∀ y∈c,y.n≠t.n)->c.map (fun x=>if x.n=t.n then t else x)=c:=fun c hc=>by
   conv=>rhs;rw [<- List.map_id c]
   exact List.map_congr_left fun y hy=>by simp [hc y hy]
  rw [m a (fun y hy=>hne y (by simp [hy])),m b (fun y hy=>hne y (by simp [hy]))]
 have hf:l.any (fun x=>x.n==t.n)=false:=by simpa using h
 refine .inr ⟨fun y hy e=>?_,by unfold Yl;rw [if_neg h]⟩;exact h (List.any_eq_true.2 ⟨y,hy,by simpa using e⟩)
theorem Xfn {l:List Xe} (hs:l.Pairwise (fun a b=>a.n<b.n)) (t:Xe):((Xe.key t) :: ((l.map Xe.key).reverse.filter (fun p=>decide (p.1≠(Xe.key t).1)))).Perm ((Yl t l).map Xe.key).reverse:=by
 have keep:∀ c:List Xe,(∀ y∈c,y.n≠t.n)->(c.map Xe.key).reverse.filter (fun p=>decide (p.1≠(Xe.key t).1))=(c.map Xe.key).reverse:=fun c hc=>List.filter_eq_self.2 fun p hp=>by
  obtain⟨y,hy,rfl⟩:=List.mem_map.1 (List.mem_reverse.1 hp)
  simpa using fun e=>hc y hy ((Vq y t).1 e)
 rcases Yt (t:=t) hs with⟨a,x,b,rfl,hn,hp,hne⟩ | ⟨hne,hp⟩
 ·rw [hp]
  simp only [List.map_append,List.map_cons,List.reverse_append,List.reverse_cons,List.filter_append,List.append_assoc];rw [keep a (fun y hy=>hne y (by simp [hy])),keep b (fun y hy=>hne y (by simp [hy]))]
  have e : [Xe.key x].filter (fun p=>decide (p.1≠(Xe.key t).1)) = []:=by
   simp [(Vq x t).2 hn]
  rw [e,List.nil_append];exact List.perm_middle.symm
 rw [hp,keep l hne,List.map_append,List.reverse_append];exact List.Perm.refl _
theorem Xcu (n:Nat) (l:List Xe) (t:Xe) (ht:t.n=n):(l.map Xe.key).reverse.filter (fun p=>decide (p.1≠(Xe.key t).1))=((Xbu n l).map Xe.key).reverse:=by
 unfold Xbu;rw [List.filter_reverse,List.filter_map]
 congr 2
 refine List.filter_congr fun x _=>?_
 have:=Vq x t;rw [ht] at this
 by_cases e:x.n=n
 ·simp [e,this.2 e]
 have h2:(Xe.key x).1≠(Xe.key t).1:=fun h=>e (this.1 h)
 simp [e,h2]
theorem Z0 {t y:Xe} {l:List Xe} (hs:l.Pairwise (fun a b=>a.n<b.n)) (h:y∈Yl t l):y=t\/y∈l:=by
 rcases Yt (t:=t) hs with⟨a,x,b,rfl,hn,hp,hne⟩ | ⟨hne,hp⟩
 ·rw [hp] at h
  simp at h ⊢
  rcases h with h | h | h
  ·exact .inr (.inl h)
  ·exact .inl h
  exact .inr (.inr (.inr h))
 rw [hp] at h;simp at h
 rcases h with h | h
 ·exact .inr h
 exact .inl h
theorem Xg8 {t:Xe} {l:List Xe} (hs:l.Pairwise (fun a b=>a.n<b.n)):(Yl t l).length<=l.length+1:=by
 rcases Yt (t:=t) hs with⟨a,x,b,rfl,hn,hp,hne⟩ | ⟨hne,hp⟩
 ·rw [hp];simp
 rw [hp];simp
def U7 (t:Xe) (l:List Xe):Prop:=(∃ x∈l,x.n=t.n)\/∀ x∈l,x.n<t.n
theorem Xbj {t:Xe} {l:List Xe} (hs:l.Pairwise (fun a b=>a.n<b.n)) (hf:U7 t l):(Yl t l).Pairwise (fun a b=>a.n<b.n):=by
 rcases Yt (t:=t) hs with⟨a,x,b,rfl,hn,hp,hne⟩ | ⟨hne,hp⟩
 ·rw [hp]
  obtain⟨h1,h2,h3⟩:=List.pairwise_append.1 hs;obtain⟨h4,h5⟩:=List.pairwise_cons.1 h2;refine List.pairwise_append.2 ⟨h1,List.pairwise_cons.2 ⟨fun y hy=>by rw [<- hn];exact h4 y hy,h5⟩,fun y hy z hz=>?_⟩
  rcases List.mem_cons.1 hz with rfl | hz
  ·rw [<- hn];exact h3 y hy x (by simp)
  exact h3 y hy z (List.mem_cons_of_mem _ hz)
 rw [hp];refine List.pairwise_append.2 ⟨hs,by simp,fun y hy z hz=>?_⟩;rw [List.mem_singleton.1 hz]
 rcases hf with⟨x,hx,e⟩ | h
 ·exact absurd e (hne x hx)
 exact h y hy
def Yf (t:Xd) (l:List Xd):List Xd:=if l.any (fun x=>x.n==t.n) then l.map (fun x=>if x.n=t.n then t else x) else l ++ [t]
def M6 (n:Nat) (l:List Xd):List Xd:=l.filter (fun x=>x.n != n)
theorem Vs (x t:Xd):(Xd.key x).1=(Xd.key t).1↔x.n=t.n:=by
 simp [Xd.key];omega
theorem Y2 {t:Xd} {l:List Xd} (hs:l.Pairwise (fun a b=>a.n<b.n)):(∃ a x b,l=a++x :: b/\x.n=t.n/\Yf t l=a++t :: b/\(∀ y∈a++b,y.n≠t.n))\/((∀ y∈l,y.n≠t.n)/\Yf t l=l ++ [t]):=by
 by_cases h:l.any (fun x=>x.n==t.n)=true
 ·obtain⟨x,hx,hn⟩:=List.any_eq_true.1 h
  have hn:x.n=t.n:=by simpa using hn
  obtain⟨a,b,rfl⟩:=List.append_of_mem hx;obtain⟨h1,h2,h3⟩:=List.pairwise_append.1 hs;obtain⟨h4,h5⟩:=List.pairwise_cons.1 h2
  have hne:∀ y∈a++b,y.n≠t.n:=fun y hy=>by
   rcases List.mem_append.1 hy with hy | hy
   ·have:=h3 y hy x (by simp);omega
   have:=h4 y hy;omega
  refine .inl ⟨a,x,b,rfl,hn,?_,hne⟩;unfold Yf;rw [if_pos h,List.map_append,List.map_cons,if_pos hn]
  have m:∀ c:List Xd,(∀ y∈c,y.n≠t.n)->c.map (fun x=>if x.n=t.n then t else x)=c:=fun c hc=>by
   conv=>rhs;rw [<- List.map_id c]
   exact List.map_congr_left fun y hy=>by simp [hc y hy]
  rw [m a (fun y hy=>hne y (by simp [hy])),m b (fun y hy=>hne y (by simp [hy]))]
 have hf:l.any (fun x=>x.n==t.n)=false:=by simpa using h
 refine .inr ⟨fun y hy e=>?_,by unfold Yf;rw [if_neg h]⟩;exact h (List.any_eq_true.2 ⟨y,hy,by simpa using e⟩)
theorem Xfd {l:List Xd} (hs:l.Pairwise (fun a b=>a.n<b.n)) (t:Xd):((Xd.key t) :: ((l.map Xd.key).reverse.filter (fun p=>decide (p.1≠(Xd.key t).1)))).Perm ((Yf t l).map Xd.key).reverse:=by
 have keep:∀ c:List Xd,(∀ y∈c,y.n≠t.n)->(c.map Xd.key).reverse.filter (fun p=>decide (p.1≠(Xd.key t).1))=(c.map Xd.key).reverse:=fun c hc=>List.filter_eq_self.2 fun p hp=>by
  obtain⟨y,hy,rfl⟩:=List.mem_map.1 (List.mem_reverse.1 hp)
  simpa using fun e=>hc y hy ((Vs y t).1 e)
 rcases Y2 (t:=t) hs with⟨a,x,b,rfl,hn,hp,hne⟩ | ⟨hne,hp⟩
 ·rw [hp]
  simp only [List.map_append,List.map_cons,List.reverse_append,List.reverse_cons,List.filter_append,List.append_assoc];rw [keep a (fun y hy=>hne y (by simp [hy])),keep b (fun y hy=>hne y (by simp [hy]))]
  have e : [Xd.key x].filter (fun p=>decide (p.1≠(Xd.key t).1)) = []:=by
   simp [(Vs x t).2 hn]
  rw [e,List.nil_append];exact List.perm_middle.symm
 rw [hp,keep l hne,List.map_append,List.reverse_append];exact List.Perm.refl _
theorem Xcp (n:Nat) (l:List Xd) (t:Xd) (ht:t.n=n):(l.map Xd.key).reverse.filter (fun p=>decide (p.1≠(Xd.key t).1))=((M6 n l).map Xd.key).reverse:=by
 unfold M6;rw [List.filter_reverse,List.filter_map]
 congr 2
 refine List.filter_congr fun x _=>?_
 have:=Vs x t;rw [ht] at this
 by_cases e:x.n=n
 ·simp [e,this.2 e]
 have h2:(Xd.key x).1≠(Xd.key t).1:=fun h=>e (this.1 h)
 simp [e,h2]
theorem Jf {t y:Xd} {l:List Xd} (hs:l.Pairwise (fun a b=>a.n<b.n)) (h:y∈Yf t l):y=t\/y∈l:=by
 rcases Y2 (t:=t) hs with⟨a,x,b,rfl,hn,hp,hne⟩ | ⟨hne,hp⟩
 ·rw [hp] at h
  simp at h ⊢
  rcases h with h | h | h
  ·exact .inr (.inl h)
  ·exact .inl h
  exact .inr (.inr (.inr h))
 rw [hp] at h;simp at h
 rcases h with h | h
 ·exact .inr h
 exact .inl h
theorem Xg5 {t:Xd} {l:List Xd} (hs:l.Pairwise (fun a b=>a.n<b.n)):(Yf t l).length<=l.length+1:=by
 rcases Y2 (t:=t) hs with⟨a,x,b,rfl,hn,hp,hne⟩ | ⟨hne,hp⟩
 ·rw [hp];simp
 rw [hp];simp
def U3 (t:Xd) (l:List Xd):Prop:=(∃ x∈l,x.n=t.n)\/∀ x∈l,x.n<t.n
theorem Xbq {t:Xd} {l:List Xd} (hs:l.Pairwise (fun a b=>a.n<b.n)) (hf:U3 t l):(Yf t l).Pairwise (fun a b=>a.n<b.n):=by
 rcases Y2 (t:=t) hs with⟨a,x,b,rfl,hn,hp,hne⟩ | ⟨hne,hp⟩
 ·rw [hp]
  obtain⟨h1,h2,h3⟩:=List.pairwise_append.1 hs;obtain⟨h4,h5⟩:=List.pairwise_cons.1 h2;refine List.pairwise_append.2 ⟨h1,List.pairwise_cons.2 ⟨fun y hy=>by rw [<- hn];exact h4 y hy,h5⟩,fun y hy z hz=>?_⟩
  rcases List.mem_cons.1 hz with rfl | hz
  ·rw [<- hn];exact h3 y hy x (by simp)
  exact h3 y hy z (List.mem_cons_of_mem _ hz)
 rw [hp];refine List.pairwise_append.2 ⟨hs,by simp,fun y hy z hz=>?_⟩;rw [List.mem_singleton.1 hz]
 rcases hf with⟨x,hx,e⟩ | h
 ·exact absurd e (hne x hx)
 exact h y hy
theorem X5.putT {tks:List Xe} {lks:List Xd} (h:X5 tks lks) {t:Xe} (hf:U7 t tks) (hl:tks.length<500) (h1:t.n<Xj) (h2:t.au<Xj):X5 (Yl t tks) lks:=
 ⟨by have:=Xg8 (t:=t) h.incT;omega,h.lenL,Xbj h.incT hf,h.incL,fun x hx=>by rcases Z0 h.incT hx with rfl | hx;exact⟨h1,h2⟩;exact h.limT x hx,h.limL⟩
theorem X5.putL {tks:List Xe} {lks:List Xd} (h:X5 tks lks) {t:Xd} (hf:U3 t lks) (hl:lks.length<500) (h1:t.n<Xj) (h2:t.au<Xj):X5 tks (Yf t lks):=
 ⟨h.lenT,by have:=Xg5 (t:=t) h.incL;omega,h.incT,Xbq h.incL hf,h.limT,fun x hx=>by rcases Jf h.incL hx with rfl | hx;exact⟨h1,h2⟩;exact h.limL x hx⟩
theorem X5.delT {tks:List Xe} {lks:List Xd} (h:X5 tks lks) (n:Nat):X5 (Xbu n tks) lks:=
 ⟨Nat.le_trans (List.length_filter_le _ _) h.lenT,h.lenL,h.incT.filter _,h.incL,fun x hx=>h.limT x (List.mem_filter.1 hx).1,h.limL⟩
theorem X5.delL {tks:List Xe} {lks:List Xd} (h:X5 tks lks) (n:Nat):X5 tks (M6 n lks):=
 ⟨h.lenT,Nat.le_trans (List.length_filter_le _ _) h.lenL,h.incT,h.incL.filter _,h.limT,fun x hx=>h.limL x (List.mem_filter.1 hx).1⟩
theorem Z3 {H:Type} {P:Program} {k:TypeId} {R:Value->Option (DataW H × List MemPlace)} {D:DataW H} {W:World} {b n:Nat} (h:W.ownsMap P k R b n D):W.ownsMap P k R b (Maps.size D) D:=by
 obtain⟨es,clock,hb,F,hs,rfl⟩:=h;exact⟨es,clock,hb,F,by simp [Maps.size,length_sorted],rfl⟩
section
variable {W:World} {mt ml:Nat} {tks:List Xe} {lks:List Xd}
theorem Tryz.storeT (hH:Ui W mt ml tks lks) (ok:X5 tks lks) {t:Xe} (hf:U7 t tks) (hl:tks.length<500) (h1:t.n<Xj) (h2:t.au<Xj) :
  ∃ w',(Instr.mapUpdate 120 (.map (some mt)) (nmV (1,(t.n:Int))) (.agg t.cells)).run prog W=.ok () w'/\(∃ n,n<=1000/\w'.ownsMap prog 114 X8 mt n (mapD ((Yl t tks).map Xe.key).reverse))/\W.grownBy w' (some mt):=by
 obtain⟨n,hn,hm⟩:=hH.mapT;have hx:Zt (1,(t.n:Int)):=Xbn (.inl rfl) h1;have ok2:=ok.putT hf hl h1 h2;obtain⟨w',hrun,hM,hT⟩:=hm.store (Keyed.of_law Xo.law) underlying120 (by unfold maxLen;omega) (key:=nmV (1,(t.n:Int))) (val:=.agg t.cells) (Xo.keyOf hx) (d:=.held (.agg t.cells)) (ps:=[]) rfl;refine⟨w',hrun,⟨Maps.size (mapD ((Yl t tks).map Xe.key).reverse),?_,?_⟩,hT.grown⟩
 ·rw [Xo.Zs _ ok2.ksT.1];have:=ok2.lenT;simp;omega
 have e:=Xo.Xce ok.ksT.1 hx (.agg t.cells)
 have e2:mapD (((1,(t.n:Int)),Value.agg t.cells) :: (tks.map Xe.key).reverse.filter (fun p=>decide (p.1≠(1,(t.n:Int)))))=mapD ((Yl t tks).map Xe.key).reverse:=
  (Xo.Xdt ok2.ksT.1 (Xfn ok.incT t).symm).symm
 rw [e2] at e;have hM':=Z3 hM;rw [show Lit.string (nmB (1,(t.n:Int)))=nmL (1,(t.n:Int)) from rfl,e] at hM';exact hM'
theorem Tryz.Xov (hH:Ui W mt ml tks lks) (ok:X5 tks lks) {t:Xd} (hf:U3 t lks) (hl:lks.length<500) (h1:t.n<Xj) (h2:t.au<Xj) :
  ∃ w',(Instr.mapUpdate 121 (.map (some ml)) (nmV (2,(t.n:Int))) (.agg t.cells)).run prog W=.ok () w'/\(∃ n,n<=1000/\w'.ownsMap prog 114 X8 ml n (mapD ((Yf t lks).map Xd.key).reverse))/\W.grownBy w' (some ml):=by
 obtain⟨n,hn,hm⟩:=hH.mapL;have hx:Zt (2,(t.n:Int)):=Xbn (.inr rfl) h1;have ok2:=ok.putL hf hl h1 h2;obtain⟨w',hrun,hM,hT⟩:=hm.store (Keyed.of_law Xo.law) underlying121 (by unfold maxLen;omega) (key:=nmV (2,(t.n:Int))) (val:=.agg t.cells) (Xo.keyOf hx) (d:=.held (.agg t.cells)) (ps:=[]) rfl;refine⟨w',hrun,⟨Maps.size (mapD ((Yf t lks).map Xd.key).reverse),?_,?_⟩,hT.grown⟩
 ·rw [Xo.Zs _ ok2.ksL.1];have:=ok2.lenL;simp;omega
 have e:=Xo.Xce ok.ksL.1 hx (.agg t.cells)
 have e2:mapD (((2,(t.n:Int)),Value.agg t.cells) :: (lks.map Xd.key).reverse.filter (fun p=>decide (p.1≠(2,(t.n:Int)))))=mapD ((Yf t lks).map Xd.key).reverse:=
  (Xo.Xdt ok2.ksL.1 (Xfd ok.incL t).symm).symm
 rw [e2] at e;have hM':=Z3 hM;rw [show Lit.string (nmB (2,(t.n:Int)))=nmL (2,(t.n:Int)) from rfl,e] at hM';exact hM'
end
end Go.Proofs
namespace Go.Proofs
open Go.RowKit Go.Sort Go.Lib Go.Shelf Go.Maps
def NmA (k:Int) (u:Nat):Prop:=k=1\/k=2\/(k=0/\u=0)
structure Xbr (t:Xe):Prop where
 a0:0<=t.at_
 a1:t.at_<=18446744073709551615
 r0:0<=t.tr
 r1:t.tr<=1000000000/\NmA t.ak t.au
structure Ul (t:Xd):Prop where
 a0:0<=t.at_
 a1:t.at_<=18446744073709551615
 r0:0<=t.tr
 r1:t.tr<=1000000000/\NmA t.ak t.au
 l0:0<=t.last
 l1:t.last<=18446744073709551615
 p1:t.pth.length<=24
 pa:Xlj t.pth
structure Tryz.Yb (W:World) (vb mt ml:Nat) (vx:VX) (tm:Int) (tn ln:Nat) (tks:List Xe) (lks:List Xd):Prop where
 va:Tryz.X0 W vb mt ml vx tm tn ln tks lks
 nt:∀ t∈tks,t.n<=tn
 nl:∀ l∈lks,l.n<=ln
 t0:0<=tm
 t1:tm<=18446744073709551615
 okT:∀ t∈tks,Xbr t
 okL:∀ l∈lks,Ul l
 mne:mt≠ml
 v9:9<=vb
 m9:9<=mt
 l9:9<=ml
section
variable {W W':World} {vb mt ml:Nat} {vx:VX} {tm:Int} {tn ln:Nat} {tks:List Xe} {lks:List Xd}
theorem Tryz.Yb.below (h:Yb W vb mt ml vx tm tn ln tks lks) (hb:Below W.heap.size W W'):Yb W' vb mt ml vx tm tn ln tks lks:={ h with va:=h.va.below hb }
theorem Tryz.Yb.nine (h:Yb W vb mt ml vx tm tn ln tks lks):9<=W.heap.size:=Nat.le_trans h.v9 (Nat.le_of_lt h.va.v.lt)
theorem Tryz.Yb.nes (h:Yb W vb mt ml vx tm tn ln tks lks):mt≠vb/\ml≠vb:=by
 obtain⟨n1,-,m1⟩:=h.va.held.mapT;obtain⟨n2,-,m2⟩:=h.va.held.mapL;exact⟨BoxN.Xl h.va.v m1,BoxN.Xl h.va.v m2⟩
theorem Tryz.Yb.spared (h:Yb W vb mt ml vx tm tn ln tks lks) {bs:List Nat} (hS:Spares bs W W') (h1:vb∉bs) (h2:mt∉bs) (h3:ml∉bs) (h6:∀ b∈bs,6<=b):Yb W' vb mt ml vx tm tn ln tks lks:=by
 obtain⟨n1,k1,m1⟩:=h.va.held.mapT;obtain⟨n2,k2,m2⟩:=h.va.held.mapL;have hb6:=hS.below (B:=6) h.va.six h6;exact { h with va:=⟨hS.box h.va.v h1,⟨⟨n1,k1,hS.map m1 h2⟩,⟨n2,k2,hS.map m2 h3⟩⟩,h.va.ok,h.va.env.below hb6 (Nat.le_refl _),Nat.le_trans h.va.six hS.size⟩ }
end
def Tryz.Xig:Int:=1
def Tryz.Xif:Int:=2
def Tryz.Xl9 (vx:VX) (tm:Int) (mt ml:Nat) (tn ln z:Int):Array Value:=Yp vx tm mt ml (max tn z) ln
def Tryz.Xlf (vx:VX) (tm:Int) (mt ml:Nat) (tn ln z:Int):Array Value:=Yp vx tm mt ml tn (max ln z)
theorem Tryz.Xko (vb mt ml:Nat) (vx:VX) (tm tn ln z:Int) (w:World) (hV:BoxN w vb 126 (Yp vx tm mt ml tn ln)) :
  Calls prog 149 #[.pointer (some ⟨vb,0,none⟩),.agg #[.int .i64 Xig,.int .u64 z]] w fun e w'=>e=.returned (.tuple #[])/\BoxN w' vb 126 (Xl9 vx tm mt ml tn ln z)/\Spares [vb] w w':=by
 have c5:=hV.cell 5 (v:=.int .u64 tn) rfl;have f5:=hV.frozen 5;have lV:=hV.lt;unfold Xig;go_enter func149,ntmps149;go_wp2
 go_region
 go_wp2
 go_end0
 refine⟨rfl,?_,(((Spares.of_below (Below.refl _ w)).set (by simp) _ _).alloc _).drew⟩;exact BoxN.alloc (hV.set 5 (.int .u64 (max tn z))) _
theorem Tryz.Xl8 (vb mt ml:Nat) (vx:VX) (tm tn ln z:Int) (w:World) (hV:BoxN w vb 126 (Yp vx tm mt ml tn ln)) :
  Calls prog 149 #[.pointer (some ⟨vb,0,none⟩),.agg #[.int .i64 Xif,.int .u64 z]] w fun e w'=>e=.returned (.tuple #[])/\BoxN w' vb 126 (Xlf vx tm mt ml tn ln z)/\Spares [vb] w w':=by
 have c5:=hV.cell 6 (v:=.int .u64 ln) rfl;have f5:=hV.frozen 6;have lV:=hV.lt;unfold Xif;go_enter func149,ntmps149;go_wp2
 go_region
 go_wp2
 go_end0
 refine⟨rfl,?_,(((Spares.of_below (Below.refl _ w)).set (by simp) _ _).alloc _).drew⟩;exact BoxN.alloc (hV.set 6 (.int .u64 (max ln z))) _
end Go.Proofs
