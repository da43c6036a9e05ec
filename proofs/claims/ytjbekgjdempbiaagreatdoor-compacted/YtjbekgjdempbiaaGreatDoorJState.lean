import Derived.Test.YtjbekgjdempbiaaGreatDoorJLay
import Derived.Test.YtjbekgjdempbiaaGreatDoorJSets
import Derived.Test.YtjbekgjdempbiaaGreatDoorJKeysIter
import Derived.Test.YtjbekgjdempbiaaGreatDoorJLInfo
set_option maxRecDepth 100000
set_option maxHeartbeats 8000000
namespace Go.Proofs
open Go.RowKit Go.Maps Go.Sort Go.Shelf Go.Lib
theorem Tryz.Xjz:∀ args w,(callFunc 171 args).run prog w=.ok (.enter 171 args) w:=enters_of func171 (by kernel_rfl) rfl
theorem Tryz.Xjj:∀ args w,(callFunc 173 args).run prog w=.ok (.enter 173 args) w:=enters_of func173 (by kernel_rfl) rfl
theorem Tryz.Xjk:∀ args w,(callFunc 202 args).run prog w=.ok (.enter 202 args) w:=enters_of func202 (by kernel_rfl) rfl
theorem Tryz.Xj1:∀ args w,(callFunc 203 args).run prog w=.ok (.enter 203 args) w:=enters_of func203 (by kernel_rfl) rfl
theorem Tryz.Xk3 (gc:Nat) (egc:∀ args w,(callFunc gc args).run prog w=.ok (.enter gc args) w)
  (hc:∀(x y:Int × Int) (w:World),Calls prog gc #[.agg #[.int .i64 x.1,.int .u64 x.2],.agg #[.int .i64 y.1,.int .u64 y.2]] w fun e w'=>e=.returned (.int .i64 (cmpN x y))/\Xz w w')
  (blk cap:Nat) (ss:List (Int × Int)) (w:World) (hH:HoldsK Uh 2 w blk 0 ss.toArray) (hblk:blk<w.heap.size) (hsz:ss.length<4611686018427387904) :
  Calls prog 201 #[.slice (some ⟨blk,0,none⟩) ss.length cap,.func (.func gc) #[] #[]] w fun e w' =>
   e=.returned (.tuple #[])/\∃ n os,w'=sortWorldK Uh 2 w blk 0 n (ss.mergeSort fun x y=>!ltOf cmpN y x).toArray os:=
 AnyQ.slices_SortFunc_total Xn9 2 isAgg114 sizeOf114 Uh (fun _=>rfl) (fun x v hv=>by simp [Uh] at hv;rcases hv with rfl | rfl <;> rfl) cmpN swoN gc #[] blk 0 cap ss.toArray w egc
  (fun m os dk _ x y=>hc x y _) hH hblk (by simpa using hsz) Xc4
theorem Js {W:World} {base base':Nat} {e:TypeId} {size:Nat} {v:Value} {k:Nat} {xs:List Value} (h:W.ownsRow base e size v k xs) (hb:base'<=base):W.ownsRow base' e size v k xs:=by
 refine⟨h.1,?_⟩
 rcases h.2 with hn | ⟨g,cap,cur,hv,hbg,rest⟩
 ·exact .inl hn
 exact .inr ⟨g,cap,cur,hv,Nat.le_trans hb hbg,rest⟩
theorem Hid.intro {p:Prop} (h:p):Hid p:=h
theorem Tryz.Xcq (gc:Nat) (p:Option Addr) (cap:Nat) (w:World) :
  Calls prog 201 #[.slice p 0 cap,.func (.func gc) #[] #[]] w fun e w'=>e=.returned (.tuple #[])/\w'=w:=
 AnyF.slices_SortFunc_none Xn9 p cap (.func (.func gc) #[] #[]) w
theorem Tryz.Xca (gc:Nat) (egc:∀ args w,(callFunc gc args).run prog w=.ok (.enter gc args) w)
  (hc:∀(x y:Int × Int) (w:World),Calls prog gc #[.agg #[.int .i64 x.1,.int .u64 x.2],.agg #[.int .i64 y.1,.int .u64 y.2]] w fun e w'=>e=.returned (.int .i64 (cmpN x y))/\Xz w w')
  (g:Nat) (lb:Array Value) (eg:∀ args w,(callFunc g args).run prog w=.ok (.enter g args) w)
  (S Sp:List (Int × Int)->Prop) (N:Nat) (hN:N<=1000) (w:World) (hseq:SeqStopsK Fence.wide 2 prog g lb (fun x=>#[nmV x]) KeepsWalks S Sp N w) (hlenS:∀ ss,S ss->ss.length<=N) :
  Calls prog 169 #[.func (.func g) #[] lb,.func (.func gc) #[] #[]] w fun e w'=>∃(v:Value) (ss:List (Int × Int)),e=.returned v/\S ss /\
   w'.ownsRow w.heap.size 114 2 v ss.length (Yu (ss.mergeSort fun x y=>!ltOf cmpN y x))/\(v=.slice none 0 0↔ss = [])/\Below w.heap.size w w':=by
 have hC:=callsIn_wide.1 (collect_in 4 (by omega) g lb eg S Sp N hN w hseq);have hS:=Hid.intro (fun blk cap ss W h1 h2 h3=>Xk3 gc egc hc blk cap ss W h1 h2 h3)
 have hS0:=fun W=>Xcq gc none 0 W
 clear hc egc eg hseq;go_enter func169,ntmps169
 go_wp2_with (go_at_call 200;refine hC.mono ?_;rintro e W ⟨v,ss,rfl,hS1,hrow,hnil,hb⟩)
 rcases hrow.2 with⟨rfl,hz⟩ | ⟨gb,cap,cur,rfl,hbase,hgb,r1,r2,r3,r4⟩
 ·have hss:ss = []:=List.eq_nil_of_length_eq_zero hz
  subst hss
  go_wp2_with (go_at_call 201;refine(hS0 _).mono ?_;rintro e w' ⟨rfl,rfl⟩)
  go_ret;exact⟨.slice none 0 0,[],rfl,hS1,by simpa [Yu] using hrow,by simp,hb⟩
 have hgl:gb<W.heap.size:=(Array.getElem?_eq_some_iff.1 hgb).1;have cS:=hS gb cap ss W (Xhm hgb r4) hgl (by have:=hlenS ss hS1;omega);clear hS hS0
 go_wp2_with (go_at_call 201;refine cS.mono ?_;rintro e w' ⟨rfl,nn,os,rfl⟩)
 go_ret;exact⟨_,ss,rfl,hS1,Xa4 (by simp) hbase hgb r1 r2 r3,hnil,hb.grown (Xa3 _) hb.size (fun j hj=>by cases hj;exact hbase)⟩
theorem Tryz.Xm9 (b nn:Nat) (ks:List ((Int × Int) × Value)) (hk:Yz ks) (L:List (Int × Int)) (hL:Z2 L) (hp:(ks.map (·.1)).Perm L) (hlen:ks.length<=1000) (w:World) (hown:w.ownsMap prog 114 X8 b nn (mapD ks)) :
  Calls prog 137 #[.map (some b)] w fun e w'=>∃(p:Option Addr) (cap:Nat),e=.returned (.slice p L.length cap)/\w'.ownsRow w.heap.size 114 2 (.slice p L.length cap) L.length (Yu L)/\Below w.heap.size w w':=by
 have hm:=fun W=>Xll (some b) W
 have hbox:=(BoxN.new w 120 #[.map (some b)]).cell 0 (v:=.map (some b)) rfl;have hseq:=Xbp 2 (by omega) w.heap.size b nn ks hk (w.alloc (.cells #[.map (some b)] 120)) (by simp) hbox (hown.alloc _);have hS:=Xca 171 Xjz Xk6 202 #[.pointer (some ⟨w.heap.size,0,none⟩)] Xjk _ _ ks.length hlen _ hseq (fun ss h=>by rw [h.length_eq];simp);have hB0:Below w.heap.size w (w.alloc (.cells #[.map (some b)] 120)):=(Below.refl _ w).alloc (Nat.le_refl _) _;clear hseq hbox hown;go_enter func137,ntmps137
 go_wp2_with (first
  | (go_at_call 170;refine(hm _).mono ?_;rintro e w' ⟨rfl,rfl⟩)
  | (go_at_call 169;refine hS.mono ?_;rintro e w' ⟨v,ss,rfl,hS1,hrow,hnil,hb⟩))
 go_ret;have hpp:=hS1.trans hp;have hms:=Ug hpp hL;rw [hms,hpp.length_eq] at hrow;clear hnil;have hrow':=Js hrow (base':=w.heap.size) (by simp)
 obtain⟨p,cap,rfl⟩:∃(p:Option Addr) (cap:Nat),v=.slice p L.length cap:=by
  rcases hrow.2 with⟨rfl,h0⟩ | ⟨g,cap,_,rfl,_⟩
  ·exact⟨none,0,by rw [h0]⟩
  exact⟨_,cap,rfl⟩
 exact⟨p,cap,rfl,hrow',hB0.trans (hb.mono (by simp))⟩
theorem Tryz.Xm1 (b nn:Nat) (ks:List ((Int × Int) × Value)) (hk:Yz ks) (L:List (Int × Int)) (hL:Z2 L) (hp:(ks.map (·.1)).Perm L) (hlen:ks.length<=1000) (w:World) (hown:w.ownsMap prog 114 X8 b nn (mapD ks)) :
  Calls prog 140 #[.map (some b)] w fun e w'=>∃(p:Option Addr) (cap:Nat),e=.returned (.slice p L.length cap)/\w'.ownsRow w.heap.size 114 2 (.slice p L.length cap) L.length (Yu L)/\Below w.heap.size w w':=by
 have hm:=fun W=>Xk4 (some b) W
 have hbox:=(BoxN.new w 121 #[.map (some b)]).cell 0 (v:=.map (some b)) rfl;have hseq:=Xb7 2 (by omega) w.heap.size b nn ks hk (w.alloc (.cells #[.map (some b)] 121)) (by simp) hbox (hown.alloc _);have hS:=Xca 173 Xjj Xky 203 #[.pointer (some ⟨w.heap.size,0,none⟩)] Xj1 _ _ ks.length hlen _ hseq (fun ss h=>by rw [h.length_eq];simp);have hB0:Below w.heap.size w (w.alloc (.cells #[.map (some b)] 121)):=(Below.refl _ w).alloc (Nat.le_refl _) _;clear hseq hbox hown;go_enter func140,ntmps140
 go_wp2_with (first
  | (go_at_call 172;refine(hm _).mono ?_;rintro e w' ⟨rfl,rfl⟩)
  | (go_at_call 169;refine hS.mono ?_;rintro e w' ⟨v,ss,rfl,hS1,hrow,hnil,hb⟩))
 go_ret;have hpp:=hS1.trans hp;have hms:=Ug hpp hL;rw [hms,hpp.length_eq] at hrow;clear hnil;have hrow':=Js hrow (base':=w.heap.size) (by simp)
 obtain⟨p,cap,rfl⟩:∃(p:Option Addr) (cap:Nat),v=.slice p L.length cap:=by
  rcases hrow.2 with⟨rfl,h0⟩ | ⟨g,cap,_,rfl,_⟩
  ·exact⟨none,0,by rw [h0]⟩
  exact⟨_,cap,rfl⟩
 exact⟨p,cap,rfl,hrow',hB0.trans (hb.mono (by simp))⟩
end Go.Proofs
namespace Go.Proofs
open Go.RowKit Go.Maps Go.Sort Go.Shelf Go.WideMaps
attribute [local go_sem] Oper.semAt_some
theorem Vp {α:Type} (l:List α) (k:Nat) (h:k<l.length):l.take (k+1)=l.take k ++ [l[k]]:=by rw [List.take_succ_eq_append_getElem h]
theorem Zv {w w':World} (h:Below w.heap.size w w'):w.grownBy w' none:=⟨h.os,h.tape,h.output,h.size,fun k hk _=>h.block k hk⟩
theorem Xfa (L:List (Int × Int)) (k:Nat) (h:k<L.length):(Yu L)[k*2]? = some (.int .i64 L[k].1)/\(Yu L)[k*2+1]? = some (.int .u64 L[k].2):=by
 rw [U1 L (k*2) (by omega),U1 L (k*2+1) (by omega)];rw [show k*2 / 2=k from by omega,show k*2 % 2=0 from by omega,show (k*2+1) / 2=k from by omega,show (k*2+1) % 2=1 from by omega];rw [getElem!_pos L k h];exact⟨rfl,rfl⟩
def Xlq (v:Value):Prop:=∃(ak au at_ tr:Int) (pd:Bool),v=.agg #[.int .i64 ak,.int .u64 au,.int .u64 at_,.int .i64 tr,.bool pd]
def Xk8 (v:Value):Prop:=∃(ak au at_ tr:Int) (pd:Bool) (pth:ByteArray) (la:Int),v=.agg #[.int .i64 ak,.int .u64 au,.int .u64 at_,.int .i64 tr,.bool pd,.string pth,.int .u64 la]
theorem Tryz.Xe0 (n:Nat) (hn:1<=n) (bad:TypeId->Bool) (hb1:bad 114=false) (hb2:bad 120=false) (l Bm b nn:Nat) (LK:List ((Int × Int) × Value)) (hk:Yz LK.reverse) (hL:Z2 (LK.map (·.1))) (hlen:LK.length<=1000) (hsh:∀ p∈LK,Xlq p.2)
  (J Jx:List { p // p∈LK }->World->Prop)
  (hY:∀ pre x W,J pre W->pre.length<LK.length->YieldAt Fence.wide (n-1) prog l #[nmV x.1.1,x.1.2] W fun e W' =>
   (e=.returned (.bool true)/\J (pre ++ [x]) W'/\KeepsT bad W W')\/(e=.returned (.bool false)/\Jx (pre ++ [x]) W'))
  (W:World) (hJ:AbidesFrom W.heap.size J) (hbox:BoxN W Bm 120 #[.map (some b)]) (hown:W.ownsMap prog 114 X8 b nn (mapD LK.reverse)) (h0:J [] W) :
  CallsIn Fence.wide n prog 136 #[.func (.yield l) #[] #[],.pointer (some ⟨Bm,0,none⟩)] W fun e W'=>(∃ v,e=.returned v) /\
   ((∃ ys,ys=LK.attach/\J ys W')\/(∃ pre,pre <+: LK.attach/\Jx pre W')):=by
 have hfn:Fence.wide.fn 137:=trivial;have hcb:=hbox.cell 0 (v:=.map (some b)) rfl;have hkeys:=Xm9 b nn LK.reverse hk (LK.map (·.1)) hL (by rw [List.map_reverse];exact List.reverse_perm _) (by simpa using hlen) W hown;simp only [List.length_map] at hkeys;refine callsIn_of_wp func136 rfl trivial ?_ rfl;simp only [ntmps136,List.size_toArray,List.length_cons,List.length_nil,Nat.reduceAdd,Nat.reduceSub,Array.replicate_succ,Array.replicate_zero,List.push_toArray,List.append_toArray,List.nil_append,List.cons_append]
 gi_wp2_with (gi_at_call 137;refine(callsIn_wide.2 hkeys).mono ?_;rintro e w1 ⟨p,cap,rfl,hrow,hb⟩)
 clear hkeys;have hJ1:J [] w1:=hJ [] W w1 none h0 (Zv hb) (fun r e=>by cases e);have hbox1:BoxN w1 Bm 120 #[.map (some b)]:=hbox.below hb hbox.lt;have hown1:w1.ownsMap prog 114 X8 b nn (mapD LK.reverse):=(KeepsT.below (bad:=bad) hb).map hown
 gi_loopw [10] (fun i wr=>∃ k:Nat,k<=LK.length/\i=.int .i64 k/\J (LK.attach.take k) wr/\KeepsT bad w1 wr) (fun i _=>LK.length-(intOf i).toNat)
 case atStart=>exact⟨0,Nat.zero_le _,rfl,hJ1,KeepsT.refl _ _⟩
 case round =>
  obtain⟨k,hkl,rfl,hJ2,hkt⟩:=hrel
  by_cases hlt:k<LK.length
  ·have hlt':(k:Int)<(LK.length:Int):=by omega
   obtain⟨g,rfl⟩:∃ g,p=some ⟨g,0,none⟩:=by
    rcases hrow.2 with⟨h,h0⟩ | ⟨g,_,_,h,_⟩
    ·omega
    simp at h;exact⟨g,h.1⟩
   have hrow2:=hkt.row hrow hb1;have hbox2:=hkt.box hbox1 hb2;have hown2:=hkt.map hown1;have hcb2:=hbox2.cell 0 (v:=.map (some b)) rfl;have hBl:=hbox2.lt;obtain⟨f0,f1⟩:=Xfa (LK.map (·.1)) k (by simpa using hlt);have c0:=hrow2.cellAt (k*2) (by omega);have c1:=hrow2.cellAt (k*2+1) (by omega);rw [f0] at c0;rw [f1] at c1
   have hlta:k<LK.attach.length:=by simpa using hlt
   have hts:=Vp LK.attach k hlta
   have hxe:LK[k]=LK.attach[k].1:=by simp
   simp only [List.getElem_map] at c0 c1;rw [hxe] at c0 c1;clear hxe;generalize LK.attach[k]=xk at *;have hmem:xk.1∈LK:=xk.2;have hwf:Zt xk.1.1:=hk.1 xk.1 (by simpa using hmem);have hget:=Zh hk (x:=xk.1.1) (b:=xk.1.2) (by simpa using hmem);have hlook:=Xo.Mp hk hwf (hown2.alloc (.cells #[.int .i64 xk.1.1.1,.int .u64 xk.1.1.2] 114)) underlying120 (zeroValue153 _) hget;obtain⟨ak,au,at_,tr,pd,hsv⟩:=hsh xk.1 hmem;have hJ2':J (LK.attach.take k) (wr.alloc (.cells #[.int .i64 xk.1.1.1,.int .u64 xk.1.1.2] 114)):=hJ _ wr _ none hJ2 (World.grownBy_alloc _ _ _) (fun r e=>by cases e);have hJ3:J (LK.attach.take k) ((wr.alloc (.cells #[.int .i64 xk.1.1.1,.int .u64 xk.1.1.2] 114)).alloc (.cells #[.int .i64 ak,.int .u64 au,.int .u64 at_,.int .i64 tr,.bool pd] 153)):=hJ _ _ _ none hJ2' (World.grownBy_alloc _ _ _) (fun r e=>by cases e);obtain⟨fn,tmps,assign,body,hy,hR⟩:=hY (LK.attach.take k) xk _ hJ3 (by rw [List.length_take];omega);unfold nmV at hlook hy;rw [hsv] at hlook hy;have hTS:=Hid.intro hts;clear hrow hrow2 hown hown1 hown2 hget hmem hk hL f0 f1 hY hts hcb hsv hJ2'
   gi_wp2
   refine hR.mono ?_;rintro e W3 (⟨rfl,hJ4,hk3⟩ | ⟨rfl,hJx3⟩)
   ·gi_wp2
    go_roundw
    case rel=>exact⟨k+1,by omega,by go_num,by rw [show LK.attach.take (k+1)=_ from hTS];exact hJ4,((hkt.trans (KeepsT.alloc _ _)).trans (KeepsT.alloc _ _)).trans hk3⟩
    case measure=>simp [intOf];omega
   gi_wp2
   refine bodyPost_ret (results_none rfl _ _ _) rfl ?_;exact⟨⟨_,rfl⟩,.inr ⟨_,by rw [<- show LK.attach.take (k+1)=_ from hTS];exact List.take_prefix _ _,hJx3⟩⟩
  have hge:¬ (k:Int)<(LK.length:Int):=by omega
  gi_wp2
  go_end0
  exact⟨⟨_,rfl⟩,.inl (by rw [List.take_of_length_le (by rw [List.length_attach];omega)] at hJ2;exact hJ2)⟩
theorem Tryz.Jt (n:Nat) (hn:1<=n) (bad:TypeId->Bool) (hb1:bad 114=false) (hb2:bad 120=false) (Bm b nn:Nat) (LK:List ((Int × Int) × Value)) (hk:Yz LK.reverse) (hL:Z2 (LK.map (·.1))) (hlen:LK.length<=1000) (hsh:∀ p∈LK,Xlq p.2)
  (w:World) (hbox:BoxN w Bm 120 #[.map (some b)]) (hown:w.ownsMap prog 114 X8 b nn (mapD LK.reverse)) :
  SeqStopsK Fence.wide n prog 136 #[.pointer (some ⟨Bm,0,none⟩)] (fun x:{ p // p∈LK }=>#[nmV x.1.1,x.1.2]) (KeepsT bad) (fun ys=>ys=LK.attach) (fun pre=>pre <+: LK.attach) LK.length w:=fun l J Jx W hW hJ _ hY h0 =>
 Xe0 n hn bad hb1 hb2 l Bm b nn LK hk hL hlen hsh J Jx hY W hJ (hbox.below hW hbox.lt) ((KeepsT.below (bad:=bad) hW).map hown) h0
theorem Tryz.Xd0 (mb:Option Nat) (w:World) :
  Calls prog 79 #[.map mb] w fun e w'=>e=.returned (.func (.func 136) #[] #[.pointer (some ⟨w.heap.size,0,none⟩)])/\w'=w.alloc (.cells #[.map mb] 120):=by
 go_enter func79,ntmps79;go_wp2;go_ret;exact⟨rfl,rfl⟩
theorem Tryz.Xf0 (n:Nat) (hn:1<=n) (bad:TypeId->Bool) (hb1:bad 114=false) (hb2:bad 121=false) (l Bm b nn:Nat) (LK:List ((Int × Int) × Value)) (hk:Yz LK.reverse) (hL:Z2 (LK.map (·.1))) (hlen:LK.length<=1000) (hsh:∀ p∈LK,Xk8 p.2)
  (J Jx:List { p // p∈LK }->World->Prop)
  (hY:∀ pre x W,J pre W->pre.length<LK.length->YieldAt Fence.wide (n-1) prog l #[nmV x.1.1,x.1.2] W fun e W' =>
   (e=.returned (.bool true)/\J (pre ++ [x]) W'/\KeepsT bad W W')\/(e=.returned (.bool false)/\Jx (pre ++ [x]) W'))
  (W:World) (hJ:AbidesFrom W.heap.size J) (hbox:BoxN W Bm 121 #[.map (some b)]) (hown:W.ownsMap prog 114 X8 b nn (mapD LK.reverse)) (h0:J [] W) :
  CallsIn Fence.wide n prog 139 #[.func (.yield l) #[] #[],.pointer (some ⟨Bm,0,none⟩)] W fun e W'=>(∃ v,e=.returned v) /\
   ((∃ ys,ys=LK.attach/\J ys W')\/(∃ pre,pre <+: LK.attach/\Jx pre W')):=by
 have hfn:Fence.wide.fn 140:=trivial;have hcb:=hbox.cell 0 (v:=.map (some b)) rfl;have hkeys:=Xm1 b nn LK.reverse hk (LK.map (·.1)) hL (by rw [List.map_reverse];exact List.reverse_perm _) (by simpa using hlen) W hown;simp only [List.length_map] at hkeys;refine callsIn_of_wp func139 rfl trivial ?_ rfl;simp only [ntmps139,List.size_toArray,List.length_cons,List.length_nil,Nat.reduceAdd,Nat.reduceSub,Array.replicate_succ,Array.replicate_zero,List.push_toArray,List.append_toArray,List.nil_append,List.cons_append]
 gi_wp2_with (gi_at_call 140;refine(callsIn_wide.2 hkeys).mono ?_;rintro e w1 ⟨p,cap,rfl,hrow,hb⟩)
 clear hkeys;have hJ1:J [] w1:=hJ [] W w1 none h0 (Zv hb) (fun r e=>by cases e);have hbox1:BoxN w1 Bm 121 #[.map (some b)]:=hbox.below hb hbox.lt;have hown1:w1.ownsMap prog 114 X8 b nn (mapD LK.reverse):=(KeepsT.below (bad:=bad) hb).map hown
 gi_loopw [10] (fun i wr=>∃ k:Nat,k<=LK.length/\i=.int .i64 k/\J (LK.attach.take k) wr/\KeepsT bad w1 wr) (fun i _=>LK.length-(intOf i).toNat)
 case atStart=>exact⟨0,Nat.zero_le _,rfl,hJ1,KeepsT.refl _ _⟩
 case round =>
  obtain⟨k,hkl,rfl,hJ2,hkt⟩:=hrel
  by_cases hlt:k<LK.length
  ·have hlt':(k:Int)<(LK.length:Int):=by omega
   obtain⟨g,rfl⟩:∃ g,p=some ⟨g,0,none⟩:=by
    rcases hrow.2 with⟨h,h0⟩ | ⟨g,_,_,h,_⟩
    ·omega
    simp at h;exact⟨g,h.1⟩
   have hrow2:=hkt.row hrow hb1;have hbox2:=hkt.box hbox1 hb2;have hown2:=hkt.map hown1;have hcb2:=hbox2.cell 0 (v:=.map (some b)) rfl;have hBl:=hbox2.lt;obtain⟨f0,f1⟩:=Xfa (LK.map (·.1)) k (by simpa using hlt);have c0:=hrow2.cellAt (k*2) (by omega);have c1:=hrow2.cellAt (k*2+1) (by omega);rw [f0] at c0;rw [f1] at c1
   have hlta:k<LK.attach.length:=by simpa using hlt
   have hts:=Vp LK.attach k hlta
   have hxe:LK[k]=LK.attach[k].1:=by simp
   simp only [List.getElem_map] at c0 c1;rw [hxe] at c0 c1;clear hxe;generalize LK.attach[k]=xk at *;have hmem:xk.1∈LK:=xk.2;have hwf:Zt xk.1.1:=hk.1 xk.1 (by simpa using hmem);have hget:=Zh hk (x:=xk.1.1) (b:=xk.1.2) (by simpa using hmem);have hlook:=Xo.Mp hk hwf (hown2.alloc (.cells #[.int .i64 xk.1.1.1,.int .u64 xk.1.1.2] 114)) underlying121 (zeroValue131 _) hget;obtain⟨ak,au,at_,tr,pd,pth,la,hsv⟩:=hsh xk.1 hmem;have hJ2':J (LK.attach.take k) (wr.alloc (.cells #[.int .i64 xk.1.1.1,.int .u64 xk.1.1.2] 114)):=hJ _ wr _ none hJ2 (World.grownBy_alloc _ _ _) (fun r e=>by cases e);have hJ3:J (LK.attach.take k) ((wr.alloc (.cells #[.int .i64 xk.1.1.1,.int .u64 xk.1.1.2] 114)).alloc (.cells #[.int .i64 ak,.int .u64 au,.int .u64 at_,.int .i64 tr,.bool pd,.string pth,.int .u64 la] 131)):=hJ _ _ _ none hJ2' (World.grownBy_alloc _ _ _) (fun r e=>by cases e);obtain⟨fn,tmps,assign,body,hy,hR⟩:=hY (LK.attach.take k) xk _ hJ3 (by rw [List.length_take];omega);unfold nmV at hlook hy;rw [hsv] at hlook hy;have hTS:=Hid.intro hts;clear hrow hrow2 hown hown1 hown2 hget hmem hk hL f0 f1 hY hts hcb hsv hJ2'
   gi_wp2
   refine hR.mono ?_;rintro e W3 (⟨rfl,hJ4,hk3⟩ | ⟨rfl,hJx3⟩)
   ·gi_wp2
    go_roundw
    case rel=>exact⟨k+1,by omega,by go_num,by rw [show LK.attach.take (k+1)=_ from hTS];exact hJ4,((hkt.trans (KeepsT.alloc _ _)).trans (KeepsT.alloc _ _)).trans hk3⟩
    case measure=>simp [intOf];omega
   gi_wp2
   refine bodyPost_ret (results_none rfl _ _ _) rfl ?_;exact⟨⟨_,rfl⟩,.inr ⟨_,by rw [<- show LK.attach.take (k+1)=_ from hTS];exact List.take_prefix _ _,hJx3⟩⟩
  have hge:¬ (k:Int)<(LK.length:Int):=by omega
  gi_wp2
  go_end0
  exact⟨⟨_,rfl⟩,.inl (by rw [List.take_of_length_le (by rw [List.length_attach];omega)] at hJ2;exact hJ2)⟩
theorem Tryz.Ju (n:Nat) (hn:1<=n) (bad:TypeId->Bool) (hb1:bad 114=false) (hb2:bad 121=false) (Bm b nn:Nat) (LK:List ((Int × Int) × Value)) (hk:Yz LK.reverse) (hL:Z2 (LK.map (·.1))) (hlen:LK.length<=1000) (hsh:∀ p∈LK,Xk8 p.2)
  (w:World) (hbox:BoxN w Bm 121 #[.map (some b)]) (hown:w.ownsMap prog 114 X8 b nn (mapD LK.reverse)) :
  SeqStopsK Fence.wide n prog 139 #[.pointer (some ⟨Bm,0,none⟩)] (fun x:{ p // p∈LK }=>#[nmV x.1.1,x.1.2]) (KeepsT bad) (fun ys=>ys=LK.attach) (fun pre=>pre <+: LK.attach) LK.length w:=fun l J Jx W hW hJ _ hY h0 =>
 Xf0 n hn bad hb1 hb2 l Bm b nn LK hk hL hlen hsh J Jx hY W hJ (hbox.below hW hbox.lt) ((KeepsT.below (bad:=bad) hW).map hown) h0
theorem Tryz.Xd4 (mb:Option Nat) (w:World) :
  Calls prog 81 #[.map mb] w fun e w'=>e=.returned (.func (.func 139) #[] #[.pointer (some ⟨w.heap.size,0,none⟩)])/\w'=w.alloc (.cells #[.map mb] 121):=by
 go_enter func81,ntmps81;go_wp2;go_ret;exact⟨rfl,rfl⟩
end Go.Proofs
namespace Go.Proofs
open Go.RowKit Go.Sort Go.Lib Go.Shelf Go.Maps
structure Xe where
 n:Nat
 ak:Int
 au:Nat
 at_:Int
 tr:Int
 pd:Bool
structure Xd where
 n:Nat
 ak:Int
 au:Nat
 at_:Int
 tr:Int
 pd:Bool
 pth:List UInt8
 last:Int
structure InfoD where
 id:List UInt8
 st:Int
 at_:Int
 tr:Int
 tok:List UInt8
 pth:List UInt8
def InfoD.cells (x:InfoD):Array Value:=Ym x.id x.st x.at_ x.tr x.tok x.pth
def Xe.info (t:Xe):InfoD:=⟨nmStr 1 t.n,if !t.pd then 1 else 2,t.at_,t.tr,nmStr t.ak t.au,[]⟩
def Xd.info (tm:Int) (l:Xd):InfoD:=⟨nmStr 2 l.n,if (!l.pd&&decide (tm<l.at_)) then 1 else 2,l.at_,l.tr,nmStr l.ak l.au,l.pth⟩
def Xe.cells (t:Xe):Array Value:=#[.int .i64 t.ak,.int .u64 t.au,.int .u64 t.at_,.int .i64 t.tr,.bool t.pd]
def Xd.cells (l:Xd):Array Value:=#[.int .i64 l.ak,.int .u64 l.au,.int .u64 l.at_,.int .i64 l.tr,.bool l.pd,.string ⟨l.pth.toArray⟩,.int .u64 l.last]
def Xe.key (t:Xe):(Int × Int) × Value:=((1,(t.n:Int)),.agg t.cells)
def Xd.key (l:Xd):(Int × Int) × Value:=((2,(l.n:Int)),.agg l.cells)
theorem Xe.sh (tks:List Xe):∀ p∈tks.map Xe.key,Xlq p.2:=fun p hp=>by
 obtain⟨t,_,rfl⟩:=List.mem_map.1 hp;exact⟨_,_,_,_,_,rfl⟩
theorem Xd.sh (lks:List Xd):∀ p∈lks.map Xd.key,Xk8 p.2:=fun p hp=>by
 obtain⟨t,_,rfl⟩:=List.mem_map.1 hp;exact⟨_,_,_,_,_,_,_,rfl⟩
structure VX where
 jn:Value
 rv:Value
 tk:Bool
 due:Value
def Tryz.Yp (vx:VX) (tm:Int) (mt ml:Nat) (tn ln:Int):Array Value:=#[vx.jn,vx.rv,.int .u64 tm,.map (some mt),.map (some ml),.int .u64 tn,.int .u64 ln,.bool vx.tk,vx.due]
def Xj:Nat:=18446744073709551616
structure Tryz.Ui (W:World) (mt ml:Nat) (tks:List Xe) (lks:List Xd):Prop where
 mapT:∃ n,n<=1000/\W.ownsMap Tryz.prog 114 X8 mt n (mapD (tks.map Xe.key).reverse)
 mapL:∃ n,n<=1000/\W.ownsMap Tryz.prog 114 X8 ml n (mapD (lks.map Xd.key).reverse)
structure X5 (tks:List Xe) (lks:List Xd):Prop where
 lenT:tks.length<=500
 lenL:lks.length<=500
 incT:tks.Pairwise (fun a b=>a.n<b.n)
 incL:lks.Pairwise (fun a b=>a.n<b.n)
 limT:∀ t∈tks,t.n<Xj/\t.au<Xj
 limL:∀ l∈lks,l.n<Xj/\l.au<Xj
theorem Xbn {k:Int} (hk:k=1\/k=2) {n:Nat} (h:n<Xj):Zt (k,(n:Int)):=by
 unfold Xj at h;refine⟨?_,?_⟩
 ·rcases hk with rfl | rfl
  ·show (Lit.int .i64 1).wf=true;decide
  show (Lit.int .i64 2).wf=true;decide
 show (Lit.int .u64 (n:Int)).wf=true
 simp [Lit.wf,IntKind.min,IntKind.max,IntKind.bits,IntKind.signed];omega
theorem Xie {l:List ((Int × Int) × Value)} (k:Int) (hk:k=1\/k=2) (hs:l.Pairwise (fun a b=>a.1.2<b.1.2)) (h1:∀ p∈l,p.1.1=k/\∃ n:Nat,p.1.2=(n:Int)/\n<Xj) :
  Yz l.reverse/\Z2 (l.map (·.1)):=by
 have hp:(l.map (·.1)).Pairwise (fun x y=>x.2<y.2):=List.pairwise_map.2 hs;refine⟨⟨fun p hp'=>?_,?_⟩,?_⟩
 ·obtain⟨e1,n,e2,hn⟩:=h1 p (by simpa using hp')
  have:=Xbn hk hn;rw [<- e1,<- e2] at this;exact this
 ·rw [List.map_reverse]
  exact List.pairwise_reverse.2 (hp.imp fun {a b} h e=>by rw [e] at h;omega)
 have h2:∀ x∈l.map (·.1),x.1=k:=fun x hx=>by
  obtain⟨p,hp',rfl⟩:=List.mem_map.1 hx;exact(h1 p hp').1
 refine hp.imp_of_mem fun {a b} ha hb h=>?_
 rw [Zn,decide_eq_true_iff];exact Or.inr ⟨by rw [h2 a ha,h2 b hb],h⟩
theorem X5.ksT {tks:List Xe} {lks:List Xd} (h:X5 tks lks):Yz (tks.map Xe.key).reverse/\Z2 ((tks.map Xe.key).map (·.1)):=
 Xie 1 (Or.inl rfl) (List.pairwise_map.2 (h.incT.imp fun {a b} hab=>by simp [Xe.key];omega)) (fun p hp=>by
  obtain⟨t,ht,rfl⟩:=List.mem_map.1 hp
  exact⟨rfl,t.n,rfl,(h.limT t ht).1⟩)
theorem X5.ksL {tks:List Xe} {lks:List Xd} (h:X5 tks lks):Yz (lks.map Xd.key).reverse/\Z2 ((lks.map Xd.key).map (·.1)):=
 Xie 2 (Or.inr rfl) (List.pairwise_map.2 (h.incL.imp fun {a b} hab=>by simp [Xd.key];omega)) (fun p hp=>by
  obtain⟨t,ht,rfl⟩:=List.mem_map.1 hp
  exact⟨rfl,t.n,rfl,(h.limL t ht).1⟩)
theorem Tryz.Ui.keeps {bad:TypeId->Bool} {W W':World} {mt ml:Nat} {tks:List Xe} {lks:List Xd} (h:Ui W mt ml tks lks) (hk:KeepsT bad W W'):Ui W' mt ml tks lks:=by
 obtain⟨⟨n,hn,hm⟩,⟨n',hn',hm'⟩⟩:=h;exact⟨⟨n,hn,hk.map hm⟩,⟨n',hn',hk.map hm'⟩⟩
theorem Tryz.Ui.from {β:Type} (B mt ml:Nat) (tks:List Xe) (lks:List Xd) (hmt:mt<B) (hml:ml<B):OwnFrom B (fun(_:β) W=>Ui W mt ml tks lks):=fun _ W W' row h hg hr=>by
 obtain⟨⟨n,hn,hm⟩,⟨n',hn',hm'⟩⟩:=h;exact⟨⟨n,hn,hm.kept hg (fun e=>by have:=(hr _ e.symm).1;omega)⟩,⟨n',hn',hm'.kept hg (fun e=>by have:=(hr _ e.symm).1;omega)⟩⟩
theorem Tryz.Ui.lt {W:World} {mt ml:Nat} {tks:List Xe} {lks:List Xd} (h:Ui W mt ml tks lks):mt<W.heap.size/\ml<W.heap.size:=by
 obtain⟨⟨n,hn,hm⟩,⟨n',hn',hm'⟩⟩:=h;exact⟨hm.lt,hm'.lt⟩
end Go.Proofs
