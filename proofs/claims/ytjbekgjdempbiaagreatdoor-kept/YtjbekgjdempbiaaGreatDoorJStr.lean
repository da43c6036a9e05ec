import Derived.Test.YtjbekgjdempbiaaGreatDoorProg
import Derived.WalkKit
import Derived.WalkSpells
import Derived.WalkLawsBesides
import Derived.Deep.RegionWith
import Derived.Deep.RegionHeld3
import Derived.Test.YtjbekgjdempbiaaGreatDoorJMapOps
import Derived.RangeFuncNested
import Derived.RangeFuncBound
import Derived.RangeFuncCalls
import Derived.RangeFuncLeaves
import Derived.Shelf.Abstract
import Derived.Shelf.AbstractIn
import Derived.Shelf.RegionOpen
import Derived.Maps.AppendAt
import Derived.WalkSmall
import Derived.OwnWalkIn
import Derived.TacticsInMore
import Derived.LoopNIn
import Derived.LoopIn
import Derived.RangeFuncSeq
import Derived.RangeFuncGives
import Derived.RangeFuncKeeps
import Derived.Sort.MapsRangeIn
import Derived.RegionIn
import Derived.Test.YtjbekgjdempbiaaGreatDoorJLay
import Derived.Lib.ItoaMem
import Derived.Lib.Walk
import Derived.BigCall
import Derived.BigGuard
set_option maxRecDepth 100000
set_option maxHeartbeats 8000000
namespace Go.Proofs
open Go.RowKit Go.Sort
theorem Tryz.Xpa (a:Int) (w:World):Calls prog 336 #[.int .i64 a] w fun e w'=>e=.returned (.bool false)/\w'=w:=by
 go_enter func336,ntmps336;go_wp2;go_ret;exact⟨by simp,rfl⟩
theorem Tryz.Xru (a:Int) (w:World):Calls prog 276 #[.int .u64 a] w fun e w'=>e=.returned (.bool false)/\w'=w:=by
 go_enter func276,ntmps276;go_wp2;go_ret;exact⟨by simp,rfl⟩
theorem Tryz.Xni (a b:Int) (w:World):Calls prog 334 #[.int .i64 a,.int .i64 b] w fun e w'=>e=.returned (.int .i64 (cmpI a b))/\w'=w:=by
 go_enter func334,ntmps334
 go_wp2_with (go_at_call 336;refine(Xpa _ _).mono ?_;rintro e w' ⟨rfl,rfl⟩)
 all_goals go_ret
 ·exact⟨Yw (Xns ‹_›).symm,rfl⟩
 ·exact⟨Yw (Xnf ‹_›).symm,rfl⟩
 exact⟨Yw (Xnk ‹_› ‹_›).symm,rfl⟩
theorem Tryz.Xlf (a b:Int) (w:World):Calls prog 335 #[.int .u64 a,.int .u64 b] w fun e w'=>e=.returned (.int .i64 (cmpI a b))/\w'=w:=by
 go_enter func335,ntmps335
 go_wp2_with (go_at_call 276;refine(Xru _ _).mono ?_;rintro e w' ⟨rfl,rfl⟩)
 all_goals go_ret
 ·exact⟨Yw (Xns ‹_›).symm,rfl⟩
 ·exact⟨Yw (Xnf ‹_›).symm,rfl⟩
 exact⟨Yw (Xnk ‹_› ‹_›).symm,rfl⟩
theorem Tryz.cmpOr (a b:Int) (blk:Nat) (w:World) (h0:w.cell? ⟨blk,0,none⟩=some (.int .i64 a)) (h1:w.cell? ⟨blk,1,none⟩=some (.int .i64 b)) :
  Calls prog 333 #[.slice (some ⟨blk,0,none⟩) 2 2] w fun e w'=>e=.returned (.int .i64 (orI a b))/\w'=w:=by
 by_cases ha:a=0
 ·have ha':(a != 0)=false:=by simp [ha]
  have hfin:Hid (orI a b=b):=show orI a b=b by simp [orI,ha]
  clear ha
  by_cases hb:b=0
  ·have hb':(b != 0)=false:=by simp [hb]
   have hfin2:Hid (b=0):=hb;clear hb;go_enter func333,ntmps333;go_wp2;refine wp_loop_rounds 3 ?_;rw [rounds_succ];go_wp2;rw [rounds_succ];go_wp2;rw [rounds_succ];go_wp2;go_ret;exact⟨Yw (show (0:Int)=orI a b by rw [show orI a b=b from hfin,show b=0 from hfin2]),rfl⟩
  have hb':(b != 0)=true:=by simp [hb]
  clear hb;go_enter func333,ntmps333;go_wp2;refine wp_loop_rounds 3 ?_;rw [rounds_succ];go_wp2;rw [rounds_succ];go_wp2;go_ret;exact⟨Yw (show b=orI a b by rw [show orI a b=b from hfin]),rfl⟩
 have ha':(a != 0)=true:=by simp [ha]
 have hfin:Hid (orI a b=a):=show orI a b=a by simp [orI,ha]
 clear ha;go_enter func333,ntmps333;go_wp2;refine wp_loop_rounds 3 ?_;rw [rounds_succ];go_wp2;go_ret;exact⟨Yw (show a=orI a b by rw [show orI a b=a from hfin]),rfl⟩
theorem Tryz.Xdh (x y:Int × Int) (w:World):Calls prog 332 #[.agg #[.int .i64 x.1,.int .u64 x.2],.agg #[.int .i64 y.1,.int .u64 y.2]] w fun e w'=>e=.returned (.int .i64 (cmpN x y))/\Xp w w':=by
 have hN:Hid (cmpN x y=orI (cmpI x.1 y.1) (cmpI x.2 y.2)):=show _=_ from rfl
 have hk:=fun W=>Xni x.1 y.1 W
 have hu:=fun W=>Xlf x.2 y.2 W
 generalize cmpI x.1 y.1=a at *;generalize cmpI x.2 y.2=b at *;generalize cmpN x y=r at *;go_enter func332,ntmps332
 go_wp2_with fail
 go_region_held3 (fun W=>W.cell? ⟨w.heap.size,0,none⟩=some (.int .i64 x.1)/\W.cell? ⟨w.heap.size,1,none⟩=some (.int .u64 x.2)/\W.cell? ⟨w.heap.size+1,0,none⟩=some (.int .i64 y.1)/\W.cell? ⟨w.heap.size+1,1,none⟩=some (.int .u64 y.2)) (go_keep) (first
  | (go_at_call 334;refine(hk _).mono ?_;rintro e w' ⟨rfl,rfl⟩)
  | (go_at_call 335;refine(hu _).mono ?_;rintro e w' ⟨rfl,rfl⟩)
  | (go_at_call 333;refine(cmpOr a b _ _ ?_ ?_).mono ?_;go_simp;go_simp;rintro e w' ⟨rfl,rfl⟩))
 go_wp2;go_ret;exact⟨Yw (show orI a b=r from (show r=orI a b from hN).symm),((((Xp.refl w).alloc _).alloc _).alloc _).drew⟩
theorem Tryz.Xea (a b:Int) (w:World):Sem.run prog (method 517 114 (.agg #[.int .i64 a,.int .u64 b]) "Compare") w=.ok (332,.agg #[.int .i64 a,.int .u64 b]) w:=by kernel_rfl
theorem Tryz.Xpj (x y:Int × Int) (w:World):Calls prog 171 #[.agg #[.int .i64 x.1,.int .u64 x.2],.agg #[.int .i64 y.1,.int .u64 y.2]] w fun e w'=>e=.returned (.int .i64 (cmpN x y))/\Xp w w':=by
 have hk:=fun W=>Xdh x y W
 have hm:=fun W=>Xea x.1 x.2 W
 generalize cmpN x y=r at *;go_enter func171,ntmps171
 go_wp2_with (go_at_call 332;refine(hk _).mono ?_;rintro e w' ⟨rfl,hg⟩)
 go_ret;exact⟨rfl,(((Xp.refl w).alloc _).alloc _).trans hg⟩
theorem Tryz.Xqq (x y:Int × Int) (w:World):Calls prog 173 #[.agg #[.int .i64 x.1,.int .u64 x.2],.agg #[.int .i64 y.1,.int .u64 y.2]] w fun e w'=>e=.returned (.int .i64 (cmpN x y))/\Xp w w':=by
 have hk:=fun W=>Xdh x y W
 have hm:=fun W=>Xea x.1 x.2 W
 generalize cmpN x y=r at *;go_enter func173,ntmps173
 go_wp2_with (go_at_call 332;refine(hk _).mono ?_;rintro e w' ⟨rfl,hg⟩)
 go_ret;exact⟨rfl,(((Xp.refl w).alloc _).alloc _).trans hg⟩
end Go.Proofs
namespace Go.Proofs
open Go.RowKit Go.Maps Go.Sort Go.Shelf
attribute [local go_sem] Oper.semAt_some
theorem Tryz.Xrq:(prog.info? 114).map (fun i=>(i.zero,i.size,i.bytes))=some (some (.agg #[.int .i64 0,.int .u64 0]),2,16):=by kernel_rfl
theorem Tryz.appendSeq_in (n:Nat) (hn:3<=n) (g:Nat) (lb:Array Value) (eg:∀ args w,(callFunc g args).run prog w=.ok (.enter g args) w)
  (S Sp:List (Int × Int)->Prop) (N:Nat) (hN:N<=1000) (w:World) (hseq:SeqStopsK Fence.wide (n-1) prog g lb (fun x=>#[nmV x]) KeepsWalks S Sp N w) :
  CallsIn Fence.wide n prog 224 #[.slice none 0 0,.func (.func g) #[] lb] w fun e w'=>∃(v:Value) (ss:List (Int × Int)),e=.returned v/\S ss/\w'.ownsRow w.heap.size 114 2 v ss.length (Y5 ss)/\(v=.slice none 0 0↔ss = [])/\Below w.heap.size w w':=by
 have h1:1<=n:=by omega
 obtain⟨i0,hi,hz0,hz1,hz2⟩:=info_parts Xrq;refine callsIn_of_wp_marks func224 rfl trivial ?_ rfl;simp only [ntmps224,List.size_toArray,List.length_cons,List.length_nil,Nat.reduceAdd,Nat.reduceSub,Array.replicate_succ,Array.replicate_zero,List.push_toArray,List.append_toArray,List.nil_append,List.cons_append]
 gi_wp2
 have bS:=Boxed.new w 220 (.slice none 0 0);have hB0:Below w.heap.size w (w.alloc (.cells #[.slice none 0 0] 220)):=(Below.refl _ w).alloc (Nat.le_refl _) _
 obtain⟨W0,hW0⟩:∃ W0,w.alloc (.cells #[.slice none 0 0] 220)=W0:=⟨_,rfl⟩
 have hsz:W0.heap.size=w.heap.size+1:=by rw [<- hW0];simp
 rw [hW0] at bS hB0 ⊢;clear hW0
 refine wpIn_rangeFunc_ownH rfl h1 (gf:=g) (lb:=lb) rfl trivial eg (hseq) walksK_t walksK_b hB0 (fun _=>rfl)
  (fun pre W=>(∃ v,Boxed W w.heap.size 220 v/\W.ownsRow w.heap.size 114 2 v pre.length (Y5 pre)/\(v=.slice none 0 0↔pre = []))/\Below w.heap.size w W)
  (fun _ _ _=>False)
  (OwnFrom.and (Own.from (holdsRow_own _ _ _ _ _ (fun pre:List (Int × Int)=>pre.length) (fun pre=>Y5 pre) (fun pre v=>(v=.slice none 0 0↔pre = []))) _) (ownFrom_below (Nat.le_refl _) (by omega)))
  (fun _ _ _ _ _ hs _ _=>hs)
  ⟨⟨_,bS,World.ownsRow_nil _ _ _ _,by simp⟩,hB0⟩
  (fun x a' W=>∃ Bx,w.heap.size<Bx/\BoxN W Bx 114 #[.int .i64 x.1,.int .u64 x.2]/\a' = { tmps:=#[.slice none 0 0,.func (.func g) #[] lb,.pointer (some ⟨w.heap.size,0,none⟩),undef,.slice none 0 0,.pointer (some ⟨Bx,0,none⟩),.func (.func g) #[] lb,.agg #[.int .i64 x.1,.int .u64 x.2],undef,undef,undef,undef,undef],defers:=[] })
  (fun x a' _ X Y row hs hg hr=>by obtain⟨Bx,h1,h2,h3⟩:=hs;exact⟨Bx,h1,Xy Bx 114 (fun(_:Unit)=>#[.int .i64 x.1,.int .u64 x.2]) () X Y row h2 hg (fun r e=>(hr r e).2),h3⟩)
  ?assign ?body ?done ?stop
 case assign =>
  rintro l pre x W K ⟨⟨v,bS1,hr1,hnil⟩,hB1⟩ hK;unfold nmV
  gi_wp2
  exact hK _ _ ((KeepsOthers.alloc _ _).from _) (KeepsWalks.alloc _ _) ⟨⟨v,bS1.alloc _,hr1.alloc _,hnil⟩,hB1.alloc hB1.size _⟩ ⟨W.heap.size,bS1.lt,BoxN.new W 114 _,rfl⟩
 case body =>
  rintro l pre x a' W hl ⟨r,hr⟩ ⟨⟨v,bS1,hr1,hnil⟩,hB1⟩ ⟨Bx,hBx,bX,rfl⟩ hlt;have cS:=bS1.cell;have cX0:=bX.cell 0 (v:=.int .i64 x.1) rfl;have cX1:=bX.cell 1 (v:=.int .u64 x.2) rfl
  gi_wp2_with (gi_at_builtin;refine wpListIn_append_own _ rfl _ _ 220 rfl w.heap.size 114 i0 _ 2 16 underlying220 hi hz0 hz1 hz2 rfl (by decide) _ _ _ rfl (hr1.alloc _) ⟨W.heap.size,0,none⟩ 1 1 [.int .i64 x.1,.int .u64 x.2] rfl rfl (cell_two_new _ _ _ _) (by simp [Value.oneCell']) (by unfold maxLen;omega) (by omega) (by have:=hB1.size;simp;omega) ?_;intro v' w1 hown' hgrow hn';obtain⟨g',cap',rfl⟩:=ownsRow_succ hown';obtain⟨hv1,hv2,hr2,hk2,hb2⟩:=bS1.appended (by decide) hr1 hB1.size (Nat.le_refl _) hown' hgrow;have hc1:=hv1.cell;have hf1:=hv1.frozen)
  exact⟨hk2.from _,hk2.walks,⟨_,hv2,by rw [Xlv,List.length_append];exact hr2,by simp⟩,hB1.trans hb2⟩
 case done =>
  rintro D zs W hD hS ⟨⟨v,bS1,hr1,hnil⟩,hB1⟩ hK;have cS:=bS1.cell
  gi_wp2
  refine⟨by simp,.inl ⟨_,_,rfl,run_takeDeferred hK,?_⟩⟩;exact⟨_,results_tmp rfl _ _ _,v,zs,rfl,hS,ownsRow_putObj hr1 _ hK rfl,hnil,hB1.trans (belowK_b (w:=w) (Nat.le_refl _) W D _ _ (by omega) hK rfl rfl)⟩
 case stop =>
  rintro D c pre W _ _ h _;exact h.elim
theorem Tryz.collect_in (n:Nat) (hn:4<=n) (g:Nat) (lb:Array Value) (eg:∀ args w,(callFunc g args).run prog w=.ok (.enter g args) w)
  (S Sp:List (Int × Int)->Prop) (N:Nat) (hN:N<=1000) (w:World) (hseq:SeqStopsK Fence.wide (n-1-1) prog g lb (fun x=>#[nmV x]) KeepsWalks S Sp N w) :
  CallsIn Fence.wide n prog 200 #[.func (.func g) #[] lb] w fun e w'=>∃(v:Value) (ss:List (Int × Int)),e=.returned v/\S ss/\w'.ownsRow w.heap.size 114 2 v ss.length (Y5 ss)/\(v=.slice none 0 0↔ss = [])/\Below w.heap.size w w':=by
 have h1:1<=n:=by omega
 have hfn:Fence.wide.fn 224:=trivial
 have hA:=fun W hs=>appendSeq_in (n-1) (by omega) g lb eg S Sp N hN W hs
 refine callsIn_of_wp func200 rfl trivial ?_ rfl;simp only [ntmps200,List.size_toArray,List.length_cons,List.length_nil,Nat.reduceAdd,Nat.reduceSub,Array.replicate_succ,Array.replicate_zero,List.push_toArray,List.append_toArray,List.nil_append,List.cons_append]
 gi_wp2_with (gi_at_call 224;refine(hA _ hseq).mono ?_;rintro e w' ⟨v,ss,rfl,hS,hrow,hnil,hb⟩)
 go_ret;exact⟨v,ss,rfl,hS,hrow,hnil,hb⟩
end Go.Proofs
namespace Go.Proofs
open Go.RowKit Go.Maps Go.Sort Go.Shelf Go.WideMaps
theorem Tryz.Xr4:laidOutB prog=true:=by kernel_rfl
theorem Tryz.Xmz:(114:TypeId)<prog.types.size:=of_decide_eq_true (by kernel_rfl)
theorem Tryz.Xo7:prog.keyTypeAt 2 114=true:=by kernel_rfl
theorem Tryz.Xjj:prog.keyType 114=true:=by kernel_rfl
theorem Tryz.Xot:prog.cellsOf 114=2:=by kernel_rfl
theorem Tryz.Xpc:prog.cellsOf 112=1:=by kernel_rfl
theorem Tryz.Xfk:prog.cellsOf 31=1:=by kernel_rfl
theorem Tryz.Xtx:KeyLaw prog 114:=by
 refine deep_law_laid Xr4 (m:=2) (by omega) Xmz Xo7 ?_;rw [underlying114]
theorem Tryz.Xz:X4 prog 114 where
 law:=Xtx
 key:=Xjj
 cells:=Xot
 many:=Nat.lt_of_le_of_lt (Nat.zero_le _) Xmz
 shape:=⟨_,_,underlying114,by decide,by decide,rfl,rfl,underlying112,underlying31,Xpc,Xfk⟩
theorem Tryz.Y1:Keyed prog 114:=Keyed.of_law Xz.law
theorem Tryz.Xie (F:Fence) (n:Nat) (h10:F.fn 202) (hro:F.round=none) (hn:1<=n) (l Bm b nn:Nat) (ks:List ((Int × Int) × Value)) (hk:Zd ks) (J Jx:List (Int × Int)->World->Prop)
  (hY:∀ pre x W,J pre W->pre.length<ks.length->YieldAt F (n-1) prog l #[nmV x] W fun e W' =>
   (e=.returned (.bool true)/\J (pre ++ [x]) W'/\KeepsWalks W W')\/(e=.returned (.bool false)/\Jx (pre ++ [x]) W'))
  (W:World) (hJ:AbidesFrom W.heap.size J) (hm:W.cell? ⟨Bm,0,none⟩=some (.map (some b))) (hown:W.ownsMap prog 114 Ye b nn (mapD ks)) (h0:J [] W) :
  CallsIn F n prog 202 #[.func (.yield l) #[] #[],.pointer (some ⟨Bm,0,none⟩)] W fun e W'=>(∃ v,e=.returned v)/\((∃ ss:List (Int × Int),ss.Perm (ks.map (·.1))/\J ss W')\/(∃ pre:List (Int × Int),True/\Jx pre W')):=by
 have hsz:=Xz.Z6 ks hk;refine callsIn_of_wp func202 rfl h10 ?_ hro;simp only [ntmps202,List.size_toArray,List.length_cons,List.length_nil,Nat.reduceAdd,Nat.reduceSub,Array.replicate_succ,Array.replicate_zero,List.push_toArray,List.append_toArray,List.nil_append,List.cons_append]
 gi_wp2_with (first
  | (gi_at_range;refine wpListIn_range_own _ rfl _ 120 rfl 114 153 Y1 underlying120 _ b nn _ rfl hown ?_;intro w0 hrg0 hg0 hs0)
  | gi_in)
 go_frame
 gi_loopw [3] (fun _ wr=>∃(left:Lit->Bool) (cnt:Nat) (ss:List (Int × Int)),wr.ranges prog 114 Ye b W.heap.size nn (mapD ks) left cnt/\ss.length+cnt<=ks.length/\U1 ks left ss/\J ss wr)
  (fun _ wr=>wr.rangeLeft b W.heap.size)
 case atStart =>
  exact⟨_,_,[],hrg0,by simp [hsz],U1.start Xz hk,hJ [] W w0 none h0 hg0 (fun r e=>by cases e)⟩
 case round =>
  obtain⟨left,cnt,ss,hrg,hcs,hC,hJs⟩:=hrel
  gi_wp2_with (first
   | (gi_at_next;refine wpListIn_next_ranges _ rfl _ rfl 114 Y1 Ye nmV (fun v:Value=>v) (fun key kl hk=>by obtain⟨x,_,hx,_⟩:=Xz.inv hk;exact⟨x,hx⟩) (fun v _ _=>⟨v,rfl⟩) b W.heap.size nn _ _ _ rfl hrg ?_ ?_)
   | gi_in)
  ·intro hc0 hl0
   gi_wp2
   go_end0
   exact⟨⟨_,rfl⟩,.inl ⟨ss,hC.perm hk hl0,hJs⟩⟩
  intro a1 a2 c kl yd yp w2 cnt2 hkey hlk hv hat hrg2 hlt hg2 hs2 hen
  obtain⟨x,hx⟩:∃ x:Int × Int,x=(a1,a2):=⟨_,rfl⟩
  rw [<- hx] at hkey hen ⊢;clear hx a1 a2;obtain⟨x',hw,ex,rfl⟩:=Xz.inv hkey
  obtain rfl:x=x':=by
   simp only [nmV,Value.agg.injEq] at ex;simp at ex;exact Prod.ext ex.1 ex.2
  have hJ2:J ss w2:=hJ ss wr w2 (some W.heap.size) hJs hg2 (fun r e=>by cases e;exact⟨Nat.le_refl _,hrg.iter_walk⟩);have hJ3:J ss (w2.alloc (.cells #[.int .i64 x.1,.int .u64 x.2] 114)):=hJ ss w2 _ none hJ2 (World.grownBy_alloc _ _ _) (fun r e=>by cases e);obtain⟨fn,tmps,assign,body,hy,hR⟩:=hY ss x _ hJ3 (by omega);have hin:x∈ks.map (·.1):=(Xz.Xcj hk hw).1 (has_true_of_atKey hat);have hC2:=hC.step Xz hw hlk hin;clear hs2;unfold nmV at hy hen
  gi_wp2
  refine hR.mono ?_;rintro e W3 (⟨rfl,hJ4,hk3⟩ | ⟨rfl,hJx3⟩)
  ·gi_wp2
   have hrg3:=(hrg2.of_walks (KeepsWalks.alloc _ _)).of_walks hk3
   go_roundw
   case rel=>exact⟨_,cnt2,ss ++ [x],hrg3,by simp;omega,hC2,hJ4⟩
   case measure=>rw [hrg3.left_eq,hrg.left_eq];exact hlt
  gi_wp2
  refine bodyPost_ret (results_none rfl _ _ _) rfl ?_;exact⟨⟨_,rfl⟩,.inr ⟨ss ++ [x],trivial,hJx3⟩⟩
theorem Tryz.Xes (n:Nat) (hn:1<=n) (Bm b nn:Nat) (ks:List ((Int × Int) × Value)) (hk:Zd ks) (w:World) (hBm:Bm<w.heap.size)
  (hm:w.cell? ⟨Bm,0,none⟩=some (.map (some b))) (hown:w.ownsMap prog 114 Ye b nn (mapD ks)) :
  SeqStopsK Fence.wide n prog 202 #[.pointer (some ⟨Bm,0,none⟩)] (fun x=>#[nmV x]) KeepsWalks (fun ss=>ss.Perm (ks.map (·.1))) (fun _=>True) ks.length w:=fun l J Jx W hW hJ _ hY h0=>by
 have hown':W.ownsMap prog 114 Ye b nn (mapD ks):=by
  have hbl:=hown.lt;obtain⟨es,clock,hb,Ft,hs,hD⟩:=hown;exact⟨es,clock,(hW.block b hbl).trans hb,Ft,hs,hD⟩
 exact Xie Fence.wide n trivial rfl hn l Bm b nn ks hk J Jx hY W hJ ((hW.cell (p:=⟨Bm,0,none⟩) hBm).trans hm) hown' h0
theorem Tryz.Xq8 (mb:Option Nat) (w:World) :
  Calls prog 170 #[.map mb] w fun e w'=>e=.returned (.func (.func 202) #[] #[.pointer (some ⟨w.heap.size,0,none⟩)])/\w'=w.alloc (.cells #[.map mb] 120):=by
 go_enter func170,ntmps170;go_wp2;go_ret;exact⟨rfl,rfl⟩
theorem Tryz.Xim (F:Fence) (n:Nat) (h10:F.fn 203) (hro:F.round=none) (hn:1<=n) (l Bm b nn:Nat) (ks:List ((Int × Int) × Value)) (hk:Zd ks) (J Jx:List (Int × Int)->World->Prop)
  (hY:∀ pre x W,J pre W->pre.length<ks.length->YieldAt F (n-1) prog l #[nmV x] W fun e W' =>
   (e=.returned (.bool true)/\J (pre ++ [x]) W'/\KeepsWalks W W')\/(e=.returned (.bool false)/\Jx (pre ++ [x]) W'))
  (W:World) (hJ:AbidesFrom W.heap.size J) (hm:W.cell? ⟨Bm,0,none⟩=some (.map (some b))) (hown:W.ownsMap prog 114 Ye b nn (mapD ks)) (h0:J [] W) :
  CallsIn F n prog 203 #[.func (.yield l) #[] #[],.pointer (some ⟨Bm,0,none⟩)] W fun e W'=>(∃ v,e=.returned v)/\((∃ ss:List (Int × Int),ss.Perm (ks.map (·.1))/\J ss W')\/(∃ pre:List (Int × Int),True/\Jx pre W')):=by
 have hsz:=Xz.Z6 ks hk;refine callsIn_of_wp func203 rfl h10 ?_ hro;simp only [ntmps203,List.size_toArray,List.length_cons,List.length_nil,Nat.reduceAdd,Nat.reduceSub,Array.replicate_succ,Array.replicate_zero,List.push_toArray,List.append_toArray,List.nil_append,List.cons_append]
 gi_wp2_with (first
  | (gi_at_range;refine wpListIn_range_own _ rfl _ 121 rfl 114 131 Y1 underlying121 _ b nn _ rfl hown ?_;intro w0 hrg0 hg0 hs0)
  | gi_in)
 go_frame
 gi_loopw [3] (fun _ wr=>∃(left:Lit->Bool) (cnt:Nat) (ss:List (Int × Int)),wr.ranges prog 114 Ye b W.heap.size nn (mapD ks) left cnt/\ss.length+cnt<=ks.length/\U1 ks left ss/\J ss wr)
  (fun _ wr=>wr.rangeLeft b W.heap.size)
 case atStart =>
  exact⟨_,_,[],hrg0,by simp [hsz],U1.start Xz hk,hJ [] W w0 none h0 hg0 (fun r e=>by cases e)⟩
 case round =>
  obtain⟨left,cnt,ss,hrg,hcs,hC,hJs⟩:=hrel
  gi_wp2_with (first
   | (gi_at_next;refine wpListIn_next_ranges _ rfl _ rfl 114 Y1 Ye nmV (fun v:Value=>v) (fun key kl hk=>by obtain⟨x,_,hx,_⟩:=Xz.inv hk;exact⟨x,hx⟩) (fun v _ _=>⟨v,rfl⟩) b W.heap.size nn _ _ _ rfl hrg ?_ ?_)
   | gi_in)
  ·intro hc0 hl0
   gi_wp2
   go_end0
   exact⟨⟨_,rfl⟩,.inl ⟨ss,hC.perm hk hl0,hJs⟩⟩
  intro a1 a2 c kl yd yp w2 cnt2 hkey hlk hv hat hrg2 hlt hg2 hs2 hen
  obtain⟨x,hx⟩:∃ x:Int × Int,x=(a1,a2):=⟨_,rfl⟩
  rw [<- hx] at hkey hen ⊢;clear hx a1 a2;obtain⟨x',hw,ex,rfl⟩:=Xz.inv hkey
  obtain rfl:x=x':=by
   simp only [nmV,Value.agg.injEq] at ex;simp at ex;exact Prod.ext ex.1 ex.2
  have hJ2:J ss w2:=hJ ss wr w2 (some W.heap.size) hJs hg2 (fun r e=>by cases e;exact⟨Nat.le_refl _,hrg.iter_walk⟩);have hJ3:J ss (w2.alloc (.cells #[.int .i64 x.1,.int .u64 x.2] 114)):=hJ ss w2 _ none hJ2 (World.grownBy_alloc _ _ _) (fun r e=>by cases e);obtain⟨fn,tmps,assign,body,hy,hR⟩:=hY ss x _ hJ3 (by omega);have hin:x∈ks.map (·.1):=(Xz.Xcj hk hw).1 (has_true_of_atKey hat);have hC2:=hC.step Xz hw hlk hin;clear hs2;unfold nmV at hy hen
  gi_wp2
  refine hR.mono ?_;rintro e W3 (⟨rfl,hJ4,hk3⟩ | ⟨rfl,hJx3⟩)
  ·gi_wp2
   have hrg3:=(hrg2.of_walks (KeepsWalks.alloc _ _)).of_walks hk3
   go_roundw
   case rel=>exact⟨_,cnt2,ss ++ [x],hrg3,by simp;omega,hC2,hJ4⟩
   case measure=>rw [hrg3.left_eq,hrg.left_eq];exact hlt
  gi_wp2
  refine bodyPost_ret (results_none rfl _ _ _) rfl ?_;exact⟨⟨_,rfl⟩,.inr ⟨ss ++ [x],trivial,hJx3⟩⟩
theorem Tryz.Xfi (n:Nat) (hn:1<=n) (Bm b nn:Nat) (ks:List ((Int × Int) × Value)) (hk:Zd ks) (w:World) (hBm:Bm<w.heap.size)
  (hm:w.cell? ⟨Bm,0,none⟩=some (.map (some b))) (hown:w.ownsMap prog 114 Ye b nn (mapD ks)) :
  SeqStopsK Fence.wide n prog 203 #[.pointer (some ⟨Bm,0,none⟩)] (fun x=>#[nmV x]) KeepsWalks (fun ss=>ss.Perm (ks.map (·.1))) (fun _=>True) ks.length w:=fun l J Jx W hW hJ _ hY h0=>by
 have hown':W.ownsMap prog 114 Ye b nn (mapD ks):=by
  have hbl:=hown.lt;obtain⟨es,clock,hb,Ft,hs,hD⟩:=hown;exact⟨es,clock,(hW.block b hbl).trans hb,Ft,hs,hD⟩
 exact Xim Fence.wide n trivial rfl hn l Bm b nn ks hk J Jx hY W hJ ((hW.cell (p:=⟨Bm,0,none⟩) hBm).trans hm) hown' h0
theorem Tryz.Xr2 (mb:Option Nat) (w:World) :
  Calls prog 172 #[.map mb] w fun e w'=>e=.returned (.func (.func 203) #[] #[.pointer (some ⟨w.heap.size,0,none⟩)])/\w'=w.alloc (.cells #[.map mb] 121):=by
 go_enter func172,ntmps172;go_wp2;go_ret;exact⟨rfl,rfl⟩
end Go.Proofs
namespace Go.Proofs
open Go.RowKit Go.Maps Go.Sort Go.Shelf Go.Lib
theorem Tryz.Xoy:∀ args w,(callFunc 171 args).run prog w=.ok (.enter 171 args) w:=enters_of func171 (by kernel_rfl) rfl
theorem Tryz.Xnz:∀ args w,(callFunc 173 args).run prog w=.ok (.enter 173 args) w:=enters_of func173 (by kernel_rfl) rfl
theorem Tryz.Xoj:∀ args w,(callFunc 202 args).run prog w=.ok (.enter 202 args) w:=enters_of func202 (by kernel_rfl) rfl
theorem Tryz.Xoi:∀ args w,(callFunc 203 args).run prog w=.ok (.enter 203 args) w:=enters_of func203 (by kernel_rfl) rfl
theorem Tryz.Xrk (gc:Nat) (egc:∀ args w,(callFunc gc args).run prog w=.ok (.enter gc args) w)
  (hc:∀(x y:Int × Int) (w:World),Calls prog gc #[.agg #[.int .i64 x.1,.int .u64 x.2],.agg #[.int .i64 y.1,.int .u64 y.2]] w fun e w'=>e=.returned (.int .i64 (cmpN x y))/\Xp w w')
  (blk cap:Nat) (ss:List (Int × Int)) (w:World) (hH:HoldsK Ml 2 w blk 0 ss.toArray) (hblk:blk<w.heap.size) (hsz:ss.length<4611686018427387904) :
  Calls prog 201 #[.slice (some ⟨blk,0,none⟩) ss.length cap,.func (.func gc) #[] #[]] w fun e w' =>
   e=.returned (.tuple #[])/\∃ n os,w'=sortWorldK Ml 2 w blk 0 n (ss.mergeSort fun x y=>!ltOf cmpN y x).toArray os:=
 AnyQ.slices_SortFunc_total Xui 2 isAgg114 sizeOf114 Ml (fun _=>rfl) (fun x v hv=>by simp [Ml] at hv;rcases hv with rfl | rfl <;> rfl) cmpN swoN gc #[] blk 0 cap ss.toArray w egc
  (fun m os dk _ x y=>hc x y _) hH hblk (by simpa using hsz) Xgv
theorem Vi {W:World} {base base':Nat} {e:TypeId} {size:Nat} {v:Value} {k:Nat} {xs:List Value} (h:W.ownsRow base e size v k xs) (hb:base'<=base):W.ownsRow base' e size v k xs:=by
 refine⟨h.1,?_⟩
 rcases h.2 with hn | ⟨g,cap,cur,hv,hbg,rest⟩
 ·exact .inl hn
 exact .inr ⟨g,cap,cur,hv,Nat.le_trans hb hbg,rest⟩
theorem Hid.intro {p:Prop} (h:p):Hid p:=h
theorem Tryz.Xf6 (gc:Nat) (p:Option Addr) (cap:Nat) (w:World) :
  Calls prog 201 #[.slice p 0 cap,.func (.func gc) #[] #[]] w fun e w'=>e=.returned (.tuple #[])/\w'=w:=
 AnyF.slices_SortFunc_none Xui p cap (.func (.func gc) #[] #[]) w
theorem Tryz.Xe9 (gc:Nat) (egc:∀ args w,(callFunc gc args).run prog w=.ok (.enter gc args) w)
  (hc:∀(x y:Int × Int) (w:World),Calls prog gc #[.agg #[.int .i64 x.1,.int .u64 x.2],.agg #[.int .i64 y.1,.int .u64 y.2]] w fun e w'=>e=.returned (.int .i64 (cmpN x y))/\Xp w w')
  (g:Nat) (lb:Array Value) (eg:∀ args w,(callFunc g args).run prog w=.ok (.enter g args) w)
  (S Sp:List (Int × Int)->Prop) (N:Nat) (hN:N<=1000) (w:World) (hseq:SeqStopsK Fence.wide 2 prog g lb (fun x=>#[nmV x]) KeepsWalks S Sp N w) (hlenS:∀ ss,S ss->ss.length<=N) :
  Calls prog 169 #[.func (.func g) #[] lb,.func (.func gc) #[] #[]] w fun e w'=>∃(v:Value) (ss:List (Int × Int)),e=.returned v/\S ss /\
   w'.ownsRow w.heap.size 114 2 v ss.length (Y5 (ss.mergeSort fun x y=>!ltOf cmpN y x))/\(v=.slice none 0 0↔ss = [])/\Below w.heap.size w w':=by
 have hC:=callsIn_wide.1 (collect_in 4 (by omega) g lb eg S Sp N hN w hseq);have hS:=Hid.intro (fun blk cap ss W h1 h2 h3=>Xrk gc egc hc blk cap ss W h1 h2 h3)
 have hS0:=fun W=>Xf6 gc none 0 W
 clear hc egc eg hseq;go_enter func169,ntmps169
 go_wp2_with (go_at_call 200;refine hC.mono ?_;rintro e W ⟨v,ss,rfl,hS1,hrow,hnil,hb⟩)
 rcases hrow.2 with⟨rfl,hz⟩ | ⟨gb,cap,cur,rfl,hbase,hgb,r1,r2,r3,r4⟩
 ·have hss:ss = []:=List.eq_nil_of_length_eq_zero hz
  subst hss
  go_wp2_with (go_at_call 201;refine(hS0 _).mono ?_;rintro e w' ⟨rfl,rfl⟩)
  go_ret;exact⟨.slice none 0 0,[],rfl,hS1,by simpa [Y5] using hrow,by simp,hb⟩
 have hgl:gb<W.heap.size:=(Array.getElem?_eq_some_iff.1 hgb).1;have cS:=hS gb cap ss W (Xmd hgb r4) hgl (by have:=hlenS ss hS1;omega);clear hS hS0
 go_wp2_with (go_at_call 201;refine cS.mono ?_;rintro e w' ⟨rfl,nn,os,rfl⟩)
 go_ret;exact⟨_,ss,rfl,hS1,Xdu (by simp) hbase hgb r1 r2 r3,hnil,hb.grown (Xdv _) hb.size (fun j hj=>by cases hj;exact hbase)⟩
theorem Tryz.Xt9 (b nn:Nat) (ks:List ((Int × Int) × Value)) (hk:Zd ks) (L:List (Int × Int)) (hL:J4 L) (hp:(ks.map (·.1)).Perm L) (hlen:ks.length<=1000) (w:World) (hown:w.ownsMap prog 114 Ye b nn (mapD ks)) :
  Calls prog 137 #[.map (some b)] w fun e w'=>∃(p:Option Addr) (cap:Nat),e=.returned (.slice p L.length cap)/\w'.ownsRow w.heap.size 114 2 (.slice p L.length cap) L.length (Y5 L)/\Below w.heap.size w w':=by
 have hm:=fun W=>Xq8 (some b) W
 have hbox:=(BoxN.new w 120 #[.map (some b)]).cell 0 (v:=.map (some b)) rfl;have hseq:=Xes 2 (by omega) w.heap.size b nn ks hk (w.alloc (.cells #[.map (some b)] 120)) (by simp) hbox (hown.alloc _);have hS:=Xe9 171 Xoy Xpj 202 #[.pointer (some ⟨w.heap.size,0,none⟩)] Xoj _ _ ks.length hlen _ hseq (fun ss h=>by rw [h.length_eq];simp);have hB0:Below w.heap.size w (w.alloc (.cells #[.map (some b)] 120)):=(Below.refl _ w).alloc (Nat.le_refl _) _;clear hseq hbox hown;go_enter func137,ntmps137
 go_wp2_with (first
  | (go_at_call 170;refine(hm _).mono ?_;rintro e w' ⟨rfl,rfl⟩)
  | (go_at_call 169;refine hS.mono ?_;rintro e w' ⟨v,ss,rfl,hS1,hrow,hnil,hb⟩))
 go_ret;have hpp:=hS1.trans hp;have hms:=Mj hpp hL;rw [hms,hpp.length_eq] at hrow;clear hnil;have hrow':=Vi hrow (base':=w.heap.size) (by simp)
 obtain⟨p,cap,rfl⟩:∃(p:Option Addr) (cap:Nat),v=.slice p L.length cap:=by
  rcases hrow.2 with⟨rfl,h0⟩ | ⟨g,cap,_,rfl,_⟩
  ·exact⟨none,0,by rw [h0]⟩
  exact⟨_,cap,rfl⟩
 exact⟨p,cap,rfl,hrow',hB0.trans (hb.mono (by simp))⟩
theorem Tryz.Xt8 (b nn:Nat) (ks:List ((Int × Int) × Value)) (hk:Zd ks) (L:List (Int × Int)) (hL:J4 L) (hp:(ks.map (·.1)).Perm L) (hlen:ks.length<=1000) (w:World) (hown:w.ownsMap prog 114 Ye b nn (mapD ks)) :
  Calls prog 140 #[.map (some b)] w fun e w'=>∃(p:Option Addr) (cap:Nat),e=.returned (.slice p L.length cap)/\w'.ownsRow w.heap.size 114 2 (.slice p L.length cap) L.length (Y5 L)/\Below w.heap.size w w':=by
 have hm:=fun W=>Xr2 (some b) W
 have hbox:=(BoxN.new w 121 #[.map (some b)]).cell 0 (v:=.map (some b)) rfl;have hseq:=Xfi 2 (by omega) w.heap.size b nn ks hk (w.alloc (.cells #[.map (some b)] 121)) (by simp) hbox (hown.alloc _);have hS:=Xe9 173 Xnz Xqq 203 #[.pointer (some ⟨w.heap.size,0,none⟩)] Xoi _ _ ks.length hlen _ hseq (fun ss h=>by rw [h.length_eq];simp);have hB0:Below w.heap.size w (w.alloc (.cells #[.map (some b)] 121)):=(Below.refl _ w).alloc (Nat.le_refl _) _;clear hseq hbox hown;go_enter func140,ntmps140
 go_wp2_with (first
  | (go_at_call 172;refine(hm _).mono ?_;rintro e w' ⟨rfl,rfl⟩)
  | (go_at_call 169;refine hS.mono ?_;rintro e w' ⟨v,ss,rfl,hS1,hrow,hnil,hb⟩))
 go_ret;have hpp:=hS1.trans hp;have hms:=Mj hpp hL;rw [hms,hpp.length_eq] at hrow;clear hnil;have hrow':=Vi hrow (base':=w.heap.size) (by simp)
 obtain⟨p,cap,rfl⟩:∃(p:Option Addr) (cap:Nat),v=.slice p L.length cap:=by
  rcases hrow.2 with⟨rfl,h0⟩ | ⟨g,cap,_,rfl,_⟩
  ·exact⟨none,0,by rw [h0]⟩
  exact⟨_,cap,rfl⟩
 exact⟨p,cap,rfl,hrow',hB0.trans (hb.mono (by simp))⟩
end Go.Proofs
namespace Go.Proofs
open Go.RowKit Go.Maps Go.Sort Go.Shelf Go.WideMaps
attribute [local go_sem] Oper.semAt_some
theorem Xa4 {α:Type} (l:List α) (k:Nat) (h:k<l.length):l.take (k+1)=l.take k ++ [l[k]]:=by rw [List.take_succ_eq_append_getElem h]
theorem Jp {w w':World} (h:Below w.heap.size w w'):w.grownBy w' none:=⟨h.os,h.tape,h.output,h.size,fun k hk _=>h.block k hk⟩
theorem Xju (L:List (Int × Int)) (k:Nat) (h:k<L.length):(Y5 L)[k*2]? = some (.int .i64 L[k].1)/\(Y5 L)[k*2+1]? = some (.int .u64 L[k].2):=by
 rw [Xat L (k*2) (by omega),Xat L (k*2+1) (by omega)];rw [show k*2 / 2=k from by omega,show k*2 % 2=0 from by omega,show (k*2+1) / 2=k from by omega,show (k*2+1) % 2=1 from by omega];rw [getElem!_pos L k h];exact⟨rfl,rfl⟩
def Xqe (v:Value):Prop:=∃(ak au at_ tr:Int) (pd:Bool),v=.agg #[.int .i64 ak,.int .u64 au,.int .u64 at_,.int .i64 tr,.bool pd]
def Xqx (v:Value):Prop:=∃(ak au at_ tr:Int) (pd:Bool) (pth:ByteArray) (la:Int),v=.agg #[.int .i64 ak,.int .u64 au,.int .u64 at_,.int .i64 tr,.bool pd,.string pth,.int .u64 la]
theorem Tryz.Xj0 (n:Nat) (hn:1<=n) (bad:TypeId->Bool) (hb1:bad 114=false) (hb2:bad 120=false) (l Bm b nn:Nat) (LK:List ((Int × Int) × Value)) (hk:Zd LK.reverse) (hL:J4 (LK.map (·.1))) (hlen:LK.length<=1000) (hsh:∀ p∈LK,Xqe p.2)
  (J Jx:List { p // p∈LK }->World->Prop)
  (hY:∀ pre x W,J pre W->pre.length<LK.length->YieldAt Fence.wide (n-1) prog l #[nmV x.1.1,x.1.2] W fun e W' =>
   (e=.returned (.bool true)/\J (pre ++ [x]) W'/\KeepsT bad W W')\/(e=.returned (.bool false)/\Jx (pre ++ [x]) W'))
  (W:World) (hJ:AbidesFrom W.heap.size J) (hbox:BoxN W Bm 120 #[.map (some b)]) (hown:W.ownsMap prog 114 Ye b nn (mapD LK.reverse)) (h0:J [] W) :
  CallsIn Fence.wide n prog 136 #[.func (.yield l) #[] #[],.pointer (some ⟨Bm,0,none⟩)] W fun e W'=>(∃ v,e=.returned v) /\
   ((∃ ys,ys=LK.attach/\J ys W')\/(∃ pre,pre <+: LK.attach/\Jx pre W')):=by
 have hfn:Fence.wide.fn 137:=trivial;have hcb:=hbox.cell 0 (v:=.map (some b)) rfl;have hkeys:=Xt9 b nn LK.reverse hk (LK.map (·.1)) hL (by rw [List.map_reverse];exact List.reverse_perm _) (by simpa using hlen) W hown;simp only [List.length_map] at hkeys;refine callsIn_of_wp func136 rfl trivial ?_ rfl;simp only [ntmps136,List.size_toArray,List.length_cons,List.length_nil,Nat.reduceAdd,Nat.reduceSub,Array.replicate_succ,Array.replicate_zero,List.push_toArray,List.append_toArray,List.nil_append,List.cons_append]
 gi_wp2_with (gi_at_call 137;refine(callsIn_wide.2 hkeys).mono ?_;rintro e w1 ⟨p,cap,rfl,hrow,hb⟩)
 clear hkeys;have hJ1:J [] w1:=hJ [] W w1 none h0 (Jp hb) (fun r e=>by cases e);have hbox1:BoxN w1 Bm 120 #[.map (some b)]:=hbox.below hb hbox.lt;have hown1:w1.ownsMap prog 114 Ye b nn (mapD LK.reverse):=(KeepsT.below (bad:=bad) hb).map hown
 gi_loopw [10] (fun i wr=>∃ k:Nat,k<=LK.length/\i=.int .i64 k/\J (LK.attach.take k) wr/\KeepsT bad w1 wr) (fun i _=>LK.length-(intOf i).toNat)
 case atStart=>exact⟨0,Nat.zero_le _,rfl,hJ1,KeepsT.refl _ _⟩
 case round =>
  obtain⟨k,hkl,rfl,hJ2,hkt⟩:=hrel
  by_cases hlt:k<LK.length
  ·have hlt':(k:Int)<(LK.length:Int):=by omega
   obtain⟨g,rfl⟩:∃ g,p=some ⟨g,0,none⟩:=by
    rcases hrow.2 with⟨h,h0⟩ | ⟨g,_,_,h,_⟩
    ·omega
    simp at h;exact⟨g,h.1⟩
   have hrow2:=hkt.row hrow hb1;have hbox2:=hkt.box hbox1 hb2;have hown2:=hkt.map hown1;have hcb2:=hbox2.cell 0 (v:=.map (some b)) rfl;have hBl:=hbox2.lt;obtain⟨f0,f1⟩:=Xju (LK.map (·.1)) k (by simpa using hlt);have c0:=hrow2.cellAt (k*2) (by omega);have c1:=hrow2.cellAt (k*2+1) (by omega);rw [f0] at c0;rw [f1] at c1
   have hlta:k<LK.attach.length:=by simpa using hlt
   have hts:=Xa4 LK.attach k hlta
   have hxe:LK[k]=LK.attach[k].1:=by simp
   simp only [List.getElem_map] at c0 c1;rw [hxe] at c0 c1;clear hxe;generalize LK.attach[k]=xk at *;have hmem:xk.1∈LK:=xk.2;have hwf:Zr xk.1.1:=hk.1 xk.1 (by simpa using hmem);have hget:=Z0 hk (x:=xk.1.1) (b:=xk.1.2) (by simpa using hmem);have hlook:=Xz.Xck hk hwf (hown2.alloc (.cells #[.int .i64 xk.1.1.1,.int .u64 xk.1.1.2] 114)) underlying120 (zeroValue153 _) hget;obtain⟨ak,au,at_,tr,pd,hsv⟩:=hsh xk.1 hmem;have hJ2':J (LK.attach.take k) (wr.alloc (.cells #[.int .i64 xk.1.1.1,.int .u64 xk.1.1.2] 114)):=hJ _ wr _ none hJ2 (World.grownBy_alloc _ _ _) (fun r e=>by cases e);have hJ3:J (LK.attach.take k) ((wr.alloc (.cells #[.int .i64 xk.1.1.1,.int .u64 xk.1.1.2] 114)).alloc (.cells #[.int .i64 ak,.int .u64 au,.int .u64 at_,.int .i64 tr,.bool pd] 153)):=hJ _ _ _ none hJ2' (World.grownBy_alloc _ _ _) (fun r e=>by cases e);obtain⟨fn,tmps,assign,body,hy,hR⟩:=hY (LK.attach.take k) xk _ hJ3 (by rw [List.length_take];omega);unfold nmV at hlook hy;rw [hsv] at hlook hy;have hTS:=Hid.intro hts;clear hrow hrow2 hown hown1 hown2 hget hmem hk hL f0 f1 hY hts hcb hsv hJ2'
   gi_wp2
   refine hR.mono ?_;rintro e W3 (⟨rfl,hJ4,hk3⟩ | ⟨rfl,hJx3⟩)
   ·gi_wp2
    go_roundw
    case rel=>exact⟨k+1,by omega,by go_num,by rw [show LK.attach.take (k+1)=_ from hTS];exact hJ4,((hkt.trans (KeepsT.alloc _ _)).trans (KeepsT.alloc _ _)).trans hk3⟩
    case measure=>simp [intOf];omega
   gi_wp2
   refine bodyPost_ret (results_none rfl _ _ _) rfl ?_;exact⟨⟨_,rfl⟩,.inr ⟨_,by rw [<- show LK.attach.take (k+1)=_ from hTS];exact List.take_prefix _ _,hJx3⟩⟩
  have hge:¬ (k:Int)<(LK.length:Int):=by omega
  gi_wp2
  go_end0
  exact⟨⟨_,rfl⟩,.inl (by rw [List.take_of_length_le (by rw [List.length_attach];omega)] at hJ2;exact hJ2)⟩
theorem Tryz.Vl (n:Nat) (hn:1<=n) (bad:TypeId->Bool) (hb1:bad 114=false) (hb2:bad 120=false) (Bm b nn:Nat) (LK:List ((Int × Int) × Value)) (hk:Zd LK.reverse) (hL:J4 (LK.map (·.1))) (hlen:LK.length<=1000) (hsh:∀ p∈LK,Xqe p.2)
  (w:World) (hbox:BoxN w Bm 120 #[.map (some b)]) (hown:w.ownsMap prog 114 Ye b nn (mapD LK.reverse)) :
  SeqStopsK Fence.wide n prog 136 #[.pointer (some ⟨Bm,0,none⟩)] (fun x:{ p // p∈LK }=>#[nmV x.1.1,x.1.2]) (KeepsT bad) (fun ys=>ys=LK.attach) (fun pre=>pre <+: LK.attach) LK.length w:=fun l J Jx W hW hJ _ hY h0 =>
 Xj0 n hn bad hb1 hb2 l Bm b nn LK hk hL hlen hsh J Jx hY W hJ (hbox.below hW hbox.lt) ((KeepsT.below (bad:=bad) hW).map hown) h0
theorem Tryz.Xhr (mb:Option Nat) (w:World) :
  Calls prog 79 #[.map mb] w fun e w'=>e=.returned (.func (.func 136) #[] #[.pointer (some ⟨w.heap.size,0,none⟩)])/\w'=w.alloc (.cells #[.map mb] 120):=by
 go_enter func79,ntmps79;go_wp2;go_ret;exact⟨rfl,rfl⟩
theorem Tryz.Xki (n:Nat) (hn:1<=n) (bad:TypeId->Bool) (hb1:bad 114=false) (hb2:bad 121=false) (l Bm b nn:Nat) (LK:List ((Int × Int) × Value)) (hk:Zd LK.reverse) (hL:J4 (LK.map (·.1))) (hlen:LK.length<=1000) (hsh:∀ p∈LK,Xqx p.2)
  (J Jx:List { p // p∈LK }->World->Prop)
  (hY:∀ pre x W,J pre W->pre.length<LK.length->YieldAt Fence.wide (n-1) prog l #[nmV x.1.1,x.1.2] W fun e W' =>
   (e=.returned (.bool true)/\J (pre ++ [x]) W'/\KeepsT bad W W')\/(e=.returned (.bool false)/\Jx (pre ++ [x]) W'))
  (W:World) (hJ:AbidesFrom W.heap.size J) (hbox:BoxN W Bm 121 #[.map (some b)]) (hown:W.ownsMap prog 114 Ye b nn (mapD LK.reverse)) (h0:J [] W) :
  CallsIn Fence.wide n prog 139 #[.func (.yield l) #[] #[],.pointer (some ⟨Bm,0,none⟩)] W fun e W'=>(∃ v,e=.returned v) /\
   ((∃ ys,ys=LK.attach/\J ys W')\/(∃ pre,pre <+: LK.attach/\Jx pre W')):=by
 have hfn:Fence.wide.fn 140:=trivial;have hcb:=hbox.cell 0 (v:=.map (some b)) rfl;have hkeys:=Xt8 b nn LK.reverse hk (LK.map (·.1)) hL (by rw [List.map_reverse];exact List.reverse_perm _) (by simpa using hlen) W hown;simp only [List.length_map] at hkeys;refine callsIn_of_wp func139 rfl trivial ?_ rfl;simp only [ntmps139,List.size_toArray,List.length_cons,List.length_nil,Nat.reduceAdd,Nat.reduceSub,Array.replicate_succ,Array.replicate_zero,List.push_toArray,List.append_toArray,List.nil_append,List.cons_append]
 gi_wp2_with (gi_at_call 140;refine(callsIn_wide.2 hkeys).mono ?_;rintro e w1 ⟨p,cap,rfl,hrow,hb⟩)
 clear hkeys;have hJ1:J [] w1:=hJ [] W w1 none h0 (Jp hb) (fun r e=>by cases e);have hbox1:BoxN w1 Bm 121 #[.map (some b)]:=hbox.below hb hbox.lt;have hown1:w1.ownsMap prog 114 Ye b nn (mapD LK.reverse):=(KeepsT.below (bad:=bad) hb).map hown
 gi_loopw [10] (fun i wr=>∃ k:Nat,k<=LK.length/\i=.int .i64 k/\J (LK.attach.take k) wr/\KeepsT bad w1 wr) (fun i _=>LK.length-(intOf i).toNat)
 case atStart=>exact⟨0,Nat.zero_le _,rfl,hJ1,KeepsT.refl _ _⟩
 case round =>
  obtain⟨k,hkl,rfl,hJ2,hkt⟩:=hrel
  by_cases hlt:k<LK.length
  ·have hlt':(k:Int)<(LK.length:Int):=by omega
   obtain⟨g,rfl⟩:∃ g,p=some ⟨g,0,none⟩:=by
    rcases hrow.2 with⟨h,h0⟩ | ⟨g,_,_,h,_⟩
    ·omega
    simp at h;exact⟨g,h.1⟩
   have hrow2:=hkt.row hrow hb1;have hbox2:=hkt.box hbox1 hb2;have hown2:=hkt.map hown1;have hcb2:=hbox2.cell 0 (v:=.map (some b)) rfl;have hBl:=hbox2.lt;obtain⟨f0,f1⟩:=Xju (LK.map (·.1)) k (by simpa using hlt);have c0:=hrow2.cellAt (k*2) (by omega);have c1:=hrow2.cellAt (k*2+1) (by omega);rw [f0] at c0;rw [f1] at c1
   have hlta:k<LK.attach.length:=by simpa using hlt
   have hts:=Xa4 LK.attach k hlta
   have hxe:LK[k]=LK.attach[k].1:=by simp
   simp only [List.getElem_map] at c0 c1;rw [hxe] at c0 c1;clear hxe;generalize LK.attach[k]=xk at *;have hmem:xk.1∈LK:=xk.2;have hwf:Zr xk.1.1:=hk.1 xk.1 (by simpa using hmem);have hget:=Z0 hk (x:=xk.1.1) (b:=xk.1.2) (by simpa using hmem);have hlook:=Xz.Xck hk hwf (hown2.alloc (.cells #[.int .i64 xk.1.1.1,.int .u64 xk.1.1.2] 114)) underlying121 (zeroValue131 _) hget;obtain⟨ak,au,at_,tr,pd,pth,la,hsv⟩:=hsh xk.1 hmem;have hJ2':J (LK.attach.take k) (wr.alloc (.cells #[.int .i64 xk.1.1.1,.int .u64 xk.1.1.2] 114)):=hJ _ wr _ none hJ2 (World.grownBy_alloc _ _ _) (fun r e=>by cases e);have hJ3:J (LK.attach.take k) ((wr.alloc (.cells #[.int .i64 xk.1.1.1,.int .u64 xk.1.1.2] 114)).alloc (.cells #[.int .i64 ak,.int .u64 au,.int .u64 at_,.int .i64 tr,.bool pd,.string pth,.int .u64 la] 131)):=hJ _ _ _ none hJ2' (World.grownBy_alloc _ _ _) (fun r e=>by cases e);obtain⟨fn,tmps,assign,body,hy,hR⟩:=hY (LK.attach.take k) xk _ hJ3 (by rw [List.length_take];omega);unfold nmV at hlook hy;rw [hsv] at hlook hy;have hTS:=Hid.intro hts;clear hrow hrow2 hown hown1 hown2 hget hmem hk hL f0 f1 hY hts hcb hsv hJ2'
   gi_wp2
   refine hR.mono ?_;rintro e W3 (⟨rfl,hJ4,hk3⟩ | ⟨rfl,hJx3⟩)
   ·gi_wp2
    go_roundw
    case rel=>exact⟨k+1,by omega,by go_num,by rw [show LK.attach.take (k+1)=_ from hTS];exact hJ4,((hkt.trans (KeepsT.alloc _ _)).trans (KeepsT.alloc _ _)).trans hk3⟩
    case measure=>simp [intOf];omega
   gi_wp2
   refine bodyPost_ret (results_none rfl _ _ _) rfl ?_;exact⟨⟨_,rfl⟩,.inr ⟨_,by rw [<- show LK.attach.take (k+1)=_ from hTS];exact List.take_prefix _ _,hJx3⟩⟩
  have hge:¬ (k:Int)<(LK.length:Int):=by omega
  gi_wp2
  go_end0
  exact⟨⟨_,rfl⟩,.inl (by rw [List.take_of_length_le (by rw [List.length_attach];omega)] at hJ2;exact hJ2)⟩
theorem Tryz.J3 (n:Nat) (hn:1<=n) (bad:TypeId->Bool) (hb1:bad 114=false) (hb2:bad 121=false) (Bm b nn:Nat) (LK:List ((Int × Int) × Value)) (hk:Zd LK.reverse) (hL:J4 (LK.map (·.1))) (hlen:LK.length<=1000) (hsh:∀ p∈LK,Xqx p.2)
  (w:World) (hbox:BoxN w Bm 121 #[.map (some b)]) (hown:w.ownsMap prog 114 Ye b nn (mapD LK.reverse)) :
  SeqStopsK Fence.wide n prog 139 #[.pointer (some ⟨Bm,0,none⟩)] (fun x:{ p // p∈LK }=>#[nmV x.1.1,x.1.2]) (KeepsT bad) (fun ys=>ys=LK.attach) (fun pre=>pre <+: LK.attach) LK.length w:=fun l J Jx W hW hJ _ hY h0 =>
 Xki n hn bad hb1 hb2 l Bm b nn LK hk hL hlen hsh J Jx hY W hJ (hbox.below hW hbox.lt) ((KeepsT.below (bad:=bad) hW).map hown) h0
theorem Tryz.Xd6 (mb:Option Nat) (w:World) :
  Calls prog 81 #[.map mb] w fun e w'=>e=.returned (.func (.func 139) #[] #[.pointer (some ⟨w.heap.size,0,none⟩)])/\w'=w.alloc (.cells #[.map mb] 121):=by
 go_enter func81,ntmps81;go_wp2;go_ret;exact⟨rfl,rfl⟩
end Go.Proofs
namespace Go.Proofs
open Go.RowKit Go.Sort Go.Lib Go.Shelf
structure Tryz.Env (w:World):Prop where
 tab:Lib.TabIs Tryz.prog w "internal/strconv.uint64pow10" .u64 Lib.pow10Tab
 syn:∃ tp p,w.var? Tryz.prog "strconv.ErrSyntax" = some #[.iface tp p]
 rng:∃ tp p,w.var? Tryz.prog "strconv.ErrRange" = some #[.iface tp p]
theorem Tryz.gTab:prog.globalNamed "internal/strconv.uint64pow10" = some 3:=by kernel_rfl
theorem Tryz.gSyn:prog.globalNamed "strconv.ErrSyntax" = some 1:=by kernel_rfl
theorem Tryz.gRng:prog.globalNamed "strconv.ErrRange" = some 2:=by kernel_rfl
theorem Tryz.Env.below {w w':World} {B:Nat} (h:Env w) (hb:Below B w w') (hB:6<=B):Env w':=by
 obtain⟨h1,⟨t2,p2,h2⟩,⟨t3,p3,h3⟩⟩:=h;exact⟨var?_below hb gTab (by omega) h1,⟨t2,p2,var?_below hb gSyn (by omega) h2⟩,⟨t3,p3,var?_below hb gRng (by omega) h3⟩⟩
theorem Xp.below {w w':World} (h:Xp w w'):Below w.heap.size w w':=by
 obtain⟨q,os,rfl⟩:=h;refine⟨rfl,rfl,rfl,by simp [grow,World.drewN],fun k hk=>?_⟩
 show (w.heap++os)[k]? = w.heap[k]?
 rw [Array.getElem?_append_left hk]
theorem Xfz (w:World) (T:TypeId) (nd:Nat) (hs:nd<=24):Holds (fun(b:UInt8)=>Value.int .u8 (b.toNat:Int)) (w.alloc (.cells Lib.zeros24 T)) w.heap.size 0 (Array.replicate nd (0:UInt8)):=fun j hj=>by
 have hj':j<nd:=by simpa using hj
 refine⟨?_,World.frozen?_alloc_new _ _ _ _⟩;rw [World.cell?_alloc_new,Lib.zeros24_at _ (by omega),getElem!_pos _ j hj];simp
theorem Tryz.Xrv (u:Nat) (hu:u<100) (w:World) :
  Calls prog 164 #[.int .u64 u,.int .i64 10] w fun e w'=>e=.returned (.string ⟨(Lib.decDigits u).toArray⟩)/\w'=w:=by
 have hs:=fun W=>Any.internal_strconv_small Xsz u hu W
 change ∀ W,Calls prog 195 _ _ _ at hs
 have hlt:(u:Int)<100:=by omega
 go_enter func164,ntmps164
 go_wp2_with (go_at_call 195;refine(hs _).mono ?_;rintro e w' ⟨rfl,rfl⟩)
 go_ret;exact⟨rfl,rfl⟩
theorem Tryz.Xqu (u:Nat) (hu:100<=u) (hu64:u<18446744073709551616) (w:World) (hE:Env w) :
  Calls prog 164 #[.int .u64 u,.int .i64 10] w fun e w'=>e=.returned (.string ⟨(Lib.decDigits u).toArray⟩)/\Below w.heap.size w w':=by
 have hge:¬ (u:Int)<100:=by omega
 have hnd20:Lib.nDigits u<=20:=by have:=Lib.numDigits_eq u (by omega) hu64;split at this <;> omega
 have hal:prog.arrayLen 291=24:=by simp [Program.arrayLen,underlying291]
 have hsl:∀ W,(Instr.sliceAt 291 (.pointer (some ⟨w.heap.size,0,none⟩)) none (some (.int .i64 (Lib.nDigits u:Int))) none).run prog W=.ok (.slice (some ⟨w.heap.size,0,none⟩) (Lib.nDigits u) 24) W:=fun W=>by
  rw [run_sliceAt_array_h W 291 ⟨w.heap.size,0,none⟩ (by simp [Program.arrayLen,Program.elem,underlying291]) .i64 (Lib.nDigits u:Int) (by omega) (by rw [hal];omega)];go_simp
 have hH0:=Xfz w 291 (Lib.nDigits u) (by omega);have hnum:=Any.internal_strconv_numDigits Xrs u (by omega) hu64 _ (Lib.tabIs_alloc hE.tab (.cells Lib.zeros24 291))
 change Calls prog 196 _ _ _ at hnum
 have hfmt:=Any.internal_strconv_formatBase10 Xt2 w.heap.size 0 24 u (Array.replicate (Lib.nDigits u) 0) (w.alloc (.cells Lib.zeros24 291)) hH0 (by rw [Array.size_replicate];exact Lib.lt_pow_nDigits u) hu64 (by rw [Array.size_replicate];omega)
 change Calls prog 197 _ _ _ at hfmt
 rw [Array.size_replicate] at hfmt;have HH0:=Lib.hid hH0;clear hH0 hal;go_enter func164,ntmps164
 go_wp2_with (first
  | (go_at_call 196;refine hnum.mono ?_;rintro e w' ⟨rfl,rfl⟩))
 refine hfmt.mono ?_;rintro e w' ⟨rfl,k,v',dk,rfl,hF⟩
 have hcv:(convert 267 9 (.slice (some ⟨w.heap.size,0,none⟩) (Lib.nDigits u) 24)).run prog ((putRow (fun(b:UInt8)=>Value.int .u8 (b.toNat:Int)) (w.alloc (.cells Lib.zeros24 291)) w.heap.size 0 dk).drewN k)=.ok (.string ⟨(Lib.decDigits u).toArray⟩) ((putRow (fun(b:UInt8)=>Value.int .u8 (b.toNat:Int)) (w.alloc (.cells Lib.zeros24 291)) w.heap.size 0 dk).drewN k):=by
  have h:=run_convert_bytes_back (P:=prog) ((putRow (fun(b:UInt8)=>Value.int .u8 (b.toNat:Int)) (w.alloc (.cells Lib.zeros24 291)) w.heap.size 0 dk).drewN k) 267 9 5 ⟨w.heap.size,0,none⟩ 24 (Lib.decDigits u) underlying267 underlying5 underlying9 (fun j hj=>by
   rw [Lib.row_is_numeral hF j hj,Lib.add_plain,World.cell?_drewN]
   exact cell?_putRow (fun(b:UInt8)=>Value.int .u8 (b.toNat:Int)) _ w.heap.size 0 _ dk HH0.out (by rw [hF.size,Array.size_replicate]) j (by rw [hF.size];rw [Lib.decDigits_length] at hj;exact hj))
  rw [Lib.decDigits_length] at h;exact h
 have hfin:Hid (Below w.heap.size w ((putRow (fun(b:UInt8)=>Value.int .u8 (b.toNat:Int)) (w.alloc (.cells Lib.zeros24 291)) w.heap.size 0 dk).drewN k)):=by
  rw [alloc_eq_grow];obtain⟨os',_,e⟩:=putRow_grow_new (fun(b:UInt8)=>Value.int .u8 (b.toNat:Int)) w #[.cells Lib.zeros24 291] w.heap.size 0 dk (Nat.le_refl _);rw [e];exact Xp.below ⟨k,os',rfl⟩
 go_wp2;go_ret;exact⟨rfl,hfin⟩
def nmStr (k:Int) (u:Nat):List UInt8:=if k=1 then 116 :: Lib.decDigits u else if k=2 then 108 :: Lib.decDigits u else []
theorem Tryz.fmt (u:Nat) (hu64:u<18446744073709551616) (w:World) (hE:Env w) :
  Calls prog 164 #[.int .u64 u,.int .i64 10] w fun e w'=>e=.returned (.string ⟨(Lib.decDigits u).toArray⟩)/\Below w.heap.size w w':=by
 by_cases h:u<100
 ·exact(Xrv u h w).mono fun _ _ ⟨h1,h2⟩=>⟨h1,by rw [h2];exact Below.refl _ _⟩
 exact Xqu u (by omega) hu64 w hE
theorem Tryz.Xcc (u:Nat) (hu64:u<18446744073709551616) (w:World) (hE:Env w) :
  Calls prog 122 #[.int .u64 u,.int .i64 10] w fun e w'=>e=.returned (.string ⟨(Lib.decDigits u).toArray⟩)/\Below w.heap.size w w':=by
 have hs:=fmt u hu64 w hE;generalize Lib.decDigits u=ds at *;go_enter func122,ntmps122
 go_wp2_with (go_at_call 164;refine hs.mono ?_;rintro e w' ⟨rfl,hb⟩)
 go_ret;exact⟨rfl,hb⟩
theorem Mb {a b:ByteArray} (h:a=b):Ending.returned (.string a)=.returned (.string b):=by rw [h]
theorem Uw (c:UInt8) (ds:List UInt8):(⟨#[c]⟩:ByteArray) ++ ⟨ds.toArray⟩=⟨(c :: ds).toArray⟩:=by
 apply ByteArray.ext;simp
theorem Ya (u:Nat) (hu64:u<18446744073709551616):(Lib.decDigits u).length<=20:=by
 rw [Lib.decDigits_length]
 by_cases h:u=0
 ·subst h;rw [<- Lib.decDigits_length,Lib.decDigits];simp
 have:=Lib.numDigits_eq u (by omega) hu64;split at this <;> omega
theorem Tryz.Zf (k:Int) (u:Nat) (hu64:u<18446744073709551616) (w:World) (hE:Env w) (h6:6<=w.heap.size) :
  Calls prog 68 #[.agg #[.int .i64 k,.int .u64 u]] w fun e w'=>e=.returned (.string ⟨(nmStr k u).toArray⟩)/\Below w.heap.size w w':=by
 have hB0:Below w.heap.size w (w.alloc (.cells #[.int .i64 k,.int .u64 u] 114)):=(Below.refl _ w).alloc (Nat.le_refl _) _;have hs:=Xcc u hu64 (w.alloc (.cells #[.int .i64 k,.int .u64 u] 114)) (hE.below hB0 h6);have hl:=Ya u hu64
 by_cases h1:k=1
 ·have hfin:Hid (nmStr k u=116 :: Lib.decDigits u):=by show _=_;simp [nmStr,h1]
  have h1':(k==1)=true:=by simp [h1]
  generalize Lib.decDigits u=ds at *;generalize nmStr k u=r at *;clear h1;go_enter func68,ntmps68
  go_wp2_with (go_at_call 122;refine hs.mono ?_;rintro e w' ⟨rfl,hb⟩)
  go_ret;exact⟨Mb (b:=⟨r.toArray⟩) ((Uw 116 ds).trans (by rw [show r=116 :: ds from hfin])),hB0.trans (hb.mono (by simp))⟩
 have h1':(k==1)=false:=by simp [h1]
 by_cases h2:k=2
 ·have hfin:Hid (nmStr k u=108 :: Lib.decDigits u):=by show _=_;simp [nmStr,h2]
  have h2':(k==2)=true:=by simp [h2]
  generalize Lib.decDigits u=ds at *;generalize nmStr k u=r at *;clear h1 h2;go_enter func68,ntmps68
  go_wp2_with (go_at_call 122;refine hs.mono ?_;rintro e w' ⟨rfl,hb⟩)
  go_ret;exact⟨Mb (b:=⟨r.toArray⟩) ((Uw 108 ds).trans (by rw [show r=108 :: ds from hfin])),hB0.trans (hb.mono (by simp))⟩
 have hfin:Hid (nmStr k u = []):=by show _=_;simp [nmStr,h1,h2]
 have h2':(k==2)=false:=by simp [h2]
 generalize nmStr k u=r at *;clear h1 h2 hs hl;go_enter func68,ntmps68;go_wp2;go_ret;exact⟨Mb (a:=⟨#[]⟩) (b:=⟨r.toArray⟩) (by rw [show r = [] from hfin]),hB0⟩
end Go.Proofs
