import Derived.Test.YtjbekgjdempbiaaGreatDoorJMapN
import Derived.Test.YtjbekgjdempbiaaGreatDoorProg
import Derived.RangeFuncSeq
import Derived.RangeFuncGives
import Derived.RangeFuncKeeps
import Derived.Sort.MapsRangeIn
import Derived.Shelf.Abstract
import Derived.Shelf.AbstractIn
import Derived.WalkKit
import Derived.OwnWalkIn
import Derived.TacticsInMore
import Derived.RegionIn
import Derived.LoopNIn
import Derived.LoopIn
set_option maxRecDepth 100000
set_option maxHeartbeats 8000000
namespace Go.Proofs
open Go.RowKit Go.Maps Go.Sort Go.Shelf Go.WideMaps
theorem Tryz.Xl4:laidOutB prog=true:=by kernel_rfl
theorem Tryz.Xir:(114:TypeId)<prog.types.size:=of_decide_eq_true (by kernel_rfl)
theorem Tryz.Xj4:prog.keyTypeAt 2 114=true:=by kernel_rfl
theorem Tryz.Xfg:prog.keyType 114=true:=by kernel_rfl
theorem Tryz.Xjl:prog.cellsOf 114=2:=by kernel_rfl
theorem Tryz.Xj6:prog.cellsOf 112=1:=by kernel_rfl
theorem Tryz.Xf4:prog.cellsOf 31=1:=by kernel_rfl
theorem Tryz.Xm7:KeyLaw prog 114:=by
 refine deep_law_laid Xl4 (m:=2) (by omega) Xir Xj4 ?_;rw [underlying114]
theorem Tryz.Xo:Xp prog 114 where
 law:=Xm7
 key:=Xfg
 cells:=Xjl
 many:=Nat.lt_of_le_of_lt (Nat.zero_le _) Xir
 shape:=⟨_,_,underlying114,by decide,by decide,rfl,rfl,underlying112,underlying31,Xj6,Xf4⟩
theorem Tryz.Yq:Keyed prog 114:=Keyed.of_law Xo.law
theorem Tryz.Xd8 (F:Fence) (n:Nat) (h10:F.fn 202) (hro:F.round=none) (hn:1<=n) (l Bm b nn:Nat) (ks:List ((Int × Int) × Value)) (hk:Yz ks) (J Jx:List (Int × Int)->World->Prop)
  (hY:∀ pre x W,J pre W->pre.length<ks.length->YieldAt F (n-1) prog l #[nmV x] W fun e W' =>
   (e=.returned (.bool true)/\J (pre ++ [x]) W'/\KeepsWalks W W')\/(e=.returned (.bool false)/\Jx (pre ++ [x]) W'))
  (W:World) (hJ:AbidesFrom W.heap.size J) (hm:W.cell? ⟨Bm,0,none⟩=some (.map (some b))) (hown:W.ownsMap prog 114 X8 b nn (mapD ks)) (h0:J [] W) :
  CallsIn F n prog 202 #[.func (.yield l) #[] #[],.pointer (some ⟨Bm,0,none⟩)] W fun e W'=>(∃ v,e=.returned v)/\((∃ ss:List (Int × Int),ss.Perm (ks.map (·.1))/\J ss W')\/(∃ pre:List (Int × Int),True/\Jx pre W')):=by
 have hsz:=Xo.Zs ks hk;refine callsIn_of_wp func202 rfl h10 ?_ hro;simp only [ntmps202,List.size_toArray,List.length_cons,List.length_nil,Nat.reduceAdd,Nat.reduceSub,Array.replicate_succ,Array.replicate_zero,List.push_toArray,List.append_toArray,List.nil_append,List.cons_append]
 gi_wp2_with (first
  | (gi_at_range;refine wpListIn_range_own _ rfl _ 120 rfl 114 153 Yq underlying120 _ b nn _ rfl hown ?_;intro w0 hrg0 hg0 hs0)
  | gi_in)
 go_frame
 gi_loopw [3] (fun _ wr=>∃(left:Lit->Bool) (cnt:Nat) (ss:List (Int × Int)),wr.ranges prog 114 X8 b W.heap.size nn (mapD ks) left cnt/\ss.length+cnt<=ks.length/\Jj ks left ss/\J ss wr)
  (fun _ wr=>wr.rangeLeft b W.heap.size)
 case atStart =>
  exact⟨_,_,[],hrg0,by simp [hsz],Jj.start Xo hk,hJ [] W w0 none h0 hg0 (fun r e=>by cases e)⟩
 case round =>
  obtain⟨left,cnt,ss,hrg,hcs,hC,hJs⟩:=hrel
  gi_wp2_with (first
   | (gi_at_next;refine wpListIn_next_ranges _ rfl _ rfl 114 Yq X8 nmV (fun v:Value=>v) (fun key kl hk=>by obtain⟨x,_,hx,_⟩:=Xo.inv hk;exact⟨x,hx⟩) (fun v _ _=>⟨v,rfl⟩) b W.heap.size nn _ _ _ rfl hrg ?_ ?_)
   | gi_in)
  ·intro hc0 hl0
   gi_wp2
   go_end0
   exact⟨⟨_,rfl⟩,.inl ⟨ss,hC.perm hk hl0,hJs⟩⟩
  intro a1 a2 c kl yd yp w2 cnt2 hkey hlk hv hat hrg2 hlt hg2 hs2 hen
  obtain⟨x,hx⟩:∃ x:Int × Int,x=(a1,a2):=⟨_,rfl⟩
  rw [<- hx] at hkey hen ⊢;clear hx a1 a2;obtain⟨x',hw,ex,rfl⟩:=Xo.inv hkey
  obtain rfl:x=x':=by
   simp only [nmV,Value.agg.injEq] at ex;simp at ex;exact Prod.ext ex.1 ex.2
  have hJ2:J ss w2:=hJ ss wr w2 (some W.heap.size) hJs hg2 (fun r e=>by cases e;exact⟨Nat.le_refl _,hrg.iter_walk⟩);have hJ3:J ss (w2.alloc (.cells #[.int .i64 x.1,.int .u64 x.2] 114)):=hJ ss w2 _ none hJ2 (World.grownBy_alloc _ _ _) (fun r e=>by cases e);obtain⟨fn,tmps,assign,body,hy,hR⟩:=hY ss x _ hJ3 (by omega);have hin:x∈ks.map (·.1):=(Xo.Mo hk hw).1 (has_true_of_atKey hat);have hC2:=hC.step Xo hw hlk hin;clear hs2;unfold nmV at hy hen
  gi_wp2
  refine hR.mono ?_;rintro e W3 (⟨rfl,hJ4,hk3⟩ | ⟨rfl,hJx3⟩)
  ·gi_wp2
   have hrg3:=(hrg2.of_walks (KeepsWalks.alloc _ _)).of_walks hk3
   go_roundw
   case rel=>exact⟨_,cnt2,ss ++ [x],hrg3,by simp;omega,hC2,hJ4⟩
   case measure=>rw [hrg3.left_eq,hrg.left_eq];exact hlt
  gi_wp2
  refine bodyPost_ret (results_none rfl _ _ _) rfl ?_;exact⟨⟨_,rfl⟩,.inr ⟨ss ++ [x],trivial,hJx3⟩⟩
theorem Tryz.Xbp (n:Nat) (hn:1<=n) (Bm b nn:Nat) (ks:List ((Int × Int) × Value)) (hk:Yz ks) (w:World) (hBm:Bm<w.heap.size)
  (hm:w.cell? ⟨Bm,0,none⟩=some (.map (some b))) (hown:w.ownsMap prog 114 X8 b nn (mapD ks)) :
  SeqStopsK Fence.wide n prog 202 #[.pointer (some ⟨Bm,0,none⟩)] (fun x=>#[nmV x]) KeepsWalks (fun ss=>ss.Perm (ks.map (·.1))) (fun _=>True) ks.length w:=fun l J Jx W hW hJ _ hY h0=>by
 have hown':W.ownsMap prog 114 X8 b nn (mapD ks):=by
  have hbl:=hown.lt;obtain⟨es,clock,hb,Ft,hs,hD⟩:=hown;exact⟨es,clock,(hW.block b hbl).trans hb,Ft,hs,hD⟩
 exact Xd8 Fence.wide n trivial rfl hn l Bm b nn ks hk J Jx hY W hJ ((hW.cell (p:=⟨Bm,0,none⟩) hBm).trans hm) hown' h0
theorem Tryz.Xll (mb:Option Nat) (w:World) :
  Calls prog 170 #[.map mb] w fun e w'=>e=.returned (.func (.func 202) #[] #[.pointer (some ⟨w.heap.size,0,none⟩)])/\w'=w.alloc (.cells #[.map mb] 120):=by
 go_enter func170,ntmps170;go_wp2;go_ret;exact⟨rfl,rfl⟩
theorem Tryz.Xdw (F:Fence) (n:Nat) (h10:F.fn 203) (hro:F.round=none) (hn:1<=n) (l Bm b nn:Nat) (ks:List ((Int × Int) × Value)) (hk:Yz ks) (J Jx:List (Int × Int)->World->Prop)
  (hY:∀ pre x W,J pre W->pre.length<ks.length->YieldAt F (n-1) prog l #[nmV x] W fun e W' =>
   (e=.returned (.bool true)/\J (pre ++ [x]) W'/\KeepsWalks W W')\/(e=.returned (.bool false)/\Jx (pre ++ [x]) W'))
  (W:World) (hJ:AbidesFrom W.heap.size J) (hm:W.cell? ⟨Bm,0,none⟩=some (.map (some b))) (hown:W.ownsMap prog 114 X8 b nn (mapD ks)) (h0:J [] W) :
  CallsIn F n prog 203 #[.func (.yield l) #[] #[],.pointer (some ⟨Bm,0,none⟩)] W fun e W'=>(∃ v,e=.returned v)/\((∃ ss:List (Int × Int),ss.Perm (ks.map (·.1))/\J ss W')\/(∃ pre:List (Int × Int),True/\Jx pre W')):=by
 have hsz:=Xo.Zs ks hk;refine callsIn_of_wp func203 rfl h10 ?_ hro;simp only [ntmps203,List.size_toArray,List.length_cons,List.length_nil,Nat.reduceAdd,Nat.reduceSub,Array.replicate_succ,Array.replicate_zero,List.push_toArray,List.append_toArray,List.nil_append,List.cons_append]
 gi_wp2_with (first
  | (gi_at_range;refine wpListIn_range_own _ rfl _ 121 rfl 114 131 Yq underlying121 _ b nn _ rfl hown ?_;intro w0 hrg0 hg0 hs0)
  | gi_in)
 go_frame
 gi_loopw [3] (fun _ wr=>∃(left:Lit->Bool) (cnt:Nat) (ss:List (Int × Int)),wr.ranges prog 114 X8 b W.heap.size nn (mapD ks) left cnt/\ss.length+cnt<=ks.length/\Jj ks left ss/\J ss wr)
  (fun _ wr=>wr.rangeLeft b W.heap.size)
 case atStart =>
  exact⟨_,_,[],hrg0,by simp [hsz],Jj.start Xo hk,hJ [] W w0 none h0 hg0 (fun r e=>by cases e)⟩
 case round =>
  obtain⟨left,cnt,ss,hrg,hcs,hC,hJs⟩:=hrel
  gi_wp2_with (first
   | (gi_at_next;refine wpListIn_next_ranges _ rfl _ rfl 114 Yq X8 nmV (fun v:Value=>v) (fun key kl hk=>by obtain⟨x,_,hx,_⟩:=Xo.inv hk;exact⟨x,hx⟩) (fun v _ _=>⟨v,rfl⟩) b W.heap.size nn _ _ _ rfl hrg ?_ ?_)
   | gi_in)
  ·intro hc0 hl0
   gi_wp2
   go_end0
   exact⟨⟨_,rfl⟩,.inl ⟨ss,hC.perm hk hl0,hJs⟩⟩
  intro a1 a2 c kl yd yp w2 cnt2 hkey hlk hv hat hrg2 hlt hg2 hs2 hen
  obtain⟨x,hx⟩:∃ x:Int × Int,x=(a1,a2):=⟨_,rfl⟩
  rw [<- hx] at hkey hen ⊢;clear hx a1 a2;obtain⟨x',hw,ex,rfl⟩:=Xo.inv hkey
  obtain rfl:x=x':=by
   simp only [nmV,Value.agg.injEq] at ex;simp at ex;exact Prod.ext ex.1 ex.2
  have hJ2:J ss w2:=hJ ss wr w2 (some W.heap.size) hJs hg2 (fun r e=>by cases e;exact⟨Nat.le_refl _,hrg.iter_walk⟩);have hJ3:J ss (w2.alloc (.cells #[.int .i64 x.1,.int .u64 x.2] 114)):=hJ ss w2 _ none hJ2 (World.grownBy_alloc _ _ _) (fun r e=>by cases e);obtain⟨fn,tmps,assign,body,hy,hR⟩:=hY ss x _ hJ3 (by omega);have hin:x∈ks.map (·.1):=(Xo.Mo hk hw).1 (has_true_of_atKey hat);have hC2:=hC.step Xo hw hlk hin;clear hs2;unfold nmV at hy hen
  gi_wp2
  refine hR.mono ?_;rintro e W3 (⟨rfl,hJ4,hk3⟩ | ⟨rfl,hJx3⟩)
  ·gi_wp2
   have hrg3:=(hrg2.of_walks (KeepsWalks.alloc _ _)).of_walks hk3
   go_roundw
   case rel=>exact⟨_,cnt2,ss ++ [x],hrg3,by simp;omega,hC2,hJ4⟩
   case measure=>rw [hrg3.left_eq,hrg.left_eq];exact hlt
  gi_wp2
  refine bodyPost_ret (results_none rfl _ _ _) rfl ?_;exact⟨⟨_,rfl⟩,.inr ⟨ss ++ [x],trivial,hJx3⟩⟩
theorem Tryz.Xb7 (n:Nat) (hn:1<=n) (Bm b nn:Nat) (ks:List ((Int × Int) × Value)) (hk:Yz ks) (w:World) (hBm:Bm<w.heap.size)
  (hm:w.cell? ⟨Bm,0,none⟩=some (.map (some b))) (hown:w.ownsMap prog 114 X8 b nn (mapD ks)) :
  SeqStopsK Fence.wide n prog 203 #[.pointer (some ⟨Bm,0,none⟩)] (fun x=>#[nmV x]) KeepsWalks (fun ss=>ss.Perm (ks.map (·.1))) (fun _=>True) ks.length w:=fun l J Jx W hW hJ _ hY h0=>by
 have hown':W.ownsMap prog 114 X8 b nn (mapD ks):=by
  have hbl:=hown.lt;obtain⟨es,clock,hb,Ft,hs,hD⟩:=hown;exact⟨es,clock,(hW.block b hbl).trans hb,Ft,hs,hD⟩
 exact Xdw Fence.wide n trivial rfl hn l Bm b nn ks hk J Jx hY W hJ ((hW.cell (p:=⟨Bm,0,none⟩) hBm).trans hm) hown' h0
theorem Tryz.Xk4 (mb:Option Nat) (w:World) :
  Calls prog 172 #[.map mb] w fun e w'=>e=.returned (.func (.func 203) #[] #[.pointer (some ⟨w.heap.size,0,none⟩)])/\w'=w.alloc (.cells #[.map mb] 121):=by
 go_enter func172,ntmps172;go_wp2;go_ret;exact⟨rfl,rfl⟩
end Go.Proofs
