import Derived.Test.YtjbekgjdempbiaaGreatDoorJCCpK
import Derived.Test.YtjbekgjdempbiaaGreatDoorJLawA
set_option maxRecDepth 100000
set_option maxHeartbeats 8000000
namespace Go.Proofs
open Go.RowKit Go.Sort Go.Lib Go.Shelf Go.Maps Go.WideMaps
theorem Xey {r:X7} (h:r.Ok):(recStr r).length<=140+r.pth.length:=by
 have e1:=V8 _ h.k0 h.k1;have e2:=Jd r.nk r.nn h.n1;have e3:=Jd r.ak r.an h.a1
 have e4:(Lib.formatBool r.pd).length<=5:=by cases r.pd <;> decide
 have e5:=X1 r.at_.toNat (by have:=h.t0;have:=h.t1;omega);have e6:=V8 _ h.r0 h.r1;have e7:=X1 r.last.toNat (by have:=h.l0;have:=h.l1;omega);unfold recStr Zf;rw [Lib.join_length];simp [Lib.lens];omega
theorem Xej (rs:List X7) (h:∀ r∈rs,r.Ok/\r.pth.length<=24):(recTxt rs).length<=165*rs.length:=by
 unfold recTxt Y5
 cases rs with
 | nil=>simp [Lib.join]
 | cons r rs =>
  rw [List.map_cons,Lib.join_length]
  have:∀ l:List X7,(∀ r∈l,r.Ok/\r.pth.length<=24)->Lib.lens (l.map recStr)<=164*l.length:=fun l=>by
   induction l with
   | nil=>intro _;simp [Lib.lens]
   | cons x l ih =>
    intro hx;have h0:=hx x (by simp);have h1:=Xey h0.1;have h2:=ih (fun y hy=>hx y (List.mem_cons_of_mem _ hy));simp only [Lib.lens,List.map_cons,List.sum_cons,List.length_cons] at h2 ⊢;omega
  have h3:=this (r :: rs) h;rw [List.map_cons] at h3;simp only [List.length_cons,List.length_map,List.length_nil] at h3 ⊢;omega
theorem Xcy {tm:Int} {tn ln:Nat} {lks:List Xd} (t0:0<=tm) (t1:tm<=18446744073709551615) (h1:tn<Xj) (h2:ln<Xj) (hl:lks.length<=1) (hok:∀ l∈lks,Ul l/\l.n<=ln/\l.au<Xj):(compL tm ⟨tn,ln,[rootE],lks⟩).length<=1000:=by
 obtain⟨hF,-⟩:=My h1 h2 hl hok
 have hr:∀ r∈nowR tm :: (Jg tn ln [rootE] lks).map Item.rec_,r.Ok/\r.pth.length<=24:=fun r hr=>by
  rcases List.mem_cons.1 hr with rfl | hr
  ·exact⟨(Mb t0 t1).ok,by simp [nowR]⟩
  refine⟨(hF.ok r hr).1,?_⟩;simp only [Jg,List.map_cons,List.map_append,List.map_nil,List.mem_cons,List.mem_append,List.not_mem_nil,or_false,List.map_map,List.mem_map,Function.comp_def] at hr
  rcases hr with rfl | rfl | rfl | ⟨l,hl,rfl⟩
  ·simp [Item.rec_]
  ·simp [Item.rec_]
  ·simp [Item.rec_,Xe.rec_]
  exact(hok l hl).1.p1
 have h3:=Xej _ hr
 have h4:(nowR tm :: (Jg tn ln [rootE] lks).map Item.rec_).length<=5:=by simp [Jg];omega
 have h5:=Mw (recTxt (nowR tm :: (Jg tn ln [rootE] lks).map Item.rec_)) (by omega)
 show (lineL (recTxt (nowR tm :: (Jg tn ln [rootE] lks).map Item.rec_))).length<=1000
 omega
theorem Tryz.hSize {fm:List UInt8} (hb db rb md mn b:Nat) (vv:Value) (c:List UInt8) (fn:Option (Nat × List UInt8)) (l f:Int) (w:World) (hH:BoxN w hb 78 #[.pointer (some ⟨db,0,none⟩),.pointer (some ⟨rb,0,none⟩),vv]) (hD:Xk fm w db md mn (some (b,c)) fn (.slice none 0 0) l f) (hc:c.length<=1000000) :
  Calls prog 31 #[.pointer (some ⟨hb,0,none⟩)] w fun e w'=>e=.returned (.int .i64 (((fm.length+c.length:Nat):Int)))/\Below w.heap.size w w':=by
 have h0:=hH.cell 0 (v:=.pointer (some ⟨db,0,none⟩)) rfl;have d0:=hD.box.cell 0 (v:=.map (some md)) rfl;have hfl:=hD.nl;obtain⟨n,hn,hown⟩:=hD.dm;have lM:=hown.lt;have s0:=(hD.sd (b,c) rfl).cell 0 (v:=.string ⟨c.toArray⟩) rfl;simp only at s0
 change w.ownsMap prog 9 X8 md n (Yc fm (some b)) at hown
 have hz1:(⟨fm.toArray⟩:ByteArray).size=fm.length:=by simp [ByteArray.size]
 have hz2:(⟨c.toArray⟩:ByteArray).size=c.length:=by simp [ByteArray.size]
 go_enter func31,ntmps31
 go_wp2_with (first
  | (at_range;refine wpList_range_own _ rfl _ 97 rfl 9 101 (string_keyed underlying9) underlying97 _ md n _ rfl hown ?_;intro w1 hrg hg1 hs1)
  | go_in)
 have HB:=Xb (show Below w.heap.size w w1 from ⟨hg1.os,hg1.tape,hg1.output,hg1.size,fun k hk=>hg1.block k hk (by simp)⟩)
 have hz:w.heap.size<w1.heap.size:=by omega
 clear hg1 hs1 hown d0 h0;refine wp_loop_rounds 2 ?_;rw [rounds_succ]
 go_wp2_with (first
  | (at_next;refine wpList_next_ranges _ rfl _ rfl 9 (string_keyed underlying9) X8 Value.string (fun v:Value=>v) (fun key kl hk=>by obtain⟨x,hx,_⟩:=string_of_keyOf underlying9 hk;exact⟨x,hx⟩) (fun v _ _=>⟨v,rfl⟩) md _ n _ _ _ rfl hrg ?_ ?_)
  | go_in)
 ·intro _ h0
  have h1:=h0 (.string fm);rw [J0] at h1;cases h1
 intro x c' kl y yp w' cnt' hk hl hv hat hrg2 hlt hgr hsz hen;obtain rfl:=Jb hl;obtain⟨x',hx,hx2,-⟩:=string_of_keyOf underlying9 hk
 obtain rfl:x=x':=by cases hx;rfl
 have hxj:x=⟨fm.toArray⟩:=M7 hx2;subst hxj
 have hcb:c'=Zx b:=by
  have h4:=hat (.lit (.bool true));rw [Mm] at h4;simp only at h4
  have h5:X8 c'=some (.held (Zx b),yp):=by rw [h4];exact hv
  exact Zq h5
 subst hcb;have hB2:Below w.heap.size w w':=(Xa HB).grown hgr (by omega) (fun q hq=>by cases hq;exact Nat.le_refl _);have s2:=cell_later hB2 s0;have HB2:=Xb hB2;unfold Zx at hen;clear hk hl hv hat hrg hgr hlt hx hx2 hB2 HB;go_wp2;clear hen;rw [rounds_succ]
 go_wp2_with (first
  | (at_next;refine wpList_next_ranges _ rfl _ rfl 9 (string_keyed underlying9) X8 (fun v:Value=>v) (fun v:Value=>v) (fun v _ _=>⟨v,rfl⟩) (fun v _ _=>⟨v,rfl⟩) md _ n _ _ _ rfl hrg2 ?_ ?_)
  | go_in)
 ·intro _ _
  clear hrg2;go_wp2;go_ret;exact⟨Yj (by omega),Xa HB2⟩
 intro x c kl y yp w'' cnt'' _ h2 h3;obtain rfl:=Jb h2;exact absurd h3 (by simp [Lit.sameKey])
end Go.Proofs
