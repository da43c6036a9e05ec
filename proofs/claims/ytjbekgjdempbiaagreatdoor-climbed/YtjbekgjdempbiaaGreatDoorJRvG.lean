import Derived.Test.YtjbekgjdempbiaaGreatDoorJBlC
import Derived.Test.YtjbekgjdempbiaaGreatDoorJClB
import Derived.Test.YtjbekgjdempbiaaGreatDoorJBlB
import Derived.Test.YtjbekgjdempbiaaGreatDoorJHOpen
set_option maxRecDepth 100000
set_option maxHeartbeats 8000000
namespace Go.Proofs
open Go.RowKit Go.Sort Go.Lib Go.Shelf Go.Maps Go.WideMaps
def RdF (W:World) (a:Option Addr) (n:Nat) (f:Nat→Value):Prop:=∀ i,i<n→∃ q,a=some ⟨q,0,none⟩∧q<W.heap.size∧W.cell? ⟨q,i,none⟩=some (f i)
theorem RdF.below {W V:World} {n:Nat} {a:Option Addr} {f:Nat→Value} (h:RdF W a n f) (hb:Below W.heap.size W V):RdF V a n f:=fun i hi=>by
 obtain⟨q,e,h1,h2⟩:=h i hi;exact⟨q,e,Nat.lt_of_lt_of_le h1 hb.size,(hb.cell (p:=⟨q,i,none⟩) h1).trans h2⟩
structure OrdOk (n m:Nat) (D I L:Nat→List UInt8) (P:Nat→Int) (U:Nat→Bool):Prop where
 dup:∀ i,i<n→∀ j,j<i→D j≠D i
 ne:∀ k,k<m→∀ i,i<n→D i=L k→D i≠I (k+1)
 un:∀ i,i<n→∀ k,k<m→(D i=L k∨D i=I (k+1))→U (k+1)=true
 mine:∀ i,i<n→∃ k,k<m∧(D i=L k∨D i=I (k+1))
 ord:∀ i,i<n→∀ k,k<m→D i=I (k+1)→∀ j,i≤j→j<n→∀ q,q<m→(D j=L q→q≠k)∧(D j=I (q+1)→P (q+1)≠(k:Int)+1)
theorem Tryz.ordered (a0 a1 a2 a3 a4:Option Addr) (n m c0 c1 c2 c3 c4:Nat) (D I L:Nat→List UInt8) (P:Nat→Int) (U:Nat→Bool) (w:World) (hO:OrdOk n m D I L P U) (hn:n≤1000000) (hm:m≤1000000)
  (h0:RdF w a0 n (fun i=>.string ⟨(D i).toArray⟩)) (h1:RdF w a1 (m+1) (fun i=>.string ⟨(I i).toArray⟩)) (h2:RdF w a2 m (fun i=>.string ⟨(L i).toArray⟩)) (h3:RdF w a3 (m+1) (fun i=>.int .i64 (P i))) (h4:RdF w a4 (m+1) (fun i=>.bool (U i))) :
  Calls prog 27 #[.slice a0 n c0,.slice a1 (m+1) c1,.slice a2 m c2,.slice a3 (m+1) c3,.slice a4 (m+1) c4] w fun e w'=>e=.returned (.bool true)∧Below w.heap.size w w':=by
 go_enter func27,ntmps27;go_wp2
 go_loopw [11] (fun i wr=>∃ j:Nat,j≤n∧i=.int .i64 j∧Below w.heap.size w wr) (fun i _=>n-(intOf i).toNat)
 case atStart=>exact⟨0,Nat.zero_le _,rfl,Below.refl _ _⟩
 case round =>
  obtain⟨i,hi,rfl,hBw⟩:=hrel
  by_cases hin:i<n
  ·have hin':(i:Int)<(n:Int):=by omega
   obtain⟨q0,rfl,l0,x0⟩:=h0 i hin;go_wp2
   go_loopw [12,13] (fun mn k wq=>∃(k':Nat) (b:Bool),k'≤m∧k=.int .i64 ((k':Int)+1)∧mn=.bool b∧(b=false→∀ z,z<k'→¬ (D i=L z∨D i=I (z+1)))∧Below w.heap.size w wq) (fun _ k _=>m+1-(intOf k).toNat)
   case atStart=>exact⟨0,false,Nat.zero_le _,rfl,rfl,(fun _ z hz=>by omega),hBw⟩
   case round =>
    clear hBw;obtain⟨k,b,hk,rfl,rfl,hb,hBw⟩:=hrel
    by_cases hkm:k<m
    ·have hkm':(k:Int)+1<(m:Int)+1:=by omega
     have hkm2:(k:Int)<(m:Int):=by omega
     obtain⟨q1,rfl,l1,x1⟩:=h1 (k+1) (by omega);obtain⟨q2,rfl,l2,x2⟩:=h2 k hkm;obtain⟨q4,rfl,l4,x4⟩:=h4 (k+1) (by omega);have y0:wr.cell? ⟨q0,i,none⟩=some (.string ⟨(D i).toArray⟩):=(hBw.cell (p:=⟨q0,i,none⟩) l0).trans x0;have y1:wr.cell? ⟨q1,k+1,none⟩=some (.string ⟨(I (k+1)).toArray⟩):=(hBw.cell (p:=⟨q1,k+1,none⟩) l1).trans x1;have y2:wr.cell? ⟨q2,k,none⟩=some (.string ⟨(L k).toArray⟩):=(hBw.cell (p:=⟨q2,k,none⟩) l2).trans x2;have y4:wr.cell? ⟨q4,k+1,none⟩=some (.bool (U (k+1))):=(hBw.cell (p:=⟨q4,k+1,none⟩) l4).trans x4
     by_cases hA:D i=L k
     ·have hB:(D i==I (k+1))=false:=by simpa using hO.ne k hkm i hin hA
      rw [hO.un i hin k hkm (.inl hA)] at y4
      have hA':(D i==L k)=true:=by simpa using hA
      clear hA;generalize D i=di at *;generalize I (k+1)=ik at *;generalize L k=lk at *
      go_wp2_with fail
      go_quiet (fail)
      go_wp2_with fail
      go_quiet (fail);go_wp2
      go_roundw
      case rel=>exact⟨k+1,true,by omega,by go_num,rfl,(fun h=>by cases h),below_drewN hBw _⟩
      case measure=>simp [intOf];omega
     ·have hA':(D i==L k)=false:=by simpa using hA
      by_cases hB:D i=I (k+1)
      ·have hB':(D i==I (k+1))=true:=by simpa using hB
       rw [hO.un i hin k hkm (.inr hB)] at y4;have hord:=hid_intro (hO.ord i hin k hkm hB);clear hB hA hb x1 x2 x4 x0;generalize hik:I (k+1)=ik at *;generalize hlk:L k=lk at *;generalize hdi:D i=di at *
       go_wp2_with fail
       go_quiet (fail)
       go_wp2_with fail
       go_quiet (fail);go_wp2;clear y0 y1 y2 y4 hA' hB' hik hlk hdi
       go_loopw [14] (fun jv wq=>∃ j:Nat,i≤j∧j≤n∧jv=.int .i64 j∧Below w.heap.size w wq) (fun jv _=>n-(intOf jv).toNat)
       case atStart=>exact⟨i,Nat.le_refl _,hi,rfl,below_drewN hBw _⟩
       case round =>
        clear hBw;obtain⟨j,hij,hj,rfl,hBw⟩:=hrel
        by_cases hjn:j<n
        ·have hjn':(j:Int)<(n:Int):=by omega
         obtain⟨q,e,-,xj⟩:=h0 j hjn
         obtain rfl:q0=q:=by simpa using e
         go_wp2
         go_loopw [15] (fun zv wq=>∃ z:Nat,z≤m∧zv=.int .i64 ((z:Int)+1)∧Below w.heap.size w wq) (fun zv _=>m+1-(intOf zv).toNat)
         case atStart=>exact⟨0,Nat.zero_le _,rfl,hBw⟩
         case round =>
          clear hBw;obtain⟨z,hz,rfl,hBw⟩:=hrel
          by_cases hzm:z<m
          ·have hzm':(z:Int)+1<(m:Int)+1:=by omega
           have hzm2:(z:Int)<(m:Int):=by omega
           obtain⟨hX,hY⟩:=hid_elim hord j hij hjn z hzm;obtain⟨q,e,-,x1⟩:=h1 (z+1) (by omega)
           obtain rfl:q1=q:=by simpa using e
           obtain⟨q,e,-,x2⟩:=h2 z hzm
           obtain rfl:q2=q:=by simpa using e
           obtain⟨q3,rfl,l3,x3⟩:=h3 (z+1) (by omega);have y0:wr.cell? ⟨q0,j,none⟩=some (.string ⟨(D j).toArray⟩):=(hBw.cell (p:=⟨q0,j,none⟩) l0).trans xj;have y1:wr.cell? ⟨q1,z+1,none⟩=some (.string ⟨(I (z+1)).toArray⟩):=(hBw.cell (p:=⟨q1,z+1,none⟩) l1).trans x1;have y2:wr.cell? ⟨q2,z,none⟩=some (.string ⟨(L z).toArray⟩):=(hBw.cell (p:=⟨q2,z,none⟩) l2).trans x2;have y3:wr.cell? ⟨q3,z+1,none⟩=some (.int .i64 (P (z+1))):=(hBw.cell (p:=⟨q3,z+1,none⟩) l3).trans x3;clear x1 x2 x3 xj
           by_cases hA:D j=L z
           ·have hB:(D j==I (z+1))=false:=by simpa using hO.ne z hzm j hjn hA
            have hA':(D j==L z)=true:=by simpa using hA
            have hC:((z:Int)+1==(k:Int)+1)=false:=by have:=hX hA;simp;omega
            clear hA hX hY;generalize D j=dj at *;generalize I (z+1)=iz at *;generalize L z=lz at *
            go_wp2_with fail
            go_quiet (fail);go_wp2
            go_roundw
            case rel=>exact⟨z+1,by omega,by go_num,below_drewN hBw _⟩
            case measure=>simp [intOf];omega
           ·have hA':(D j==L z)=false:=by simpa using hA
            by_cases hB:D j=I (z+1)
            ·have hB':(D j==I (z+1))=true:=by simpa using hB
             have hC:(P (z+1)==(k:Int)+1)=false:=by simpa using hY hB
             clear hA hB hX hY;generalize D j=dj at *;generalize I (z+1)=iz at *;generalize L z=lz at *;generalize P (z+1)=pz at *
             go_wp2_with fail
             go_quiet (fail);go_wp2
             go_roundw
             case rel=>exact⟨z+1,by omega,by go_num,below_drewN hBw _⟩
             case measure=>simp [intOf];omega
            ·have hB':(D j==I (z+1))=false:=by simpa using hB
             clear hA hB hX hY;generalize D j=dj at *;generalize I (z+1)=iz at *;generalize L z=lz at *;generalize P (z+1)=pz at *
             go_wp2_with fail
             go_quiet (fail);go_wp2
             go_roundw
             case rel=>exact⟨z+1,by omega,by go_num,below_drewN hBw _⟩
             case measure=>simp [intOf];omega
          ·have hzm':¬ (z:Int)+1<(m:Int)+1:=by omega
           go_wp2
           go_roundw
           case rel=>exact⟨j+1,by omega,by omega,by go_num,hBw⟩
           case measure=>simp [intOf];omega
        ·have hjn':¬ (j:Int)<(n:Int):=by omega
         go_wp2
         go_roundw
         case rel=>exact⟨k+1,true,by omega,by go_num,rfl,(fun h=>by cases h),hBw⟩
         case measure=>simp [intOf];omega
      ·have hB':(D i==I (k+1))=false:=by simpa using hB
       have hb':Hid (b=false→∀ z,z<k+1→¬ (D i=L z∨D i=I (z+1))):=hid_intro (fun h z hz=>by
        by_cases e:z=k
        ·subst e;exact fun o=>o.elim hA hB
        ·exact hb h z (by omega))
       clear hA hB hb;generalize hdi:D i=di at *;generalize I (k+1)=ik at *;generalize L k=lk at *
       go_wp2_with fail
       go_quiet (fail)
       go_wp2_with fail
       go_quiet (fail);go_wp2
       go_roundw
       case rel=>exact⟨k+1,b,by omega,by go_num,rfl,hid_elim hb',below_drewN hBw _⟩
       case measure=>simp [intOf];omega
    ·have hkm':¬ (k:Int)+1<(m:Int)+1:=by omega
     obtain rfl:k=m:=by omega
     obtain rfl:b=true:=by
      cases b with
      | true=>rfl
      | false =>
       obtain⟨z,hz,hz'⟩:=hO.mine i hin;exact absurd hz' (hb rfl z hz)
     clear hb;go_wp2
     go_loopw [16] (fun jv wq=>∃ j:Nat,j≤i∧jv=.int .i64 j∧Below w.heap.size w wq) (fun jv _=>i-(intOf jv).toNat)
     case atStart=>exact⟨0,Nat.zero_le _,rfl,hBw⟩
     case round =>
      clear hBw;obtain⟨j,hj,rfl,hBw⟩:=hrel
      by_cases hji:j<i
      ·have hji':(j:Int)<(i:Int):=by omega
       have hjn':(j:Int)<(n:Int):=by omega
       obtain⟨q,e,-,xj⟩:=h0 j (by omega)
       obtain rfl:q0=q:=by simpa using e
       have y0:wr.cell? ⟨q0,i,none⟩=some (.string ⟨(D i).toArray⟩):=(hBw.cell (p:=⟨q0,i,none⟩) l0).trans x0;have yj:wr.cell? ⟨q0,j,none⟩=some (.string ⟨(D j).toArray⟩):=(hBw.cell (p:=⟨q0,j,none⟩) l0).trans xj
       have hne:(D j==D i)=false:=by simpa using hO.dup i hin j hji
       clear xj;generalize D j=dj at *;generalize D i=di at *
       go_wp2_with fail
       go_quiet (fail);go_wp2
       go_roundw
       case rel=>exact⟨j+1,by omega,by go_num,below_drewN hBw _⟩
       case measure=>simp [intOf];omega
      ·have hji':¬ (j:Int)<(i:Int):=by omega
       go_wp2
       go_roundw
       case rel=>exact⟨i+1,by omega,by go_num,hBw⟩
       case measure=>simp [intOf];omega
  ·have hin':¬ (i:Int)<(n:Int):=by omega
   go_wp2;go_ret;exact⟨rfl,hBw⟩
attribute [local go_sem] Oper.semAt_some
structure Tryz.LkV (bv vb c m nb:Nat) (tm:TypeId) (k u:Int) (r:Value) (W:World):Prop where
 bx:W.cell? ⟨bv,0,none⟩=some (.pointer (some ⟨vb,0,none⟩))
 mp:W.cell? ⟨vb,c,none⟩=some (.map (some m))
 n0:W.cell? ⟨nb,0,none⟩=some (.int .i64 k)
 n1:W.cell? ⟨nb,1,none⟩=some (.int .u64 u)
 lk:(Instr.lookup tm (.map (some m)) (.agg #[.int .i64 k,.int .u64 u]) true).run Tryz.prog W=.ok r W
theorem rowForm {W:World} {B size n:Nat} {e:TypeId} {v:Value} {xs:List Value} (h:W.ownsRow B e size v n xs):∃ p cap,v=.slice p n cap:=by
 rcases h.2 with⟨rfl,h0⟩ | ⟨g,cap,cur,rfl,-⟩
 ·exact⟨none,0,by rw [show n=0 from by omega]⟩
 ·exact⟨_,cap,rfl⟩
theorem Tryz.Whole.own {W W':World} {k:Blk} {vx:VX} {tm:Int} {s:VSt} {c:List UInt8} {l f:Int} (h:Whole W k vx tm s c l f) {r:Nat} {o:Obj} (hS:Spares [r] W W') (ho:W.heap[r]? = some o) (hc:o.isCells=false) (h6:6≤r) (hr:r∉k.turns):Whole W' k vx tm s c l f:=by
 have nb:∀ {b:Nat} {t:TypeId} {cs:Array Value},BoxN W b t cs→b ∉ [r]:=fun {b} {t} {cs} hB hm=>by
  rw [← List.mem_singleton.1 hm,show W.heap[b]? = _ from hB] at ho;cases ho;cases hc
 exact h.spared hS (fun b hb hm=>hr (by rw [← List.mem_singleton.1 hm];exact hb)) (nb h.j) (fun b x hx=>nb hx) (fun b hb=>by rw [List.mem_singleton.1 hb];exact h6)
theorem revJ_old {tm:Int} {p:TokE→Bool} {s:VSt} (t0:0≤tm) (t1:tm≤18446744073709551615) (hok:ListsOk s.tks s.lks) (okT:∀ l∈s.tks,TokOk l):∀ i∈revJ tm p s.tks,i.Old s:=fun i hi=>by
 obtain⟨l,hl,rfl⟩:=List.mem_map.1 hi;have hm:=(List.mem_filter.1 hl).1;have ho:=okT l hm;exact⟨⟨t0,t1,ho.r0,ho.r1⟩,⟨l,hm,rfl⟩,(hok.limT l hm).1,(hok.limT l hm).2⟩
theorem revJ_len {tm:Int} {p:TokE→Bool} {tks:List TokE}:(revJ tm p tks).length≤tks.length:=by unfold revJ;rw [List.length_map];exact List.length_filter_le _ _
theorem revJ_state {tm:Int} {p:TokE→Bool} {tn ln:Nat} {tks:List TokE} {lks:List LeaE} (hs:tks.Pairwise (fun a b=>a.n<b.n)) (hn:∀ l∈tks,l.n≤tn):appAll (revJ tm p tks) ⟨tn,ln,tks,lks⟩=⟨tn,ln,tks.map fun z=>if !z.pd&&p z then revT tm z else z,lks⟩:=by
 rw [appAll_revJ tks ⟨tn,ln,tks,lks⟩ hs hs (fun _ h=>h) hn]
 congr 1
 exact List.map_congr_left (fun z hz=>by rw [any_self (f:=TokE.n) hz,Bool.true_and])
def Tryz.badS (t:TypeId):Bool:=t==162||t==135||t==153
theorem wp_normal {P:Program} {c:Code} {K:Act→World→Prop} {Q:Exit→Act→World→Prop} {a:Act} {w:World} (h:c.wp P (Exit.then K (fun _ _ _=>False)) a w):c.wp P (Exit.then K Q) a w:=
 wp_mono h (fun e a w hq=>by cases e <;> first | exact hq | exact hq.elim)
abbrev Tryz.NbP (nb:Nat) (k u:Int) (W:World):Prop:=W.cell? ⟨nb,0,none⟩=some (.int .i64 k)∧W.cell? ⟨nb,1,none⟩=some (.int .u64 u)
end Go.Proofs
