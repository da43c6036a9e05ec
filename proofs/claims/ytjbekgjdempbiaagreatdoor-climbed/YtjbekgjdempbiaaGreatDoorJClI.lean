import Derived.Test.YtjbekgjdempbiaaGreatDoorJClD
set_option maxRecDepth 100000
set_option maxHeartbeats 8000000
namespace Go.Proofs
open Go.RowKit Go.Sort Go.Lib Go.Shelf Go.Maps
def tkL (pa:Nat→Nat):Nat→List TokE
 | 0=>[rootE]
 | j+1=>tkL pa j ++ [newT (j+1) (pa (j+1))]
def leL:Nat→List LeaE
 | 0=>[]
 | j+1=>leL j ++ [newL (j+2) (j+1) 1100 1100 [112]]
theorem tkL_len (pa:Nat→Nat):∀ j,(tkL pa j).length=j+1
 | 0=>rfl
 | j+1=>by rw [tkL,List.length_append,tkL_len pa j];rfl
theorem leL_len:∀ j,(leL j).length=j
 | 0=>rfl
 | j+1=>by rw [leL,List.length_append,leL_len j];rfl
theorem mem_tkL {pa:Nat→Nat}:∀ {j:Nat} {t:TokE},t∈tkL pa j↔t=rootE∨∃ i,1≤i∧i≤j∧t=newT i (pa i)
 | 0,t=>by
  constructor
  ·intro h;exact .inl (List.mem_singleton.1 h)
  ·rintro(rfl | ⟨i,h1,h2,-⟩)
   ·exact List.mem_singleton.2 rfl
   ·omega
 | j+1,t=>by
  rw [tkL,List.mem_append,mem_tkL,List.mem_singleton]
  constructor
  ·rintro((h | ⟨i,h1,h2,h3⟩) | h)
   ·exact .inl h
   ·exact .inr ⟨i,h1,by omega,h3⟩
   ·exact .inr ⟨j+1,by omega,Nat.le_refl _,h⟩
  ·rintro(h | ⟨i,h1,h2,h3⟩)
   ·exact .inl (.inl h)
   ·by_cases e:i=j+1
    ·subst e;exact .inr h3
    ·exact .inl (.inr ⟨i,h1,by omega,h3⟩)
theorem mem_leL:∀ {j:Nat} {l:LeaE},l∈leL j↔∃ i,1≤i∧i≤j∧l=newL (i+1) i 1100 1100 [112]
 | 0,l=>by
  constructor
  ·intro h;cases h
  ·rintro⟨i,h1,h2,-⟩;omega
 | j+1,l=>by
  rw [leL,List.mem_append,mem_leL,List.mem_singleton]
  constructor
  ·rintro(⟨i,h1,h2,h3⟩ | h)
   ·exact⟨i,h1,by omega,h3⟩
   ·exact⟨j+1,by omega,Nat.le_refl _,h⟩
  ·rintro⟨i,h1,h2,h3⟩
   by_cases e:i=j+1
   ·subst e;exact .inr h3
   ·exact .inl ⟨i,h1,by omega,h3⟩
theorem tkL_at {pa:Nat→Nat} {j:Nat}:∀ i,i≤j→∃ t∈tkL pa j,t.n=i∧t.pd=false:=fun i hi=>by
 by_cases h:i=0
 ·subst h;exact⟨rootE,mem_tkL.2 (.inl rfl),rfl,rfl⟩
 ·exact⟨newT i (pa i),mem_tkL.2 (.inr ⟨i,by omega,hi,rfl⟩),rfl,rfl⟩
def UdOk (m:Nat) (pa:Nat→Nat) (top:Nat) (ud:Nat→Bool):Prop:=ud 0=false∧∀ i,1≤i→i≤m→ud i=(i==top||ud (pa i))
theorem exUd {pa:Nat→Nat} (top:Nat):∀ m,(∀ i,1≤i→i≤m→pa i<i)→∃ ud,UdOk m pa top ud
 | 0,_=>⟨fun _=>false,rfl,fun i h1 h2=>by omega⟩
 | m+1,h=>by
  obtain⟨ud,h0,h1⟩:=exUd top m (fun i a b=>h i a (by omega));refine⟨fun i=>if i=m+1 then (m+1==top||ud (pa (m+1))) else ud i,by dsimp only;rw [if_neg (by omega)];exact h0,fun i a b=>?_⟩;have hp:=h i a b;dsimp only;rw [if_neg (show ¬ pa i=m+1 by omega)]
  by_cases e:i=m+1
  ·subst e;rw [if_pos rfl]
  ·rw [if_neg e];exact h1 i a (by omega)
theorem Tryz.kPickB (c n:Int) (h0 : -9223372036854775808≤c) (h1:c≤9223372036854775807) (hn:0<n) (hn1:n≤10000000) (w:World) :
  Calls prog 17 #[.int .i64 c,.int .i64 n] w fun e w'=>e=.returned (.int .i64 (pickI c n))∧w'=w:=by
 by_cases hc:c<0
 ·have hp:Hid (pickI c n = -(c+1) % n):=hid_intro (by simp [pickI,hc])
  generalize pickI c n=r at *;go_enter func17,ntmps17;go_wp2;go_ret;refine⟨ret_int ?_,rfl⟩;rw [hid_elim hp,← Int.neg_tmod,Int.tmod_eq_emod_of_nonneg (by omega)]
 ·have hp:Hid (pickI c n=c % n):=hid_intro (by simp [pickI,hc])
  generalize pickI c n=r at *;go_enter func17,ntmps17;go_wp2;go_ret;exact⟨ret_int (hid_elim hp).symm,rfl⟩
section
variable {m top:Nat} {pa:Nat→Nat} {ud:Nat→Bool}
theorem UdOk.wood (h:UdOk m pa top ud) (hpa:∀ i,1≤i→i≤m→pa i<i):Wood m pa ud:=⟨hpa,fun i a b hu=>by rw [h.2 i a b,hu,Bool.or_true],h.1⟩
theorem UdOk.climb (h:UdOk m pa top ud) (hpa:∀ i,1≤i→i≤m→pa i<i) (h1:1≤top):∀ k i,i<k→i≤m→∃ n,ClimbN (tkL pa m) (1,(top:Int)) (ud i) n (1,(i:Int))
 | 0,i,hk,_=>by omega
 | k+1,i,hk,hi=>by
  by_cases e:i=top
  ·subst e
   exact⟨0,.here (by rw [h.2 i h1 hi];simp) rfl⟩
  ·have hne:((1:Int),(i:Int))≠(1,(top:Int)):=fun e'=>e (by have:=(Prod.mk.inj e').2;omega)
   by_cases e0:i=0
   ·subst e0
    refine⟨1,.up rootE (mem_tkL.2 (.inl rfl)) hne rfl (.off h.1 (fun e'=>absurd (Prod.mk.inj e').1 (by decide)) ⟨by decide,by decide⟩ (fun t _ e'=>absurd (Prod.mk.inj e').1 (by decide)))⟩
   ·obtain⟨n,hn⟩:=UdOk.climb h hpa h1 k (pa i) (by have:=hpa i (by omega) hi;omega) (by have:=hpa i (by omega) hi;omega)
    rw [show ud (pa i)=ud i by rw [h.2 i (by omega) hi,show (i==top)=false by simpa using e,Bool.false_or]] at hn;exact⟨n+1,.up (newT i (pa i)) (mem_tkL.2 (.inr ⟨i,by omega,hi,rfl⟩)) hne rfl hn⟩
abbrev rvTk (pa:Nat→Nat) (ud:Nat→Bool) (m:Nat):List TokE:=(tkL pa m).map (fun z=>if !z.pd&&ud z.n then revT 100 z else z)
abbrev rvLe (ud:Nat→Bool) (m:Nat):List LeaE:=(leL m).map (fun z=>if goL 100 (fun l=>ud l.au) z then revL 100 z else z)
theorem rvTk_mem (h0:ud 0=false) {t:TokE} (ht:t∈rvTk pa ud m):t=rootE∨∃ i,1≤i∧i≤m∧t=⟨i,1,pa i,if ud i=true then 100 else 18446744073709551615,0,ud i⟩:=by
 obtain⟨z,hz,rfl⟩:=List.mem_map.1 ht
 rcases mem_tkL.1 hz with rfl | ⟨i,h1,h2,rfl⟩
 ·left
  rw [if_neg];rw [show rootE.n=0 from rfl,h0];simp
 ·right
  refine⟨i,h1,h2,?_⟩;cases hu:ud i
  ·rw [if_neg (by rw [show (newT i (pa i)).n=i from rfl,hu];simp)];rfl
  ·rw [if_pos (by rw [show (newT i (pa i)).n=i from rfl,hu];rfl)];rfl
theorem rvLe_mem {t:LeaE} (ht:t∈rvLe ud m):∃ i,1≤i∧i≤m∧t=⟨i+1,1,i,if ud i=true then 100 else 1100,0,ud i,[112],1100⟩:=by
 obtain⟨z,hz,rfl⟩:=List.mem_map.1 ht;obtain⟨i,h1,h2,rfl⟩:=mem_leL.1 hz;refine⟨i,h1,h2,?_⟩;cases hu:ud i
 ·rw [if_neg (by simp [goL,newL,hu])];rfl
 ·rw [if_pos (by simp [goL,newL,hu])];rfl
theorem rvTk_has (i:Nat) (hi:i≤m):∃ t∈rvTk pa ud m,t.n=i:=by
 obtain⟨t,ht,hn,-⟩:=tkL_at (pa:=pa) i hi;refine⟨_,List.mem_map.2 ⟨t,ht,rfl⟩,?_⟩
 split
 ·exact hn
 ·exact hn
theorem rvLe_has (i:Nat) (h1:1≤i) (hi:i≤m):∃ t∈rvLe ud m,t.n=i+1:=by
 refine⟨_,List.mem_map.2 ⟨newL (i+1) i 1100 1100 [112],mem_leL.2 ⟨i,h1,hi,rfl⟩,rfl⟩,?_⟩
 split <;> rfl
theorem clS_start (h0:ud 0=false):ClS m pa ud 100 ⟨m,m+1,rvTk pa ud m,rvLe ud m⟩ []:=by
 refine⟨⟨rfl,rfl⟩,fun t ht=>?_,fun l hl=>?_,fun i h1 h2 _=>rvTk_has i h2,fun i h1 h2 _=>rvLe_has i h1 h2,List.nodup_nil,(fun x hx=>by cases hx),(fun pre k post e=>by simp at e)⟩
 ·rcases rvTk_mem h0 ht with rfl | ⟨i,h1,h2,rfl⟩
  ·exact .inl ⟨rfl,by decide⟩
  ·exact .inr ⟨h1,h2,rfl,rfl,rfl,(fun hu=>by show (if ud i=true then (100:Int) else _)≤100;rw [if_pos hu];exact Int.le_refl _),by simp⟩
 ·obtain⟨i,h1,h2,rfl⟩:=rvLe_mem hl
  exact⟨i,h1,h2,rfl,rfl,rfl,rfl,rfl,(fun hu=>by show (if ud i=true then (100:Int) else _)≤100;rw [if_pos hu];exact Int.le_refl _),(fun hu=>by show (if ud i=true then (100:Int) else _)=1100;rw [if_neg (by rw [hu];decide)]),by simp⟩
theorem tree_start (h0:ud 0=false) (hpa:∀ i,1≤i→i≤m→pa i<i) (hiT:(rvTk pa ud m).Pairwise (fun a b=>a.n<b.n)) (hiL:(rvLe ud m).Pairwise (fun a b=>a.n<b.n)):Tree ⟨m,m+1,rvTk pa ud m,rvLe ud m⟩:=by
 refine⟨hiT,hiL,fun t ht=>?_,fun l hl=>?_,fun t ht hn=>?_⟩
 ·rcases rvTk_mem h0 ht with rfl | ⟨i,h1,h2,rfl⟩
  ·exact .inl rfl
  ·exact .inr ⟨rfl,rvTk_has (pa i) (by have:=hpa i h1 h2;omega)⟩
 ·obtain⟨i,h1,h2,rfl⟩:=rvLe_mem hl
  exact⟨rfl,rvTk_has i h2⟩
 ·rcases rvTk_mem h0 ht with rfl | ⟨i,h1,h2,rfl⟩
  ·rfl
  ·simp only at hn;omega
theorem trB_start (h0:ud 0=false):TrB 0 ⟨m,m+1,rvTk pa ud m,rvLe ud m⟩:=by
 refine⟨fun t ht=>?_,fun l hl=>?_⟩
 ·rcases rvTk_mem h0 ht with rfl | ⟨i,h1,h2,rfl⟩ <;> exact⟨Int.le_refl _,Int.le_refl _⟩
 ·obtain⟨i,h1,h2,rfl⟩:=rvLe_mem hl
  exact⟨Int.le_refl _,Int.le_refl _⟩
def cntU (ud:Nat→Bool):Nat→Nat
 | 0=>0
 | j+1=>cntU ud j+if ud (j+1)=true then 1 else 0
def allU (ud:Nat→Bool):Nat→List (Int × Nat)
 | 0=>[]
 | j+1=>allU ud j++if ud (j+1)=true then [((1:Int),j+1),((2:Int),j+2)] else []
theorem cntU_le (ud:Nat→Bool):∀ j,cntU ud j≤j
 | 0=>Nat.le_refl _
 | j+1=>by
  have:=cntU_le ud j;rw [cntU]
  split <;> omega
theorem allU_len (ud:Nat→Bool):∀ j,(allU ud j).length=2*cntU ud j
 | 0=>rfl
 | j+1=>by
  rw [allU,cntU,List.length_append,allU_len ud j]
  split
  ·simp only [List.length_cons,List.length_nil];omega
  ·simp
theorem mem_allU (ud:Nat→Bool):∀ {j:Nat} {x:Int × Nat},x∈allU ud j↔∃ i,1≤i∧i≤j∧ud i=true∧(x=((1:Int),i)∨x=((2:Int),i+1))
 | 0,x=>by
  constructor
  ·intro h;cases h
  ·rintro⟨i,h1,h2,-⟩;omega
 | j+1,x=>by
  rw [allU,List.mem_append,mem_allU ud]
  constructor
  ·rintro(⟨i,h1,h2,h3⟩ | h)
   ·exact⟨i,h1,by omega,h3⟩
   ·by_cases hu:ud (j+1)=true
    ·rw [if_pos hu] at h
     exact⟨j+1,by omega,Nat.le_refl _,hu,by simpa using h⟩
    ·rw [if_neg hu] at h;cases h
  ·rintro⟨i,h1,h2,h3,h4⟩
   by_cases e:i=j+1
   ·subst e
    right
    rw [if_pos h3]
    simpa using h4
   ·exact .inl ⟨i,h1,by omega,h3,h4⟩
theorem allU_nodup (ud:Nat→Bool):∀ j,(allU ud j).Nodup
 | 0=>List.nodup_nil
 | j+1=>by
  rw [allU]
  by_cases hu:ud (j+1)=true
  ·rw [if_pos hu]
   refine List.nodup_append.2 ⟨allU_nodup ud j,by simp,fun y hy z hz e=>?_⟩;obtain⟨i,h1,h2,-,h4⟩:=(mem_allU ud).1 hy;subst e
   rcases h4 with rfl | rfl
   ·have:i=j+1:=by simpa using hz
    omega
   ·have:i=j+1:=by simpa using hz
    omega
  ·rw [if_neg hu,List.append_nil];exact allU_nodup ud j
variable {T:Int} {s:VSt} {G:List (Int × Nat)}
theorem ClS.le (h:ClS m pa ud T s G):G.length≤2*cntU ud m:=by
 rw [← allU_len];exact h.nd.length_le_of_subset (fun x hx=>(mem_allU ud).2 (h.mem x hx))
theorem ClS.full (h:ClS m pa ud T s G) (hall:∀ i,1≤i→i≤m→ud i=true→((2:Int),i+1)∈G∧((1:Int),i)∈G):G.length=2*cntU ud m:=by
 refine Nat.le_antisymm h.le ?_;rw [← allU_len];refine(allU_nodup ud m).length_le_of_subset (fun x hx=>?_);obtain⟨i,h1,h2,h3,h4⟩:=(mem_allU ud).1 hx
 rcases h4 with rfl | rfl
 ·exact(hall i h1 h2 h3).2
 ·exact(hall i h1 h2 h3).1
theorem ClS.all {tm:Int} (h:ClS m pa ud T s G) (W:Wood m pa ud) (hT:T≤tm) (hA:QAll tm s []):G.length=2*cntU ud m:=h.full (fun i h1 h2 hu=>by
 by_cases hm:m=0
 ·omega
 ·obtain⟨a,b⟩:=h.none W hT hA (m-1) 1 (by omega) (Nat.le_refl _)
  by_cases e:i=1
  ·subst e;exact a hu
  ·exact b i (by omega) h2 hu)
def dnm (G:List (Int × Nat)) (i:Nat):List UInt8:=match G[i]? with
 | some x=>nmStr x.1 x.2
 | none=>[]
theorem dnm_at {i:Nat} {x:Int × Nat} (h:G[i]? = some x):dnm G i=nmStr x.1 x.2:=by unfold dnm;rw [h]
theorem ClS.num (h:ClS m pa ud T s G) (hm:m≤1000) {i:Nat} {x:Int × Nat} (hx:G[i]? = some x):∃ tk:Bool,x.1=kd tk∧x.2<u64lim:=by
 obtain⟨j,h1,h2,-,h4⟩:=h.mem x (List.mem_of_getElem? hx)
 rcases h4 with rfl | rfl
 ·exact⟨true,rfl,by show j<u64lim;unfold u64lim;omega⟩
 ·exact⟨false,rfl,by show j+1<u64lim;unfold u64lim;omega⟩
theorem dnm_inj (h:ClS m pa ud T s G) (hm:m≤1000) {i:Nat} {x:Int × Nat} (hx:G[i]? = some x) (b:Bool) (n:Nat) (hn:n≤2000) (e:dnm G i=nmStr (kd b) n):x=(kd b,n):=by
 obtain⟨tk,h1,h2⟩:=h.num hm hx;rw [dnm_at hx,h1] at e;obtain⟨e1,e2⟩:=nmStr_inj h2 (by unfold u64lim;omega) e;exact Prod.ext (by rw [h1,e1]) e2
theorem nodup_at {α:Type} {l:List α} (h:l.Nodup) {i j:Nat} {x:α} (hi:l[i]? = some x) (hj:l[j]? = some x):i=j:=by
 obtain⟨a,e1⟩:=List.getElem?_eq_some_iff.1 hi;obtain⟨b,e2⟩:=List.getElem?_eq_some_iff.1 hj;have hp:=List.pairwise_iff_getElem.1 h
 rcases Nat.lt_trichotomy i j with hlt | he | hlt
 ·exact absurd (e1.trans e2.symm) (hp i j a b hlt)
 ·exact he
 ·exact absurd (e2.trans e1.symm) (hp j i b a hlt)
theorem ClS.ordOk (h:ClS m pa ud T s G) (hm:m≤1000):OrdOk G.length m (dnm G) (fun i=>nmStr 1 i) (fun i=>nmStr 2 (i+2)) (fun i=>if i=0 then -1 else (pa i:Int)) ud:=by
 have at_:∀ i,i<G.length→∃ x,G[i]? = some x:=fun i hi=>⟨G[i],by simp [hi]⟩
 refine⟨fun i hi j hj e=>?_,fun k hk i hi e1 e2=>?_,fun i hi k hk e=>?_,fun i hi=>?_,fun i hi k hk e j hij hj q hq=>?_⟩
 ·obtain⟨x,hx⟩:=at_ i hi
  obtain⟨y,hy⟩:=at_ j (by omega);obtain⟨tk,h1,h2⟩:=h.num hm hx;rw [dnm_at hx,dnm_at hy] at e;obtain⟨tk',h1',h2'⟩:=h.num hm hy;rw [h1,h1'] at e;obtain⟨e1,e2⟩:=nmStr_inj h2' h2 e;have:y=x:=Prod.ext (by rw [h1,h1',e1]) e2;subst this;have:=nodup_at h.nd hx hy;omega
 ·obtain⟨x,hx⟩:=at_ i hi
  have a:=dnm_inj h hm hx false (k+2) (by omega) e1;have b:=dnm_inj h hm hx true (k+1) (by omega) e2;rw [a] at b;exact absurd (Prod.mk.inj b).1 (by decide)
 ·obtain⟨x,hx⟩:=at_ i hi
  rcases e with e | e
  ·have a:=dnm_inj h hm hx false (k+2) (by omega) e
   obtain⟨z,h1,h2,h3,h4⟩:=h.mem x (List.mem_of_getElem? hx)
   rcases h4 with h4 | h4
   ·rw [a] at h4;exact absurd (Prod.mk.inj h4).1 (by decide)
   ·rw [a] at h4
    have:=(Prod.mk.inj h4).2;rw [show k+1=z by omega];exact h3
  ·have a:=dnm_inj h hm hx true (k+1) (by omega) e
   obtain⟨z,h1,h2,h3,h4⟩:=h.mem x (List.mem_of_getElem? hx)
   rcases h4 with h4 | h4
   ·rw [a] at h4
    have:=(Prod.mk.inj h4).2;rw [show k+1=z by omega];exact h3
   ·rw [a] at h4;exact absurd (Prod.mk.inj h4).1 (by decide)
 ·obtain⟨x,hx⟩:=at_ i hi
  obtain⟨z,h1,h2,h3,h4⟩:=h.mem x (List.mem_of_getElem? hx);refine⟨z-1,by omega,?_⟩;rw [dnm_at hx]
  rcases h4 with rfl | rfl
  ·right;show nmStr 1 z=nmStr 1 (z-1+1);rw [show z-1+1=z by omega]
  ·left;show nmStr 2 (z+1)=nmStr 2 (z-1+2);rw [show z-1+2=z+1 by omega]
 ·obtain⟨x,hx⟩:=at_ i hi
  obtain⟨y,hy⟩:=at_ j hj;have a:=dnm_inj h hm hx true (k+1) (by omega) e;subst a;obtain⟨hli,hxe⟩:=List.getElem?_eq_some_iff.1 hx
  have hsp:G=G.take i++((1:Int),k+1) :: G.drop (i+1):=by
   have:=List.take_append_drop i G;rw [List.drop_eq_getElem_cons hli,hxe] at this;exact this.symm
  obtain⟨o1,o2⟩:=h.ord _ _ _ hsp
  have hlow:∀ z,z∈G.take i→y=z→False:=fun z hz e'=>by
   obtain⟨p,hp⟩:=List.mem_iff_getElem?.1 hz
   have hpi:p<i:=by
    have:=(List.getElem?_eq_some_iff.1 hp).1;simp at this;omega
   rw [List.getElem?_take,if_pos hpi] at hp;subst e';have:=nodup_at h.nd hp hy;omega
  refine⟨fun e1 eq=>?_,fun e1 eq=>?_⟩
  ·subst eq
   exact hlow _ o1 (dnm_inj h hm hy false (q+2) (by omega) e1)
  ·rw [if_neg (by omega)] at eq
   exact hlow _ (o2 (q+1) (by omega) (by omega) (by omega)) (dnm_inj h hm hy true (q+1) (by omega) e1)
end
end Go.Proofs
namespace Go.Proofs
open Go.RowKit Go.Sort Go.Lib Go.Shelf Go.Maps Go.WideMaps
theorem Tryz.intInfo:(prog.info? 3).map (fun i=>(i.zero,i.size,i.bytes))=some (some (.int .i64 0),1,8):=by kernel_rfl
theorem Tryz.boolInfo:(prog.info? 4).map (fun i=>(i.zero,i.size,i.bytes))=some (some (.bool false),1,1):=by kernel_rfl
theorem Tryz.Sys.ownBox {B hb rb:Nat} {σ:SS} {W W':World} (h:Sys B W hb rb σ) {g:Nat} {t:TypeId} {cs:Array Value} (hB:BoxN W g t cs) (g9:9≤g) (ht:t=3∨t=4) (hs:Spares [g] W W'):Sys B W' hb rb σ:=by
 obtain⟨fd,fn,hd,e1,e2⟩:=h.wh.d;obtain⟨n1,-,m1⟩:=h.wh.v.va.held.mapT;obtain⟨n2,-,m2⟩:=h.wh.v.va.held.mapL;obtain⟨n3,-,m3⟩:=hd.dm;obtain⟨n4,-,m4⟩:=hd.nm;obtain⟨ra,rc,hr⟩:=h.rvb
 have nf:∀(q:Nat × List UInt8),BoxN W q.1 9 #[.string ⟨q.2.toArray⟩]→q.1 ∉ [g]:=fun q hb' hm=>by
  have:=hb'.ne hB (by rcases ht with rfl | rfl <;> decide);exact this (List.mem_singleton.1 hm)
 have hB9:Below 9 W W':=hs.below h.nine (fun b hb=>by rw [List.mem_singleton.1 hb];exact g9)
 have tn:∀ b∈σ.k.turns,b ∉ [g]:=fun b hb hm=>by
  rw [List.mem_singleton.1 hm] at hb;exact h.wh.no hB (by rcases ht with rfl | rfl <;> decide) (by rcases ht with rfl | rfl <;> decide) hb
 have hd':=hd.spared hs (tn _ (by simp [Blk.turns])) (tn _ (by simp [Blk.turns])) (tn _ (by simp [Blk.turns])) (fun q hq=>nf q (hd.sd q hq)) (fun q hq=>nf q (hd.sn q hq));have hv:=h.wh.v.spared hs (tn _ (by simp [Blk.turns])) (tn _ (by simp [Blk.turns])) (tn _ (by simp [Blk.turns])) (fun b hb=>by rw [List.mem_singleton.1 hb];omega)
 exact { h with
  host:=hs.box h.host (by simpa using h.host.ne hB (by rcases ht with rfl | rfl <;> decide)),
  wh:={ h.wh with v:=hv,j:=hs.box h.wh.j (by simpa using h.wh.j.ne hB (by rcases ht with rfl | rfl <;> decide)),d:=⟨fd,fn,hd',e1,e2⟩ },
  err:=h.err.below hB9,
  rvb:=⟨ra,rc,hs.box hr (by simpa using hr.ne hB (by rcases ht with rfl | rfl <;> decide))⟩,
  due:=hs.row' h.due (fun b hb hm=>by
   obtain⟨-,cur,hcu⟩:=row_box h.due hb;rw [List.mem_singleton.1 hm] at hcu
   exact hcu.ne hB (by rcases ht with rfl | rfl <;> decide) rfl) }
theorem Tryz.Sys.grewI {B hb rb:Nat} {σ:SS} {W W':World} (h:Sys B W hb rb σ) {v:Value} {n:Nat} {xs:List Value} (hr:W.ownsRow B 3 1 v n xs) (hg:W.grownBy W' v.ownBlock):Sys B W' hb rb σ:=by
 cases hv:v.ownBlock with
 | none =>
  rw [hv] at hg;exact h.below ⟨hg.os,hg.tape,hg.output,hg.size,fun k hk=>hg.block k hk (by simp)⟩
 | some g =>
  rw [hv] at hg;obtain⟨hge,cur,hcu⟩:=row_box hr hv;exact h.ownBox hcu (Nat.le_trans h.b9 hge) (.inl rfl) ⟨hg.os,hg.tape,hg.output,hg.size,fun k hk hn'=>hg.block k hk (fun e=>hn' (by injection e with e;simp [e]))⟩
def idV:Nat→List Value
 | 0=>[.string ⟨#[116,48]⟩]
 | j+1=>idV j ++ [.string ⟨(nmStr 1 (j+1)).toArray⟩]
def ofV (pa:Nat→Nat):Nat→List Value
 | 0=>[.int .i64 (-1)]
 | j+1=>ofV pa j ++ [.int .i64 (pa (j+1))]
theorem idV_len:∀ j,(idV j).length=j+1
 | 0=>rfl
 | j+1=>by rw [idV,List.length_append,idV_len j];rfl
theorem ofV_len (pa:Nat→Nat):∀ j,(ofV pa j).length=j+1
 | 0=>rfl
 | j+1=>by rw [ofV,List.length_append,ofV_len pa j];rfl
theorem idV_get:∀(j i:Nat),i≤j→(idV j)[i]? = some (.string ⟨(nmStr 1 i).toArray⟩)
 | 0,i,h=>by
  obtain rfl:i=0:=by omega
  show some (Value.string ⟨#[116,48]⟩)=_
  rw [nm_t0]
 | j+1,i,h=>by
  rw [idV]
  by_cases e:i=j+1
  ·subst e
   rw [List.getElem?_append_right (by rw [idV_len];exact Nat.le_refl _),idV_len];simp
  ·rw [List.getElem?_append_left (by rw [idV_len];omega)]
   exact idV_get j i (by omega)
theorem ofV_get (pa:Nat→Nat):∀(j i:Nat),i≤j→(ofV pa j)[i]? = some (.int .i64 (if i=0 then -1 else (pa i:Int)))
 | 0,i,h=>by
  obtain rfl:i=0:=by omega
  rfl
 | j+1,i,h=>by
  rw [ofV]
  by_cases e:i=j+1
  ·subst e
   rw [List.getElem?_append_right (by rw [ofV_len];exact Nat.le_refl _),ofV_len,if_neg (by omega)];simp
  ·rw [List.getElem?_append_left (by rw [ofV_len];omega)]
   exact ofV_get pa j i (by omega)
theorem row_new {W:World} {B:Nat} (hB:B≤W.heap.size) (t:TypeId) (x:Value):(W.alloc (.cells #[x] t)).ownsRow B t 1 (.slice (some ⟨W.heap.size,0,none⟩) 1 1) 1 [x]:=
 ⟨rfl,.inr ⟨W.heap.size,1,#[x],rfl,hB,BoxN.new W t #[x],by decide,by decide,rfl,rfl⟩⟩
def IntIn (W:World) (a0:Option Addr) (us:List Int):Prop:=∀(i:Nat) (u:Int),us[i]? = some u→∃ q off,a0=some ⟨q,off,none⟩∧q<W.heap.size∧W.cell? ⟨q,off+i,none⟩=some (.int .i64 u)
def paU (us:List Int) (i:Nat):Nat:=(pickI ((us[i-1]?).getD 0) (i:Int)).toNat
theorem paU_lt (us:List Int) (i:Nat) (h:1≤i):paU us i<i:=by
 obtain⟨k,h1,h2⟩:=pick_nat ((us[i-1]?).getD 0) i (by omega);unfold paU;rw [h1];omega
theorem paU_at {us:List Int} {j:Nat} {u:Int} (h:us[j]? = some u):pickI u ((j+1:Nat):Int)=(paU us (j+1):Int):=by
 obtain⟨k,h1,h2⟩:=pick_nat u ((j+1:Nat):Int) (by omega);unfold paU;rw [Nat.add_sub_cancel,h]
 show _=((pickI u _).toNat:Int)
 rw [h1];rfl
theorem len_stepD {a b c j:Nat} (h1:a≤b+1300000) (h2:b≤c+1300000) (h3:c≤300000000+2600000*j):a≤300000000+2600000*(j+1):=by
 rw [Nat.mul_succ,← Nat.add_assoc];refine Nat.le_trans h1 (Nat.le_trans (Nat.add_le_add_right (Nat.le_trans h2 (Nat.add_le_add_right h3 1300000)) 1300000) ?_);exact Nat.le_of_eq (Nat.add_assoc _ 1300000 1300000)
end Go.Proofs
namespace Go.Proofs
open Go.RowKit Go.Sort Go.Lib Go.Shelf Go.Maps
section
variable {m:Nat} {pa:Nat→Nat} {ud:Nat→Bool} {G:List (Int × Nat)}
theorem tick_round (W:Wood m pa ud) {now M f:Int} {s:VSt} {c:List UInt8} {b:TS} (hC:ClS m pa ud now s G) (hT:Tree s) (h0:0≤now) (h1:now<1100) (hg:Going now M ⟨s,s.tks.flatMap (dueT s now)++s.lks.flatMap (dueL now),f,c,[]⟩) (h:Tries now ⟨s,s.tks.flatMap (dueT s now)++s.lks.flatMap (dueL now),f,c,[]⟩ b) (hq:b.q = []):ClS m pa ud (now+32) b.s (G++succs f b.cl)∧(f=0→(G++succs f b.cl).length=2*cntU ud m):=by
 have hU:=hC.start hT.root h1
 constructor
 ·obtain⟨d,M',e1,-,e3,-⟩:=h.wood W hg hC hU h0 (by omega)
  have e1:b.cl=d:=by simpa using e1
  rw [e1];rw [show max now (now+32)=now+32 by omega] at e3;exact e3
 ·intro hf
  subst hf;obtain⟨d,M',e1,-,e3,-,-,e6⟩:=h.clear W hg rfl hC hU (QAll.start now s)
  have e1:b.cl=d:=by simpa using e1
  rw [e1,succs_zero];rw [hq] at e6;exact e3.all W (Int.le_refl _) e6
end
def bitsD (b:Int):Nat→Int
 | 0=>b
 | r+1=>bitsD b r / 8
theorem bitsD_pos {b:Int} (h:0≤b):∀ r,0≤bitsD b r
 | 0=>h
 | r+1=>Int.ediv_nonneg (bitsD_pos h r) (by decide)
theorem bitsD_le {b:Int} (h:0≤b):∀ r,bitsD b r≤b
 | 0=>Int.le_refl _
 | r+1=>by
  have h1:=bitsD_le h r;have h2:=bitsD_pos h r
  show bitsD b r / 8≤b
  omega
theorem bitsD_end {b:Int} (h0:0≤b) (h1:b<1048576):bitsD b 7=0:=by
 simp only [bitsD];omega
theorem flN_bits (v:Int) (h:0≤v) (h7:v≤7):flN v 0=v∧flN v 1=v / 2∧flN v 2=v / 4∧∀ k,flN v (k+3)=0:=by
 refine⟨rfl,rfl,?_,fun k=>?_⟩
 ·show v / 2 / 2=v / 4
  omega
 ·show flN (v / 2 / 2 / 2) k=0
  rw [show v / 2 / 2 / 2=0 by omega];exact flN_zero k
theorem succs_take {f:Int} {d:List (Int × Nat)} {k:Nat} {x:Int × Nat} (h:d[k]? = some x):succs f (d.take (k+1))=succs f (d.take k)++(if (flN f k % 2==1)=true then [] else [x]):=by
 rw [take_snoc h,succs_snoc,List.length_take,Nat.min_eq_left (Nat.le_of_lt (List.getElem?_eq_some_iff.1 h).1)]
section
variable {m:Nat} {pa:Nat→Nat} {ud:Nat→Bool} {T tm:Int} {G:List (Int × Nat)}
theorem Subj.apart {s:VSt} (hC:ClS m pa ud T s G) {t:TurnD} {it:Item} {tk:Bool} {n un:Nat} (hs:Subj tm s t it tk n un):(kdB tk,n)∉G∧n≤m+1:=by
 cases hs with
 | tok x hx hk =>
  rcases hC.tok x hx with e | ⟨-,g0,-,-,-,-,g⟩
  ·exact absurd hk e.2
  ·exact⟨g,by omega⟩
 | lea x hx hk =>
  obtain⟨i,-,q2,q3,-,-,-,-,-,-,q10⟩:=hC.lea x hx;rw [← q3] at q10;exact⟨q10,by omega⟩
theorem Tries.apart {a b:TS} (h:Tries tm a b) (W:Wood m pa ud) {M:Int} (hg:Going tm M a) (hC:ClS m pa ud T a.s G) (hq:QUd ud a.q) (t0:0≤tm) (htm:tm≤1000000):∀ d,b.cl=a.cl++d→∀ x∈d,x∉G∧x.2≤m+1:=by
 induction h with
 | refl =>
  intro d hd
  have:d = []:=by simpa using hd
  subst this;intro x hx;cases hx
 | @step b c h h1 ih =>
  intro d hd x hx;obtain⟨d',M',hcl,-,hC',-,-⟩:=h.wood W hg hC hq t0 htm
  have key:∀ {t:TurnD} {it:Item} {tk:Bool} {n un:Nat},Subj tm b.s t it tk n un→c.cl=b.cl ++ [(kdB tk,n)]→x∉G∧x.2≤m+1:=fun hs hc=>by
   rw [hc,hcl,List.append_assoc] at hd;have hd:=(List.append_cancel_left hd).symm;rw [hd] at hx
   rcases List.mem_append.1 hx with hx | hx
   ·exact ih d' hcl x hx
   ·rw [List.mem_singleton.1 hx]
    exact⟨fun hm=>(hs.apart hC').1 (List.mem_append_left _ hm),(hs.apart hC').2⟩
  cases h1 with
  | fail hs hp hl ho hqq=>exact key hs rfl
  | ok hs hp hl ho hqq=>exact key hs rfl
theorem tick_apart (W:Wood m pa ud) {now M f:Int} {s:VSt} {c:List UInt8} {b:TS} (hC:ClS m pa ud now s G) (hT:Tree s) (h0:0≤now) (h1:now<1100) (hg:Going now M ⟨s,s.tks.flatMap (dueT s now)++s.lks.flatMap (dueL now),f,c,[]⟩) (h:Tries now ⟨s,s.tks.flatMap (dueT s now)++s.lks.flatMap (dueL now),f,c,[]⟩ b):∀ x∈b.cl,x∉G∧x.2≤m+1:=h.apart W hg hC (hC.start hT.root h1) h0 (by omega) b.cl (by simp)
theorem Tries.named {a b:TS} (h:Tries tm a b) (hn:∀ x∈a.cl,∃ tk:Bool,x.1=kd tk):∀ x∈b.cl,∃ tk:Bool,x.1=kd tk:=by
 induction h with
 | refl=>exact hn
 | @step b c h h1 ih =>
  cases h1 with
  | @fail t q' q'' it tk n un hs hp hl ho hqq =>
   intro x hx
   rcases List.mem_append.1 hx with hx | hx
   ·exact ih x hx
   ·rw [List.mem_singleton.1 hx];exact⟨tk,rfl⟩
  | @ok t q' q'' it tk n un hs hp hl ho hqq =>
   intro x hx
   rcases List.mem_append.1 hx with hx | hx
   ·exact ih x hx
   ·rw [List.mem_singleton.1 hx];exact⟨tk,rfl⟩
end
end Go.Proofs
