import Derived.Test.YtjbekgjdempbiaaGreatDoorJFndA
import Derived.BigQuiet
import Derived.Test.YtjbekgjdempbiaaGreatDoorJTkO
import Derived.Test.YtjbekgjdempbiaaGreatDoorJTkA
import Derived.Test.YtjbekgjdempbiaaGreatDoorJRel
import Derived.Test.YtjbekgjdempbiaaGreatDoorJRvD
import Derived.Test.YtjbekgjdempbiaaGreatDoorJCodeE
import Derived.Test.YtjbekgjdempbiaaGreatDoorJRvC
set_option maxRecDepth 100000
set_option maxHeartbeats 8000000
namespace Go.Proofs
open Go.RowKit Go.Sort Go.Lib Go.Shelf
def StrRow (W:World) (v:Value) (xs:List (List UInt8)):Prop:=
 ∃ p cap,v=.slice p xs.length cap∧∀(k:Nat) (x:List UInt8),xs[k]? = some x→∃ q,p=some ⟨q,0,none⟩∧q<W.heap.size∧W.cell? ⟨q,k,none⟩=some (.string ⟨x.toArray⟩)
def hasB (xs:List (List UInt8)) (id:List UInt8):Bool:=xs.any (fun x=>x==id)
theorem hasB_snoc (xs:List (List UInt8)) (x id:List UInt8):hasB (xs ++ [x]) id=(hasB xs id||(x==id)):=by simp [hasB]
def dueB (tm:Int) (L:List ThingD) (xs:List (List UInt8)) (t:ThingD):Bool:=
 t.state tm==2&&(decide (t.at_≤tm)&&((!t.token||freeI t.n L) && !hasB xs t.id))
def firstB (t u:ThingD):Bool:=decide (t.at_<u.at_)||(t.at_==u.at_&&((!t.token&&u.token)||(t.token==u.token&&decide ((t.n:Int)<u.n))))
def dueK (p:ThingD→Bool) (L:List ThingD):Nat→Option Nat
 | 0=>none
 | k+1=>match L[k]? with
  | none=>dueK p L k
  | some t=>if p t then (match dueK p L k with
    | none=>some k
    | some b=>match L[b]? with
     | none=>some k
     | some u=>if firstB t u then some k else some b) else dueK p L k
def dueV:Option Nat→Int
 | none=>-1
 | some k=>k
theorem dueK_skip {p:ThingD→Bool} {L:List ThingD} {k:Nat} {t:ThingD} (ht:L[k]? = some t) (hp:p t=false):dueK p L (k+1)=dueK p L k:=by
 simp [dueK,ht,hp]
theorem dueK_new {p:ThingD→Bool} {L:List ThingD} {k:Nat} {t:ThingD} (ht:L[k]? = some t) (hp:p t=true) (hn:dueK p L k=none):dueK p L (k+1)=some k:=by
 simp [dueK,ht,hp,hn]
theorem dueK_old {p:ThingD→Bool} {L:List ThingD} {k b:Nat} {t u:ThingD} (ht:L[k]? = some t) (hp:p t=true) (hn:dueK p L k=some b) (hu:L[b]? = some u):dueK p L (k+1)=if firstB t u then some k else some b:=by
 simp [dueK,ht,hp,hn,hu]
def dueI (tm:Int) (L:List ThingD) (xs:List (List UInt8)):Option Nat:=dueK (dueB tm L xs) L L.length
end Go.Proofs
namespace Go.Proofs
open Go.RowKit Go.Sort Go.Lib Go.Shelf Go.Maps
def ThingD.turn (t:ThingD):TurnD:=⟨t.at_,kdB t.token,t.n⟩
theorem firstB_turn (t u:ThingD):firstB t u=true↔ltT t.turn u.turn:=by
 unfold firstB ltT ThingD.turn kdB
 cases t.token <;> cases u.token <;> simp <;> omega
theorem dueK_spec (p:ThingD→Bool) (L:List ThingD):∀ k,match dueK p L k with
  | none=>∀ i t,i<k→L[i]? = some t→p t=false
  | some b=>∃ u,L[b]? = some u∧p u=true∧∀ i t,i<k→L[i]? = some t→p t=true→firstB t u=false
 | 0=>fun i t h=>by omega
 | k+1=>by
  have ih:=dueK_spec p L k
  cases hk:L[k]? with
  | none =>
   have hlen:L.length≤k:=List.getElem?_eq_none_iff.1 hk
   have e:dueK p L (k+1)=dueK p L k:=by simp [dueK,hk]
   rw [e]
   cases hd:dueK p L k with
   | none =>
    rw [hd] at ih
    exact fun i t hi ht=>ih i t (by have:=(List.getElem?_eq_some_iff.1 ht).1;omega) ht
   | some b =>
    rw [hd] at ih;obtain⟨u,h1,h2,h3⟩:=ih;exact⟨u,h1,h2,fun i t hi ht=>h3 i t (by have:=(List.getElem?_eq_some_iff.1 ht).1;omega) ht⟩
  | some x =>
   by_cases hp:p x=true
   ·cases hd:dueK p L k with
    | none =>
     rw [hd] at ih;rw [dueK_new hk hp hd];refine⟨x,hk,hp,fun i t hi ht hpt=>?_⟩
     by_cases e:i=k
     ·subst e
      rw [hk] at ht;cases ht;simp [firstB]
     ·rw [ih i t (by omega) ht] at hpt
      cases hpt
    | some b =>
     rw [hd] at ih;obtain⟨u,h1,h2,h3⟩:=ih;rw [dueK_old hk hp hd h1]
     by_cases hf:firstB x u=true
     ·rw [if_pos hf]
      refine⟨x,hk,hp,fun i t hi ht hpt=>?_⟩
      by_cases e:i=k
      ·subst e
       rw [hk] at ht;cases ht;simp [firstB]
      ·have h4:=h3 i t (by omega) ht hpt
       rw [Bool.eq_false_iff] at h4 ⊢;intro h5;apply h4;rw [firstB_turn] at hf h5 ⊢;unfold ltT at *;omega
     ·rw [if_neg hf]
      refine⟨u,h1,h2,fun i t hi ht hpt=>?_⟩
      by_cases e:i=k
      ·subst e
       rw [hk] at ht;cases ht
       simpa using hf
      ·exact h3 i t (by omega) ht hpt
   ·have hp':p x=false:=by simpa using hp
    rw [dueK_skip hk hp']
    cases hd:dueK p L k with
    | none =>
     rw [hd] at ih;intro i t hi ht
     by_cases e:i=k
     ·subst e
      rw [hk] at ht;cases ht;exact hp'
     ·exact ih i t (by omega) ht
    | some b =>
     rw [hd] at ih;obtain⟨u,h1,h2,h3⟩:=ih;refine⟨u,h1,h2,fun i t hi ht hpt=>?_⟩
     by_cases e:i=k
     ·subst e
      rw [hk] at ht;cases ht;rw [hp'] at hpt;cases hpt
     ·exact h3 i t (by omega) ht hpt
theorem dueI_of {tm:Int} {L:List ThingD} {xs:List (List UInt8)} {i:Nat} {th:ThingD} (hi:L[i]? = some th) (hp:dueB tm L xs th=true) (hmin:∀ u∈L,dueB tm L xs u=true→firstB u th=false) (huq:∀ j u,L[j]? = some u→u.token=th.token→u.n=th.n→j=i):dueI tm L xs=some i:=by
 have hs:=dueK_spec (dueB tm L xs) L L.length;unfold dueI
 cases hd:dueK (dueB tm L xs) L L.length with
 | none =>
  rw [hd] at hs;rw [hs i th (List.getElem?_eq_some_iff.1 hi).1 hi] at hp;cases hp
 | some b =>
  rw [hd] at hs;obtain⟨u,h1,h2,h3⟩:=hs;have h4:=h3 i th (List.getElem?_eq_some_iff.1 hi).1 hi hp;have h5:=hmin u (List.mem_of_getElem? h1) h2;rw [Bool.eq_false_iff] at h4 h5;rw [Ne,firstB_turn] at h4 h5;unfold ltT ThingD.turn kdB at h4 h5
  have e:u.token=th.token∧u.n=th.n:=by
   cases ht:u.token <;> cases hv:th.token <;> simp [ht,hv] at h4 h5 ⊢ <;> omega
  rw [huq b u h1 e.1 e.2]
theorem dueI_none {tm:Int} {L:List ThingD} {xs:List (List UInt8)} (h:∀ u∈L,dueB tm L xs u=false):dueI tm L xs=none:=by
 have hs:=dueK_spec (dueB tm L xs) L L.length;unfold dueI
 cases hd:dueK (dueB tm L xs) L L.length with
 | none=>rfl
 | some b =>
  rw [hd] at hs;obtain⟨u,h1,h2,-⟩:=hs;rw [h u (List.mem_of_getElem? h1)] at h2;cases h2
theorem pw_nodup {α:Type} {f:α→Nat} {l:List α} (h:l.Pairwise (fun a b=>f a<f b)):l.Nodup:=h.imp (fun hab e=>by rw [e] at hab;omega)
theorem nodup_parts {α:Type} (p:α→Bool):∀ {L:List α},(L.filter p).Nodup→(L.filter (fun x=>!p x)).Nodup→L.Nodup
 | [],_,_=>List.nodup_nil
 | a :: L,h1,h2=>by
  cases hp:p a
  ·rw [List.filter_cons_of_neg (by simp [hp])] at h1
   rw [List.filter_cons_of_pos (by simp [hp])] at h2;obtain⟨h3,h4⟩:=List.nodup_cons.1 h2;exact List.nodup_cons.2 ⟨fun hm=>h3 (List.mem_filter.2 ⟨hm,by simp [hp]⟩),nodup_parts p h1 h4⟩
  ·rw [List.filter_cons_of_pos (by simp [hp])] at h1
   rw [List.filter_cons_of_neg (by simp [hp])] at h2;obtain⟨h3,h4⟩:=List.nodup_cons.1 h1;exact List.nodup_cons.2 ⟨fun hm=>h3 (List.mem_filter.2 ⟨hm,by simp [hp]⟩),nodup_parts p h4 h2⟩
theorem map_pw {α β:Type} (g:α→β) (f:α→Nat) (k:β→Nat) (hk:∀ a,k (g a)=f a) {l:List α} (h:l.Pairwise (fun a b=>f a<f b)):(l.map g).Pairwise (fun a b=>k a<k b):=by
 rw [List.pairwise_map];exact h.imp (fun hab=>by rw [hk,hk];exact hab)
section
variable {tks:List TokE} {lks:List LeaE} {L:List ThingD}
theorem Rel.nodup (h:Rel tks lks L) (h1:tks.Pairwise (fun a b=>a.n<b.n)) (h2:lks.Pairwise (fun a b=>a.n<b.n)):L.Nodup:=by
 refine nodup_parts (fun t=>t.token==true) ?_ ?_
 ·rw [h.toks]
  exact pw_nodup (map_pw thT TokE.n ThingD.n (fun _=>rfl) h1)
 ·have e:(fun t:ThingD=>!(t.token==true))=fun t=>t.token==false:=by funext t;cases t.token <;> rfl
  rw [e,h.leas];exact pw_nodup (map_pw thL LeaE.n ThingD.n (fun _=>rfl) h2)
theorem Rel.idx (h:Rel tks lks L) (ok:ListsOk tks lks) {i j:Nat} {x y:ThingD} (hi:L[i]? = some x) (hj:L[j]? = some y) (ht:y.token=x.token) (hn:y.n=x.n):j=i:=by
 have e:=h.uniq ok (List.mem_of_getElem? hj) (List.mem_of_getElem? hi) ht hn;subst e;have hnd:=h.nodup ok.incT ok.incL;obtain⟨a1,a2⟩:=List.getElem?_eq_some_iff.1 hi;obtain⟨b1,b2⟩:=List.getElem?_eq_some_iff.1 hj;exact(List.getElem_inj hnd).1 (b2.trans a2.symm)
theorem Rel.free {s:VSt} (h:Rel s.tks s.lks L) (n:Nat):freeI (n:Int) L = !hasU s n:=by
 unfold freeI hasU;rw [Bool.eq_iff_iff];simp only [List.all_eq_true,Bool.not_eq_true',Bool.or_eq_false_iff,List.any_eq_false,beq_eq_false_iff_ne,Bool.not_eq_true,Bool.and_eq_false_iff,beq_eq_false_iff_ne]
 constructor
 ·intro hf
  refine⟨fun t ht=>?_,fun t ht=>?_⟩
  ·have:=hf _ (h.mem_tok ht)
   unfold thT at this
   by_cases hk:t.ak=1
   ·rw [if_pos hk] at this;simp at this;right;omega
   ·exact .inl hk
  ·have:=hf _ (h.mem_lea ht)
   unfold thL at this;simp at this
   right;omega
 ·intro ⟨h1,h2⟩ x hx e
  cases hk:x.token
  ·obtain⟨t,ht,rfl⟩:=h.lea_mem hx hk
   rcases h2 t ht with e1 | e1
   ·exact e1 (h.akL t ht)
   ·exact e1 e
  ·obtain⟨t,ht,rfl⟩:=h.tok_mem hx hk
   unfold thT at e
   rcases h1 t ht with e1 | e1
   ·simp [e1] at e
   ·simp only at e
    split at e
    ·exact e1 e
    ·omega
end
def keyB (x z:ThingD):Bool:=z.token==x.token&&z.n==x.n
theorem keyB_iff {x z:ThingD}:keyB x z=true↔z.token=x.token∧z.n=x.n:=by simp [keyB]
theorem set_eq_map {L:List ThingD} {i:Nat} {x y:ThingD} (hi:L[i]? = some x) (huq:∀ j u,L[j]? = some u→u.token=x.token→u.n=x.n→j=i):L.set i y=L.map (fun z=>if keyB x z then y else z):=by
 apply List.ext_getElem?;intro j;rw [List.getElem?_map]
 by_cases hj:i=j
 ·subst hj
  rw [hi,List.getElem?_set_self (List.getElem?_eq_some_iff.1 hi).1];simp [keyB]
 ·rw [List.getElem?_set_ne hj]
  cases h:L[j]? with
  | none=>rfl
  | some u =>
   have:keyB x u=false:=by
    rw [Bool.eq_false_iff,Ne,keyB_iff]
    exact fun e=>hj (huq j u h e.1 e.2).symm
   simp [this]
theorem erase_eq_filter {x:ThingD}:∀ {L:List ThingD} {i:Nat},L[i]? = some x→(∀ j u,L[j]? = some u→u.token=x.token→u.n=x.n→j=i)→L.eraseIdx i=L.filter (fun z=>!keyB x z)
 | [],i,hi,_=>by simp at hi
 | a :: L,0,hi,huq=>by
  have:a=x:=by simpa using hi
  subst this;rw [List.filter_cons_of_neg (by simp [keyB])];refine(List.filter_eq_self.2 (fun z hz=>?_)).symm
  have hz:z∈L:=by simpa using hz
  obtain⟨j,hj,e⟩:=List.getElem_of_mem hz
  have hz2:(a :: L)[j+1]? = some z:=by rw [List.getElem?_cons_succ,List.getElem?_eq_getElem hj,e]
  have:keyB a z=false:=by
   rw [Bool.eq_false_iff,Ne,keyB_iff]
   exact fun e=>by have:=huq (j+1) z hz2 e.1 e.2;omega
  simp [this]
 | a :: L,i+1,hi,huq=>by
  have h1:keyB x a=false:=by
   rw [Bool.eq_false_iff,Ne,keyB_iff]
   exact fun e=>by have:=huq 0 a rfl e.1 e.2;omega
  rw [List.filter_cons_of_pos (by simp [h1]),List.eraseIdx_cons_succ]
  congr 1
  refine erase_eq_filter (by simpa using hi) (fun j u hj e1 e2=>?_);have:=huq (j+1) u (by simpa using hj) e1 e2;omega
theorem putTok_map {t:TokE} {l:List TokE} (hs:l.Pairwise (fun a b=>a.n<b.n)) {x:TokE} (hx:x∈l) (hn:x.n=t.n):putTok t l=l.map (fun z=>if z.n=t.n then t else z):=by
 rcases putTok_split (t:=t) hs with⟨a,y,b,rfl,hy,hp,hne⟩ | ⟨hne,-⟩
 ·rw [hp]
  obtain⟨h1,h2,h3⟩:=List.pairwise_append.1 hs;obtain⟨h4,-⟩:=List.pairwise_cons.1 h2;rw [List.map_append,List.map_cons,if_pos hy]
  congr 1
  ·exact((List.map_congr_left (fun z hz=>show (if z.n=t.n then t else z)=id z from if_neg (by have:=h3 z hz y (by simp);omega))).trans (List.map_id a)).symm
  ·congr 1
   exact((List.map_congr_left (fun z hz=>show (if z.n=t.n then t else z)=id z from if_neg (by have:=h4 z hz;omega))).trans (List.map_id b)).symm
 ·exact absurd hn (hne x hx)
theorem putLea_map {t:LeaE} {l:List LeaE} (hs:l.Pairwise (fun a b=>a.n<b.n)) {x:LeaE} (hx:x∈l) (hn:x.n=t.n):putLea t l=l.map (fun z=>if z.n=t.n then t else z):=by
 rcases putLea_split (t:=t) hs with⟨a,y,b,rfl,hy,hp,hne⟩ | ⟨hne,-⟩
 ·rw [hp]
  obtain⟨h1,h2,h3⟩:=List.pairwise_append.1 hs;obtain⟨h4,-⟩:=List.pairwise_cons.1 h2;rw [List.map_append,List.map_cons,if_pos hy]
  congr 1
  ·exact((List.map_congr_left (fun z hz=>show (if z.n=t.n then t else z)=id z from if_neg (by have:=h3 z hz y (by simp);omega))).trans (List.map_id a)).symm
  ·congr 1
   exact((List.map_congr_left (fun z hz=>show (if z.n=t.n then t else z)=id z from if_neg (by have:=h4 z hz;omega))).trans (List.map_id b)).symm
 ·exact absurd hn (hne x hx)
section
variable {tks:List TokE} {lks:List LeaE} {L:List ThingD}
theorem Rel.mapped (h:Rel tks lks L) (f:ThingD→ThingD) (gT:TokE→TokE) (gL:LeaE→LeaE) (hf:∀ z,(f z).token=z.token) (hT:∀ t∈tks,f (thT t)=thT (gT t)) (hL:∀ t∈lks,f (thL t)=thL (gL t)) (kT:∀ t∈tks,(gT t).ak=t.ak) (kL:∀ t∈lks,(gL t).ak=t.ak):Rel (tks.map gT) (lks.map gL) (L.map f):=by
 refine⟨?_,?_,fun t ht=>?_,fun t ht=>?_⟩
 ·rw [List.filter_map,show ((fun t:ThingD=>t.token==true) ∘ f)=fun t=>t.token==true from by funext z;simp [hf],h.toks,List.map_map,List.map_map]
  exact List.map_congr_left (fun t ht=>hT t ht)
 ·rw [List.filter_map,show ((fun t:ThingD=>t.token==false) ∘ f)=fun t=>t.token==false from by funext z;simp [hf],h.leas,List.map_map,List.map_map]
  exact List.map_congr_left (fun t ht=>hL t ht)
 ·obtain⟨t',h1,rfl⟩:=List.mem_map.1 ht
  rw [kT t' h1];exact h.akT t' h1
 ·obtain⟨t',h1,rfl⟩:=List.mem_map.1 ht
  rw [kL t' h1];exact h.akL t' h1
theorem Rel.less (h:Rel tks lks L) (p:ThingD→Bool) (pT:TokE→Bool) (pL:LeaE→Bool) (hT:∀ t,p (thT t)=pT t) (hL:∀ t,p (thL t)=pL t):Rel (tks.filter pT) (lks.filter pL) (L.filter p):=by
 refine⟨?_,?_,fun t ht=>h.akT t (List.mem_filter.1 ht).1,fun t ht=>h.akL t (List.mem_filter.1 ht).1⟩
 ·rw [List.filter_filter,show (fun a:ThingD=>(a.token==true)&&p a)=fun a=>p a&&(a.token==true) from by funext a;exact Bool.and_comm _ _,← List.filter_filter,h.toks,List.filter_map]
  rw [show (p ∘ thT)=pT from by funext t;exact hT t]
 ·rw [List.filter_filter,show (fun a:ThingD=>(a.token==false)&&p a)=fun a=>p a&&(a.token==false) from by funext a;exact Bool.and_comm _ _,← List.filter_filter,h.leas,List.filter_map]
  rw [show (p ∘ thL)=pL from by funext t;exact hL t]
end
theorem Subj.thing {tm:Int} {s:VSt} {t:TurnD} {it:Item} {tk:Bool} {n un:Nat} {L:List ThingD} (hs:Subj tm s t it tk n un) (h:Rel s.tks s.lks L) (ok:ListsOk s.tks s.lks):∃ i th,L[i]? = some th∧th.turn=t∧th.token=tk∧th.n=n∧th.of_=(un:Int)∧Rel (it.app s).tks (it.app s).lks (L.set i (failAt tm th))∧Rel ((Item.gone tk n).app s).tks ((Item.gone tk n).app s).lks (L.eraseIdx i):=by
 cases hs with
 | tok t hm hk =>
  obtain⟨i,hi,e⟩:=List.getElem_of_mem (h.mem_tok hm)
  have hi':L[i]? = some (thT t):=by rw [List.getElem?_eq_getElem hi,e]
  have huq:∀ j u,L[j]? = some u→u.token=(thT t).token→u.n=(thT t).n→j=i:=fun j u hj e1 e2=>h.idx ok hi' hj e1 e2
  refine⟨i,thT t,hi',rfl,rfl,rfl,by simp [thT,hk],?_,?_⟩
  ·rw [set_eq_map hi' huq]
   show Rel (putTok (failT tm t) s.tks) s.lks _
   rw [putTok_map ok.incT hm (show t.n=(failT tm t).n from rfl)]
   have:=h.mapped (fun z=>if keyB (thT t) z then failAt tm (thT t) else z) (fun z=>if z.n=(failT tm t).n then failT tm t else z) id (fun z=>by
     split
     ·rename_i e;exact(keyB_iff.1 e).1.symm
     ·rfl) (fun z hz=>?_) (fun z hz=>by simp [keyB,thT,thL]) (fun z hz=>?_) (fun z hz=>rfl)
   ·simpa using this
   ·by_cases e:z.n=t.n
    ·have:keyB (thT t) (thT z)=true:=keyB_iff.2 ⟨rfl,e⟩
     rw [if_pos this,if_pos (show z.n=(failT tm t).n from e)];rfl
    ·have:keyB (thT t) (thT z)=false:=by rw [Bool.eq_false_iff,Ne,keyB_iff];exact fun h=>e h.2
     rw [if_neg (by simp [this]),if_neg (show ¬ z.n=(failT tm t).n from e)]
   ·split
    ·rename_i e
     have:z=t:=inc_inj (f:=TokE.n) ok.incT hz hm e;rw [this];rfl
    ·rfl
  ·rw [erase_eq_filter hi' huq]
   have:=h.less (fun z=>!keyB (thT t) z) (fun z=>z.n != t.n) (fun _=>true) (fun z=>by simp [keyB,thT,bne]) (fun z=>by simp [keyB,thT,thL]);rw [show s.lks.filter (fun _=>true)=s.lks from List.filter_eq_self.2 (fun _ _=>rfl)] at this
   simpa [Item.app,dropTok,dropLea,delTok] using this
 | lea t hm hk =>
  obtain⟨i,hi,e⟩:=List.getElem_of_mem (h.mem_lea hm)
  have hi':L[i]? = some (thL t):=by rw [List.getElem?_eq_getElem hi,e]
  have huq:∀ j u,L[j]? = some u→u.token=(thL t).token→u.n=(thL t).n→j=i:=fun j u hj e1 e2=>h.idx ok hi' hj e1 e2
  refine⟨i,thL t,hi',rfl,rfl,rfl,rfl,?_,?_⟩
  ·rw [set_eq_map hi' huq]
   show Rel s.tks (putLea (failL tm t) s.lks) _
   rw [putLea_map ok.incL hm (show t.n=(failL tm t).n from rfl)]
   have:=h.mapped (fun z=>if keyB (thL t) z then failAt tm (thL t) else z) id (fun z=>if z.n=(failL tm t).n then failL tm t else z) (fun z=>by
     split
     ·rename_i e;exact(keyB_iff.1 e).1.symm
     ·rfl) (fun z hz=>by simp [keyB,thT,thL]) (fun z hz=>?_) (fun z hz=>rfl) (fun z hz=>?_)
   ·simpa using this
   ·by_cases e:z.n=t.n
    ·have:keyB (thL t) (thL z)=true:=keyB_iff.2 ⟨rfl,e⟩
     rw [if_pos this,if_pos (show z.n=(failL tm t).n from e)];rfl
    ·have:keyB (thL t) (thL z)=false:=by rw [Bool.eq_false_iff,Ne,keyB_iff];exact fun h=>e h.2
     rw [if_neg (by simp [this]),if_neg (show ¬ z.n=(failL tm t).n from e)]
   ·split
    ·rename_i e
     have:z=t:=inc_inj (f:=LeaE.n) ok.incL hz hm e;rw [this];rfl
    ·rfl
  ·rw [erase_eq_filter hi' huq]
   have:=h.less (fun z=>!keyB (thL t) z) (fun _=>true) (fun z=>z.n != t.n) (fun z=>by simp [keyB,thT,thL]) (fun z=>by simp [keyB,thL,bne]);rw [show s.tks.filter (fun _=>true)=s.tks from List.filter_eq_self.2 (fun _ _=>rfl)] at this
   simpa [Item.app,dropTok,dropLea,delLea] using this
def Item.Old:Item→VSt→Prop
 | .tok t,s=>TokOk t∧(∃ x∈s.tks,x.n=t.n)∧t.n<u64lim∧t.au<u64lim
 | .lea t,s=>LeaOk t∧(∃ x∈s.lks,x.n=t.n)∧t.n<u64lim∧t.au<u64lim
 | .gone _ _,_=>False
theorem putLea_num {t:LeaE} {l:List LeaE} (hs:l.Pairwise (fun a b=>a.n<b.n)) {m:Nat} (h:∃ p∈l,p.n=m):∃ p∈putLea t l,p.n=m:=by
 obtain⟨p,hp,e⟩:=h
 rcases putLea_has (t:=t) hs hp with h1 | h1
 ·refine⟨t,?_,by omega⟩
  rcases putLea_split (t:=t) hs with⟨a,y,b,rfl,hy,hq,hne⟩ | ⟨hne,hq⟩ <;> rw [hq] <;> simp
 ·exact⟨p,h1,e⟩
theorem fitsAll_old:∀(is:List Item) (s:VSt),(∀ i∈is,i.Old s)→s.tks.Pairwise (fun a b=>a.n<b.n)→s.lks.Pairwise (fun a b=>a.n<b.n)→s.tks.length<500→s.lks.length<500→FitsAll is s
 | [],_,_,_,_,_,_=>trivial
 | i :: is,s,h,hT,hL,nT,nL=>by
  have hi:=h i (by simp)
  have hr:=fun j hj=>h j (List.mem_cons_of_mem _ hj)
  cases i with
  | tok t =>
   obtain⟨h1,⟨x,hx,hn⟩,h3,h4⟩:=hi;refine⟨⟨h1,.inl ⟨x,hx,hn⟩,nT,h3,h4⟩,fitsAll_old is _ (fun j hj=>?_) (putTok_inc hT (.inl ⟨x,hx,hn⟩)) hL (by show (putTok t s.tks).length<500;rw [putTok_same hT hx hn];exact nT) nL⟩;have:=hr j hj
   cases j with
   | tok u=>exact⟨this.1,putTok_num hT this.2.1,this.2.2⟩
   | lea u=>exact this
   | gone _ _=>exact this
  | lea t =>
   obtain⟨h1,⟨x,hx,hn⟩,h3,h4⟩:=hi;refine⟨⟨h1,.inl ⟨x,hx,hn⟩,nL,h3,h4⟩,fitsAll_old is _ (fun j hj=>?_) hT (putLea_inc hL (.inl ⟨x,hx,hn⟩)) nT (by show (putLea t s.lks).length<500;rw [putLea_same hL hx hn];exact nL)⟩;have:=hr j hj
   cases j with
   | tok u=>exact this
   | lea u=>exact⟨this.1,putLea_num hL this.2.1,this.2.2⟩
   | gone _ _=>exact this
  | gone _ _=>exact hi.elim
theorem appAll_append (a b:List Item) (s:VSt):appAll (a++b) s=appAll b (appAll a s):=by
 induction a generalizing s with
 | nil=>rfl
 | cons i a ih=>exact ih (i.app s)
def goL (tm:Int) (p:LeaE→Bool) (l:LeaE):Bool:=(!l.pd&&decide (tm<l.at_))&&p l
def revL (tm:Int) (l:LeaE):LeaE:={ l with pd:=true,at_:=tm }
def revT (tm:Int) (t:TokE):TokE:={ t with pd:=true,at_:=tm }
def revJ (tm:Int) (p:TokE→Bool) (ts:List TokE):List Item:=(ts.filter fun t=>!t.pd&&p t).map fun t=>Item.tok (revT tm t)
theorem any_num {α:Type} {f:α→Nat} {ls:List α} {m:Nat} (h:∀ l∈ls,m<f l):ls.any (fun l=>f l==m)=false:=by
 rw [List.any_eq_false];intro l hl;have:=h l hl;simp;omega
theorem appAll_revI {tm:Int} {p:LeaE→Bool}:∀(ls:List LeaE) (s:VSt),ls.Pairwise (fun a b=>a.n<b.n)→s.lks.Pairwise (fun a b=>a.n<b.n)→(∀ l∈ls,l∈s.lks)→(∀ l∈ls,l.n≤s.ln)→appAll (revI tm p ls) s=⟨s.tn,s.ln,s.tks,s.lks.map fun z=>if ls.any (fun l=>l.n==z.n)&&goL tm p z then revL tm z else z⟩
 | [],s,_,_,_,_=>by
  obtain⟨tn,ln,tks,lks⟩:=s;simp [revI,appAll]
 | a :: ls,s,hp,hs,hm,hn=>by
  obtain⟨h1,h2⟩:=List.pairwise_cons.1 hp;have ham:=hm a (by simp)
  by_cases hg:goL tm p a=true
  ·have e:revI tm p (a :: ls)=.lea (revL tm a) :: revI tm p ls:=by
    have hg':(!a.pd&&decide (tm<a.at_)&&p a)=true:=hg;simp only [revI,List.filter_cons,hg',if_true,List.map_cons];rfl
   have hput:putLea (revL tm a) s.lks=s.lks.map (fun z=>if z.n=a.n then revL tm a else z):=putLea_map (t:=revL tm a) hs ham rfl
   have happ:(Item.lea (revL tm a)).app s=⟨s.tn,s.ln,s.tks,s.lks.map (fun z=>if z.n=a.n then revL tm a else z)⟩:=by
    show VSt.mk s.tn (max s.ln a.n) s.tks (putLea (revL tm a) s.lks)=_
    rw [hput,Nat.max_eq_left (hn a (by simp))]
   rw [e]
   show appAll (revI tm p ls) ((Item.lea (revL tm a)).app s)=_
   rw [happ,appAll_revI ls ⟨s.tn,s.ln,s.tks,s.lks.map (fun z=>if z.n=a.n then revL tm a else z)⟩ h2 (by
     show (s.lks.map (fun z=>if z.n=a.n then revL tm a else z)).Pairwise _
     rw [← hput]
     exact putLea_inc hs (.inl ⟨a,ham,rfl⟩)) (fun l hl=>List.mem_map.2 ⟨l,hm l (List.mem_cons_of_mem _ hl),if_neg (by have:=h1 l hl;omega)⟩) (fun l hl=>hn l (List.mem_cons_of_mem _ hl))]
   congr 1
   simp only;rw [List.map_map];refine List.map_congr_left (fun z hz=>?_);simp only [Function.comp]
   by_cases hza:z.n=a.n
   ·have:z=a:=inc_inj (f:=LeaE.n) hs hz ham hza
    subst this;rw [if_pos rfl];have hno:ls.any (fun l=>l.n==z.n)=false:=any_num (f:=LeaE.n) h1;rw [show (revL tm z).n=z.n from rfl,hno];simp [hg]
   ·rw [if_neg hza]
    have:(a.n==z.n)=false:=by rw [beq_eq_false_iff_ne];omega
    simp [this]
  ·have e:revI tm p (a :: ls)=revI tm p ls:=by
    have hg':(!a.pd&&decide (tm<a.at_)&&p a)=false:=by simpa using(show ¬ (!a.pd&&decide (tm<a.at_)&&p a)=true from hg)
    simp only [revI,List.filter_cons,hg',Bool.false_eq_true,if_false]
   rw [e,appAll_revI ls s h2 hs (fun l hl=>hm l (List.mem_cons_of_mem _ hl)) (fun l hl=>hn l (List.mem_cons_of_mem _ hl))]
   congr 1
   refine List.map_congr_left (fun z hz=>?_)
   by_cases hza:z.n=a.n
   ·have:z=a:=inc_inj (f:=LeaE.n) hs hz ham hza
    subst this
    have:goL tm p z=false:=by simpa using hg
    simp [this]
   ·have:(a.n==z.n)=false:=by rw [beq_eq_false_iff_ne];omega
    simp [this]
theorem appAll_revJ {tm:Int} {p:TokE→Bool}:∀(ls:List TokE) (s:VSt),ls.Pairwise (fun a b=>a.n<b.n)→s.tks.Pairwise (fun a b=>a.n<b.n)→(∀ l∈ls,l∈s.tks)→(∀ l∈ls,l.n≤s.tn)→appAll (revJ tm p ls) s=⟨s.tn,s.ln,s.tks.map fun z=>if ls.any (fun l=>l.n==z.n)&&(!z.pd&&p z) then revT tm z else z,s.lks⟩
 | [],s,_,_,_,_=>by
  obtain⟨tn,ln,tks,lks⟩:=s;simp [revJ,appAll]
 | a :: ls,s,hp,hs,hm,hn=>by
  obtain⟨h1,h2⟩:=List.pairwise_cons.1 hp;have ham:=hm a (by simp)
  by_cases hg:(!a.pd&&p a)=true
  ·have e:revJ tm p (a :: ls)=.tok (revT tm a) :: revJ tm p ls:=by
    simp only [revJ,List.filter_cons,hg,if_true,List.map_cons]
   have hput:putTok (revT tm a) s.tks=s.tks.map (fun z=>if z.n=a.n then revT tm a else z):=putTok_map (t:=revT tm a) hs ham rfl
   have happ:(Item.tok (revT tm a)).app s=⟨s.tn,s.ln,s.tks.map (fun z=>if z.n=a.n then revT tm a else z),s.lks⟩:=by
    show VSt.mk (max s.tn a.n) s.ln (putTok (revT tm a) s.tks) s.lks=_
    rw [hput,Nat.max_eq_left (hn a (by simp))]
   rw [e]
   show appAll (revJ tm p ls) ((Item.tok (revT tm a)).app s)=_
   rw [happ,appAll_revJ ls ⟨s.tn,s.ln,s.tks.map (fun z=>if z.n=a.n then revT tm a else z),s.lks⟩ h2 (by
     show (s.tks.map (fun z=>if z.n=a.n then revT tm a else z)).Pairwise _
     rw [← hput]
     exact putTok_inc hs (.inl ⟨a,ham,rfl⟩)) (fun l hl=>List.mem_map.2 ⟨l,hm l (List.mem_cons_of_mem _ hl),if_neg (by have:=h1 l hl;omega)⟩) (fun l hl=>hn l (List.mem_cons_of_mem _ hl))]
   congr 1
   simp only;rw [List.map_map];refine List.map_congr_left (fun z hz=>?_);simp only [Function.comp]
   by_cases hza:z.n=a.n
   ·have:z=a:=inc_inj (f:=TokE.n) hs hz ham hza
    subst this;rw [if_pos rfl];have hno:ls.any (fun l=>l.n==z.n)=false:=any_num (f:=TokE.n) h1;rw [show (revT tm z).n=z.n from rfl,hno];simp [hg]
   ·rw [if_neg hza]
    have:(a.n==z.n)=false:=by rw [beq_eq_false_iff_ne];omega
    simp [this]
  ·have e:revJ tm p (a :: ls)=revJ tm p ls:=by
    have hg':(!a.pd&&p a)=false:=by simpa using hg
    simp only [revJ,List.filter_cons,hg',Bool.false_eq_true,if_false]
   rw [e,appAll_revJ ls s h2 hs (fun l hl=>hm l (List.mem_cons_of_mem _ hl)) (fun l hl=>hn l (List.mem_cons_of_mem _ hl))]
   congr 1
   refine List.map_congr_left (fun z hz=>?_)
   by_cases hza:z.n=a.n
   ·have:z=a:=inc_inj (f:=TokE.n) hs hz ham hza
    subst this
    have:(!z.pd&&p z)=false:=by simpa using hg
    simp [this]
   ·have:(a.n==z.n)=false:=by rw [beq_eq_false_iff_ne];omega
    simp [this]
theorem Tryz.keepRow (B:Nat) (k:Blk) (vx:VX) (tm:Int) (s:VSt) (c:List UInt8) (l f:Int) (is:List Item) (v:Value) (w:World) (hW:Whole w k vx tm s c l f) (hl:l<0) (hl1 : -999999990≤l) (hf:f<0) (hf1 : -999999990≤f) (hc:c.length≤900000000000) (hrow:w.ownsRow B 135 10 v is.length (flatR (is.map Item.rec_))) (hn1:is.length≤500) (hF:FitsAll is s) :
  Calls prog 66 #[.pointer (some ⟨k.vb,0,none⟩),v] w fun e w'=>e=.returned .nilIface∧(∃ c' l' f',c'.length≤c.length+1300000∧Whole w' k vx tm (appAll is s) c' l' f')∧Spares k.turns w w':=by
 cases is with
 | nil =>
  refine(keepNil k.vb v w (row_none hrow)).mono ?_;rintro e w' ⟨rfl,rfl⟩;exact⟨rfl,⟨c,l,f,by omega,hW⟩,Spares.of_below (Below.refl _ _)⟩
 | cons i is =>
  obtain⟨g,cap,rfl⟩:=row_some hrow (by simp);obtain⟨hlo,cs,hB⟩:=row_box hrow (g:=g) rfl;have hkl:=keepLine_len hW.v.t0 hW.v.t1 hF hn1;refine(vKeep k vx tm s c l f (i :: is) g cap w hW hl hl1 hf hf1 hc (rowR_flat hrow) hB.lt (hW.no hB (by decide) (by decide)) (by simp) hn1 hF).mono ?_;rintro e w' ⟨rfl,hW',hs'⟩;exact⟨rfl,⟨_,_,_,by rw [List.length_append];omega,hW'⟩,hs'⟩
end Go.Proofs
namespace Go.Proofs
open Go.RowKit Go.Sort Go.Lib Go.Shelf Go.Maps Go.WideMaps
theorem Tryz.vRevPre_err (vb:Nat) (w:World) (pre:List UInt8) (hpl:pre.length≤1000000) (hne:pre ≠ []) (hbad:pathI pre=false) :
  Calls prog 52 #[.pointer (some ⟨vb,0,none⟩),.string ⟨pre.toArray⟩] w fun e w'=>e=.returned (.tuple #[.int .i64 0,errV 2])∧Below w.heap.size w w':=by
 have hB0:Below w.heap.size w (w.alloc (.cells #[.string ⟨pre.toArray⟩] 9)):=(Below.refl _ w).alloc (Nat.le_refl _) _
 have hV:=fun W=>valid pre W hpl
 rw [hbad] at hV
 have h0:(pre == [])=false:=by simpa using hne
 have hl0:((pre.length:Int)==0)=false:=by
  rw [beq_eq_false_iff_ne];intro e;exact hne (List.length_eq_zero_iff.1 (by omega))
 go_enter func52,ntmps52
 go_wp2_with (go_at_call 92;refine(hV _).mono ?_;rintro e w1 ⟨rfl,hb1⟩)
 exact bodyPost_ret (v:=.tuple #[.int .i64 0,errV 2]) (by simp [results,results52,go_sem,errV]) rfl ⟨rfl,hB0.trans (hb1.mono hB0.size)⟩
theorem any_self {α:Type} {f:α→Nat} {ls:List α} {z:α} (h:z∈ls):ls.any (fun l=>f l==f z)=true:=List.any_eq_true.2 ⟨z,h,by simp⟩
theorem revI_state {tm:Int} {p:LeaE→Bool} {tn ln:Nat} {tks:List TokE} {lks:List LeaE} (hs:lks.Pairwise (fun a b=>a.n<b.n)) (hn:∀ l∈lks,l.n≤ln):appAll (revI tm p lks) ⟨tn,ln,tks,lks⟩=⟨tn,ln,tks,lks.map fun z=>if goL tm p z then revL tm z else z⟩:=by
 rw [appAll_revI lks ⟨tn,ln,tks,lks⟩ hs hs (fun _ h=>h) hn]
 congr 1
 exact List.map_congr_left (fun z hz=>by rw [any_self (f:=LeaE.n) hz,Bool.true_and])
theorem revI_old {tm:Int} {p:LeaE→Bool} {s:VSt} (t0:0≤tm) (t1:tm≤18446744073709551615) (hok:ListsOk s.tks s.lks) (okL:∀ l∈s.lks,LeaOk l):∀ i∈revI tm p s.lks,i.Old s:=fun i hi=>by
 obtain⟨l,hl,rfl⟩:=List.mem_map.1 hi;have hm:=(List.mem_filter.1 hl).1;have ho:=okL l hm;exact⟨⟨t0,t1,ho.r0,ho.r1,ho.l0,ho.l1,ho.p1,ho.pa⟩,⟨l,hm,rfl⟩,(hok.limL l hm).1,(hok.limL l hm).2⟩
theorem revI_len {tm:Int} {p:LeaE→Bool} {lks:List LeaE}:(revI tm p lks).length≤lks.length:=by unfold revI;rw [List.length_map];exact List.length_filter_le _ _
theorem Tryz.vRevPre_ok (k:Blk) (vx:VX) (tm:Int) (s:VSt) (c:List UInt8) (l f:Int) (w:World) (hW:Whole w k vx tm s c l f) (hl:l<0) (hl1 : -999999990≤l) (hf:f<0) (hf1 : -999999990≤f) (hc:c.length≤900000000000) (pre:List UInt8) (hpl:pre.length≤1000000) (hgo:pre = []∨pathI pre=true) (nT:s.tks.length<500) (nL:s.lks.length<500) :
  Calls prog 52 #[.pointer (some ⟨k.vb,0,none⟩),.string ⟨pre.toArray⟩] w fun e w'=>e=.returned (.tuple #[.int .i64 ((revI tm (fun l=>beginsB l.pth pre) s.lks).length:Nat),.nilIface])∧(∃ c' l' f',c'.length≤c.length+1300000∧Whole w' k vx tm ⟨s.tn,s.ln,s.tks,s.lks.map fun z=>if goL tm (fun l=>beginsB l.pth pre) z then revL tm z else z⟩ c' l' f')∧Spares k.turns w w':=by
 have hok:=hW.v.va.ok
 have hmf:∀(fn:Fn) (first cap:Array Value) (w:World),(Instr.makeFunc fn first cap).run prog w=.ok (.func fn first cap) w:=fun _ _ _ _=>rfl
 have hF:FitsAll (revI tm (fun l=>beginsB l.pth pre) s.lks) s:=fitsAll_old _ _ (revI_old hW.v.t0 hW.v.t1 hok hW.v.okL) hok.incT hok.incL nT nL;have hst:appAll (revI tm (fun l=>beginsB l.pth pre) s.lks) s=⟨s.tn,s.ln,s.tks,s.lks.map fun z=>if goL tm (fun l=>beginsB l.pth pre) z then revL tm z else z⟩:=revI_state (tn:=s.tn) (tks:=s.tks) hok.incL hW.v.nl;have hn:(revI tm (fun l=>beginsB l.pth pre) s.lks).length≤500:=Nat.le_trans revI_len (by omega);have hB0:Below w.heap.size w (w.alloc (.cells #[.string ⟨pre.toArray⟩] 9)):=(Below.refl _ w).alloc (Nat.le_refl _) _;have bP:=BoxN.new w 9 #[.string ⟨pre.toArray⟩]
 have hV:=fun W=>valid pre W hpl
 have hR:∀ W,Below (w.heap.size+1) (w.alloc (.cells #[.string ⟨pre.toArray⟩] 9)) W→Calls prog 86 #[.pointer (some ⟨k.vb,0,none⟩),.func (.func 93) #[] #[.pointer (some ⟨w.heap.size,0,none⟩)]] W fun e w'=>∃ v,e=.returned v∧w'.ownsRow W.heap.size 135 10 v (revI tm (fun l=>beginsB l.pth pre) s.lks).length (flatR ((revI tm (fun l=>beginsB l.pth pre) s.lks).map Item.rec_))∧Below W.heap.size W w':=fun W hb=>by
  have bP':=bP.below hb (by omega);exact callsIn_wide.1 (revLeaPre k.vb k.mt k.ml vx tm s.tn s.ln s.tks s.lks W (hW.v.va.below (hB0.trans (hb.mono (by omega)))) w.heap.size (fun l=>beginsB l.pth pre) (fun l hl W' hb'=>vRevPre1 w.heap.size pre l W' (bP'.below hb' bP'.lt)))
 have hK:∀ W v,Below w.heap.size w W→(∃ B,W.ownsRow B 135 10 v (revI tm (fun l=>beginsB l.pth pre) s.lks).length (flatR ((revI tm (fun l=>beginsB l.pth pre) s.lks).map Item.rec_)))→Calls prog 66 #[.pointer (some ⟨k.vb,0,none⟩),v] W fun e w'=>e=.returned .nilIface∧(∃ c' l' f',c'.length≤c.length+1300000∧Whole w' k vx tm ⟨s.tn,s.ln,s.tks,s.lks.map fun z=>if goL tm (fun l=>beginsB l.pth pre) z then revL tm z else z⟩ c' l' f')∧Spares k.turns W w':=fun W v hb ⟨B,hr⟩=>by
  have h:=keepRow B k vx tm s c l f _ v W (hW.below hb) hl hl1 hf hf1 hc hr hn hF;rw [hst] at h;exact h
 have hsz:(w.alloc (.cells #[.string ⟨pre.toArray⟩] 9)).heap.size=w.heap.size+1:=by simp
 obtain⟨n,hnn⟩:∃ n,(revI tm (fun l=>beginsB l.pth pre) s.lks).length=n:=⟨_,rfl⟩
 have hform:∀ {W:World} {B:Nat} {v:Value} {xs:List Value},W.ownsRow B 135 10 v n xs→∃ p cap,v=.slice p n cap:=fun h=>by
  rcases h.2 with⟨rfl,h0⟩ | ⟨g,cap,cur,rfl,-⟩
  ·exact⟨none,0,by rw [show n=0 from by omega]⟩
  ·exact⟨_,cap,rfl⟩
 rw [hnn] at hR hK hn ⊢;clear hst hF hnn bP
 by_cases h0:pre = []
 ·subst h0
  go_enter func52,ntmps52
  go_wp2_with (first
   | (go_at_call 86;refine(hR _ (Below.refl _ _)).mono ?_;rintro e w2 ⟨v,rfl,hr2,hb2⟩;obtain⟨p,cap,rfl⟩:=hform hr2;have hB2:Below w.heap.size w w2:=hB0.trans (hb2.mono hB0.size);have hK2:=hK w2 _ hB2 ⟨_,hr2⟩)
   | (go_at_call 66;refine hK2.mono ?_;rintro e w3 ⟨rfl,hW3,hs3⟩))
  exact bodyPost_ret (v:=.tuple #[.int .i64 (n:Nat),.nilIface]) (by simp [results,results52,go_sem]) rfl ⟨rfl,hW3,(Spares.of_below hB2).trans hs3⟩
 ·have hv:pathI pre=true:=hgo.resolve_left h0
  have h0':(pre == [])=false:=by simpa using h0
  have hl0:((pre.length:Int)==0)=false:=by
   rw [beq_eq_false_iff_ne];intro e;exact h0 (List.length_eq_zero_iff.1 (by omega))
  rw [hv] at hV;go_enter func52,ntmps52
  go_wp2_with (first
   | (go_at_call 92;refine(hV _).mono ?_;rintro e w1 ⟨rfl,hb1⟩)
   | (go_at_call 86;refine(hR _ (hb1.mono (by simp))).mono ?_;rintro e w2 ⟨v,rfl,hr2,hb2⟩;obtain⟨p,cap,rfl⟩:=hform hr2;have hB2:Below w.heap.size w w2:=(hB0.trans (hb1.mono hB0.size)).trans (hb2.mono (Nat.le_trans hB0.size hb1.size));have hK2:=hK w2 _ hB2 ⟨_,hr2⟩)
   | (go_at_call 66;refine hK2.mono ?_;rintro e w3 ⟨rfl,hW3,hs3⟩))
  exact bodyPost_ret (v:=.tuple #[.int .i64 (n:Nat),.nilIface]) (by simp [results,results52,go_sem]) rfl ⟨rfl,hW3,(Spares.of_below hB2).trans hs3⟩
section
variable {B hb rb:Nat} {k:Blk} {vx:VX} {tm:Int} {tn ln:Nat} {tks:List TokE} {lks:List LeaE} {c:List UInt8} {w:World}
theorem Tryz.kIssueBad (hS:Sys B w hb rb ⟨k,vx,tm,⟨tn,ln,tks,lks⟩,c⟩) (m:TokE) (hm:m∈tks) (hlv:m.pd=false) (pth:List UInt8) (hpv:pathI pth=false) (hp:pth.length≤1000000) (ttl most:Int) (cc dd:Int) :
  Calls prog 18 #[.pointer (some ⟨hb,0,none⟩),.string ⟨(nmStr 1 m.n).toArray⟩,.string ⟨pth.toArray⟩,.int .u64 ttl,.int .u64 most,fallV (-1) (-1) cc dd] w fun e w'=>e=.returned (.tuple #[.string ⟨#[]⟩,.int .i64 2])∧Sys B w' hb rb ⟨k,vx,tm,⟨tn,ln,tks,lks⟩,c⟩∧Spares k.turns w w':=by
 have hlim:=(hS.wh.v.va.ok.limT m hm).1
 have h:=hIssue B hb rb _ w hS (nmStr 1 m.n) pth ttl most cc dd (.string ⟨#[]⟩) (errV 2) 2 (toldK 2 (.inr (by simp [ErrK]))) (fun σ'=>σ'=⟨k,vx,tm,⟨tn,ln,tks,lks⟩,c⟩)
  (fun W _ hV=>by
   have hMay:∀ W',Below W.heap.size W W'→Calls prog 64 #[.pointer (some ⟨k.vb,0,none⟩),nmV (parseN (nmStr 1 m.n)),.string ⟨pth.toArray⟩,.int .u64 ttl,.int .u64 most] W' fun e w'=>e=.returned (errV 2)∧Below W'.heap.size W' w':=fun W' hb'=>by
    have hq:=mayIssue k.vb k.mt k.ml vx tm tn ln tks lks W' (hV.v.va.below hb') (parseN (nmStr 1 m.n)) true pth hp ttl most (fun W2 hb2=>by
     rw [parse_tok hlim];have hl:=isLive_hit k.vb k.mt k.ml vx tm _ _ tks lks W2 ((hV.v.va.below hb').below hb2) m hm;rw [hlv] at hl
     exact hl)
    have he:mayE true (pathI pth) ttl most lks.length tm=2:=by
     unfold mayE;rw [hpv,if_neg (by simp),if_pos (by simp)]
    rw [he] at hq;exact hq
   refine(vIssue_err k.vb k.mt k.ml vx tm tn ln tks lks W hV.v.va (nmStr 1 m.n) pth (nm_len1 hlim) ttl most 2 (by decide) hMay).mono ?_;rintro e w' ⟨rfl,hb'⟩
   exact⟨rfl,⟨_,_,_,⟨rfl,rfl,rfl⟩,hV.below hb'⟩,Spares.of_below hb'⟩)
 refine h.mono ?_;rintro e w' ⟨rfl,⟨σ',⟨rfl,-,-⟩,hS'⟩,hs⟩;exact⟨rfl,hS',hs⟩
theorem Tryz.kPrefix (hS:Sys B w hb rb ⟨k,vx,tm,⟨tn,ln,tks,lks⟩,c⟩) (pre:List UInt8) (hpl:pre.length≤1000000) (hgo:pre = []∨pathI pre=true) (nT:tks.length<500) (nL:lks.length<500) (hc:c.length≤900000000000) (cc dd:Int) :
  Calls prog 29 #[.pointer (some ⟨hb,0,none⟩),.string ⟨pre.toArray⟩,fallV (-1) (-1) cc dd] w fun e w'=>e=.returned (.tuple #[.int .i64 ((revI tm (fun l=>beginsB l.pth pre) lks).length:Nat),.int .i64 0])∧(∃ c',c'.length≤c.length+1300000∧Sys B w' hb rb ⟨k,vx,tm,⟨tn,ln,tks,lks.map fun z=>if goL tm (fun l=>beginsB l.pth pre) z then revL tm z else z⟩,c'⟩)∧Spares k.turns w w':=by
 have h:=hRevPre B hb rb _ w hS pre cc dd (.int .i64 ((revI tm (fun l=>beginsB l.pth pre) lks).length:Nat)) .nilIface 0 (fun W _=>told_nil W) (fun σ'=>∃ c',c'.length≤c.length+1300000∧σ'=⟨k,vx,tm,⟨tn,ln,tks,lks.map fun z=>if goL tm (fun l=>beginsB l.pth pre) z then revL tm z else z⟩,c'⟩)
  (fun W _ hV=>by
   refine(vRevPre_ok k vx tm ⟨tn,ln,tks,lks⟩ c (-1) (-1) W hV (by decide) (by decide) (by decide) (by decide) hc pre hpl hgo nT nL).mono ?_;rintro e w' ⟨rfl,⟨c',l',f',hc',hV'⟩,hs'⟩
   exact⟨rfl,⟨_,l',f',⟨⟨c',hc',rfl⟩,rfl,rfl⟩,hV'⟩,hs'⟩)
 refine h.mono ?_;rintro e w' ⟨rfl,⟨σ',⟨⟨c',hc',rfl⟩,-,-⟩,hS'⟩,hs⟩;exact⟨rfl,⟨c',hc',hS'⟩,hs⟩
theorem Tryz.kPrefixBad (hS:Sys B w hb rb ⟨k,vx,tm,⟨tn,ln,tks,lks⟩,c⟩) (pre:List UInt8) (hpl:pre.length≤1000000) (hne:pre ≠ []) (hbad:pathI pre=false) (cc dd:Int) :
  Calls prog 29 #[.pointer (some ⟨hb,0,none⟩),.string ⟨pre.toArray⟩,fallV (-1) (-1) cc dd] w fun e w'=>e=.returned (.tuple #[.int .i64 0,.int .i64 2])∧Below B w w':=by
 have h:=hRevPre B hb rb _ w hS pre cc dd (.int .i64 0) (errV 2) 2 (toldK 2 (.inr (by simp [ErrK]))) (fun _=>True)
  (fun W _ hV=>by
   refine(vRevPre_err k.vb W pre hpl hne hbad).mono ?_;rintro e w' ⟨rfl,hb'⟩
   exact⟨rfl,⟨⟨k,vx,tm,⟨tn,ln,tks,lks⟩,c⟩,-1,-1,⟨trivial,rfl,rfl⟩,hV.below hb'⟩,Spares.of_below hb'⟩)
 refine h.mono ?_;rintro e w' ⟨rfl,-,hs⟩;exact⟨rfl,hs.below (Nat.le_of_lt (Nat.lt_of_le_of_lt hS.hlow hS.host.lt)) (fun b hb=>hS.low b hb)⟩
end
def mkL:Nat→List (List UInt8)→List LeaE
 | _,[]=>[]
 | n,p :: r=>newL n 0 150 150 p :: mkL (n+1) r
theorem mkL_snoc:∀(xs:List (List UInt8)) (n:Nat) (p:List UInt8),mkL n (xs ++ [p])=mkL n xs ++ [newL (n+xs.length) 0 150 150 p]
 | [],_,_=>rfl
 | x :: xs,n,p=>by
  show newL n 0 150 150 x :: mkL (n+1) (xs ++ [p])=_
  rw [mkL_snoc xs (n+1) p,show n+1+xs.length=n+(x :: xs).length by simp;omega];rfl
theorem mkL_len:∀(xs:List (List UInt8)) (n:Nat),(mkL n xs).length=xs.length
 | [],_=>rfl
 | x :: xs,n=>by show (mkL (n+1) xs).length+1=_;rw [mkL_len xs (n+1)];rfl
theorem mkL_get:∀(xs:List (List UInt8)) (n i:Nat) (p:List UInt8),xs[i]? = some p→(mkL n xs)[i]? = some (newL (n+i) 0 150 150 p)
 | [],_,_,_,h=>by simp at h
 | x :: xs,n,0,p,h=>by
  have:x=p:=by simpa using h
  subst this;rfl
 | x :: xs,n,i+1,p,h=>by
  show (mkL (n+1) xs)[i]? = _
  rw [mkL_get xs (n+1) i p (by simpa using h),show n+1+i=n+(i+1) by omega]
def mkI (n:Nat):Nat→List Value
 | 0=>[]
 | i+1=>mkI n i ++ [.string ⟨(nmStr 2 (n+i)).toArray⟩]
theorem mkI_len (n:Nat):∀ i,(mkI n i).length=i
 | 0=>rfl
 | i+1=>by simp [mkI,mkI_len n i]
theorem mkI_get (n:Nat):∀(m i:Nat),i<m→(mkI n m)[i]? = some (.string ⟨(nmStr 2 (n+i)).toArray⟩)
 | 0,_,h=>by omega
 | m+1,i,h=>by
  rw [mkI,List.getElem?_append,mkI_len]
  by_cases hi:i<m
  ·rw [if_pos hi];exact mkI_get n m i hi
  ·obtain rfl:i=m:=by omega
   rw [if_neg hi];simp
theorem revI_mkL (pre:List UInt8):∀(xs:List (List UInt8)) (n:Nat),(revI 100 (fun l=>beginsB l.pth pre) (mkL n xs)).length=(xs.filter fun p=>beginsB p pre).length
 | [],_=>rfl
 | x :: xs,n=>by
  have ih:=revI_mkL pre xs (n+1);unfold revI at ih ⊢;rw [List.length_map] at ih ⊢
  show ((newL n 0 150 150 x :: mkL (n+1) xs).filter _).length=_
  rw [List.filter_cons,List.filter_cons]
  have e:((!(newL n 0 150 150 x).pd&&decide ((100:Int)<(newL n 0 150 150 x).at_))&&beginsB (newL n 0 150 150 x).pth pre)=beginsB x pre:=by simp [newL]
  rw [e]
  split
  ·rw [List.length_cons,List.length_cons,ih]
  ·exact ih
theorem textL_head {ls:List LineD} (h:textL ls ≠ []):∃ r,textL ls=10 :: r:=by
 cases ls with
 | nil=>exact absurd rfl h
 | cons l ls =>
  refine⟨bodyL (recTxt l.recs)++textL ls,?_⟩;unfold textL recLine;rw [List.flatMap_cons,lineL_body];rfl
theorem Tryz.Sys.ownStr {B hb rb:Nat} {σ:SS} {W W':World} (h:Sys B W hb rb σ) {g:Nat} {cs:Array Value} {x:List UInt8} (hB:BoxN W g 9 cs) (g9:9≤g) (h0:cs[0]? = some (.string ⟨x.toArray⟩)) (hx:(10:UInt8)∉x) (hc:σ.c ≠ []) (hs:Spares [g] W W'):Sys B W' hb rb σ:=by
 obtain⟨fd,fn,hd,e1,e2⟩:=h.wh.d;obtain⟨n1,-,m1⟩:=h.wh.v.va.held.mapT;obtain⟨n2,-,m2⟩:=h.wh.v.va.held.mapL;obtain⟨n3,-,m3⟩:=hd.dm;obtain⟨n4,-,m4⟩:=hd.nm;obtain⟨ra,rc,hr⟩:=h.rvb;obtain⟨ls,-,-,hcc,-⟩:=h.wh.log.ex;rw [hcc] at hc;obtain⟨rest,hrest⟩:=textL_head hc
 have nf:∀(q:Nat × List UInt8),q.2=σ.c→BoxN W q.1 9 #[.string ⟨q.2.toArray⟩]→q.1 ∉ [g]:=fun q hq hb' hm=>by
  obtain rfl:q.1=g:=List.mem_singleton.1 hm;have e:=hb'.symm.trans hB;simp only [Option.some.injEq,Obj.cells.injEq] at e;rw [← e.1] at h0
  have h1:q.2=x:=by simpa using h0
  rw [← h1,hq,hcc,hrest] at hx;simp at hx
 have hB9:Below 9 W W':=hs.below h.nine (fun b hb=>by rw [List.mem_singleton.1 hb];exact g9)
 have tn:∀ b∈σ.k.turns,b ∉ [g]:=fun b hb hm=>by
  rw [List.mem_singleton.1 hm] at hb;exact h.wh.no hB (by decide) (by decide) hb
 have hd':=hd.spared hs (tn _ (by simp [Blk.turns])) (tn _ (by simp [Blk.turns])) (tn _ (by simp [Blk.turns])) (fun q hq=>nf q (by rw [← e1,hq];rfl) (hd.sd q hq)) (fun q hq=>nf q (by rw [← e2,hq];rfl) (hd.sn q hq));have hv:=h.wh.v.spared hs (tn _ (by simp [Blk.turns])) (tn _ (by simp [Blk.turns])) (tn _ (by simp [Blk.turns])) (fun b hb=>by rw [List.mem_singleton.1 hb];omega)
 exact { h with
  host:=hs.box h.host (by simpa using h.host.ne hB (by decide)),
  wh:={ h.wh with v:=hv,j:=hs.box h.wh.j (by simpa using h.wh.j.ne hB (by decide)),d:=⟨fd,fn,hd',e1,e2⟩ },
  err:=h.err.below hB9,
  rvb:=⟨ra,rc,hs.box hr (by simpa using hr.ne hB (by decide))⟩,
  due:=hs.row' h.due (fun b hb hm=>by
   obtain⟨-,cur,hcu⟩:=row_box h.due hb;rw [List.mem_singleton.1 hm] at hcu
   exact hcu.ne hB (by decide) rfl) }
theorem Tryz.Sys.grew {B hb rb:Nat} {σ:SS} {W W':World} (h:Sys B W hb rb σ) {v:Value} {n:Nat} {xs:List Value} (hr:W.ownsRow B 9 1 v n xs) (h1:∀ y,xs[0]? = some y→∃ x:List UInt8,y=.string ⟨x.toArray⟩∧(10:UInt8)∉x) (h2:∀ g,v.ownBlock=some g→0<n) (hc:σ.c ≠ []) (hg:W.grownBy W' v.ownBlock):Sys B W' hb rb σ:=by
 cases hv:v.ownBlock with
 | none =>
  rw [hv] at hg;exact h.below ⟨hg.os,hg.tape,hg.output,hg.size,fun k hk=>hg.block k hk (by simp)⟩
 | some g =>
  rw [hv] at hg;have hn:=h2 g hv;obtain⟨hl,hb'⟩:=hr
  rcases hb' with⟨rfl,-⟩ | ⟨g',cap,cur,rfl,hge,hcur,hnc,-,hsz,htk⟩
  ·cases hv
  ·have hgg:g'=g:=by simpa [Value.ownBlock] using hv
   subst hgg
   have hc0:cur[0]? = xs[0]?:=by
    have e:(cur.toList.take (n*1))[0]? = xs[0]?:=by rw [htk]
    rw [List.getElem?_take,if_pos (by omega)] at e
    simpa using e
   cases hx0:xs[0]? with
   | none=>simp at hx0;rw [hx0] at hl;simp at hl;omega
   | some y =>
    obtain⟨x,rfl,hx⟩:=h1 y hx0;rw [hx0] at hc0;exact h.ownStr (cs:=cur) (x:=x) hcur (Nat.le_trans h.b9 hge) hc0 hx hc ⟨hg.os,hg.tape,hg.output,hg.size,fun k hk hn'=>hg.block k hk (fun e=>hn' (by injection e with e;simp [e]))⟩
end Go.Proofs
