import Derived.Test.YtjbekgjdempbiaaGreatDoorJInv
import Derived.Test.YtjbekgjdempbiaaGreatDoorJTkC
import Derived.BigQuiet
import Derived.Test.YtjbekgjdempbiaaGreatDoorJRel
import Derived.Test.YtjbekgjdempbiaaGreatDoorJRvD
import Derived.Test.YtjbekgjdempbiaaGreatDoorJCodeE
set_option maxRecDepth 100000
set_option maxHeartbeats 8000000
namespace Go.Proofs
open Go.RowKit Go.Sort Go.Lib Go.Shelf Go.Maps Go.WideMaps
theorem Xeh {W:World} {base size:Nat} {v:Value} {e:TypeId} (h:W.ownsRow base e size v 0 []):v=.slice none 0 0\/∃ g cap,v=.slice (some ⟨g,0,none⟩) 0 cap:=by
 obtain⟨h1,⟨e1,-⟩ | ⟨g,cap,cur,e1,e2,e3,e4⟩⟩:=h
 ·exact .inl e1
 exact .inr ⟨g,cap,e1⟩
theorem Xi8 {W:World} {base size n:Nat} {v:Value} {e:TypeId} {xs:List Value} (h:W.ownsRow base e size v n xs) (hn:0<n):∃ g cap,v=.slice (some ⟨g,0,none⟩) n cap:=by
 obtain⟨h1,⟨e1,e2⟩ | ⟨g,cap,cur,e1,e2,e3,e4⟩⟩:=h
 ·omega
 exact⟨g,cap,e1⟩
theorem Tryz.Xpo (B:Nat) (k:Blk) (vx:VX) (tm:Int) (s:VSt) (c:List UInt8) (l f:Int) (rb:Nat) (fl:Int) (v:Value) (xs:List Value) (q:List Xe) (w:World) (h:TAt B w k vx tm s c l f rb fl v xs q) (hq1:q.length<=100) :
  Calls prog 76 #[.pointer (some ⟨k.vb,8,none⟩)] w fun e w'=>∃ t ok,e=.returned (.tuple #[.agg t.cells,.bool ok])/\∃ vx' q',TAt B w' k vx' tm s c l f rb fl v xs q'/\(ok=false->q = []/\q' = [])/\(ok=true->(t :: q').Perm q/\∀ u∈q',¬ ltT u t)/\vx'.tk=vx.tk/\vx'.due.ownBlock=vx.due.ownBlock/\Spares (k.vb :: vx.due.ownBlock.toList) w w':=by
 cases q with
 | nil =>
  refine(Xtr k.vb vx.due w (Xeh h.due) (h.wh.v.va.v.cell 8 rfl)).mono ?_;rintro e w' ⟨rfl,hb⟩;exact⟨⟨0,0,0⟩,false,rfl,vx,[],h.below hb,fun _=>⟨rfl,rfl⟩,fun e=>(by cases e),rfl,rfl,Spares.of_below hb⟩
 | cons a q =>
  obtain⟨g,cap,hd⟩:=Xi8 h.due (by simp)
  have hqv:QV B k.vb (Y7 vx tm k.mt k.ml s.tn s.ln) g cap (a :: q) w:=⟨by rw [<- hd];exact h.wh.v.va.v,by rw [<- hd];exact h.due,by show 8<9;decide⟩
  refine(qPop B k.vb g cap q.length (a :: q) _ w hqv h.hp rfl (by simp at hq1;omega)).mono ?_;rintro e w' ⟨rfl,cap',ys,hq2,hH,hpm,hS⟩
  have hown:vx.due.ownBlock=some g:=by rw [hd];rfl
  have hS':Spares (k.vb :: vx.due.ownBlock.toList) w w':=by rw [hown];exact hS
  have hleast:∀ u∈ys,¬ ltT u (getT (a :: q) 0):=fun u hu=>by
   have hm:=hpm.mem_iff.1 (List.mem_cons_of_mem _ hu);obtain⟨i,hi,e⟩:=List.getElem_of_mem hm;have:=h.hp.root i hi;have hg:getT (a :: q) i=u:=Xai (by rw [List.getElem?_eq_getElem hi,e]);rw [hg] at this;exact this
  exact⟨getT (a :: q) 0,true,rfl,{ vx with due:=.slice (some ⟨g,0,none⟩) ys.length cap' },ys,h.Xc6 hq2.v rfl rfl h.wh.v.t0 h.wh.v.t1 hq2.row hH hS',(fun e=>by cases e),(fun _=>⟨hpm,hleast⟩),rfl,(by rw [hown];rfl),hS'⟩
end Go.Proofs
namespace Go.Proofs
open Go.RowKit Go.Sort Go.Lib Go.Shelf
def Xql (W:World) (v:Value) (xs:List (List UInt8)):Prop:=
 ∃ p cap,v=.slice p xs.length cap/\∀(k:Nat) (x:List UInt8),xs[k]? = some x->∃ q,p=some ⟨q,0,none⟩/\q<W.heap.size/\W.cell? ⟨q,k,none⟩=some (.string ⟨x.toArray⟩)
def hasB (xs:List (List UInt8)) (id:List UInt8):Bool:=xs.any (fun x=>x==id)
theorem Uo (xs:List (List UInt8)) (x id:List UInt8):hasB (xs ++ [x]) id=(hasB xs id||(x==id)):=by simp [hasB]
def V0 (tm:Int) (L:List ThingD) (xs:List (List UInt8)) (t:ThingD):Bool:=
 t.state tm==2&&(decide (t.at_<=tm)&&((!t.token||Y4 t.n L) && !hasB xs t.id))
def firstB (t u:ThingD):Bool:=decide (t.at_<u.at_)||(t.at_==u.at_&&((!t.token&&u.token)||(t.token==u.token&&decide ((t.n:Int)<u.n))))
theorem Xoh (t u:ThingD):firstB t u=(decide (t.at_<u.at_)||(t.at_==u.at_&&((!t.token&&u.token)||(t.token==u.token&&decide ((t.n:Int)<u.n))))):=rfl
def Ju (p:ThingD->Bool) (L:List ThingD):Nat->Option Nat
 | 0=>none
 | k+1=>match L[k]? with
  | none=>Ju p L k
  | some t=>if p t then (match Ju p L k with
    | none=>some k
    | some b=>match L[b]? with
     | none=>some k
     | some u=>if firstB t u then some k else some b) else Ju p L k
def Xkl:Option Nat->Int
 | none=>-1
 | some k=>k
theorem Xna (p:ThingD->Bool) (L:List ThingD):∀(k:Nat) {b:Nat},Ju p L k=some b->b<k/\b<L.length
 | 0,b,h=>by simp [Ju] at h
 | k+1,b,h=>by
  have ih:=fun {b:Nat}=>Xna p L k (b:=b)
  unfold Ju at h
  cases hk:L[k]? with
  | none=>rw [hk] at h;have:=ih h;omega
  | some t =>
   have hkl:=(List.getElem?_eq_some_iff.1 hk).1;rw [hk] at h;simp only at h
   split at h
   ·cases hd:Ju p L k with
    | none=>rw [hd] at h;simp at h;omega
    | some c =>
     have:=ih hd;rw [hd] at h;simp only at h
     cases hc:L[c]? with
     | none=>rw [hc] at h;simp at h;omega
     | some u =>
      rw [hc] at h;simp only at h
      split at h
      ·simp at h;omega
      simp at h;omega
   have:=ih h;omega
theorem Xgb {p:ThingD->Bool} {L:List ThingD} {k:Nat} {t:ThingD} (ht:L[k]? = some t) (hp:p t=false):Ju p L (k+1)=Ju p L k:=by
 simp [Ju,ht,hp]
theorem Xkb {p:ThingD->Bool} {L:List ThingD} {k:Nat} {t:ThingD} (ht:L[k]? = some t) (hp:p t=true) (hn:Ju p L k=none):Ju p L (k+1)=some k:=by
 simp [Ju,ht,hp,hn]
theorem Xjd {p:ThingD->Bool} {L:List ThingD} {k b:Nat} {t u:ThingD} (ht:L[k]? = some t) (hp:p t=true) (hn:Ju p L k=some b) (hu:L[b]? = some u):Ju p L (k+1)=if firstB t u then some k else some b:=by
 simp [Ju,ht,hp,hn,hu]
def Xf4 (tm:Int) (L:List ThingD) (xs:List (List UInt8)):Option Nat:=Ju (V0 tm L xs) L L.length
end Go.Proofs
namespace Go.Proofs
open Go.RowKit Go.Sort Go.Lib Go.Shelf Go.Maps
def ThingD.turn (t:ThingD):Xe:=⟨t.at_,kdB t.token,t.n⟩
theorem Mw (t u:ThingD):firstB t u=true↔ltT t.turn u.turn:=by
 unfold firstB ltT ThingD.turn kdB
 cases t.token <;> cases u.token <;> simp <;> omega
theorem Xc2 (p:ThingD->Bool) (L:List ThingD):∀ k,match Ju p L k with
  | none=>∀ i t,i<k->L[i]? = some t->p t=false
  | some b=>∃ u,L[b]? = some u/\p u=true/\∀ i t,i<k->L[i]? = some t->p t=true->firstB t u=false
 | 0=>fun i t h=>by omega
 | k+1=>by
  have ih:=Xc2 p L k
  cases hk:L[k]? with
  | none =>
   have hlen:L.length<=k:=List.getElem?_eq_none_iff.1 hk
   have e:Ju p L (k+1)=Ju p L k:=by simp [Ju,hk]
   rw [e]
   cases hd:Ju p L k with
   | none =>
    rw [hd] at ih
    exact fun i t hi ht=>ih i t (by have:=(List.getElem?_eq_some_iff.1 ht).1;omega) ht
   | some b =>
    rw [hd] at ih;obtain⟨u,h1,h2,h3⟩:=ih;exact⟨u,h1,h2,fun i t hi ht=>h3 i t (by have:=(List.getElem?_eq_some_iff.1 ht).1;omega) ht⟩
  | some x =>
   by_cases hp:p x=true
   ·cases hd:Ju p L k with
    | none =>
     rw [hd] at ih;rw [Xkb hk hp hd];refine⟨x,hk,hp,fun i t hi ht hpt=>?_⟩
     by_cases e:i=k
     ·subst e
      rw [hk] at ht;cases ht;simp [firstB]
     rw [ih i t (by omega) ht] at hpt;cases hpt
    | some b =>
     rw [hd] at ih;obtain⟨u,h1,h2,h3⟩:=ih;rw [Xjd hk hp hd h1]
     by_cases hf:firstB x u=true
     ·rw [if_pos hf]
      refine⟨x,hk,hp,fun i t hi ht hpt=>?_⟩
      by_cases e:i=k
      ·subst e
       rw [hk] at ht;cases ht;simp [firstB]
      have h4:=h3 i t (by omega) ht hpt;rw [Bool.eq_false_iff] at h4 ⊢;intro h5;apply h4;rw [Mw] at hf h5 ⊢;unfold ltT at *;omega
     rw [if_neg hf];refine⟨u,h1,h2,fun i t hi ht hpt=>?_⟩
     by_cases e:i=k
     ·subst e
      rw [hk] at ht;cases ht
      simpa using hf
     exact h3 i t (by omega) ht hpt
   have hp':p x=false:=by simpa using hp
   rw [Xgb hk hp']
   cases hd:Ju p L k with
   | none =>
    rw [hd] at ih;intro i t hi ht
    by_cases e:i=k
    ·subst e
     rw [hk] at ht;cases ht;exact hp'
    exact ih i t (by omega) ht
   | some b =>
    rw [hd] at ih;obtain⟨u,h1,h2,h3⟩:=ih;refine⟨u,h1,h2,fun i t hi ht hpt=>?_⟩
    by_cases e:i=k
    ·subst e
     rw [hk] at ht;cases ht;rw [hp'] at hpt;cases hpt
    exact h3 i t (by omega) ht hpt
theorem Xtj {tm:Int} {L:List ThingD} {xs:List (List UInt8)} {i:Nat} {th:ThingD} (hi:L[i]? = some th) (hp:V0 tm L xs th=true) (hmin:∀ u∈L,V0 tm L xs u=true->firstB u th=false) (huq:∀ j u,L[j]? = some u->u.token=th.token->u.n=th.n->j=i):Xf4 tm L xs=some i:=by
 have hs:=Xc2 (V0 tm L xs) L L.length;unfold Xf4
 cases hd:Ju (V0 tm L xs) L L.length with
 | none =>
  rw [hd] at hs;rw [hs i th (List.getElem?_eq_some_iff.1 hi).1 hi] at hp;cases hp
 | some b =>
  rw [hd] at hs;obtain⟨u,h1,h2,h3⟩:=hs;have h4:=h3 i th (List.getElem?_eq_some_iff.1 hi).1 hi hp;have h5:=hmin u (List.mem_of_getElem? h1) h2;rw [Bool.eq_false_iff] at h4 h5;rw [Ne,Mw] at h4 h5;unfold ltT ThingD.turn kdB at h4 h5
  have e:u.token=th.token/\u.n=th.n:=by
   cases ht:u.token <;> cases hv:th.token <;> simp [ht,hv] at h4 h5 ⊢ <;> omega
  rw [huq b u h1 e.1 e.2]
theorem Xn1 {tm:Int} {L:List ThingD} {xs:List (List UInt8)} (h:∀ u∈L,V0 tm L xs u=false):Xf4 tm L xs=none:=by
 have hs:=Xc2 (V0 tm L xs) L L.length;unfold Xf4
 cases hd:Ju (V0 tm L xs) L L.length with
 | none=>rfl
 | some b =>
  rw [hd] at hs;obtain⟨u,h1,h2,-⟩:=hs;rw [h u (List.mem_of_getElem? h1)] at h2;cases h2
theorem Xjk {α:Type} {f:α->Nat} {l:List α} (h:l.Pairwise (fun a b=>f a<f b)):l.Nodup:=h.imp (fun hab e=>by rw [e] at hab;omega)
theorem M3 {α:Type} (p:α->Bool):∀ {L:List α},(L.filter p).Nodup->(L.filter (fun x=>!p x)).Nodup->L.Nodup
 | [],_,_=>List.nodup_nil
 | a :: L,h1,h2=>by
  cases hp:p a
  ·rw [List.filter_cons_of_neg (by simp [hp])] at h1
   rw [List.filter_cons_of_pos (by simp [hp])] at h2;obtain⟨h3,h4⟩:=List.nodup_cons.1 h2;exact List.nodup_cons.2 ⟨fun hm=>h3 (List.mem_filter.2 ⟨hm,by simp [hp]⟩),M3 p h1 h4⟩
  rw [List.filter_cons_of_pos (by simp [hp])] at h1;rw [List.filter_cons_of_neg (by simp [hp])] at h2;obtain⟨h3,h4⟩:=List.nodup_cons.1 h1;exact List.nodup_cons.2 ⟨fun hm=>h3 (List.mem_filter.2 ⟨hm,by simp [hp]⟩),M3 p h4 h2⟩
theorem Xqs {α β:Type} (g:α->β) (f:α->Nat) (k:β->Nat) (hk:∀ a,k (g a)=f a) {l:List α} (h:l.Pairwise (fun a b=>f a<f b)):(l.map g).Pairwise (fun a b=>k a<k b):=by
 rw [List.pairwise_map];exact h.imp (fun hab=>by rw [hk,hk];exact hab)
section
variable {tks:List Xd} {lks:List Xc} {L:List ThingD}
theorem Rel.nodup (h:Rel tks lks L) (h1:tks.Pairwise (fun a b=>a.n<b.n)) (h2:lks.Pairwise (fun a b=>a.n<b.n)):L.Nodup:=by
 refine M3 (fun t=>t.token==true) ?_ ?_
 ·rw [h.toks]
  exact Xjk (Xqs thT Xd.n ThingD.n (fun _=>rfl) h1)
 have e:(fun t:ThingD=>!(t.token==true))=fun t=>t.token==false:=by funext t;cases t.token <;> rfl
 rw [e,h.leas];exact Xjk (Xqs thL Xc.n ThingD.n (fun _=>rfl) h2)
theorem Rel.idx (h:Rel tks lks L) (ok:Xx tks lks) {i j:Nat} {x y:ThingD} (hi:L[i]? = some x) (hj:L[j]? = some y) (ht:y.token=x.token) (hn:y.n=x.n):j=i:=by
 have e:=h.Xkr ok (List.mem_of_getElem? hj) (List.mem_of_getElem? hi) ht hn;subst e;have hnd:=h.nodup ok.incT ok.incL;obtain⟨a1,a2⟩:=List.getElem?_eq_some_iff.1 hi;obtain⟨b1,b2⟩:=List.getElem?_eq_some_iff.1 hj;exact(List.getElem_inj hnd).1 (b2.trans a2.symm)
theorem Rel.free {s:VSt} (h:Rel s.tks s.lks L) (n:Nat):Y4 (n:Int) L = !hasU s n:=by
 unfold Y4 hasU;rw [Bool.eq_iff_iff];simp only [List.all_eq_true,Bool.not_eq_true',Bool.or_eq_false_iff,List.any_eq_false,beq_eq_false_iff_ne,Bool.not_eq_true,Bool.and_eq_false_iff,beq_eq_false_iff_ne]
 constructor
 ·intro hf
  refine⟨fun t ht=>?_,fun t ht=>?_⟩
  ·have:=hf _ (h.Vh ht)
   unfold thT at this
   by_cases hk:t.ak=1
   ·rw [if_pos hk] at this;simp at this;right;omega
   exact .inl hk
  have:=hf _ (h.Xcl ht);unfold thL at this;simp at this
  right;omega
 intro ⟨h1,h2⟩ x hx e;cases hk:x.token
 ·obtain⟨t,ht,rfl⟩:=h.Mi hx hk
  rcases h2 t ht with e1 | e1
  ·exact e1 (h.akL t ht)
  exact e1 e
 obtain⟨t,ht,rfl⟩:=h.Zj hx hk;unfold thT at e
 rcases h1 t ht with e1 | e1
 ·simp [e1] at e
 simp only at e
 split at e
 ·exact e1 e
 omega
end
def Z2 (x z:ThingD):Bool:=z.token==x.token&&z.n==x.n
theorem Ys {x z:ThingD}:Z2 x z=true↔z.token=x.token/\z.n=x.n:=by simp [Z2]
theorem Uz {L:List ThingD} {i:Nat} {x y:ThingD} (hi:L[i]? = some x) (huq:∀ j u,L[j]? = some u->u.token=x.token->u.n=x.n->j=i):L.set i y=L.map (fun z=>if Z2 x z then y else z):=by
 apply List.ext_getElem?;intro j;rw [List.getElem?_map]
 by_cases hj:i=j
 ·subst hj
  rw [hi,List.getElem?_set_self (List.getElem?_eq_some_iff.1 hi).1];simp [Z2]
 rw [List.getElem?_set_ne hj]
 cases h:L[j]? with
 | none=>rfl
 | some u =>
  have:Z2 x u=false:=by
   rw [Bool.eq_false_iff,Ne,Ys]
   exact fun e=>hj (huq j u h e.1 e.2).symm
  simp [this]
theorem Zm {x:ThingD}:∀ {L:List ThingD} {i:Nat},L[i]? = some x->(∀ j u,L[j]? = some u->u.token=x.token->u.n=x.n->j=i)->L.eraseIdx i=L.filter (fun z=>!Z2 x z)
 | [],i,hi,_=>by simp at hi
 | a :: L,0,hi,huq=>by
  have:a=x:=by simpa using hi
  subst this;rw [List.filter_cons_of_neg (by simp [Z2])];refine(List.filter_eq_self.2 (fun z hz=>?_)).symm
  have hz:z∈L:=by simpa using hz
  obtain⟨j,hj,e⟩:=List.getElem_of_mem hz
  have hz2:(a :: L)[j+1]? = some z:=by rw [List.getElem?_cons_succ,List.getElem?_eq_getElem hj,e]
  have:Z2 a z=false:=by
   rw [Bool.eq_false_iff,Ne,Ys]
   exact fun e=>by have:=huq (j+1) z hz2 e.1 e.2;omega
  simp [this]
 | a :: L,i+1,hi,huq=>by
  have h1:Z2 x a=false:=by
   rw [Bool.eq_false_iff,Ne,Ys]
   exact fun e=>by have:=huq 0 a rfl e.1 e.2;omega
  rw [List.filter_cons_of_pos (by simp [h1]),List.eraseIdx_cons_succ]
  congr 1
  refine Zm (by simpa using hi) (fun j u hj e1 e2=>?_);have:=huq (j+1) u (by simpa using hj) e1 e2;omega
theorem Xfd {t:Xd} {l:List Xd} (hs:l.Pairwise (fun a b=>a.n<b.n)) {x:Xd} (hx:x∈l) (hn:x.n=t.n):Yh t l=l.map (fun z=>if z.n=t.n then t else z):=by
 rcases Yy (t:=t) hs with⟨a,y,b,rfl,hy,hp,hne⟩ | ⟨hne,-⟩
 ·rw [hp]
  obtain⟨h1,h2,h3⟩:=List.pairwise_append.1 hs;obtain⟨h4,-⟩:=List.pairwise_cons.1 h2;rw [List.map_append,List.map_cons,if_pos hy]
  congr 1
  ·exact((List.map_congr_left (fun z hz=>show (if z.n=t.n then t else z)=id z from if_neg (by have:=h3 z hz y (by simp);omega))).trans (List.map_id a)).symm
  congr 1
  exact((List.map_congr_left (fun z hz=>show (if z.n=t.n then t else z)=id z from if_neg (by have:=h4 z hz;omega))).trans (List.map_id b)).symm
 exact absurd hn (hne x hx)
theorem Xew {t:Xc} {l:List Xc} (hs:l.Pairwise (fun a b=>a.n<b.n)) {x:Xc} (hx:x∈l) (hn:x.n=t.n):Yc t l=l.map (fun z=>if z.n=t.n then t else z):=by
 rcases Yx (t:=t) hs with⟨a,y,b,rfl,hy,hp,hne⟩ | ⟨hne,-⟩
 ·rw [hp]
  obtain⟨h1,h2,h3⟩:=List.pairwise_append.1 hs;obtain⟨h4,-⟩:=List.pairwise_cons.1 h2;rw [List.map_append,List.map_cons,if_pos hy]
  congr 1
  ·exact((List.map_congr_left (fun z hz=>show (if z.n=t.n then t else z)=id z from if_neg (by have:=h3 z hz y (by simp);omega))).trans (List.map_id a)).symm
  congr 1
  exact((List.map_congr_left (fun z hz=>show (if z.n=t.n then t else z)=id z from if_neg (by have:=h4 z hz;omega))).trans (List.map_id b)).symm
 exact absurd hn (hne x hx)
section
variable {tks:List Xd} {lks:List Xc} {L:List ThingD}
theorem Rel.mapped (h:Rel tks lks L) (f:ThingD->ThingD) (gT:Xd->Xd) (gL:Xc->Xc) (hf:∀ z,(f z).token=z.token) (hT:∀ t∈tks,f (thT t)=thT (gT t)) (hL:∀ t∈lks,f (thL t)=thL (gL t)) (kT:∀ t∈tks,(gT t).ak=t.ak) (kL:∀ t∈lks,(gL t).ak=t.ak):Rel (tks.map gT) (lks.map gL) (L.map f):=by
 refine⟨?_,?_,fun t ht=>?_,fun t ht=>?_⟩
 ·rw [List.filter_map,show ((fun t:ThingD=>t.token==true) ∘ f)=fun t=>t.token==true from by funext z;simp [hf],h.toks,List.map_map,List.map_map]
  exact List.map_congr_left (fun t ht=>hT t ht)
 ·rw [List.filter_map,show ((fun t:ThingD=>t.token==false) ∘ f)=fun t=>t.token==false from by funext z;simp [hf],h.leas,List.map_map,List.map_map]
  exact List.map_congr_left (fun t ht=>hL t ht)
 ·obtain⟨t',h1,rfl⟩:=List.mem_map.1 ht
  rw [kT t' h1];exact h.akT t' h1
 obtain⟨t',h1,rfl⟩:=List.mem_map.1 ht;rw [kL t' h1];exact h.akL t' h1
theorem Rel.less (h:Rel tks lks L) (p:ThingD->Bool) (pT:Xd->Bool) (pL:Xc->Bool) (hT:∀ t,p (thT t)=pT t) (hL:∀ t,p (thL t)=pL t):Rel (tks.filter pT) (lks.filter pL) (L.filter p):=by
 refine⟨?_,?_,fun t ht=>h.akT t (List.mem_filter.1 ht).1,fun t ht=>h.akL t (List.mem_filter.1 ht).1⟩
 ·rw [List.filter_filter,show (fun a:ThingD=>(a.token==true)&&p a)=fun a=>p a&&(a.token==true) from by funext a;exact Bool.and_comm _ _,<- List.filter_filter,h.toks,List.filter_map]
  rw [show (p ∘ thT)=pT from by funext t;exact hT t]
 rw [List.filter_filter,show (fun a:ThingD=>(a.token==false)&&p a)=fun a=>p a&&(a.token==false) from by funext a;exact Bool.and_comm _ _,<- List.filter_filter,h.leas,List.filter_map];rw [show (p ∘ thL)=pL from by funext t;exact hL t]
end
theorem Zq.thing {tm:Int} {s:VSt} {t:Xe} {it:Item} {tk:Bool} {n un:Nat} {L:List ThingD} (hs:Zq tm s t it tk n un) (h:Rel s.tks s.lks L) (ok:Xx s.tks s.lks):∃ i th,L[i]? = some th/\th.turn=t/\th.token=tk/\th.n=n/\th.of_=(un:Int)/\Rel (it.app s).tks (it.app s).lks (L.set i (Ue tm th))/\Rel ((Item.gone tk n).app s).tks ((Item.gone tk n).app s).lks (L.eraseIdx i):=by
 cases hs with
 | tok t hm hk =>
  obtain⟨i,hi,e⟩:=List.getElem_of_mem (h.Vh hm)
  have hi':L[i]? = some (thT t):=by rw [List.getElem?_eq_getElem hi,e]
  have huq:∀ j u,L[j]? = some u->u.token=(thT t).token->u.n=(thT t).n->j=i:=fun j u hj e1 e2=>h.idx ok hi' hj e1 e2
  refine⟨i,thT t,hi',rfl,rfl,rfl,by simp [thT,hk],?_,?_⟩
  ·rw [Uz hi' huq]
   show Rel (Yh (Va tm t) s.tks) s.lks _
   rw [Xfd ok.incT hm (show t.n=(Va tm t).n from rfl)]
   have:=h.mapped (fun z=>if Z2 (thT t) z then Ue tm (thT t) else z) (fun z=>if z.n=(Va tm t).n then Va tm t else z) id (fun z=>by
     split
     ·rename_i e;exact(Ys.1 e).1.symm
     rfl) (fun z hz=>?_) (fun z hz=>by simp [Z2,thT,thL]) (fun z hz=>?_) (fun z hz=>rfl)
   ·simpa using this
   ·by_cases e:z.n=t.n
    ·have:Z2 (thT t) (thT z)=true:=Ys.2 ⟨rfl,e⟩
     rw [if_pos this,if_pos (show z.n=(Va tm t).n from e)];rfl
    have:Z2 (thT t) (thT z)=false:=by rw [Bool.eq_false_iff,Ne,Ys];exact fun h=>e h.2
    rw [if_neg (by simp [this]),if_neg (show ¬ z.n=(Va tm t).n from e)]
   split
   ·rename_i e
    have:z=t:=Z5 (f:=Xd.n) ok.incT hz hm e;rw [this];rfl
   rfl
  rw [Zm hi' huq];have:=h.less (fun z=>!Z2 (thT t) z) (fun z=>z.n != t.n) (fun _=>true) (fun z=>by simp [Z2,thT,bne]) (fun z=>by simp [Z2,thT,thL]);rw [show s.lks.filter (fun _=>true)=s.lks from List.filter_eq_self.2 (fun _ _=>rfl)] at this
  simpa [Item.app,Yu,Y6,Xba] using this
 | lea t hm hk =>
  obtain⟨i,hi,e⟩:=List.getElem_of_mem (h.Xcl hm)
  have hi':L[i]? = some (thL t):=by rw [List.getElem?_eq_getElem hi,e]
  have huq:∀ j u,L[j]? = some u->u.token=(thL t).token->u.n=(thL t).n->j=i:=fun j u hj e1 e2=>h.idx ok hi' hj e1 e2
  refine⟨i,thL t,hi',rfl,rfl,rfl,rfl,?_,?_⟩
  ·rw [Uz hi' huq]
   show Rel s.tks (Yc (Vb tm t) s.lks) _
   rw [Xew ok.incL hm (show t.n=(Vb tm t).n from rfl)]
   have:=h.mapped (fun z=>if Z2 (thL t) z then Ue tm (thL t) else z) id (fun z=>if z.n=(Vb tm t).n then Vb tm t else z) (fun z=>by
     split
     ·rename_i e;exact(Ys.1 e).1.symm
     rfl) (fun z hz=>by simp [Z2,thT,thL]) (fun z hz=>?_) (fun z hz=>rfl) (fun z hz=>?_)
   ·simpa using this
   ·by_cases e:z.n=t.n
    ·have:Z2 (thL t) (thL z)=true:=Ys.2 ⟨rfl,e⟩
     rw [if_pos this,if_pos (show z.n=(Vb tm t).n from e)];rfl
    have:Z2 (thL t) (thL z)=false:=by rw [Bool.eq_false_iff,Ne,Ys];exact fun h=>e h.2
    rw [if_neg (by simp [this]),if_neg (show ¬ z.n=(Vb tm t).n from e)]
   split
   ·rename_i e
    have:z=t:=Z5 (f:=Xc.n) ok.incL hz hm e;rw [this];rfl
   rfl
  rw [Zm hi' huq];have:=h.less (fun z=>!Z2 (thL t) z) (fun _=>true) (fun z=>z.n != t.n) (fun z=>by simp [Z2,thT,thL]) (fun z=>by simp [Z2,thL,bne]);rw [show s.tks.filter (fun _=>true)=s.tks from List.filter_eq_self.2 (fun _ _=>rfl)] at this
  simpa [Item.app,Yu,Y6,Xa8] using this
def Item.Old:Item->VSt->Prop
 | .tok t,s=>Xdo t/\(∃ x∈s.tks,x.n=t.n)/\t.n<Xo/\t.au<Xo
 | .lea t,s=>Xc8 t/\(∃ x∈s.lks,x.n=t.n)/\t.n<Xo/\t.au<Xo
 | .gone _ _,_=>False
theorem Xlw {t:Xc} {l:List Xc} (hs:l.Pairwise (fun a b=>a.n<b.n)) {m:Nat} (h:∃ p∈l,p.n=m):∃ p∈Yc t l,p.n=m:=by
 obtain⟨p,hp,e⟩:=h
 rcases putLea_has (t:=t) hs hp with h1 | h1
 ·refine⟨t,?_,by omega⟩
  rcases Yx (t:=t) hs with⟨a,y,b,rfl,hy,hq,hne⟩ | ⟨hne,hq⟩ <;> rw [hq] <;> simp
 exact⟨p,h1,e⟩
theorem U9:∀(is:List Item) (s:VSt),(∀ i∈is,i.Old s)->s.tks.Pairwise (fun a b=>a.n<b.n)->s.lks.Pairwise (fun a b=>a.n<b.n)->s.tks.length<500->s.lks.length<500->Yr is s
 | [],_,_,_,_,_,_=>trivial
 | i :: is,s,h,hT,hL,nT,nL=>by
  have hi:=h i (by simp)
  have hr:=fun j hj=>h j (List.mem_cons_of_mem _ hj)
  cases i with
  | tok t =>
   obtain⟨h1,⟨x,hx,hn⟩,h3,h4⟩:=hi;refine⟨⟨h1,.inl ⟨x,hx,hn⟩,nT,h3,h4⟩,U9 is _ (fun j hj=>?_) (Mh hT (.inl ⟨x,hx,hn⟩)) hL (by show (Yh t s.tks).length<500;rw [J7 hT hx hn];exact nT) nL⟩;have:=hr j hj
   cases j with
   | tok u=>exact⟨this.1,Md hT this.2.1,this.2.2⟩
   | lea u=>exact this
   | gone _ _=>exact this
  | lea t =>
   obtain⟨h1,⟨x,hx,hn⟩,h3,h4⟩:=hi;refine⟨⟨h1,.inl ⟨x,hx,hn⟩,nL,h3,h4⟩,U9 is _ (fun j hj=>?_) hT (Mg hL (.inl ⟨x,hx,hn⟩)) nT (by show (Yc t s.lks).length<500;rw [J6 hL hx hn];exact nL)⟩;have:=hr j hj
   cases j with
   | tok u=>exact this
   | lea u=>exact⟨this.1,Xlw hL this.2.1,this.2.2⟩
   | gone _ _=>exact this
  | gone _ _=>exact hi.elim
theorem Xf8 (a b:List Item) (s:VSt):Yq (a++b) s=Yq b (Yq a s):=by
 induction a generalizing s with
 | nil=>rfl
 | cons i a ih=>exact ih (i.app s)
def goL (tm:Int) (p:Xc->Bool) (l:Xc):Bool:=(!l.pd&&decide (tm<l.at_))&&p l
def Z8 (tm:Int) (l:Xc):Xc:={ l with pd:=true,at_:=tm }
def U8 (tm:Int) (t:Xd):Xd:={ t with pd:=true,at_:=tm }
def Zl (tm:Int) (p:Xd->Bool) (ts:List Xd):List Item:=(ts.filter fun t=>!t.pd&&p t).map fun t=>Item.tok (U8 tm t)
theorem Xno {α:Type} {f:α->Nat} {ls:List α} {m:Nat} (h:∀ l∈ls,m<f l):ls.any (fun l=>f l==m)=false:=by
 rw [List.any_eq_false];intro l hl;have:=h l hl;simp;omega
theorem Mu {tm:Int} {p:Xc->Bool}:∀(ls:List Xc) (s:VSt),ls.Pairwise (fun a b=>a.n<b.n)->s.lks.Pairwise (fun a b=>a.n<b.n)->(∀ l∈ls,l∈s.lks)->(∀ l∈ls,l.n<=s.ln)->Yq (X3 tm p ls) s=⟨s.tn,s.ln,s.tks,s.lks.map fun z=>if ls.any (fun l=>l.n==z.n)&&goL tm p z then Z8 tm z else z⟩
 | [],s,_,_,_,_=>by
  obtain⟨tn,ln,tks,lks⟩:=s;simp [X3,Yq]
 | a :: ls,s,hp,hs,hm,hn=>by
  obtain⟨h1,h2⟩:=List.pairwise_cons.1 hp;have ham:=hm a (by simp)
  by_cases hg:goL tm p a=true
  ·have e:X3 tm p (a :: ls)=.lea (Z8 tm a) :: X3 tm p ls:=by
    have hg':(!a.pd&&decide (tm<a.at_)&&p a)=true:=hg;simp only [X3,List.filter_cons,hg',if_true,List.map_cons];rfl
   have hput:Yc (Z8 tm a) s.lks=s.lks.map (fun z=>if z.n=a.n then Z8 tm a else z):=Xew (t:=Z8 tm a) hs ham rfl
   have happ:(Item.lea (Z8 tm a)).app s=⟨s.tn,s.ln,s.tks,s.lks.map (fun z=>if z.n=a.n then Z8 tm a else z)⟩:=by
    show VSt.mk s.tn (max s.ln a.n) s.tks (Yc (Z8 tm a) s.lks)=_
    rw [hput,Nat.max_eq_left (hn a (by simp))]
   rw [e]
   show Yq (X3 tm p ls) ((Item.lea (Z8 tm a)).app s)=_
   rw [happ,Mu ls ⟨s.tn,s.ln,s.tks,s.lks.map (fun z=>if z.n=a.n then Z8 tm a else z)⟩ h2 (by
     show (s.lks.map (fun z=>if z.n=a.n then Z8 tm a else z)).Pairwise _
     rw [<- hput]
     exact Mg hs (.inl ⟨a,ham,rfl⟩)) (fun l hl=>List.mem_map.2 ⟨l,hm l (List.mem_cons_of_mem _ hl),if_neg (by have:=h1 l hl;omega)⟩) (fun l hl=>hn l (List.mem_cons_of_mem _ hl))]
   congr 1
   simp only;rw [List.map_map];refine List.map_congr_left (fun z hz=>?_);simp only [Function.comp]
   by_cases hza:z.n=a.n
   ·have:z=a:=Z5 (f:=Xc.n) hs hz ham hza
    subst this;rw [if_pos rfl];have hno:ls.any (fun l=>l.n==z.n)=false:=Xno (f:=Xc.n) h1;rw [show (Z8 tm z).n=z.n from rfl,hno];simp [hg]
   rw [if_neg hza]
   have:(a.n==z.n)=false:=by rw [beq_eq_false_iff_ne];omega
   simp [this]
  have e:X3 tm p (a :: ls)=X3 tm p ls:=by
   have hg':(!a.pd&&decide (tm<a.at_)&&p a)=false:=by simpa using(show ¬ (!a.pd&&decide (tm<a.at_)&&p a)=true from hg)
   simp only [X3,List.filter_cons,hg',Bool.false_eq_true,if_false]
  rw [e,Mu ls s h2 hs (fun l hl=>hm l (List.mem_cons_of_mem _ hl)) (fun l hl=>hn l (List.mem_cons_of_mem _ hl))]
  congr 1
  refine List.map_congr_left (fun z hz=>?_)
  by_cases hza:z.n=a.n
  ·have:z=a:=Z5 (f:=Xc.n) hs hz ham hza
   subst this
   have:goL tm p z=false:=by simpa using hg
   simp [this]
  have:(a.n==z.n)=false:=by rw [beq_eq_false_iff_ne];omega
  simp [this]
theorem Mq {tm:Int} {p:Xd->Bool}:∀(ls:List Xd) (s:VSt),ls.Pairwise (fun a b=>a.n<b.n)->s.tks.Pairwise (fun a b=>a.n<b.n)->(∀ l∈ls,l∈s.tks)->(∀ l∈ls,l.n<=s.tn)->Yq (Zl tm p ls) s=⟨s.tn,s.ln,s.tks.map fun z=>if ls.any (fun l=>l.n==z.n)&&(!z.pd&&p z) then U8 tm z else z,s.lks⟩
 | [],s,_,_,_,_=>by
  obtain⟨tn,ln,tks,lks⟩:=s;simp [Zl,Yq]
 | a :: ls,s,hp,hs,hm,hn=>by
  obtain⟨h1,h2⟩:=List.pairwise_cons.1 hp;have ham:=hm a (by simp)
  by_cases hg:(!a.pd&&p a)=true
  ·have e:Zl tm p (a :: ls)=.tok (U8 tm a) :: Zl tm p ls:=by
    simp only [Zl,List.filter_cons,hg,if_true,List.map_cons]
   have hput:Yh (U8 tm a) s.tks=s.tks.map (fun z=>if z.n=a.n then U8 tm a else z):=Xfd (t:=U8 tm a) hs ham rfl
   have happ:(Item.tok (U8 tm a)).app s=⟨s.tn,s.ln,s.tks.map (fun z=>if z.n=a.n then U8 tm a else z),s.lks⟩:=by
    show VSt.mk (max s.tn a.n) s.ln (Yh (U8 tm a) s.tks) s.lks=_
    rw [hput,Nat.max_eq_left (hn a (by simp))]
   rw [e]
   show Yq (Zl tm p ls) ((Item.tok (U8 tm a)).app s)=_
   rw [happ,Mq ls ⟨s.tn,s.ln,s.tks.map (fun z=>if z.n=a.n then U8 tm a else z),s.lks⟩ h2 (by
     show (s.tks.map (fun z=>if z.n=a.n then U8 tm a else z)).Pairwise _
     rw [<- hput]
     exact Mh hs (.inl ⟨a,ham,rfl⟩)) (fun l hl=>List.mem_map.2 ⟨l,hm l (List.mem_cons_of_mem _ hl),if_neg (by have:=h1 l hl;omega)⟩) (fun l hl=>hn l (List.mem_cons_of_mem _ hl))]
   congr 1
   simp only;rw [List.map_map];refine List.map_congr_left (fun z hz=>?_);simp only [Function.comp]
   by_cases hza:z.n=a.n
   ·have:z=a:=Z5 (f:=Xd.n) hs hz ham hza
    subst this;rw [if_pos rfl];have hno:ls.any (fun l=>l.n==z.n)=false:=Xno (f:=Xd.n) h1;rw [show (U8 tm z).n=z.n from rfl,hno];simp [hg]
   rw [if_neg hza]
   have:(a.n==z.n)=false:=by rw [beq_eq_false_iff_ne];omega
   simp [this]
  have e:Zl tm p (a :: ls)=Zl tm p ls:=by
   have hg':(!a.pd&&p a)=false:=by simpa using hg
   simp only [Zl,List.filter_cons,hg',Bool.false_eq_true,if_false]
  rw [e,Mq ls s h2 hs (fun l hl=>hm l (List.mem_cons_of_mem _ hl)) (fun l hl=>hn l (List.mem_cons_of_mem _ hl))]
  congr 1
  refine List.map_congr_left (fun z hz=>?_)
  by_cases hza:z.n=a.n
  ·have:z=a:=Z5 (f:=Xd.n) hs hz ham hza
   subst this
   have:(!z.pd&&p z)=false:=by simpa using hg
   simp [this]
  have:(a.n==z.n)=false:=by rw [beq_eq_false_iff_ne];omega
  simp [this]
theorem Tryz.Xm0 (B:Nat) (k:Blk) (vx:VX) (tm:Int) (s:VSt) (c:List UInt8) (l f:Int) (is:List Item) (v:Value) (w:World) (hW:Whole w k vx tm s c l f) (hl:l<0) (hl1 : -999999990<=l) (hf:f<0) (hf1 : -999999990<=f) (hc:c.length<=900000000000) (hrow:w.ownsRow B 135 10 v is.length (Yi (is.map Item.rec_))) (hn1:is.length<=50) (hF:Yr is s) :
  Calls prog 66 #[.pointer (some ⟨k.vb,0,none⟩),v] w fun e w'=>e=.returned .nilIface/\(∃ c' l' f',c'.length<=c.length+70000/\Whole w' k vx tm (Yq is s) c' l' f')/\Spares k.turns w w':=by
 cases is with
 | nil =>
  refine(Xuc k.vb v w (Xeh hrow)).mono ?_;rintro e w' ⟨rfl,rfl⟩;exact⟨rfl,⟨c,l,f,by omega,hW⟩,Spares.of_below (Below.refl _ _)⟩
 | cons i is =>
  obtain⟨g,cap,rfl⟩:=Xi8 hrow (by simp);obtain⟨hlo,cs,hB⟩:=Xm hrow (g:=g) rfl;have hkl:=Js hW.v.t0 hW.v.t1 hF hn1;refine(Xum k vx tm s c l f (i :: is) g cap w hW hl hl1 hf hf1 hc (Xcz hrow) hB.lt (hW.no hB (by decide) (by decide)) (by simp) hn1 hF).mono ?_;rintro e w' ⟨rfl,hW',hs'⟩;exact⟨rfl,⟨_,_,_,by rw [List.length_append];omega,hW'⟩,hs'⟩
end Go.Proofs
namespace Go.Proofs
open Go.RowKit Go.Sort Go.Lib Go.Shelf Go.Maps Go.WideMaps
theorem Tryz.Xj2 (vb:Nat) (w:World) (pre:List UInt8) (hpl:pre.length<=1000000) (hne:pre ≠ []) (hbad:pathI pre=false) :
  Calls prog 52 #[.pointer (some ⟨vb,0,none⟩),.string ⟨pre.toArray⟩] w fun e w'=>e=.returned (.tuple #[.int .i64 0,Jf 2])/\Below w.heap.size w w':=by
 have hB0:Below w.heap.size w (w.alloc (.cells #[.string ⟨pre.toArray⟩] 9)):=(Below.refl _ w).alloc (Nat.le_refl _) _
 have hV:=fun W=>valid pre W hpl
 rw [hbad] at hV
 have h0:(pre == [])=false:=by simpa using hne
 have hl0:((pre.length:Int)==0)=false:=by
  rw [beq_eq_false_iff_ne];intro e;exact hne (List.length_eq_zero_iff.1 (by omega))
 go_enter func52,ntmps52
 go_wp2_with (go_at_call 92;refine(hV _).mono ?_;rintro e w1 ⟨rfl,hb1⟩)
 exact bodyPost_ret (v:=.tuple #[.int .i64 0,Jf 2]) (by simp [results,results52,go_sem,Jf]) rfl ⟨rfl,hB0.trans (hb1.mono hB0.size)⟩
theorem Xj9 {α:Type} {f:α->Nat} {ls:List α} {z:α} (h:z∈ls):ls.any (fun l=>f l==f z)=true:=List.any_eq_true.2 ⟨z,h,by simp⟩
theorem Xfc {tm:Int} {p:Xc->Bool} {tn ln:Nat} {tks:List Xd} {lks:List Xc} (hs:lks.Pairwise (fun a b=>a.n<b.n)) (hn:∀ l∈lks,l.n<=ln):Yq (X3 tm p lks) ⟨tn,ln,tks,lks⟩=⟨tn,ln,tks,lks.map fun z=>if goL tm p z then Z8 tm z else z⟩:=by
 rw [Mu lks ⟨tn,ln,tks,lks⟩ hs hs (fun _ h=>h) hn]
 congr 1
 exact List.map_congr_left (fun z hz=>by rw [Xj9 (f:=Xc.n) hz,Bool.true_and])
theorem Xkn {tm:Int} {p:Xc->Bool} {s:VSt} (t0:0<=tm) (t1:tm<=18446744073709551615) (hok:Xx s.tks s.lks) (okL:∀ l∈s.lks,Xc8 l):∀ i∈X3 tm p s.lks,i.Old s:=fun i hi=>by
 obtain⟨l,hl,rfl⟩:=List.mem_map.1 hi;have hm:=(List.mem_filter.1 hl).1;have ho:=okL l hm;exact⟨⟨t0,t1,ho.r0,ho.r1,ho.l0,ho.l1,ho.p1,ho.pa⟩,⟨l,hm,rfl⟩,(hok.limL l hm).1,(hok.limL l hm).2⟩
theorem Xiu {tm:Int} {p:Xc->Bool} {lks:List Xc}:(X3 tm p lks).length<=lks.length:=by unfold X3;rw [List.length_map];exact List.length_filter_le _ _
theorem Tryz.Xku (k:Blk) (vx:VX) (tm:Int) (s:VSt) (c:List UInt8) (l f:Int) (w:World) (hW:Whole w k vx tm s c l f) (hl:l<0) (hl1 : -999999990<=l) (hf:f<0) (hf1 : -999999990<=f) (hc:c.length<=900000000000) (pre:List UInt8) (hpl:pre.length<=1000000) (hgo:pre = []\/pathI pre=true) (nT:s.tks.length<500) (nL:s.lks.length<50) :
  Calls prog 52 #[.pointer (some ⟨k.vb,0,none⟩),.string ⟨pre.toArray⟩] w fun e w'=>e=.returned (.tuple #[.int .i64 ((X3 tm (fun l=>beginsB l.pth pre) s.lks).length:Nat),.nilIface])/\(∃ c' l' f',c'.length<=c.length+70000/\Whole w' k vx tm ⟨s.tn,s.ln,s.tks,s.lks.map fun z=>if goL tm (fun l=>beginsB l.pth pre) z then Z8 tm z else z⟩ c' l' f')/\Spares k.turns w w':=by
 have hok:=hW.v.va.ok
 have hmf:∀(fn:Fn) (first cap:Array Value) (w:World),(Instr.makeFunc fn first cap).run prog w=.ok (.func fn first cap) w:=fun _ _ _ _=>rfl
 have hF:Yr (X3 tm (fun l=>beginsB l.pth pre) s.lks) s:=U9 _ _ (Xkn hW.v.t0 hW.v.t1 hok hW.v.okL) hok.incT hok.incL nT (by omega);have hst:Yq (X3 tm (fun l=>beginsB l.pth pre) s.lks) s=⟨s.tn,s.ln,s.tks,s.lks.map fun z=>if goL tm (fun l=>beginsB l.pth pre) z then Z8 tm z else z⟩:=Xfc (tn:=s.tn) (tks:=s.tks) hok.incL hW.v.nl;have hn:(X3 tm (fun l=>beginsB l.pth pre) s.lks).length<=50:=Nat.le_trans Xiu (by omega);have hB0:Below w.heap.size w (w.alloc (.cells #[.string ⟨pre.toArray⟩] 9)):=(Below.refl _ w).alloc (Nat.le_refl _) _;have bP:=BoxN.new w 9 #[.string ⟨pre.toArray⟩]
 have hV:=fun W=>valid pre W hpl
 have hR:∀ W,Below (w.heap.size+1) (w.alloc (.cells #[.string ⟨pre.toArray⟩] 9)) W->Calls prog 86 #[.pointer (some ⟨k.vb,0,none⟩),.func (.func 93) #[] #[.pointer (some ⟨w.heap.size,0,none⟩)]] W fun e w'=>∃ v,e=.returned v/\w'.ownsRow W.heap.size 135 10 v (X3 tm (fun l=>beginsB l.pth pre) s.lks).length (Yi ((X3 tm (fun l=>beginsB l.pth pre) s.lks).map Item.rec_))/\Below W.heap.size W w':=fun W hb=>by
  have bP':=bP.below hb (by omega);exact callsIn_wide.1 (Xpe k.vb k.mt k.ml vx tm s.tn s.ln s.tks s.lks W (hW.v.va.below (hB0.trans (hb.mono (by omega)))) w.heap.size (fun l=>beginsB l.pth pre) (fun l hl W' hb'=>Xq1 w.heap.size pre l W' (bP'.below hb' bP'.lt)))
 have hK:∀ W v,Below w.heap.size w W->(∃ B,W.ownsRow B 135 10 v (X3 tm (fun l=>beginsB l.pth pre) s.lks).length (Yi ((X3 tm (fun l=>beginsB l.pth pre) s.lks).map Item.rec_)))->Calls prog 66 #[.pointer (some ⟨k.vb,0,none⟩),v] W fun e w'=>e=.returned .nilIface/\(∃ c' l' f',c'.length<=c.length+70000/\Whole w' k vx tm ⟨s.tn,s.ln,s.tks,s.lks.map fun z=>if goL tm (fun l=>beginsB l.pth pre) z then Z8 tm z else z⟩ c' l' f')/\Spares k.turns W w':=fun W v hb ⟨B,hr⟩=>by
  have h:=Xm0 B k vx tm s c l f _ v W (hW.below hb) hl hl1 hf hf1 hc hr hn hF;rw [hst] at h;exact h
 have hsz:(w.alloc (.cells #[.string ⟨pre.toArray⟩] 9)).heap.size=w.heap.size+1:=by simp
 obtain⟨n,hnn⟩:∃ n,(X3 tm (fun l=>beginsB l.pth pre) s.lks).length=n:=⟨_,rfl⟩
 have hform:∀ {W:World} {B:Nat} {v:Value} {xs:List Value},W.ownsRow B 135 10 v n xs->∃ p cap,v=.slice p n cap:=fun h=>by
  rcases h.2 with⟨rfl,h0⟩ | ⟨g,cap,cur,rfl,-⟩
  ·exact⟨none,0,by rw [show n=0 from by omega]⟩
  exact⟨_,cap,rfl⟩
 rw [hnn] at hR hK hn ⊢;clear hst hF hnn bP
 by_cases h0:pre = []
 focus
  subst h0;go_enter func52,ntmps52
  go_wp2_with (first
   | (go_at_call 86;refine(hR _ (Below.refl _ _)).mono ?_;rintro e w2 ⟨v,rfl,hr2,hb2⟩;obtain⟨p,cap,rfl⟩:=hform hr2;have hB2:Below w.heap.size w w2:=hB0.trans (hb2.mono hB0.size);have hK2:=hK w2 _ hB2 ⟨_,hr2⟩)
   | (go_at_call 66;refine hK2.mono ?_;rintro e w3 ⟨rfl,hW3,hs3⟩))
 rotate_left
 focus
  have hv:pathI pre=true:=hgo.resolve_left h0
  have h0':(pre == [])=false:=by simpa using h0
  have hl0:((pre.length:Int)==0)=false:=by
   rw [beq_eq_false_iff_ne];intro e;exact h0 (List.length_eq_zero_iff.1 (by omega))
  rw [hv] at hV;go_enter func52,ntmps52
  go_wp2_with (first
   | (go_at_call 92;refine(hV _).mono ?_;rintro e w1 ⟨rfl,hb1⟩)
   | (go_at_call 86;refine(hR _ (hb1.mono (by simp))).mono ?_;rintro e w2 ⟨v,rfl,hr2,hb2⟩;obtain⟨p,cap,rfl⟩:=hform hr2;have hB2:Below w.heap.size w w2:=(hB0.trans (hb1.mono hB0.size)).trans (hb2.mono (Nat.le_trans hB0.size hb1.size));have hK2:=hK w2 _ hB2 ⟨_,hr2⟩)
   | (go_at_call 66;refine hK2.mono ?_;rintro e w3 ⟨rfl,hW3,hs3⟩))
 rotate_left
 all_goals
  exact bodyPost_ret (v:=.tuple #[.int .i64 (n:Nat),.nilIface]) (by simp [results,results52,go_sem]) rfl ⟨rfl,hW3,(Spares.of_below hB2).trans hs3⟩
end Go.Proofs
