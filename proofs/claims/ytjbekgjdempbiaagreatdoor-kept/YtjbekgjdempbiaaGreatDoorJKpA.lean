import Derived.Test.YtjbekgjdempbiaaGreatDoorJTkB
import Derived.Test.YtjbekgjdempbiaaGreatDoorJCntB
import Derived.Test.YtjbekgjdempbiaaGreatDoorJRefJ
import Derived.Test.YtjbekgjdempbiaaGreatDoorJTelA
import Derived.Test.YtjbekgjdempbiaaGreatDoorJTkO
import Derived.Test.YtjbekgjdempbiaaGreatDoorJRefQ0
import Derived.Test.YtjbekgjdempbiaaGreatDoorJAskVT
import Derived.Test.YtjbekgjdempbiaaGreatDoorJKtD
set_option maxRecDepth 100000
set_option maxHeartbeats 8000000
namespace Go.Proofs
open Go.RowKit Go.Sort Go.Lib Go.Shelf Go.Maps
theorem Xp1 {c:UInt8} {o b:Bool} (h:Zk (some o) c=some b):c.toNat<128:=by
 by_cases h47:c.toNat=47
 ·omega
 simp only [Zk,if_neg h47] at h
 by_cases hn:V8 c=true
 ·simp [V8] at hn
  omega
 rw [if_neg hn] at h;cases h
theorem Xdp:∀(s:List UInt8) (o b:Bool),s.foldl Zk (some o)=some b->∀ c∈s,c.toNat<128
 | [],_,_,_,_,h=>by cases h
 | a :: s,o,b,hf,c,hc=>by
  rw [List.foldl_cons] at hf
  cases hp:Zk (some o) a with
  | none=>rw [hp,Xbk] at hf;cases hf
  | some o' =>
   rcases List.mem_cons.1 hc with rfl | hc
   ·exact Xp1 hp
   rw [hp] at hf;exact Xdp s o' b hf c hc
theorem Xtu {s:List UInt8} (h:pathI s=true):s.length<=24/\Xpo s:=by
 have hc:=Xmi h;unfold pathI at h;rw [Bool.and_eq_true] at h;exact⟨by simpa using h.2,Xdp s false true (by simpa using h.1),hc⟩
section
variable {vb mt ml:Nat} {vx:VX} {tm tn ln:Int} {tks:List Xd} {lks:List Xc} {L:List ThingD}
theorem Xol {tm:Int} {t:Xd} (h:(thT t).state tm=1):t.pd=false:=by
 cases hp:t.pd
 ·rfl
 simp [ThingD.state,thT,hp] at h
theorem Vr {tm:Int} {l:Xc}:(thL l).state tm=1↔(!l.pd&&decide (tm<l.at_))=true:=by
 cases hp:l.pd
 ·simp [ThingD.state,thL,hp]
 simp [ThingD.state,thL,hp]
theorem Tryz.Xmx (w:World) (hV:Xq w vb mt ml vx tm tn ln tks lks) (hl:Rel tks lks L) (id:List UInt8) :
  Calls prog 83 #[.pointer (some ⟨vb,0,none⟩),nmV (parseN id)] w fun e w'=>e=.returned (.bool (decide (0<=liveI tm id true L)))/\Below w.heap.size w w':=by
 rcases Zt tm id true L with⟨i,t,ht,hid,htk,hst,hli⟩ | hli
 ·have hm:=List.mem_of_getElem? ht
  obtain⟨a,ha,rfl⟩:=hl.Zj hm htk;have hp:=Xap (L:=L) hid htk (hl.num hV.ok hm) hli;rw [hp,hli];have h:=Xef vb mt ml vx tm tn ln tks lks w hV a ha;rw [Xol hst] at h;refine h.mono ?_;rintro e w' ⟨rfl,hb⟩;exact⟨by simp,hb⟩
 rw [hli]
 have hno:∀ a∈tks,a.pd=false->parseN id≠(1,(a.n:Int)):=fun a ha hp=>hl.Xhg hV.ok hli (hl.Vh ha) rfl (by simp [ThingD.state,thT,hp])
 by_cases he:∃ a∈tks,parseN id=(1,(a.n:Int))
 ·obtain⟨a,ha,hp⟩:=he
  have hpd:a.pd=true:=by
   cases h:a.pd
   ·exact absurd hp (hno a ha h)
   rfl
  rw [hp];have h:=Xef vb mt ml vx tm tn ln tks lks w hV a ha;rw [hpd] at h;refine h.mono ?_;rintro e w' ⟨rfl,hb⟩;exact⟨by simp,hb⟩
 have h:=Xi8 vb mt ml vx tm tn ln tks lks w hV (parseN id) (Xak id) (fun a ha e=>he ⟨a,ha,e⟩);refine h.mono ?_;rintro e w' ⟨rfl,hb⟩;exact⟨by simp,hb⟩
theorem Xdn (ok:Xx tks lks) (hl:Rel tks lks L) {id:List UInt8} {i:Nat} {t:ThingD} (ht:L[i]? = some t) (hid:t.id=id) (htk:t.token=false) (hst:t.state tm=1) (hli:liveI tm id false L=i) :
  ∃(k:Nat) (l:Xc),lks[k]? = some l/\thL l=t/\parseN id=(2,(l.n:Int))/\(!l.pd&&decide (tm<l.at_))=true/\∀ a:Int,Rel tks (lks.set k { l with at_:=a }) (L.set i { t with at_:=a }):=by
 obtain⟨k,l,hk,rfl,hr⟩:=hl.Xsd ht htk;exact⟨k,l,hk,rfl,Xap (L:=L) hid htk (hl.num ok (List.mem_of_getElem? ht)) hli,Vr.1 hst,hr⟩
theorem Tryz.Xb5 (hok:Xx tks lks) (hl:Rel tks lks L) (id:List UInt8) (hli:liveI tm id false L = -1) :
  ∃(ak au at_ tr:Int) (pd:Bool) (lp:List UInt8) (la:Int),∀ w,Xq w vb mt ml vx tm tn ln tks lks->Calls prog 71 #[.pointer (some ⟨vb,0,none⟩),nmV (parseN id)] w fun e w'=>e=.returned (.tuple #[.agg #[.int .i64 ak,.int .u64 au,.int .u64 at_,.int .i64 tr,.bool pd,.string ⟨lp.toArray⟩,.int .u64 la],.bool false])/\Below w.heap.size w w':=by
 have hno:∀ a∈lks,(!a.pd&&decide (tm<a.at_))=true->parseN id≠(2,(a.n:Int)):=fun a ha hp=>hl.Xhg hok hli (hl.Xcl ha) rfl (Vr.2 hp)
 by_cases he:∃ a∈lks,parseN id=(2,(a.n:Int))
 ·obtain⟨a,ha,hp⟩:=he
  refine⟨a.ak,a.au,a.at_,a.tr,a.pd,a.pth,a.last,fun w hV=>?_⟩;have h:=Vj vb mt ml vx tm tn ln tks lks w hV a ha
  have hf:(!a.pd&&decide (tm<a.at_))=false:=by
   cases hb:(!a.pd&&decide (tm<a.at_))
   ·rfl
   exact absurd hp (hno a ha hb)
  rw [hf] at h;rw [hp];exact h
 refine⟨0,0,0,0,false,[],0,fun w hV=>Xen vb mt ml vx tm tn ln tks lks w hV (parseN id) (Xak id) (fun a ha e=>he ⟨a,ha,e⟩)⟩
end
end Go.Proofs
namespace Go.Proofs
open Go.RowKit Go.Sort Go.Lib Go.Shelf Go.Maps Go.WideMaps
theorem Xe6 {W:World} {base size:Nat} {v:Value} {e:TypeId} (h:W.ownsRow base e size v 0 []):v=.slice none 0 0\/∃ g cap,v=.slice (some ⟨g,0,none⟩) 0 cap:=by
 obtain⟨h1,⟨e1,-⟩ | ⟨g,cap,cur,e1,e2,e3,e4⟩⟩:=h
 ·exact .inl e1
 exact .inr ⟨g,cap,e1⟩
theorem Xjo {W:World} {base size n:Nat} {v:Value} {e:TypeId} {xs:List Value} (h:W.ownsRow base e size v n xs) (hn:0<n):∃ g cap,v=.slice (some ⟨g,0,none⟩) n cap:=by
 obtain⟨h1,⟨e1,e2⟩ | ⟨g,cap,cur,e1,e2,e3,e4⟩⟩:=h
 ·omega
 exact⟨g,cap,e1⟩
theorem Tryz.Xrv (B:Nat) (k:Blk) (vx:VX) (tm:Int) (s:VSt) (c:List UInt8) (l f:Int) (rb:Nat) (fl:Int) (v:Value) (xs:List Value) (q:List Xe) (w:World) (h:TAt B w k vx tm s c l f rb fl v xs q) (hq1:q.length<=100) :
  Calls prog 76 #[.pointer (some ⟨k.vb,8,none⟩)] w fun e w'=>∃ t ok,e=.returned (.tuple #[.agg t.cells,.bool ok])/\∃ vx' q',TAt B w' k vx' tm s c l f rb fl v xs q'/\(ok=false->q = []/\q' = [])/\(ok=true->(t :: q').Perm q/\∀ u∈q',¬ ltT u t)/\vx'.tk=vx.tk/\vx'.due.ownBlock=vx.due.ownBlock/\Spares (k.vb :: vx.due.ownBlock.toList) w w':=by
 cases q with
 | nil =>
  refine(Xt6 k.vb vx.due w (Xe6 h.due) (h.wh.v.va.v.cell 8 rfl)).mono ?_;rintro e w' ⟨rfl,hb⟩;exact⟨⟨0,0,0⟩,false,rfl,vx,[],h.below hb,fun _=>⟨rfl,rfl⟩,fun e=>(by cases e),rfl,rfl,Spares.of_below hb⟩
 | cons a q =>
  obtain⟨g,cap,hd⟩:=Xjo h.due (by simp)
  have hqv:QV B k.vb (Y8 vx tm k.mt k.ml s.tn s.ln) g cap (a :: q) w:=⟨by rw [<- hd];exact h.wh.v.va.v,by rw [<- hd];exact h.due,by show 8<9;decide⟩
  refine(qPop B k.vb g cap q.length (a :: q) _ w hqv h.hp rfl (by simp at hq1;omega)).mono ?_;rintro e w' ⟨rfl,cap',ys,hq2,hH,hpm,hS⟩
  have hown:vx.due.ownBlock=some g:=by rw [hd];rfl
  have hS':Spares (k.vb :: vx.due.ownBlock.toList) w w':=by rw [hown];exact hS
  have hleast:∀ u∈ys,¬ ltT u (getT (a :: q) 0):=fun u hu=>by
   have hm:=hpm.mem_iff.1 (List.mem_cons_of_mem _ hu);obtain⟨i,hi,e⟩:=List.getElem_of_mem hm;have:=h.hp.root i hi;have hg:getT (a :: q) i=u:=Xab (by rw [List.getElem?_eq_getElem hi,e]);rw [hg] at this;exact this
  exact⟨getT (a :: q) 0,true,rfl,{ vx with due:=.slice (some ⟨g,0,none⟩) ys.length cap' },ys,h.Xc6 hq2.v rfl rfl h.wh.v.t0 h.wh.v.t1 hq2.row hH hS',(fun e=>by cases e),(fun _=>⟨hpm,hleast⟩),rfl,(by rw [hown];rfl),hS'⟩
end Go.Proofs
namespace Go.Proofs
open Go.RowKit Go.Sort Go.Lib Go.Shelf Go.Maps
def ThingD.turn (t:ThingD):Xe:=⟨t.at_,kdB t.token,t.n⟩
theorem Mz (t u:ThingD):firstB t u=true↔ltT t.turn u.turn:=by
 unfold firstB ltT ThingD.turn kdB
 cases t.token <;> cases u.token <;> simp <;> omega
theorem Xc4 (p:ThingD->Bool) (L:List ThingD):∀ k,match Ju p L k with
  | none=>∀ i t,i<k->L[i]? = some t->p t=false
  | some b=>∃ u,L[b]? = some u/\p u=true/\∀ i t,i<k->L[i]? = some t->p t=true->firstB t u=false
 | 0=>fun i t h=>by omega
 | k+1=>by
  have ih:=Xc4 p L k
  cases hk:L[k]? with
  | none =>
   have hlen:L.length<=k:=List.getElem?_eq_none_iff.1 hk
   have e:Ju p L (k+1)=Ju p L k:=by simp [Ju,hk]
   rw [e]
   cases hd:Ju p L k with
   | none =>
    rw [hd] at ih
    exact fun i t hi ht=>ih i t (by have:=(List.getElem?_eq_some_iff.1 ht).1;omega) ht
   | some b =>
    rw [hd] at ih;obtain⟨u,h1,h2,h3⟩:=ih;exact⟨u,h1,h2,fun i t hi ht=>h3 i t (by have:=(List.getElem?_eq_some_iff.1 ht).1;omega) ht⟩
  | some x =>
   by_cases hp:p x=true
   ·cases hd:Ju p L k with
    | none =>
     rw [hd] at ih;rw [Xjv hk hp hd];refine⟨x,hk,hp,fun i t hi ht hpt=>?_⟩
     by_cases e:i=k
     ·subst e
      rw [hk] at ht;cases ht;simp [firstB]
     rw [ih i t (by omega) ht] at hpt;cases hpt
    | some b =>
     rw [hd] at ih;obtain⟨u,h1,h2,h3⟩:=ih;rw [Xi9 hk hp hd h1]
     by_cases hf:firstB x u=true
     ·rw [if_pos hf]
      refine⟨x,hk,hp,fun i t hi ht hpt=>?_⟩
      by_cases e:i=k
      ·subst e
       rw [hk] at ht;cases ht;simp [firstB]
      have h4:=h3 i t (by omega) ht hpt;rw [Bool.eq_false_iff] at h4 ⊢;intro h5;apply h4;rw [Mz] at hf h5 ⊢;unfold ltT at *;omega
     rw [if_neg hf];refine⟨u,h1,h2,fun i t hi ht hpt=>?_⟩
     by_cases e:i=k
     ·subst e
      rw [hk] at ht;cases ht
      simpa using hf
     exact h3 i t (by omega) ht hpt
   have hp':p x=false:=by simpa using hp
   rw [Xg6 hk hp']
   cases hd:Ju p L k with
   | none =>
    rw [hd] at ih;intro i t hi ht
    by_cases e:i=k
    ·subst e
     rw [hk] at ht;cases ht;exact hp'
    exact ih i t (by omega) ht
   | some b =>
    rw [hd] at ih;obtain⟨u,h1,h2,h3⟩:=ih;refine⟨u,h1,h2,fun i t hi ht hpt=>?_⟩
    by_cases e:i=k
    ·subst e
     rw [hk] at ht;cases ht;rw [hp'] at hpt;cases hpt
    exact h3 i t (by omega) ht hpt
theorem Xtv {tm:Int} {L:List ThingD} {xs:List (List UInt8)} {i:Nat} {th:ThingD} (hi:L[i]? = some th) (hp:V6 tm L xs th=true) (hmin:∀ u∈L,V6 tm L xs u=true->firstB u th=false) (huq:∀ j u,L[j]? = some u->u.token=th.token->u.n=th.n->j=i):Xf3 tm L xs=some i:=by
 have hs:=Xc4 (V6 tm L xs) L L.length;unfold Xf3
 cases hd:Ju (V6 tm L xs) L L.length with
 | none =>
  rw [hd] at hs;rw [hs i th (List.getElem?_eq_some_iff.1 hi).1 hi] at hp;cases hp
 | some b =>
  rw [hd] at hs;obtain⟨u,h1,h2,h3⟩:=hs;have h4:=h3 i th (List.getElem?_eq_some_iff.1 hi).1 hi hp;have h5:=hmin u (List.mem_of_getElem? h1) h2;rw [Bool.eq_false_iff] at h4 h5;rw [Ne,Mz] at h4 h5;unfold ltT ThingD.turn kdB at h4 h5
  have e:u.token=th.token/\u.n=th.n:=by
   cases ht:u.token <;> cases hv:th.token <;> simp [ht,hv] at h4 h5 ⊢ <;> omega
  rw [huq b u h1 e.1 e.2]
theorem Xoy {tm:Int} {L:List ThingD} {xs:List (List UInt8)} (h:∀ u∈L,V6 tm L xs u=false):Xf3 tm L xs=none:=by
 have hs:=Xc4 (V6 tm L xs) L L.length;unfold Xf3
 cases hd:Ju (V6 tm L xs) L L.length with
 | none=>rfl
 | some b =>
  rw [hd] at hs;obtain⟨u,h1,h2,-⟩:=hs;rw [h u (List.mem_of_getElem? h1)] at h2;cases h2
theorem Xjn {α:Type} {f:α->Nat} {l:List α} (h:l.Pairwise (fun a b=>f a<f b)):l.Nodup:=h.imp (fun hab e=>by rw [e] at hab;omega)
theorem Ms {α:Type} (p:α->Bool):∀ {L:List α},(L.filter p).Nodup->(L.filter (fun x=>!p x)).Nodup->L.Nodup
 | [],_,_=>List.nodup_nil
 | a :: L,h1,h2=>by
  cases hp:p a
  ·rw [List.filter_cons_of_neg (by simp [hp])] at h1
   rw [List.filter_cons_of_pos (by simp [hp])] at h2;obtain⟨h3,h4⟩:=List.nodup_cons.1 h2;exact List.nodup_cons.2 ⟨fun hm=>h3 (List.mem_filter.2 ⟨hm,by simp [hp]⟩),Ms p h1 h4⟩
  rw [List.filter_cons_of_pos (by simp [hp])] at h1;rw [List.filter_cons_of_neg (by simp [hp])] at h2;obtain⟨h3,h4⟩:=List.nodup_cons.1 h1;exact List.nodup_cons.2 ⟨fun hm=>h3 (List.mem_filter.2 ⟨hm,by simp [hp]⟩),Ms p h4 h2⟩
theorem Xq3 {α β:Type} (g:α->β) (f:α->Nat) (k:β->Nat) (hk:∀ a,k (g a)=f a) {l:List α} (h:l.Pairwise (fun a b=>f a<f b)):(l.map g).Pairwise (fun a b=>k a<k b):=by
 rw [List.pairwise_map];exact h.imp (fun hab=>by rw [hk,hk];exact hab)
section
variable {tks:List Xd} {lks:List Xc} {L:List ThingD}
theorem Rel.nodup (h:Rel tks lks L) (h1:tks.Pairwise (fun a b=>a.n<b.n)) (h2:lks.Pairwise (fun a b=>a.n<b.n)):L.Nodup:=by
 refine Ms (fun t=>t.token==true) ?_ ?_
 ·rw [h.toks]
  exact Xjn (Xq3 thT Xd.n ThingD.n (fun _=>rfl) h1)
 have e:(fun t:ThingD=>!(t.token==true))=fun t=>t.token==false:=by funext t;cases t.token <;> rfl
 rw [e,h.leas];exact Xjn (Xq3 thL Xc.n ThingD.n (fun _=>rfl) h2)
theorem Rel.idx (h:Rel tks lks L) (ok:Xx tks lks) {i j:Nat} {x y:ThingD} (hi:L[i]? = some x) (hj:L[j]? = some y) (ht:y.token=x.token) (hn:y.n=x.n):j=i:=by
 have e:=h.Xkr ok (List.mem_of_getElem? hj) (List.mem_of_getElem? hi) ht hn;subst e;have hnd:=h.nodup ok.incT ok.incL;obtain⟨a1,a2⟩:=List.getElem?_eq_some_iff.1 hi;obtain⟨b1,b2⟩:=List.getElem?_eq_some_iff.1 hj;exact(List.getElem_inj hnd).1 (b2.trans a2.symm)
theorem Rel.free {s:VSt} (h:Rel s.tks s.lks L) (n:Nat):Y6 (n:Int) L = !hasU s n:=by
 unfold Y6 hasU;rw [Bool.eq_iff_iff];simp only [List.all_eq_true,Bool.not_eq_true',Bool.or_eq_false_iff,List.any_eq_false,beq_eq_false_iff_ne,Bool.not_eq_true,Bool.and_eq_false_iff,beq_eq_false_iff_ne]
 constructor
 ·intro hf
  refine⟨fun t ht=>?_,fun t ht=>?_⟩
  ·have:=hf _ (h.Vh ht)
   unfold thT at this
   by_cases hk:t.ak=1
   ·rw [if_pos hk] at this;simp at this;right;omega
   exact .inl hk
  have:=hf _ (h.Xcl ht);unfold thL at this;simp at this
  right;omega
 intro ⟨h1,h2⟩ x hx e;cases hk:x.token
 ·obtain⟨t,ht,rfl⟩:=h.Mi hx hk
  rcases h2 t ht with e1 | e1
  ·exact e1 (h.akL t ht)
  exact e1 e
 obtain⟨t,ht,rfl⟩:=h.Zj hx hk;unfold thT at e
 rcases h1 t ht with e1 | e1
 ·simp [e1] at e
 simp only at e
 split at e
 ·exact e1 e
 omega
end
def Z1 (x z:ThingD):Bool:=z.token==x.token&&z.n==x.n
theorem Ys {x z:ThingD}:Z1 x z=true↔z.token=x.token/\z.n=x.n:=by simp [Z1]
theorem U2 {L:List ThingD} {i:Nat} {x y:ThingD} (hi:L[i]? = some x) (huq:∀ j u,L[j]? = some u->u.token=x.token->u.n=x.n->j=i):L.set i y=L.map (fun z=>if Z1 x z then y else z):=by
 apply List.ext_getElem?;intro j;rw [List.getElem?_map]
 by_cases hj:i=j
 ·subst hj
  rw [hi,List.getElem?_set_self (List.getElem?_eq_some_iff.1 hi).1];simp [Z1]
 rw [List.getElem?_set_ne hj]
 cases h:L[j]? with
 | none=>rfl
 | some u =>
  have:Z1 x u=false:=by
   rw [Bool.eq_false_iff,Ne,Ys]
   exact fun e=>hj (huq j u h e.1 e.2).symm
  simp [this]
theorem Zl {x:ThingD}:∀ {L:List ThingD} {i:Nat},L[i]? = some x->(∀ j u,L[j]? = some u->u.token=x.token->u.n=x.n->j=i)->L.eraseIdx i=L.filter (fun z=>!Z1 x z)
 | [],i,hi,_=>by simp at hi
 | a :: L,0,hi,huq=>by
  have:a=x:=by simpa using hi
  subst this;rw [List.filter_cons_of_neg (by simp [Z1])];refine(List.filter_eq_self.2 (fun z hz=>?_)).symm
  have hz:z∈L:=by simpa using hz
  obtain⟨j,hj,e⟩:=List.getElem_of_mem hz
  have hz2:(a :: L)[j+1]? = some z:=by rw [List.getElem?_cons_succ,List.getElem?_eq_getElem hj,e]
  have:Z1 a z=false:=by
   rw [Bool.eq_false_iff,Ne,Ys]
   exact fun e=>by have:=huq (j+1) z hz2 e.1 e.2;omega
  simp [this]
 | a :: L,i+1,hi,huq=>by
  have h1:Z1 x a=false:=by
   rw [Bool.eq_false_iff,Ne,Ys]
   exact fun e=>by have:=huq 0 a rfl e.1 e.2;omega
  rw [List.filter_cons_of_pos (by simp [h1]),List.eraseIdx_cons_succ]
  congr 1
  refine Zl (by simpa using hi) (fun j u hj e1 e2=>?_);have:=huq (j+1) u (by simpa using hj) e1 e2;omega
theorem Xel {t:Xd} {l:List Xd} (hs:l.Pairwise (fun a b=>a.n<b.n)) {x:Xd} (hx:x∈l) (hn:x.n=t.n):Yh t l=l.map (fun z=>if z.n=t.n then t else z):=by
 rcases Yx (t:=t) hs with⟨a,y,b,rfl,hy,hp,hne⟩ | ⟨hne,-⟩
 ·rw [hp]
  obtain⟨h1,h2,h3⟩:=List.pairwise_append.1 hs;obtain⟨h4,-⟩:=List.pairwise_cons.1 h2;rw [List.map_append,List.map_cons,if_pos hy]
  congr 1
  ·exact((List.map_congr_left (fun z hz=>show (if z.n=t.n then t else z)=id z from if_neg (by have:=h3 z hz y (by simp);omega))).trans (List.map_id a)).symm
  congr 1
  exact((List.map_congr_left (fun z hz=>show (if z.n=t.n then t else z)=id z from if_neg (by have:=h4 z hz;omega))).trans (List.map_id b)).symm
 exact absurd hn (hne x hx)
theorem Xfk {t:Xc} {l:List Xc} (hs:l.Pairwise (fun a b=>a.n<b.n)) {x:Xc} (hx:x∈l) (hn:x.n=t.n):Yc t l=l.map (fun z=>if z.n=t.n then t else z):=by
 rcases Yw (t:=t) hs with⟨a,y,b,rfl,hy,hp,hne⟩ | ⟨hne,-⟩
 ·rw [hp]
  obtain⟨h1,h2,h3⟩:=List.pairwise_append.1 hs;obtain⟨h4,-⟩:=List.pairwise_cons.1 h2;rw [List.map_append,List.map_cons,if_pos hy]
  congr 1
  ·exact((List.map_congr_left (fun z hz=>show (if z.n=t.n then t else z)=id z from if_neg (by have:=h3 z hz y (by simp);omega))).trans (List.map_id a)).symm
  congr 1
  exact((List.map_congr_left (fun z hz=>show (if z.n=t.n then t else z)=id z from if_neg (by have:=h4 z hz;omega))).trans (List.map_id b)).symm
 exact absurd hn (hne x hx)
section
variable {tks:List Xd} {lks:List Xc} {L:List ThingD}
theorem Rel.mapped (h:Rel tks lks L) (f:ThingD->ThingD) (gT:Xd->Xd) (gL:Xc->Xc) (hf:∀ z,(f z).token=z.token) (hT:∀ t∈tks,f (thT t)=thT (gT t)) (hL:∀ t∈lks,f (thL t)=thL (gL t)) (kT:∀ t∈tks,(gT t).ak=t.ak) (kL:∀ t∈lks,(gL t).ak=t.ak):Rel (tks.map gT) (lks.map gL) (L.map f):=by
 refine⟨?_,?_,fun t ht=>?_,fun t ht=>?_⟩
 ·rw [List.filter_map,show ((fun t:ThingD=>t.token==true) ∘ f)=fun t=>t.token==true from by funext z;simp [hf],h.toks,List.map_map,List.map_map]
  exact List.map_congr_left (fun t ht=>hT t ht)
 ·rw [List.filter_map,show ((fun t:ThingD=>t.token==false) ∘ f)=fun t=>t.token==false from by funext z;simp [hf],h.leas,List.map_map,List.map_map]
  exact List.map_congr_left (fun t ht=>hL t ht)
 ·obtain⟨t',h1,rfl⟩:=List.mem_map.1 ht
  rw [kT t' h1];exact h.akT t' h1
 obtain⟨t',h1,rfl⟩:=List.mem_map.1 ht;rw [kL t' h1];exact h.akL t' h1
theorem Rel.less (h:Rel tks lks L) (p:ThingD->Bool) (pT:Xd->Bool) (pL:Xc->Bool) (hT:∀ t,p (thT t)=pT t) (hL:∀ t,p (thL t)=pL t):Rel (tks.filter pT) (lks.filter pL) (L.filter p):=by
 refine⟨?_,?_,fun t ht=>h.akT t (List.mem_filter.1 ht).1,fun t ht=>h.akL t (List.mem_filter.1 ht).1⟩
 ·rw [List.filter_filter,show (fun a:ThingD=>(a.token==true)&&p a)=fun a=>p a&&(a.token==true) from by funext a;exact Bool.and_comm _ _,<- List.filter_filter,h.toks,List.filter_map]
  rw [show (p ∘ thT)=pT from by funext t;exact hT t]
 rw [List.filter_filter,show (fun a:ThingD=>(a.token==false)&&p a)=fun a=>p a&&(a.token==false) from by funext a;exact Bool.and_comm _ _,<- List.filter_filter,h.leas,List.filter_map];rw [show (p ∘ thL)=pL from by funext t;exact hL t]
end
theorem Zr.thing {tm:Int} {s:VSt} {t:Xe} {it:Item} {tk:Bool} {n un:Nat} {L:List ThingD} (hs:Zr tm s t it tk n un) (h:Rel s.tks s.lks L) (ok:Xx s.tks s.lks):∃ i th,L[i]? = some th/\th.turn=t/\th.token=tk/\th.n=n/\th.of_=(un:Int)/\Rel (it.app s).tks (it.app s).lks (L.set i (Ue tm th))/\Rel ((Item.gone tk n).app s).tks ((Item.gone tk n).app s).lks (L.eraseIdx i):=by
 cases hs with
 | tok t hm hk =>
  obtain⟨i,hi,e⟩:=List.getElem_of_mem (h.Vh hm)
  have hi':L[i]? = some (thT t):=by rw [List.getElem?_eq_getElem hi,e]
  have huq:∀ j u,L[j]? = some u->u.token=(thT t).token->u.n=(thT t).n->j=i:=fun j u hj e1 e2=>h.idx ok hi' hj e1 e2
  refine⟨i,thT t,hi',rfl,rfl,rfl,by simp [thT,hk],?_,?_⟩
  ·rw [U2 hi' huq]
   show Rel (Yh (Vb tm t) s.tks) s.lks _
   rw [Xel ok.incT hm (show t.n=(Vb tm t).n from rfl)]
   have:=h.mapped (fun z=>if Z1 (thT t) z then Ue tm (thT t) else z) (fun z=>if z.n=(Vb tm t).n then Vb tm t else z) id (fun z=>by
     split
     ·rename_i e;exact(Ys.1 e).1.symm
     rfl) (fun z hz=>?_) (fun z hz=>by simp [Z1,thT,thL]) (fun z hz=>?_) (fun z hz=>rfl)
   ·simpa using this
   ·by_cases e:z.n=t.n
    ·have:Z1 (thT t) (thT z)=true:=Ys.2 ⟨rfl,e⟩
     rw [if_pos this,if_pos (show z.n=(Vb tm t).n from e)];rfl
    have:Z1 (thT t) (thT z)=false:=by rw [Bool.eq_false_iff,Ne,Ys];exact fun h=>e h.2
    rw [if_neg (by simp [this]),if_neg (show ¬ z.n=(Vb tm t).n from e)]
   split
   ·rename_i e
    have:z=t:=Z5 (f:=Xd.n) ok.incT hz hm e;rw [this];rfl
   rfl
  rw [Zl hi' huq];have:=h.less (fun z=>!Z1 (thT t) z) (fun z=>z.n != t.n) (fun _=>true) (fun z=>by simp [Z1,thT,bne]) (fun z=>by simp [Z1,thT,thL]);rw [show s.lks.filter (fun _=>true)=s.lks from List.filter_eq_self.2 (fun _ _=>rfl)] at this
  simpa [Item.app,Yu,Y4,Xbj] using this
 | lea t hm hk =>
  obtain⟨i,hi,e⟩:=List.getElem_of_mem (h.Xcl hm)
  have hi':L[i]? = some (thL t):=by rw [List.getElem?_eq_getElem hi,e]
  have huq:∀ j u,L[j]? = some u->u.token=(thL t).token->u.n=(thL t).n->j=i:=fun j u hj e1 e2=>h.idx ok hi' hj e1 e2
  refine⟨i,thL t,hi',rfl,rfl,rfl,rfl,?_,?_⟩
  ·rw [U2 hi' huq]
   show Rel s.tks (Yc (U9 tm t) s.lks) _
   rw [Xfk ok.incL hm (show t.n=(U9 tm t).n from rfl)]
   have:=h.mapped (fun z=>if Z1 (thL t) z then Ue tm (thL t) else z) id (fun z=>if z.n=(U9 tm t).n then U9 tm t else z) (fun z=>by
     split
     ·rename_i e;exact(Ys.1 e).1.symm
     rfl) (fun z hz=>by simp [Z1,thT,thL]) (fun z hz=>?_) (fun z hz=>rfl) (fun z hz=>?_)
   ·simpa using this
   ·by_cases e:z.n=t.n
    ·have:Z1 (thL t) (thL z)=true:=Ys.2 ⟨rfl,e⟩
     rw [if_pos this,if_pos (show z.n=(U9 tm t).n from e)];rfl
    have:Z1 (thL t) (thL z)=false:=by rw [Bool.eq_false_iff,Ne,Ys];exact fun h=>e h.2
    rw [if_neg (by simp [this]),if_neg (show ¬ z.n=(U9 tm t).n from e)]
   split
   ·rename_i e
    have:z=t:=Z5 (f:=Xc.n) ok.incL hz hm e;rw [this];rfl
   rfl
  rw [Zl hi' huq];have:=h.less (fun z=>!Z1 (thL t) z) (fun _=>true) (fun z=>z.n != t.n) (fun z=>by simp [Z1,thT,thL]) (fun z=>by simp [Z1,thL,bne]);rw [show s.tks.filter (fun _=>true)=s.tks from List.filter_eq_self.2 (fun _ _=>rfl)] at this
  simpa [Item.app,Yu,Y4,Xbi] using this
attribute [local go_sem] Oper.semAt_some
end Go.Proofs
namespace Go.Proofs
open Go.RowKit Go.Sort Go.Lib Go.Shelf Go.Maps
section
variable {B hb rb:Nat} {k:Blk} {vx:VX} {tm:Int} {tn ln:Nat} {tks:List Xd} {lks:List Xc} {c:List UInt8} {w:World}
end
end Go.Proofs
