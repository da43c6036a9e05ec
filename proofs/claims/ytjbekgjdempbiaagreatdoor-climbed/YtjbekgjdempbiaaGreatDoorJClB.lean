import Derived.Test.YtjbekgjdempbiaaGreatDoorJBlB
import Derived.Test.YtjbekgjdempbiaaGreatDoorJTkO
import Derived.Test.YtjbekgjdempbiaaGreatDoorJRefB
set_option maxRecDepth 100000
set_option maxHeartbeats 8000000
namespace Go.Proofs
open Go.RowKit Go.Sort Go.Lib Go.Shelf Go.Maps
structure TInv (tm:Int) (s:VSt) (q:List TurnD) (L:List ThingD) (xs:List (List UInt8)):Prop where
 rel:Rel s.tks s.lks L
 full:∀ th∈L,dueB tm L xs th=true↔th.turn∈q
 tried:∀ th∈L,th.token=true→hasB xs th.id=true→freeI (th.n:Int) L=true
theorem TInv.perm {tm:Int} {s:VSt} {q q':List TurnD} {L:List ThingD} {xs:List (List UInt8)} (h:TInv tm s q L xs) (hp:q'.Perm q):TInv tm s q' L xs:=⟨h.rel,fun th ht=>(h.full th ht).trans hp.mem_iff.symm,h.tried⟩
theorem dueB_iff {tm:Int} {L:List ThingD} {xs:List (List UInt8)} {t:ThingD}:dueB tm L xs t=true↔(t.doomed=true∨t.token=false)∧t.at_≤tm∧(t.token=true→freeI (t.n:Int) L=true)∧hasB xs t.id=false:=by
 unfold dueB ThingD.state
 cases t.token <;> cases t.doomed <;> by_cases h:t.at_≤tm <;> simp [h]
theorem id_ne {L:List ThingD} {s:VSt} (h:Rel s.tks s.lks L) (ok:ListsOk s.tks s.lks) {x u:ThingD} (hx:x∈L) (hu:u∈L) (hne:u≠x):(x.id==u.id)=false:=by
 rw [beq_eq_false_iff_ne,ThingD.id_nm,ThingD.id_nm];intro e;obtain⟨e1,e2⟩:=nmStr_inj (h.num ok hx) (h.num ok hu) e;exact hne (h.uniq ok hu hx e1.symm e2.symm)
theorem turn_ne {L:List ThingD} {s:VSt} (h:Rel s.tks s.lks L) (ok:ListsOk s.tks s.lks) {x u:ThingD} (hx:x∈L) (hu:u∈L) (e:(u.turn.k,u.turn.n)=(x.turn.k,x.turn.n)):u=x:=by
 have e':=Prod.mk.inj e;refine h.uniq ok hu hx ?_ ?_
 ·have:=e'.1
  unfold ThingD.turn kdB at this
  cases hu':u.token <;> cases hx':x.token <;> simp [hu',hx'] at this ⊢
 ·have:=e'.2
  unfold ThingD.turn at this;simp at this;omega
theorem freeI_congr {n:Int} {L L':List ThingD} (h:L'.map ThingD.of_=L.map ThingD.of_):freeI n L'=freeI n L:=by
 have e:∀ M:List ThingD,freeI n M=(M.map ThingD.of_).all (fun o=>!(o==n)):=fun M=>by rw [List.all_map];rfl
 rw [e,e,h]
theorem TInv.try1 {tm:Int} {s:VSt} {t:TurnD} {q':List TurnD} {it:Item} {tk:Bool} {n un:Nat} {L:List ThingD} {xs:List (List UInt8)} (h:TInv tm s (t :: q') L xs) (ok:ListsOk s.tks s.lks) (hQ:QOk tm s (t :: q')) (hs:Subj tm s t it tk n un) (hl:∀ u∈q',¬ ltT u t) :
  ∃ i th,L[i]? = some th∧dueI tm L xs=some i∧th.token=tk∧th.n=n∧TInv tm (it.app s) q' (L.set i (failAt tm th)) (xs ++ [th.id])∧TInv tm ((Item.gone tk n).app s) (q'++upAdd ((Item.gone tk n).app s) tm un) (L.eraseIdx i) (xs ++ [th.id]):=by
 obtain⟨i,th,hi,ht,htk,hn,hof,hR1,hR2⟩:=hs.thing h.rel ok;have hth:=List.mem_of_getElem? hi
 have huq:∀ j u,L[j]? = some u→u.token=th.token→u.n=th.n→j=i:=fun j u hj e1 e2=>h.rel.idx ok hi hj e1 e2
 have hdue:dueB tm L xs th=true:=(h.full th hth).2 (by rw [ht];simp);obtain⟨hd1,hd2,hd3,hd4⟩:=dueB_iff.1 hdue;obtain⟨nq1,nq2⟩:=List.nodup_cons.1 (by simpa using hQ.nd:((t.k,t.n) :: q'.map (fun t=>(t.k,t.n))).Nodup)
 have hnq:th.turn∉q':=fun hm=>nq1 (List.mem_map.2 ⟨th.turn,hm,by rw [ht]⟩)
 have hin:∀ u∈L,u≠th→(u.turn∈t :: q'↔u.turn∈q'):=fun u hu hne=>by
  rw [List.mem_cons]
  constructor
  ·rintro(e | e)
   ·exact absurd (turn_ne h.rel ok hth hu (by rw [e,ht])) hne
   ·exact e
  ·exact .inr
 refine⟨i,th,hi,dueI_of hi hdue (fun u hu hp=>?_) huq,htk,hn,⟨hR1,fun u hu=>?_,fun u hu htok hb=>?_⟩,⟨hR2,fun u hu=>?_,fun u hu htok hb=>?_⟩⟩
 ·rw [Bool.eq_false_iff,Ne,firstB_turn]
  have hm:=(h.full u hu).1 hp;rw [ht]
  rcases List.mem_cons.1 hm with e | e
  ·rw [e];unfold ltT;omega
  ·exact hl _ e
 ·have hfr:∀ m:Int,freeI m (L.set i (failAt tm th))=freeI m L:=fun m=>freeI_congr (by
   rw [List.map_set]
   refine List.ext_getElem? fun j=>?_
   by_cases e:i=j
   ·subst e
    rw [List.getElem?_set_self (by simpa using(List.getElem?_eq_some_iff.1 hi).1),List.getElem?_map,hi];rfl
   ·rw [List.getElem?_set_ne e])
  rw [set_eq_map hi huq] at hu;obtain⟨z,hz,rfl⟩:=List.mem_map.1 hu
  by_cases hk:keyB th z=true
  ·rw [if_pos hk]
   have hz':z=th:=h.rel.uniq ok hz hth (keyB_iff.1 hk).1 (keyB_iff.1 hk).2
   constructor
   ·intro hp
    have:=(dueB_iff.1 hp).2.2.2;rw [hasB_snoc,show (failAt tm th).id=th.id from rfl] at this;simp at this
   ·intro hm
    exact absurd (List.mem_map.2 ⟨_,hm,by rw [← ht];rfl⟩:(t.k,t.n)∈q'.map (fun t=>(t.k,t.n))) nq1
  ·rw [if_neg hk]
   have hne:z≠th:=fun e=>hk (by rw [e];exact keyB_iff.2 ⟨rfl,rfl⟩)
   rw [← hin z hz hne,← h.full z hz,dueB_iff,dueB_iff,hfr,hasB_snoc,id_ne h.rel ok hth hz hne,Bool.or_false]
 ·have hfr:∀ m:Int,freeI m (L.set i (failAt tm th))=freeI m L:=fun m=>freeI_congr (by
   rw [List.map_set]
   refine List.ext_getElem? fun j=>?_
   by_cases e:i=j
   ·subst e
    rw [List.getElem?_set_self (by simpa using(List.getElem?_eq_some_iff.1 hi).1),List.getElem?_map,hi];rfl
   ·rw [List.getElem?_set_ne e])
  rw [set_eq_map hi huq] at hu;obtain⟨z,hz,rfl⟩:=List.mem_map.1 hu;rw [hfr]
  by_cases hk:keyB th z=true
  ·rw [if_pos hk] at htok ⊢
   exact hd3 htok
  ·rw [if_neg hk] at htok hb ⊢
   have hne:z≠th:=fun e=>hk (by rw [e];exact keyB_iff.2 ⟨rfl,rfl⟩)
   rw [hasB_snoc,id_ne h.rel ok hth hz hne,Bool.or_false] at hb;exact h.tried z hz htok hb
 ·rw [erase_eq_filter hi huq] at hu hR2 ⊢
  obtain⟨hz,hk⟩:=List.mem_filter.1 hu
  have hne:u≠th:=fun e=>by rw [e] at hk;simp [keyB] at hk
  have hmono:freeI (u.n:Int) L=true→freeI (u.n:Int) (L.filter fun z=>!keyB th z)=true:=fun hf=>by
   unfold freeI at hf ⊢;rw [List.all_eq_true] at hf ⊢
   exact fun z hz=>hf z (List.mem_filter.1 hz).1
  have hbk:u.n≠un→freeI (u.n:Int) (L.filter fun z=>!keyB th z)=true→freeI (u.n:Int) L=true:=fun hnu hf=>by
   unfold freeI at hf ⊢;rw [List.all_eq_true] at hf ⊢;intro z hz
   by_cases hkz:keyB th z=true
   ·have hz':z=th:=h.rel.uniq ok hz hth (keyB_iff.1 hkz).1 (keyB_iff.1 hkz).2
    rw [hz',hof];simp;omega
   ·exact hf z (List.mem_filter.2 ⟨hz,by simpa using hkz⟩)
  have hid:hasB (xs ++ [th.id]) u.id=hasB xs u.id:=by rw [hasB_snoc,id_ne h.rel ok hth hz hne,Bool.or_false]
  rw [dueB_iff,hid,List.mem_append]
  constructor
  ·rintro⟨h1,h2,h3,h4⟩
   by_cases hold:u.token=true→freeI (u.n:Int) L=true
   ·exact .inl ((hin u hz hne).1 ((h.full u hz).1 (dueB_iff.2 ⟨h1,h2,hold,h4⟩)))
   ·obtain⟨htok,hnf⟩:=Classical.not_imp.1 hold
    have hun:u.n=un:=Classical.byContradiction fun e=>hnf (hbk e (h3 htok))
    right
    obtain⟨p,hp,rfl⟩:=hR2.tok_mem hu htok;have hpn:p.n=un:=hun
    have hfind:((Item.gone tk n).app s).tks.find? (fun t=>t.n==un)=some p:=by
     cases hfd:((Item.gone tk n).app s).tks.find? (fun t=>t.n==un) with
     | none=>exact absurd (List.find?_eq_none.1 hfd p hp) (by simp [hpn])
     | some p2 =>
      have h5:=List.mem_of_find?_eq_some hfd
      have h6:p2.n=un:=by simpa using List.find?_some hfd
      have hinc:((Item.gone tk n).app s).tks.Pairwise (fun a b=>a.n<b.n):=by
       show (dropTok tk n s.tks).Pairwise _
       unfold dropTok
       split
       ·exact ok.incT.filter _
       ·exact ok.incT
      rw [inc_inj (f:=TokE.n) hinc h5 hp (by omega)]
    have hpd:p.pd=true:=by
     rcases h1 with e | e
     ·exact e
     ·cases e
    have hfu:=h3 rfl;rw [show ((thT p).n:Int)=(p.n:Int) from rfl,hR2.free] at hfu
    have hc:(p.pd&&decide (p.at_≤tm) && !hasU ((Item.gone tk n).app s) p.n)=true:=by
     rw [hpd,hfu,decide_eq_true (show p.at_≤tm from h2)];rfl
    unfold upAdd;rw [hfind];unfold hasU at hc;unfold dueT;simp only;rw [if_pos hc];exact List.mem_singleton.2 rfl
  ·rintro(hm | hm)
   ·obtain⟨h1,h2,h3,h4⟩:=dueB_iff.1 ((h.full u hz).2 ((hin u hz hne).2 hm))
    exact⟨h1,h2,fun e=>hmono (h3 e),h4⟩
   ·unfold upAdd at hm
    split at hm
    ·rename_i p hfd
     have h5:=List.mem_of_find?_eq_some hfd
     have h6:p.n=un:=by simpa using List.find?_some hfd
     obtain⟨e,hpd,hat,hnb⟩:=dueT_mem hm;have hpL:=hR2.mem_tok h5;have hup:u=thT p:=turn_ne h.rel ok (List.mem_filter.1 hpL).1 hz (by rw [e];rfl);subst hup;refine⟨.inl hpd,hat,fun _=>by rw [show ((thT p).n:Int)=(p.n:Int) from rfl,hR2.free,hnb];rfl,?_⟩;rw [Bool.eq_false_iff];intro hb;have hf:=h.tried _ hz rfl hb;unfold freeI at hf;rw [List.all_eq_true] at hf;have:=hf th hth;rw [hof] at this;simp [thT,h6] at this
    ·cases hm
 ·rw [erase_eq_filter hi huq] at hu ⊢
  obtain⟨hz,hk⟩:=List.mem_filter.1 hu
  have hne:u≠th:=fun e=>by rw [e] at hk;simp [keyB] at hk
  rw [hasB_snoc,id_ne h.rel ok hth hz hne,Bool.or_false] at hb;have hf:=h.tried u hz htok hb;unfold freeI at hf ⊢;rw [List.all_eq_true] at hf ⊢
  exact fun z hz=>hf z (List.mem_filter.1 hz).1
theorem TInv.stop {tm:Int} {s:VSt} {L:List ThingD} {xs:List (List UInt8)} (h:TInv tm s [] L xs):dueI tm L xs=none:=
 dueI_none fun u hu=>by
  rw [Bool.eq_false_iff];intro hp;exact absurd ((h.full u hu).1 hp) (by simp)
structure Alive (N:Nat) (s:VSt):Prop where
 tree:Tree s
 tr:TrB ((48*N:Nat):Int) s
 old:∀ t∈s.tks,(t.n=0∧t.ak=0∧t.au=0)∨(t.ak=1∧t.au<t.n)
theorem Alive.mapped {N tn' ln':Nat} {s:VSt} (h:Alive N s) (gT:TokE→TokE) (gL:LeaE→LeaE) (hT:∀ t∈s.tks,(gT t).n=t.n∧(gT t).ak=t.ak∧(gT t).au=t.au∧(gT t).tr=t.tr∧(t.n=0→(gT t).pd=t.pd)) (hL:∀ t∈s.lks,(gL t).n=t.n∧(gL t).ak=t.ak∧(gL t).au=t.au∧(gL t).tr=t.tr):Alive N ⟨tn',ln',s.tks.map gT,s.lks.map gL⟩:=by
 have up:∀ {k:Nat},(∃ q∈s.tks,q.n=k)→∃ q∈s.tks.map gT,q.n=k:=fun⟨q,hq,e⟩=>⟨gT q,List.mem_map.2 ⟨q,hq,rfl⟩,by rw [(hT q hq).1,e]⟩
 have pwT:(s.tks.map gT).Pairwise (fun a b=>a.n<b.n):=by
  rw [List.pairwise_map];exact h.tree.incT.imp_of_mem (fun ha hb hab=>by rw [(hT _ ha).1,(hT _ hb).1];exact hab)
 have pwL:(s.lks.map gL).Pairwise (fun a b=>a.n<b.n):=by
  rw [List.pairwise_map];exact h.tree.incL.imp_of_mem (fun ha hb hab=>by rw [(hL _ ha).1,(hL _ hb).1];exact hab)
 refine⟨⟨pwT,pwL,fun t ht=>?_,fun t ht=>?_,fun t ht e=>?_⟩,⟨fun x hx=>?_,fun x hx=>?_⟩,fun t ht=>?_⟩
 ·obtain⟨q,hq,rfl⟩:=List.mem_map.1 ht
  obtain⟨a1,a2,a3,a4,a5⟩:=hT q hq;rw [a1,a2,a3];exact(h.tree.upT q hq).imp id (fun e=>⟨e.1,up e.2⟩)
 ·obtain⟨q,hq,rfl⟩:=List.mem_map.1 ht
  obtain⟨a1,a2,a3,a4⟩:=hL q hq;rw [a2,a3];exact⟨(h.tree.upL q hq).1,up (h.tree.upL q hq).2⟩
 ·obtain⟨q,hq,rfl⟩:=List.mem_map.1 ht
  obtain⟨a1,a2,a3,a4,a5⟩:=hT q hq;rw [a1] at e;rw [a5 e];exact h.tree.root q hq e
 ·obtain⟨q,hq,rfl⟩:=List.mem_map.1 hx
  rw [(hT q hq).2.2.2.1];exact h.tr.1 q hq
 ·obtain⟨q,hq,rfl⟩:=List.mem_map.1 hx
  rw [(hL q hq).2.2.2];exact h.tr.2 q hq
 ·obtain⟨q,hq,rfl⟩:=List.mem_map.1 ht
  obtain⟨a1,a2,a3,a4,a5⟩:=hT q hq;rw [a1,a2,a3];exact h.old q hq
theorem Try1.old {tm:Int} {a b:TS} (h:Try1 tm a b) (hT:Tree a.s) (ho:∀ t∈a.s.tks,(t.n=0∧t.ak=0∧t.au=0)∨(t.ak=1∧t.au<t.n)):∀ t∈b.s.tks,(t.n=0∧t.ak=0∧t.au=0)∨(t.ak=1∧t.au<t.n):=by
 cases h with
 | fail hs hp hl ho' hq =>
  cases hs with
  | tok t hm hk =>
   intro x hx
   rcases putTok_mem hT.incT hx with rfl | hx
   ·exact ho t hm
   ·exact ho x hx
  | lea t hm hk=>exact ho
 | ok hs hp hl ho' hq=>exact fun t ht=>ho t (dropTok_mem ht)
theorem Tries.old {tm M:Int} {a b:TS} (h:Tries tm a b) (hg:Going tm M a) (ho:∀ t∈a.s.tks,(t.n=0∧t.ak=0∧t.au=0)∨(t.ak=1∧t.au<t.n)):(∃ M',Going tm M' b)∧∀ t∈b.s.tks,(t.n=0∧t.ak=0∧t.au=0)∨(t.ak=1∧t.au<t.n):=by
 induction h with
 | refl=>exact⟨⟨M,hg⟩,ho⟩
 | step h h1 ih =>
  obtain⟨⟨M',hg'⟩,ho'⟩:=ih;exact⟨⟨_,(h1.going hg').1⟩,h1.old hg'.tree ho'⟩
def Head0 (L:List ThingD):Prop:=∃ x,L[0]? = some x∧x.token=true∧x.n=0
theorem Head0.map {L:List ThingD} (h:Head0 L) (f:ThingD→ThingD) (hf:∀ x,(f x).token=x.token∧(f x).n=x.n):Head0 (L.map f):=by
 obtain⟨x,h1,h2,h3⟩:=h;exact⟨f x,by rw [List.getElem?_map,h1];rfl,by rw [(hf x).1,h2],by rw [(hf x).2,h3]⟩
theorem Head0.set {L:List ThingD} (h:Head0 L) {i:Nat} {x y:ThingD} (hi:L[i]? = some x) (h1:y.token=x.token) (h2:y.n=x.n):Head0 (L.set i y):=by
 obtain⟨z,h3,h4,h5⟩:=h
 by_cases e:i=0
 ·subst e
  rw [hi] at h3;cases h3;exact⟨y,by rw [List.getElem?_set_self (List.getElem?_eq_some_iff.1 hi).1],by rw [h1,h4],by rw [h2,h5]⟩
 ·exact⟨z,by rw [List.getElem?_set_ne e];exact h3,h4,h5⟩
theorem Head0.erase {L:List ThingD} (h:Head0 L) {i:Nat} (hi:0<i):Head0 (L.eraseIdx i):=by
 obtain⟨x,h1,h2⟩:=h;exact⟨x,by rw [List.getElem?_eraseIdx,if_pos hi];exact h1,h2⟩
theorem Try1.lens {tm:Int} {a b:TS} (h:Try1 tm a b) (ht:Tree a.s):b.s.tks.length≤a.s.tks.length∧b.s.lks.length≤a.s.lks.length:=by
 cases h with
 | fail hs hp hl ho hq =>
  cases hs with
  | tok t hm hk =>
   have:(putTok (failT tm t) a.s.tks).length=a.s.tks.length:=putTok_same ht.incT hm rfl;simp only [Item.app];omega
  | lea t hm hk =>
   have:(putLea (failL tm t) a.s.lks).length=a.s.lks.length:=putLea_same ht.incL hm rfl;simp only [Item.app];omega
 | @ok t q' q'' it tk n un hs hp hl ho hq =>
  have h1:(dropTok tk n a.s.tks).length≤a.s.tks.length:=by unfold dropTok;split;exact List.length_filter_le _ _;exact Nat.le_refl _
  have h2:(dropLea tk n a.s.lks).length≤a.s.lks.length:=by unfold dropLea;split;exact Nat.le_refl _;exact List.length_filter_le _ _
  exact⟨h1,h2⟩
theorem Try1.strict {tm:Int} {a b:TS} (h:Try1 tm a b) (ht:Tree a.s):b.q.length+(b.s.tks.length+b.s.lks.length)+1≤a.q.length+(a.s.tks.length+a.s.lks.length):=by
 cases h with
 | fail hs hp hl ho hq =>
  have h1:=hp.length_eq;have h2:=hq.length_eq;simp only [List.length_cons] at h1
  cases hs with
  | tok t hm hk =>
   have:(putTok (failT tm t) a.s.tks).length=a.s.tks.length:=putTok_same ht.incT hm rfl;simp only [Item.app];omega
  | lea t hm hk =>
   have:(putLea (failL tm t) a.s.lks).length=a.s.lks.length:=putLea_same ht.incL hm rfl;simp only [Item.app];omega
 | @ok t q' q'' it tk n un hs hp hl ho hq =>
  have h1:=hp.length_eq;have h2:=hq.length_eq
  have h3:(upAdd ((Item.gone tk n).app a.s) tm un).length≤1:=by
   unfold upAdd
   split
   ·unfold dueT;split <;> simp
   ·simp
  rw [List.length_append] at h2;simp only [List.length_cons] at h1
  cases hs with
  | tok t hm hk =>
   have:(a.s.tks.filter (fun x=>x.n != t.n)).length+1≤a.s.tks.length:=filter_less _ hm (by simp);simp only [Item.app,dropTok,dropLea,delTok,if_true];omega
  | lea t hm hk =>
   have:(a.s.lks.filter (fun x=>x.n != t.n)).length+1≤a.s.lks.length:=filter_less _ hm (by simp);simp only [Item.app,dropTok,dropLea,delLea,Bool.false_eq_true,if_false];omega
structure Bnd (s:VSt):Prop where
 ok:ListsOk s.tks s.lks
 nt:∀ x∈s.tks,x.n≤s.tn
 nl:∀ x∈s.lks,x.n≤s.ln
theorem Try1.bnd {tm:Int} {a b:TS} (h:Try1 tm a b) (hb:Bnd a.s) (hT:Tree a.s) (hT':Tree b.s):Bnd b.s∧b.s.tn=a.s.tn∧b.s.ln=a.s.ln:=by
 have hl:=h.lens hT;have h1:=hb.ok
 cases h with
 | fail hs hp hl' ho hq =>
  cases hs with
  | tok t hm hk =>
   have en:max a.s.tn t.n=a.s.tn:=Nat.max_eq_left (hb.nt t hm);refine⟨⟨⟨Nat.le_trans hl.1 h1.lenT,Nat.le_trans hl.2 h1.lenL,hT'.incT,hT'.incL,fun x hx=>?_,h1.limL⟩,fun x hx=>?_,hb.nl⟩,en,rfl⟩
   ·rcases putTok_mem hT.incT hx with rfl | hx
    ·exact h1.limT t hm
    ·exact h1.limT x hx
   ·show x.n≤max a.s.tn t.n
    rw [en]
    rcases putTok_mem hT.incT hx with rfl | hx
    ·exact hb.nt t hm
    ·exact hb.nt x hx
  | lea t hm hk =>
   have en:max a.s.ln t.n=a.s.ln:=Nat.max_eq_left (hb.nl t hm);refine⟨⟨⟨Nat.le_trans hl.1 h1.lenT,Nat.le_trans hl.2 h1.lenL,hT'.incT,hT'.incL,h1.limT,fun x hx=>?_⟩,hb.nt,fun x hx=>?_⟩,rfl,en⟩
   ·rcases putLea_mem hT.incL hx with rfl | hx
    ·exact h1.limL t hm
    ·exact h1.limL x hx
   ·show x.n≤max a.s.ln t.n
    rw [en]
    rcases putLea_mem hT.incL hx with rfl | hx
    ·exact hb.nl t hm
    ·exact hb.nl x hx
 | ok hs hp hl' ho hq =>
  exact⟨⟨⟨Nat.le_trans hl.1 h1.lenT,Nat.le_trans hl.2 h1.lenL,hT'.incT,hT'.incL,fun x hx=>h1.limT x (dropTok_mem hx),fun x hx=>h1.limL x (dropLea_mem hx)⟩,fun x hx=>hb.nt x (dropTok_mem hx),fun x hx=>hb.nl x (dropLea_mem hx)⟩,rfl,rfl⟩
theorem Tries.head' {tm:Int} {a b:TS} (h:Tries tm a b):a=b∨∃ c,Try1 tm a c∧Tries tm c b:=by
 induction h with
 | refl=>exact .inl rfl
 | step h h1 ih =>
  rcases ih with rfl | ⟨c,h2,h3⟩
  ·exact .inr ⟨_,h1,.refl _⟩
  ·exact .inr ⟨c,h2,.step h3 h1⟩
theorem Try1.cl_eq {tm:Int} {a b:TS} (h:Try1 tm a b):∃ k n,b.cl=a.cl ++ [(k,n)]:=by
 cases h with
 | fail hs hp hl ho hq=>exact⟨_,_,rfl⟩
 | ok hs hp hl ho hq=>exact⟨_,_,rfl⟩
theorem Tries.cl_pre {tm:Int} {a b:TS} (h:Tries tm a b):a.cl <+: b.cl:=by
 induction h with
 | refl=>exact List.prefix_refl _
 | step h h1 ih =>
  obtain⟨k,n,e⟩:=h1.cl_eq;rw [e];exact ih.trans (List.prefix_append _ _)
structure Tk (tm:Int) (M:Int) (b a:TS) (L:List ThingD) (xs:List (List UInt8)):Prop where
 fwd:Tries tm a b
 bq:b.q = []
 go:Going tm (M+a.cl.length) a
 bnd:Bnd a.s
 inv:TInv tm a.s a.q L xs
 hd:Head0 L
 len:xs.length=a.cl.length
 old:∀ t∈a.s.tks,(t.n=0∧t.ak=0∧t.au=0)∨(t.ak=1∧t.au<t.n)
theorem Tk.step {tm M:Int} {b a:TS} {L:List ThingD} {xs:List (List UInt8)} (h:Tk tm M b a L xs) (hlt:a.cl.length<b.cl.length) :
  ∃ c i th k n,L[i]? = some th∧dueI tm L xs=some i∧b.cl[a.cl.length]? = some (k,n)∧th.id=nmStr k n∧0<i∧(th∈L∧0≤th.tries∧th.tries≤M+a.cl.length)∧c.fl=a.fl / 2∧c.cl.length=a.cl.length+1∧(c.s.tn=a.s.tn∧c.s.ln=a.s.ln∧c.s.tks.length≤a.s.tks.length∧c.s.lks.length≤a.s.lks.length)∧(((a.fl % 2==1)=true∧Tk tm M b c (L.set i (failAt tm th)) (xs ++ [th.id]))∨((a.fl % 2==1)=false∧Tk tm M b c (L.eraseIdx i) (xs ++ [th.id]))):=by
 rcases h.fwd.head' with rfl | ⟨c,h1,h2⟩
 ·omega
 ·obtain⟨hg,hcl⟩:=h1.going h.go
  have hg':Going tm (M+c.cl.length) c:=by
   have e:M+((c.cl.length:Nat):Int)=M+(a.cl.length:Int)+1:=by rw [hcl];omega
   rw [e];exact hg
  obtain⟨hb,htn,hln⟩:=h1.bnd h.bnd h.go.tree hg.tree;have hlens:=h1.lens h.go.tree;have hold:=h1.old h.go.tree h.old;have hpre:=h2.cl_pre
  have hxl:∀ th:ThingD,(xs ++ [th.id]).length=c.cl.length:=fun th=>by rw [List.length_append,h.len,hcl];rfl
  cases h1 with
  | @fail t q' q'' it tk n un hs hp hl ho hq =>
   obtain⟨i,th,hi,hdue,htk,hn,hT1,-⟩:=(h.inv.perm hp).try1 h.bnd.ok (h.go.q.perm hp) hs hl;have hm:=List.mem_of_getElem? hi
   have hnz:th.n≠0∨th.token=false:=by
    cases htk':th.token with
    | false=>exact .inr rfl
    | true =>
     left
     have hk:=hs.key;intro e0;exact(h.go.nz.perm hp) t (by simp) (by rw [hk.1,← htk,htk'];rfl) (by rw [hk.2,← hn,e0];rfl)
   have hi0:0<i:=by
    rcases Nat.eq_zero_or_pos i with rfl | hp0
    ·obtain⟨x,x1,x2,x3⟩:=h.hd
     rw [hi] at x1;cases x1
     rcases hnz with e | e
     ·exact absurd x3 e
     ·rw [x2] at e;cases e
    ·exact hp0
   have htr:0≤th.tries∧th.tries≤M+a.cl.length:=by
    cases htk':th.token with
    | true=>obtain⟨z,hz,rfl⟩:=h.inv.rel.tok_mem hm htk';exact h.go.tr.1 z hz
    | false=>obtain⟨z,hz,rfl⟩:=h.inv.rel.lea_mem hm htk';exact h.go.tr.2 z hz
   have hcn:b.cl[a.cl.length]? = some (kdB tk,n):=by
    obtain⟨r,hr⟩:=hpre;rw [← hr];simp
   refine⟨_,i,th,kdB tk,n,hi,hdue,hcn,by rw [ThingD.id_nm,htk,hn];rfl,hi0,⟨hm,htr⟩,rfl,hcl,⟨htn,hln,hlens⟩,.inl ⟨ho,⟨h2,h.bq,hg',hb,hT1.perm hq,h.hd.set hi rfl rfl,hxl th,hold⟩⟩⟩
  | @ok t q' q'' it tk n un hs hp hl ho hq =>
   obtain⟨i,th,hi,hdue,htk,hn,-,hT2⟩:=(h.inv.perm hp).try1 h.bnd.ok (h.go.q.perm hp) hs hl;have hm:=List.mem_of_getElem? hi
   have hnz:th.n≠0∨th.token=false:=by
    cases htk':th.token with
    | false=>exact .inr rfl
    | true =>
     left
     have hk:=hs.key;intro e0;exact(h.go.nz.perm hp) t (by simp) (by rw [hk.1,← htk,htk'];rfl) (by rw [hk.2,← hn,e0];rfl)
   have hi0:0<i:=by
    rcases Nat.eq_zero_or_pos i with rfl | hp0
    ·obtain⟨x,x1,x2,x3⟩:=h.hd
     rw [hi] at x1;cases x1
     rcases hnz with e | e
     ·exact absurd x3 e
     ·rw [x2] at e;cases e
    ·exact hp0
   have htr:0≤th.tries∧th.tries≤M+a.cl.length:=by
    cases htk':th.token with
    | true=>obtain⟨z,hz,rfl⟩:=h.inv.rel.tok_mem hm htk';exact h.go.tr.1 z hz
    | false=>obtain⟨z,hz,rfl⟩:=h.inv.rel.lea_mem hm htk';exact h.go.tr.2 z hz
   have hcn:b.cl[a.cl.length]? = some (kdB tk,n):=by
    obtain⟨r,hr⟩:=hpre;rw [← hr];simp
   refine⟨_,i,th,kdB tk,n,hi,hdue,hcn,by rw [ThingD.id_nm,htk,hn];rfl,hi0,⟨hm,htr⟩,rfl,hcl,⟨htn,hln,hlens⟩,.inr ⟨ho,⟨h2,h.bq,hg',hb,hT2.perm hq,h.hd.erase hi0,hxl th,hold⟩⟩⟩
theorem Tk.stop {tm M:Int} {b a:TS} {L:List ThingD} {xs:List (List UInt8)} (h:Tk tm M b a L xs) (he:¬ a.cl.length<b.cl.length):a=b∧dueI tm L xs=none:=by
 rcases h.fwd.head' with rfl | ⟨c,h1,h2⟩
 ·refine⟨rfl,TInv.stop (s:=a.s) ?_⟩
  have:=h.inv;rw [h.bq] at this;exact this
 ·obtain⟨k,n,e⟩:=h1.cl_eq
  obtain⟨r,hr⟩:=h2.cl_pre;rw [← hr,e] at he;simp at he
theorem Tries.most {tm M:Int} {a b:TS} (h:Tries tm a b) (hg:Going tm M a):(∃ M',Going tm M' b)∧b.cl.length+(b.q.length+(b.s.tks.length+b.s.lks.length))≤a.cl.length+(a.q.length+(a.s.tks.length+a.s.lks.length)):=by
 induction h with
 | refl=>exact⟨⟨M,hg⟩,Nat.le_refl _⟩
 | step h h1 ih =>
  obtain⟨⟨M',hg'⟩,hle⟩:=ih;obtain⟨hg2,hcl⟩:=h1.going hg';have:=h1.strict hg'.tree;exact⟨⟨_,hg2⟩,by omega⟩
structure Wood (m:Nat) (pa:Nat→Nat) (ud:Nat→Bool):Prop where
 up:∀ i,1≤i→i≤m→pa i<i
 cl:∀ i,1≤i→i≤m→ud (pa i)=true→ud i=true
 rt:ud 0=false
structure ClS (m:Nat) (pa:Nat→Nat) (ud:Nat→Bool) (T:Int) (s:VSt) (G:List (Int × Nat)):Prop where
 tn:s.tn=m∧s.ln=m+1
 tok:∀ t∈s.tks,(t.n=0∧t.ak≠1)∨(1≤t.n∧t.n≤m∧t.ak=1∧t.au=pa t.n∧t.pd=ud t.n∧(ud t.n=true→t.at_≤T)∧((1:Int),t.n)∉G)
 lea:∀ l∈s.lks,∃ i,1≤i∧i≤m∧l.n=i+1∧l.ak=1∧l.au=i∧l.pth = [112]∧l.pd=ud i∧(ud i=true→l.at_≤T)∧(ud i=false→l.at_=1100)∧((2:Int),i+1)∉G
 hasT:∀ i,1≤i→i≤m→((1:Int),i)∉G→∃ t∈s.tks,t.n=i
 hasL:∀ i,1≤i→i≤m→((2:Int),i+1)∉G→∃ l∈s.lks,l.n=i+1
 nd:G.Nodup
 mem:∀ x∈G,∃ i,1≤i∧i≤m∧ud i=true∧(x=((1:Int),i)∨x=((2:Int),i+1))
 ord:∀ pre k post,G=pre++((1:Int),k) :: post→((2:Int),k+1)∈pre∧∀ c,1≤c→c≤m→pa c=k→((1:Int),c)∈pre
def QUd (ud:Nat→Bool) (q:List TurnD):Prop:=∀ t∈q,(t.k=1→∃ i:Nat,t.n=i∧ud i=true)∧(t.k=2→∃ i:Nat,t.n=(i+1:Nat)∧ud i=true)
def succs:Int→List (Int × Nat)→List (Int × Nat)
 | _,[]=>[]
 | fl,x :: r=>(if (fl % 2==1)=true then [] else [x])++succs (fl / 2) r
section
variable {m:Nat} {pa:Nat→Nat} {ud:Nat→Bool} {T tm:Int} {s:VSt} {G:List (Int × Nat)}
theorem ClS.mono (h:ClS m pa ud T s G) {T':Int} (hT:T≤T'):ClS m pa ud T' s G:=
 { h with
  tok:=fun t ht=>by
   rcases h.tok t ht with e | ⟨a,b,c,d,e,f,g⟩
   ·exact .inl e
   ·exact .inr ⟨a,b,c,d,e,fun hu=>Int.le_trans (f hu) hT,g⟩
  lea:=fun l hl=>by
   obtain⟨i,a,b,c,d,e,f,g,h1,h2,h3⟩:=h.lea l hl
   exact⟨i,a,b,c,d,e,f,g,fun hu=>Int.le_trans (h1 hu) hT,h2,h3⟩ }
theorem QUd.perm {q q':List TurnD} (h:QUd ud q) (hp:q'.Perm q):QUd ud q':=fun t ht=>h t (hp.mem_iff.1 ht)
theorem QUd.sub {q q':List TurnD} (h:QUd ud q) (hs:∀ t∈q',t∈q):QUd ud q':=fun t ht=>h t (hs t ht)
theorem ClS.dueT (h:ClS m pa ud T s G) (hr:∀ t∈s.tks,t.n=0→t.pd=false) {t:TokE} (ht:t∈s.tks):QUd ud (dueT s tm t):=fun u hu=>by
 obtain⟨e,hp,ha,hb⟩:=dueT_mem hu;subst e
 rcases h.tok t ht with e | ⟨a,b,c,d,e,f,g⟩
 ·rw [hr t ht e.1] at hp;cases hp
 ·exact⟨fun _=>⟨t.n,rfl,by rw [← e];exact hp⟩,fun hk=>by cases hk⟩
theorem ClS.dueL (h:ClS m pa ud T s G) (htm:tm<1100) {l:LeaE} (hl:l∈s.lks):QUd ud (dueL tm l):=fun u hu=>by
 obtain⟨e,ha⟩:=dueL_mem hu;subst e;obtain⟨i,a,b,c,d,e,f,g,h1,h2,h3⟩:=h.lea l hl;refine⟨(fun hk=>by cases hk),fun _=>⟨i,by show (l.n:Int)=_;rw [c],?_⟩⟩;cases hu:ud i
 ·have:=h2 hu;omega
 ·rfl
theorem ClS.start (h:ClS m pa ud T s G) (hr:∀ t∈s.tks,t.n=0→t.pd=false) (htm:tm<1100):QUd ud (s.tks.flatMap (Go.Proofs.dueT s tm)++s.lks.flatMap (Go.Proofs.dueL tm)):=fun t ht=>by
 rcases List.mem_append.1 ht with ht | ht
 ·obtain⟨x,hx,hu⟩:=List.mem_flatMap.1 ht
  exact h.dueT hr hx t hu
 ·obtain⟨x,hx,hu⟩:=List.mem_flatMap.1 ht
  exact h.dueL htm hx t hu
theorem ClS.upAdd (h:ClS m pa ud T s G) (hr:∀ t∈s.tks,t.n=0→t.pd=false) (un:Nat):QUd ud (upAdd s tm un):=by
 unfold Go.Proofs.upAdd
 cases hf:s.tks.find? (fun t=>t.n==un) with
 | none=>intro t ht;cases ht
 | some p=>exact h.dueT hr (List.mem_of_find?_eq_some hf)
theorem n_of {x i:Nat} (h:((x:Nat):Int)=(i:Int)):x=i:=by omega
theorem ClS.fail (h:ClS m pa ud T s G) (W:Wood m pa ud) (hT:Tree s) {t:TurnD} {it:Item} {tk:Bool} {n un:Nat} (hs:Subj tm s t it tk n un) (hu:(t.k=1→∃ i:Nat,t.n=i∧ud i=true)∧(t.k=2→∃ i:Nat,t.n=(i+1:Nat)∧ud i=true)) (t0:0≤tm) (htm:tm≤1000000):ClS m pa ud (max T (tm+32)) (it.app s) G:=by
 have hw:∀ k,plusI tm (waitN k)≤tm+32:=fun k=>by
  have:=waitN_le k;unfold plusI
  split <;> omega
 have h':=h.mono (show T≤max T (tm+32) by omega)
 cases hs with
 | tok x hx hk =>
  obtain⟨i,hi,hui⟩:=hu.1 rfl;obtain rfl:x.n=i:=n_of hi;have e:=putTok_map (t:=failT tm x) hT.incT hx rfl
  rcases h.tok x hx with h0 | ⟨a,b,cc,d,e1,f,g⟩
  ·rw [h0.1,W.rt] at hui;cases hui
  ·have es:(Item.tok (failT tm x)).app s=⟨max s.tn x.n,s.ln,s.tks.map (fun z=>if z.n=x.n then failT tm x else z),s.lks⟩:=by
    show VSt.mk _ _ (putTok (failT tm x) s.tks) _=_
    rw [e];rfl
   rw [es];refine { h' with tn:=⟨by have:=h.tn.1;show max s.tn x.n=m;omega,h.tn.2⟩,tok:=fun t ht=>?_,hasT:=fun i h1 h2 h3=>?_ }
   ·obtain⟨z,hz,rfl⟩:=List.mem_map.1 ht
    by_cases hzx:z.n=x.n
    ·rw [if_pos hzx]
     exact .inr ⟨a,b,cc,d,hui.symm,fun _=>by have:=hw x.tr.toNat;show plusI tm _≤_;omega,g⟩
    ·rw [if_neg hzx]
     exact h'.tok z hz
   ·obtain⟨z,hz,rfl⟩:=h.hasT i h1 h2 h3
    refine⟨_,List.mem_map.2 ⟨z,hz,rfl⟩,?_⟩
    by_cases hzx:z.n=x.n
    ·rw [if_pos hzx];exact hzx.symm
    ·rw [if_neg hzx]
 | lea x hx hk =>
  obtain⟨i,hi,hui⟩:=hu.2 rfl;have hxi:x.n=i+1:=n_of hi;have e:=putLea_map (t:=failL tm x) hT.incL hx rfl;obtain⟨j,a,b,cc,d,e1,f,g,h1,h2,h3⟩:=h.lea x hx
  obtain rfl:j=i:=by omega
  have es:(Item.lea (failL tm x)).app s=⟨s.tn,max s.ln x.n,s.tks,s.lks.map (fun z=>if z.n=x.n then failL tm x else z)⟩:=by
   show VSt.mk _ _ _ (putLea (failL tm x) s.lks)=_
   rw [e];rfl
  rw [es];refine { h' with tn:=⟨h.tn.1,by have:=h.tn.2;show max s.ln x.n=m+1;omega⟩,lea:=fun t ht=>?_,hasL:=fun i' q1 q2 q3=>?_ }
  ·obtain⟨z,hz,rfl⟩:=List.mem_map.1 ht
   by_cases hzx:z.n=x.n
   ·rw [if_pos hzx]
    exact⟨j,a,b,cc,d,e1,f,hui.symm,fun _=>by have:=hw x.tr.toNat;show plusI tm _≤_;omega,(fun hf=>by rw [hui] at hf;cases hf),h3⟩
   ·rw [if_neg hzx]
    exact h'.lea z hz
  ·obtain⟨z,hz,hzn⟩:=h.hasL i' q1 q2 q3
   refine⟨_,List.mem_map.2 ⟨z,hz,rfl⟩,?_⟩
   by_cases hzx:z.n=x.n
   ·rw [if_pos hzx];exact hzx.symm.trans hzn
   ·rw [if_neg hzx];exact hzn
theorem hasU_tok {u:Nat} {t:TokE} (ht:t∈s.tks) (h1:t.ak=1) (h2:t.au=u):hasU s u=true:=by
 unfold hasU;rw [Bool.or_eq_true];exact .inl (List.any_eq_true.2 ⟨t,ht,by simp [h1,h2]⟩)
theorem hasU_lea {u:Nat} {t:LeaE} (ht:t∈s.lks) (h1:t.ak=1) (h2:t.au=u):hasU s u=true:=by
 unfold hasU;rw [Bool.or_eq_true];exact .inr (List.any_eq_true.2 ⟨t,ht,by simp [h1,h2]⟩)
theorem snoc_split {α:Type} {G pre post:List α} {x y:α} (h:G ++ [x]=pre++y :: post):(pre=G∧y=x)∨∃ post',G=pre++y :: post':=by
 rcases List.eq_nil_or_concat post with rfl | ⟨q,z,rfl⟩
 ·have h1:=List.append_inj' h rfl
  exact .inl ⟨h1.1.symm,(List.singleton_inj.1 h1.2).symm⟩
 ·have h2:G ++ [x]=(pre++y :: q) ++ [z]:=by simpa using h
  exact .inr ⟨q,(List.append_inj' h2 rfl).1⟩
theorem ClS.ok (h:ClS m pa ud T s G) (W:Wood m pa ud) {t:TurnD} {it:Item} {tk:Bool} {n un:Nat} (hs:Subj tm s t it tk n un) (hu:(t.k=1→∃ i:Nat,t.n=i∧ud i=true)∧(t.k=2→∃ i:Nat,t.n=(i+1:Nat)∧ud i=true)) (hnb:tk=true→hasU s n=false):ClS m pa ud T ((Item.gone tk n).app s) (G ++ [(kdB tk,n)]):=by
 have hGone:∀ x:Int × Nat,x∉G ++ [(kdB tk,n)]↔x∉G∧x≠(kdB tk,n):=fun x=>by simp
 cases hs with
 | tok x hx hk =>
  obtain⟨i,hi,hui⟩:=hu.1 rfl;obtain rfl:x.n=i:=n_of hi;have hb:=hnb rfl
  rcases h.tok x hx with h0 | ⟨a,b,cc,d,e1,f,g⟩
  ·rw [h0.1,W.rt] at hui;cases hui
  ·refine⟨h.tn,fun t ht=>?_,fun l hl=>?_,fun i h1 h2 h3=>?_,fun i h1 h2 h3=>?_,?_,fun y hy=>?_,fun pre k post hp=>?_⟩
   ·obtain⟨ht1,ht2⟩:=List.mem_filter.1 (show t∈delTok x.n s.tks from ht)
    have hne:t.n≠x.n:=by simpa using ht2
    rcases h.tok t ht1 with e | ⟨q1,q2,q3,q4,q5,q6,q7⟩
    ·exact .inl e
    ·exact .inr ⟨q1,q2,q3,q4,q5,q6,(hGone _).2 ⟨q7,fun e=>hne (Prod.mk.inj e).2⟩⟩
   ·obtain⟨j,q1,q2,q3,q4,q5,q6,q7,q8,q9,q10⟩:=h.lea l hl
    exact⟨j,q1,q2,q3,q4,q5,q6,q7,q8,q9,(hGone _).2 ⟨q10,fun e=>absurd (Prod.mk.inj e).1 (by decide)⟩⟩
   ·obtain⟨h4,h5⟩:=(hGone _).1 h3
    obtain⟨t,ht,rfl⟩:=h.hasT i h1 h2 h4;exact⟨t,List.mem_filter.2 ⟨ht,by simpa using fun e:t.n=x.n=>h5 (by rw [e];rfl)⟩,rfl⟩
   ·exact h.hasL i h1 h2 ((hGone _).1 h3).1
   ·exact List.nodup_append.2 ⟨h.nd,by simp,fun y hy z hz e=>g (by rw [List.mem_singleton.1 hz] at e;rw [← show y=((1:Int),x.n) from e];exact hy)⟩
   ·rcases List.mem_append.1 hy with hy | hy
    ·exact h.mem y hy
    ·exact⟨x.n,a,b,hui,.inl (List.mem_singleton.1 hy)⟩
   ·rcases snoc_split hp with⟨rfl,e⟩ | ⟨post',hG⟩
    ·have hk:k=x.n:=(Prod.mk.inj e).2
     subst hk;refine⟨Classical.byContradiction fun hno=>?_,fun c c1 c2 c3=>Classical.byContradiction fun hno=>?_⟩
     ·obtain⟨l,hl,hln⟩:=h.hasL x.n a b hno
      obtain⟨j,q1,q2,q3,q4,q5,-⟩:=h.lea l hl;have:=hasU_lea hl q4 (show l.au=x.n by omega);rw [hb] at this;cases this
     ·obtain⟨t,ht,htn⟩:=h.hasT c c1 c2 hno
      rcases h.tok t ht with e' | ⟨q1,q2,q3,q4,-⟩
      ·have:=e'.1;omega
      ·have:=hasU_tok ht q3 (show t.au=x.n by rw [q4,htn,c3])
       rw [hb] at this;cases this
    ·exact h.ord pre k post' hG
 | lea x hx hk =>
  obtain⟨i,hi,hui⟩:=hu.2 rfl;have hxi:x.n=i+1:=n_of hi;obtain⟨j,a,b,cc,d,e1,f,g,h1,h2,h3⟩:=h.lea x hx
  obtain rfl:j=i:=by omega
  refine⟨h.tn,fun t ht=>?_,fun l hl=>?_,fun i h1 h2 h3=>?_,fun i q1 q2 q3=>?_,?_,fun y hy=>?_,fun pre k post hp=>?_⟩
  ·rcases h.tok t ht with e | ⟨q1,q2,q3,q4,q5,q6,q7⟩
   ·exact .inl e
   ·exact .inr ⟨q1,q2,q3,q4,q5,q6,(hGone _).2 ⟨q7,fun e=>absurd (Prod.mk.inj e).1 (by decide)⟩⟩
  ·obtain⟨hl1,hl2⟩:=List.mem_filter.1 (show l∈delLea x.n s.lks from hl)
   have hne:l.n≠x.n:=by simpa using hl2
   obtain⟨j',q1,q2,q3,q4,q5,q6,q7,q8,q9,q10⟩:=h.lea l hl1;exact⟨j',q1,q2,q3,q4,q5,q6,q7,q8,q9,(hGone _).2 ⟨q10,fun e=>hne (by rw [q3];exact(Prod.mk.inj e).2)⟩⟩
  ·exact h.hasT i h1 h2 ((hGone _).1 h3).1
  ·obtain⟨h4,h5⟩:=(hGone _).1 q3
   obtain⟨l,hl,hln⟩:=h.hasL i q1 q2 h4;exact⟨l,List.mem_filter.2 ⟨hl,by simpa using fun e:l.n=x.n=>h5 (by rw [← hln,e];rfl)⟩,hln⟩
  ·exact List.nodup_append.2 ⟨h.nd,by simp,fun y hy z hz e=>h3 (by rw [List.mem_singleton.1 hz] at e;rw [← cc,← show y=((2:Int),x.n) from e];exact hy)⟩
  ·rcases List.mem_append.1 hy with hy | hy
   ·exact h.mem y hy
   ·exact⟨j,a,b,hui,.inr (by rw [List.mem_singleton.1 hy,← cc];rfl)⟩
  ·rcases snoc_split hp with⟨rfl,e⟩ | ⟨post',hG⟩
   ·exact absurd (Prod.mk.inj e).1 (by decide)
   ·exact h.ord pre k post' hG
end
def flN:Int→Nat→Int
 | fl,0=>fl
 | fl,n+1=>flN (fl / 2) n
theorem flN_succ:∀(n:Nat) (fl:Int),flN fl (n+1)=flN fl n / 2
 | 0,_=>rfl
 | n+1,fl=>flN_succ n (fl / 2)
theorem succs_snoc:∀(d:List (Int × Nat)) (fl:Int) (x:Int × Nat),succs fl (d ++ [x])=succs fl d++(if (flN fl d.length % 2==1)=true then [] else [x])
 | [],fl,x=>by simp [succs,flN]
 | y :: d,fl,x=>by
  show (if (fl % 2==1)=true then [] else [y])++succs (fl / 2) (d ++ [x])=_
  rw [succs_snoc d (fl / 2) x,← List.append_assoc];rfl
section
variable {m:Nat} {pa:Nat→Nat} {ud:Nat→Bool} {T tm:Int} {G:List (Int × Nat)}
theorem Tries.wood {a b:TS} (h:Tries tm a b) (W:Wood m pa ud) {M:Int} (hg:Going tm M a) (hC:ClS m pa ud T a.s G) (hq:QUd ud a.q) (t0:0≤tm) (htm:tm≤1000000) :
  ∃ d M',b.cl=a.cl++d∧b.fl=flN a.fl d.length∧ClS m pa ud (max T (tm+32)) b.s (G++succs a.fl d)∧QUd ud b.q∧Going tm M' b:=by
 induction h with
 | refl=>exact⟨[],M,by simp,rfl,by simpa [succs] using hC.mono (by omega),hq,hg⟩
 | @step b c h h1 ih =>
  obtain⟨d,M',hcl,hfl,hC',hq',hg'⟩:=ih;obtain⟨hgc,-⟩:=h1.going hg'
  cases h1 with
  | @fail t q' q'' it tk n un hs hp hl ho hqq =>
   have htq:t∈b.q:=hp.mem_iff.1 (by simp);refine⟨d ++ [(kdB tk,n)],_,by simp [hcl],by rw [List.length_append];show b.fl / 2=flN a.fl (d.length+1);rw [flN_succ,← hfl],?_,?_,hgc⟩
   ·rw [succs_snoc,← hfl,if_pos ho,List.append_nil]
    have:=hC'.fail W hg'.tree hs (hq' t htq) t0 htm
    rwa [show max (max T (tm+32)) (tm+32)=max T (tm+32) by omega] at this
   ·exact QUd.perm (QUd.sub hq' (fun u hu=>hp.mem_iff.1 (List.mem_cons_of_mem _ hu))) hqq
  | @ok t q' q'' it tk n un hs hp hl ho hqq =>
   have htq:t∈b.q:=hp.mem_iff.1 (by simp);have hC2:=hC'.ok W hs (hq' t htq) (fun e=>hg'.q.nb t htq (by rw [hs.key.1,e];rfl) n hs.key.2);refine⟨d ++ [(kdB tk,n)],_,by simp [hcl],by rw [List.length_append];show b.fl / 2=flN a.fl (d.length+1);rw [flN_succ,← hfl],?_,?_,hgc⟩
   ·rw [succs_snoc,← hfl,if_neg (by simpa using ho),← List.append_assoc]
    exact hC2
   ·refine QUd.perm (fun u hu=>?_) hqq
    rcases List.mem_append.1 hu with hu | hu
    ·exact hq' u (hp.mem_iff.1 (List.mem_cons_of_mem _ hu))
    ·exact hC2.upAdd hgc.tree.root un u hu
structure QAll (tm:Int) (s:VSt) (q:List TurnD):Prop where
 lea:∀ l∈s.lks,l.at_≤tm→(⟨l.at_,2,l.n⟩:TurnD)∈q
 tok:∀ t∈s.tks,∀ u∈dueT s tm t,u∈q
theorem QAll.start (tm:Int) (s:VSt):QAll tm s (s.tks.flatMap (dueT s tm)++s.lks.flatMap (dueL tm)):=
 ⟨fun l hl ha=>List.mem_append_right _ (List.mem_flatMap.2 ⟨l,hl,by unfold dueL;rw [if_pos ha];simp⟩),fun t ht u hu=>List.mem_append_left _ (List.mem_flatMap.2 ⟨t,ht,hu⟩)⟩
theorem dueT_iff {s:VSt} {t:TokE} {u:TurnD}:u∈dueT s tm t↔u=⟨t.at_,1,t.n⟩∧t.pd=true∧t.at_≤tm∧hasU s t.n=false:=by
 constructor
 ·intro h
  obtain⟨e,h1,h2,h3⟩:=dueT_mem h;exact⟨e,h1,h2,h3⟩
 ·rintro⟨rfl,h1,h2,h3⟩
  have hc:(t.pd&&decide (t.at_≤tm) && !hasU s t.n)=true:=by rw [h1,h3,decide_eq_true h2];rfl
  unfold hasU at hc;unfold dueT;rw [if_pos hc];simp
theorem hasU_elim {s:VSt} {u:Nat} (h:hasU s u=true):(∃ t∈s.tks,t.ak=1∧t.au=u)∨∃ t∈s.lks,t.ak=1∧t.au=u:=by
 unfold hasU at h
 rcases(Bool.or_eq_true_iff.1 h) with h | h
 ·obtain⟨t,ht,e⟩:=List.any_eq_true.1 h
  obtain⟨e1,e2⟩:t.ak=1∧(t.au:Int)=(u:Int):=by simpa using e
  exact .inl ⟨t,ht,e1,by omega⟩
 ·obtain⟨t,ht,e⟩:=List.any_eq_true.1 h
  obtain⟨e1,e2⟩:t.ak=1∧(t.au:Int)=(u:Int):=by simpa using e
  exact .inr ⟨t,ht,e1,by omega⟩
theorem hasU_of_gone {s:VSt} {t:TurnD} {it:Item} {tk:Bool} {n un:Nat} (hT:Tree s) (hs:Subj tm s t it tk n un) {a:Nat} (h1:hasU s a=true) (h2:hasU ((Item.gone tk n).app s) a=false):a=un:=by
 refine Classical.byContradiction fun hne=>?_
 suffices hasU ((Item.gone tk n).app s) a=true by rw [h2] at this;cases this
 cases hs with
 | tok x hx hk =>
  rcases hasU_elim h1 with⟨y,hy,e1,e2⟩ | ⟨y,hy,e1,e2⟩
  ·refine hasU_tok (t:=y) (List.mem_filter.2 ⟨hy,?_⟩) e1 e2
   simpa using fun e:y.n=x.n=>hne (by rw [← e2,inc_inj (f:=TokE.n) hT.incT hy hx e])
  ·exact hasU_lea (t:=y) hy e1 e2
 | lea x hx hk =>
  rcases hasU_elim h1 with⟨y,hy,e1,e2⟩ | ⟨y,hy,e1,e2⟩
  ·exact hasU_tok (t:=y) hy e1 e2
  ·refine hasU_lea (t:=y) (List.mem_filter.2 ⟨hy,?_⟩) e1 e2
   simpa using fun e:y.n=x.n=>hne (by rw [← e2,inc_inj (f:=LeaE.n) hT.incL hy hx e])
theorem upAdd_mem {s:VSt} (hi:s.tks.Pairwise (fun a b=>a.n<b.n)) {y:TokE} (hy:y∈s.tks) {u:TurnD} (hu:u∈dueT s tm y):u∈upAdd s tm y.n:=by
 unfold upAdd
 cases hf:s.tks.find? (fun t=>t.n==y.n) with
 | none=>exact absurd (List.find?_eq_none.1 hf y hy) (by simp)
 | some p =>
  have e:p.n=y.n:=by simpa using List.find?_some hf
  obtain rfl:=inc_inj (f:=TokE.n) hi (List.mem_of_find?_eq_some hf) hy e;exact hu
theorem QAll.ok {s:VSt} {t:TurnD} {q':List TurnD} {it:Item} {tk:Bool} {n un:Nat} (h:QAll tm s (t :: q')) (hT:Tree s) (hs:Subj tm s t it tk n un) (hT':Tree ((Item.gone tk n).app s)):QAll tm ((Item.gone tk n).app s) (q'++upAdd ((Item.gone tk n).app s) tm un):=by
 have hgone:=fun a=>@hasU_of_gone tm s t it tk n un hT hs a
 have hsub:∀ y∈((Item.gone tk n).app s).tks,y∈s.tks∧(∀ u:TurnD,u=⟨y.at_,1,y.n⟩→u≠t):=fun y hy=>by
  cases hs with
  | tok x hx hk =>
   obtain⟨h1,h2⟩:=List.mem_filter.1 (show y∈delTok x.n s.tks from hy)
   have hne:y.n≠x.n:=by simpa using h2
   exact⟨h1,fun u e e'=>hne (by rw [e] at e';have:=congrArg TurnD.n e';dsimp only at this;omega)⟩
  | lea x hx hk=>exact⟨hy,fun u e e'=>by rw [e] at e';have:=congrArg TurnD.k e';cases this⟩
 refine⟨fun l hl ha=>List.mem_append_left _ ?_,fun y hy u hu=>?_⟩
 ·cases hs with
  | tok x hx hk =>
   rcases List.mem_cons.1 (h.lea l hl ha) with e | e
   ·have:=congrArg TurnD.k e;cases this
   ·exact e
  | lea x hx hk =>
   obtain⟨h1,h2⟩:=List.mem_filter.1 (show l∈delLea x.n s.lks from hl)
   have hne:l.n≠x.n:=by simpa using h2
   rcases List.mem_cons.1 (h.lea l h1 ha) with e | e
   ·have:=congrArg TurnD.n e;dsimp only at this;omega
   ·exact e
 ·obtain⟨e,h1,h2,h3⟩:=dueT_iff.1 hu
  obtain⟨hy1,hy2⟩:=hsub y hy
  cases hb:hasU s y.n with
  | false =>
   rcases List.mem_cons.1 (h.tok y hy1 u (dueT_iff.2 ⟨e,h1,h2,hb⟩)) with e' | e'
   ·exact absurd e' (hy2 u e)
   ·exact List.mem_append_left _ e'
  | true =>
   obtain rfl:=hgone y.n hb h3;exact List.mem_append_right _ (upAdd_mem hT'.incT hy hu)
theorem QAll.perm {s:VSt} {q q':List TurnD} (h:QAll tm s q) (hp:q.Perm q'):QAll tm s q':=⟨fun l hl ha=>hp.mem_iff.1 (h.lea l hl ha),fun t ht u hu=>hp.mem_iff.1 (h.tok t ht u hu)⟩
theorem flN_zero:∀ n:Nat,flN 0 n=0
 | 0=>rfl
 | n+1=>flN_zero n
theorem succs_zero:∀ d:List (Int × Nat),succs 0 d=d
 | []=>rfl
 | x :: d=>by
  show [x] ++ succs (0 / 2) d=_
  rw [show (0:Int) / 2=0 from rfl,succs_zero d];rfl
theorem Tries.clear {a b:TS} (h:Tries tm a b) (W:Wood m pa ud) {M:Int} (hg:Going tm M a) (hf:a.fl=0) (hC:ClS m pa ud T a.s G) (hq:QUd ud a.q) (hA:QAll tm a.s a.q) :
  ∃ d M',b.cl=a.cl++d∧b.fl=0∧ClS m pa ud T b.s (G++d)∧QUd ud b.q∧Going tm M' b∧QAll tm b.s b.q:=by
 induction h with
 | refl=>exact⟨[],M,by simp,hf,by simpa using hC,hq,hg,hA⟩
 | @step b c h h1 ih =>
  obtain⟨d,M',hcl,hfl,hC',hq',hg',hA'⟩:=ih;obtain⟨hgc,-⟩:=h1.going hg'
  cases h1 with
  | @fail t q' q'' it tk n un hs hp hl ho hqq=>rw [hfl] at ho;exact absurd ho (by decide)
  | @ok t q' q'' it tk n un hs hp hl ho hqq =>
   have htq:t∈b.q:=hp.mem_iff.1 (by simp);have hC2:=hC'.ok W hs (hq' t htq) (fun e=>hg'.q.nb t htq (by rw [hs.key.1,e];rfl) n hs.key.2);refine⟨d ++ [(kdB tk,n)],_,by simp [hcl],(by show b.fl / 2=0;rw [hfl];rfl),(by rw [← List.append_assoc];exact hC2),?_,hgc,?_⟩
   ·refine QUd.perm (fun u hu=>?_) hqq
    rcases List.mem_append.1 hu with hu | hu
    ·exact hq' u (hp.mem_iff.1 (List.mem_cons_of_mem _ hu))
    ·exact hC2.upAdd hgc.tree.root un u hu
   ·exact(QAll.ok (hA'.perm hp.symm) hg'.tree hs hgc.tree).perm hqq.symm
theorem ClS.none {s:VSt} (h:ClS m pa ud T s G) (W:Wood m pa ud) (hT:T≤tm) (hA:QAll tm s []):∀ k i,i+k=m→1≤i→(ud i=true→((2:Int),i+1)∈G∧((1:Int),i)∈G)∧∀ j,i<j→j≤m→ud j=true→((2:Int),j+1)∈G∧((1:Int),j)∈G:=by
 have hlea:∀ i,1≤i→i≤m→ud i=true→((2:Int),i+1)∈G:=fun i h1 h2 hu=>Classical.byContradiction fun hno=>by
  obtain⟨l,hl,hln⟩:=h.hasL i h1 h2 hno;obtain⟨j,q1,q2,q3,q4,q5,q6,q7,q8,q9,q10⟩:=h.lea l hl
  obtain rfl:j=i:=by omega
  exact absurd (hA.lea l hl (Int.le_trans (q8 hu) hT)) (by simp)
 have htok:∀ i,1≤i→i≤m→ud i=true→(∀ j,i<j→j≤m→ud j=true→((1:Int),j)∈G)→((1:Int),i)∈G:=fun i h1 h2 hu hj=>Classical.byContradiction fun hno=>by
  obtain⟨t,ht,htn⟩:=h.hasT i h1 h2 hno
  rcases h.tok t ht with e | ⟨q1,q2,q3,q4,q5,q6,q7⟩
  ·have:=e.1;omega
  ·rw [htn] at q5 q6
   refine absurd (hA.tok t ht ⟨t.at_,1,t.n⟩ (dueT_iff.2 ⟨rfl,by rw [q5,hu],Int.le_trans (q6 hu) hT,?_⟩)) (by simp)
   cases hb:hasU s t.n with
   | false=>rfl
   | true =>
    rw [htn] at hb
    rcases hasU_elim hb with⟨y,hy,e1,e2⟩ | ⟨y,hy,e1,e2⟩
    ·rcases h.tok y hy with e | ⟨p1,p2,p3,p4,p5,p6,p7⟩
     ·exact absurd e1 e.2
     ·have hpa:pa y.n=i:=by omega
      have hlt:=W.up y.n p1 p2;exact absurd (hj y.n (by omega) p2 (W.cl y.n p1 p2 (by rw [hpa,hu]))) p7
    ·obtain⟨j,p1,p2,p3,p4,p5,p6,p7,p8,p9,p10⟩:=h.lea y hy
     obtain rfl:j=i:=by omega
     exact absurd (hlea j p1 p2 hu) p10
 intro k
 induction k with
 | zero =>
  intro i hi h1;refine⟨fun hu=>⟨hlea i h1 (by omega) hu,htok i h1 (by omega) hu (fun j a b=>by omega)⟩,fun j a b=>by omega⟩
 | succ k ih =>
  intro i hi h1;obtain⟨h3,h4⟩:=ih (i+1) (by omega) (by omega)
  have hall:∀ j,i<j→j≤m→ud j=true→((2:Int),j+1)∈G∧((1:Int),j)∈G:=fun j a b hu=>by
   by_cases e:j=i+1
   ·subst e;exact h3 hu
   ·exact h4 j (by omega) b hu
  exact⟨fun hu=>⟨hlea i h1 (by omega) hu,htok i h1 (by omega) hu (fun j a b hu=>(hall j a b hu).2)⟩,hall⟩
end
end Go.Proofs
