import Derived.Test.YtjbekgjdempbiaaGreatDoorJRvF
import Derived.Test.YtjbekgjdempbiaaGreatDoorJAlive
set_option maxRecDepth 100000
set_option maxHeartbeats 8000000
namespace Go.Proofs
open Go.RowKit Go.Sort Go.Lib Go.Shelf Go.Maps
structure TInv (tm:Int) (s:VSt) (q:List TurnD) (L:List ThingD) (xs:List (List UInt8)):Prop where
 rel:Rel s.tks s.lks L
 full:∀ th∈L,dueB tm L xs th=true↔th.turn∈q
 tried:∀ th∈L,th.token=true→hasB xs th.id=true→freeI (th.n:Int) L=true
theorem TInv.perm {tm:Int} {s:VSt} {q q':List TurnD} {L:List ThingD} {xs:List (List UInt8)} (h:TInv tm s q L xs) (hp:q'.Perm q):TInv tm s q' L xs:=⟨h.rel,fun th ht=>(h.full th ht).trans hp.mem_iff.symm,h.tried⟩
theorem dueB_iff {tm:Int} {L:List ThingD} {xs:List (List UInt8)} {t:ThingD}:dueB tm L xs t=true↔(t.doomed=true∨t.token=false)∧t.at_≤tm∧(t.token=true→freeI (t.n:Int) L=true)∧hasB xs t.id=false:=by
 unfold dueB ThingD.state
 cases t.token <;> cases t.doomed <;> by_cases h:t.at_≤tm <;> simp [h]
theorem id_ne {L:List ThingD} {s:VSt} (h:Rel s.tks s.lks L) (ok:ListsOk s.tks s.lks) {x u:ThingD} (hx:x∈L) (hu:u∈L) (hne:u≠x):(x.id==u.id)=false:=by
 rw [beq_eq_false_iff_ne,ThingD.id_nm,ThingD.id_nm];intro e;obtain⟨e1,e2⟩:=nmStr_inj (h.num ok hx) (h.num ok hu) e;exact hne (h.uniq ok hu hx e1.symm e2.symm)
theorem turn_ne {L:List ThingD} {s:VSt} (h:Rel s.tks s.lks L) (ok:ListsOk s.tks s.lks) {x u:ThingD} (hx:x∈L) (hu:u∈L) (e:(u.turn.k,u.turn.n)=(x.turn.k,x.turn.n)):u=x:=by
 have e':=Prod.mk.inj e;refine h.uniq ok hu hx ?_ ?_
 ·have:=e'.1
  unfold ThingD.turn kdB at this
  cases hu':u.token <;> cases hx':x.token <;> simp [hu',hx'] at this ⊢
 ·have:=e'.2
  unfold ThingD.turn at this;simp at this;omega
theorem TInv.start {tm:Int} {s:VSt} {L:List ThingD} (h:Rel s.tks s.lks L) (ok:ListsOk s.tks s.lks):TInv tm s (s.tks.flatMap (dueT s tm)++s.lks.flatMap (dueL tm)) L []:=by
 refine⟨h,fun th hth=>?_,fun th _ _ e=>by simp [hasB] at e⟩;rw [dueB_iff]
 constructor
 ·rintro⟨h1,h2,h3,-⟩
  cases hk:th.token
  ·obtain⟨t,ht,rfl⟩:=h.lea_mem hth hk
   refine List.mem_append_right _ (List.mem_flatMap.2 ⟨t,ht,?_⟩);unfold dueL;rw [if_pos (show t.at_≤tm from h2)];exact List.mem_singleton.2 rfl
  ·obtain⟨t,ht,rfl⟩:=h.tok_mem hth hk
   refine List.mem_append_left _ (List.mem_flatMap.2 ⟨t,ht,?_⟩);have hf:=h3 rfl;rw [h.free] at hf
   have hp:t.pd=true:=by
    rcases h1 with e | e
    ·exact e
    ·cases e
   have hc:(t.pd&&decide (t.at_≤tm) && !hasU s t.n)=true:=by
    rw [hp,show (!hasU s t.n)=true from hf,decide_eq_true (show t.at_≤tm from h2)];rfl
   unfold hasU at hc;unfold dueT;rw [if_pos hc];exact List.mem_singleton.2 rfl
 ·intro hm
  rcases List.mem_append.1 hm with hm | hm
  ·obtain⟨t,ht,hu⟩:=List.mem_flatMap.1 hm
   obtain⟨e,hp,ha,hb⟩:=dueT_mem hu;have:th=thT t:=turn_ne h ok (h.mem_tok ht) hth (by rw [e];rfl);subst this;exact⟨.inl hp,ha,fun _=>by rw [h.free];simp [hb,thT],by simp [hasB]⟩
  ·obtain⟨t,ht,hu⟩:=List.mem_flatMap.1 hm
   obtain⟨e,ha⟩:=dueL_mem hu;have:th=thL t:=turn_ne h ok (h.mem_lea ht) hth (by rw [e];rfl);subst this;exact⟨.inr rfl,ha,fun e=>(by cases e),by simp [hasB]⟩
theorem freeI_congr {n:Int} {L L':List ThingD} (h:L'.map ThingD.of_=L.map ThingD.of_):freeI n L'=freeI n L:=by
 have e:∀ M:List ThingD,freeI n M=(M.map ThingD.of_).all (fun o=>!(o==n)):=fun M=>by rw [List.all_map];rfl
 rw [e,e,h]
theorem TInv.try1 {tm:Int} {s:VSt} {t:TurnD} {q':List TurnD} {it:Item} {tk:Bool} {n un:Nat} {L:List ThingD} {xs:List (List UInt8)} (h:TInv tm s (t :: q') L xs) (ok:ListsOk s.tks s.lks) (hQ:QOk tm s (t :: q')) (hs:Subj tm s t it tk n un) (hl:∀ u∈q',¬ ltT u t) :
  ∃ i th,L[i]? = some th∧dueI tm L xs=some i∧th.token=tk∧th.n=n∧TInv tm (it.app s) q' (L.set i (failAt tm th)) (xs ++ [th.id])∧TInv tm ((Item.gone tk n).app s) (q'++upAdd ((Item.gone tk n).app s) tm un) (L.eraseIdx i) (xs ++ [th.id]):=by
 obtain⟨i,th,hi,ht,htk,hn,hof,hR1,hR2⟩:=hs.thing h.rel ok;have hth:=List.mem_of_getElem? hi
 have huq:∀ j u,L[j]? = some u→u.token=th.token→u.n=th.n→j=i:=fun j u hj e1 e2=>h.rel.idx ok hi hj e1 e2
 have hdue:dueB tm L xs th=true:=(h.full th hth).2 (by rw [ht];simp);obtain⟨hd1,hd2,hd3,hd4⟩:=dueB_iff.1 hdue;obtain⟨nq1,nq2⟩:=List.nodup_cons.1 (by simpa using hQ.nd:((t.k,t.n) :: q'.map (fun t=>(t.k,t.n))).Nodup)
 have hnq:th.turn∉q':=fun hm=>nq1 (List.mem_map.2 ⟨th.turn,hm,by rw [ht]⟩)
 have hin:∀ u∈L,u≠th→(u.turn∈t :: q'↔u.turn∈q'):=fun u hu hne=>by
  rw [List.mem_cons]
  constructor
  ·rintro(e | e)
   ·exact absurd (turn_ne h.rel ok hth hu (by rw [e,ht])) hne
   ·exact e
  ·exact .inr
 refine⟨i,th,hi,dueI_of hi hdue (fun u hu hp=>?_) huq,htk,hn,⟨hR1,fun u hu=>?_,fun u hu htok hb=>?_⟩,⟨hR2,fun u hu=>?_,fun u hu htok hb=>?_⟩⟩
 ·rw [Bool.eq_false_iff,Ne,firstB_turn]
  have hm:=(h.full u hu).1 hp;rw [ht]
  rcases List.mem_cons.1 hm with e | e
  ·rw [e];unfold ltT;omega
  ·exact hl _ e
 ·have hfr:∀ m:Int,freeI m (L.set i (failAt tm th))=freeI m L:=fun m=>freeI_congr (by
   rw [List.map_set]
   refine List.ext_getElem? fun j=>?_
   by_cases e:i=j
   ·subst e
    rw [List.getElem?_set_self (by simpa using(List.getElem?_eq_some_iff.1 hi).1),List.getElem?_map,hi];rfl
   ·rw [List.getElem?_set_ne e])
  rw [set_eq_map hi huq] at hu;obtain⟨z,hz,rfl⟩:=List.mem_map.1 hu
  by_cases hk:keyB th z=true
  ·rw [if_pos hk]
   have hz':z=th:=h.rel.uniq ok hz hth (keyB_iff.1 hk).1 (keyB_iff.1 hk).2
   constructor
   ·intro hp
    have:=(dueB_iff.1 hp).2.2.2;rw [hasB_snoc,show (failAt tm th).id=th.id from rfl] at this;simp at this
   ·intro hm
    exact absurd (List.mem_map.2 ⟨_,hm,by rw [← ht];rfl⟩:(t.k,t.n)∈q'.map (fun t=>(t.k,t.n))) nq1
  ·rw [if_neg hk]
   have hne:z≠th:=fun e=>hk (by rw [e];exact keyB_iff.2 ⟨rfl,rfl⟩)
   rw [← hin z hz hne,← h.full z hz,dueB_iff,dueB_iff,hfr,hasB_snoc,id_ne h.rel ok hth hz hne,Bool.or_false]
 ·have hfr:∀ m:Int,freeI m (L.set i (failAt tm th))=freeI m L:=fun m=>freeI_congr (by
   rw [List.map_set]
   refine List.ext_getElem? fun j=>?_
   by_cases e:i=j
   ·subst e
    rw [List.getElem?_set_self (by simpa using(List.getElem?_eq_some_iff.1 hi).1),List.getElem?_map,hi];rfl
   ·rw [List.getElem?_set_ne e])
  rw [set_eq_map hi huq] at hu;obtain⟨z,hz,rfl⟩:=List.mem_map.1 hu;rw [hfr]
  by_cases hk:keyB th z=true
  ·rw [if_pos hk] at htok ⊢
   exact hd3 htok
  ·rw [if_neg hk] at htok hb ⊢
   have hne:z≠th:=fun e=>hk (by rw [e];exact keyB_iff.2 ⟨rfl,rfl⟩)
   rw [hasB_snoc,id_ne h.rel ok hth hz hne,Bool.or_false] at hb;exact h.tried z hz htok hb
 ·rw [erase_eq_filter hi huq] at hu hR2 ⊢
  obtain⟨hz,hk⟩:=List.mem_filter.1 hu
  have hne:u≠th:=fun e=>by rw [e] at hk;simp [keyB] at hk
  have hmono:freeI (u.n:Int) L=true→freeI (u.n:Int) (L.filter fun z=>!keyB th z)=true:=fun hf=>by
   unfold freeI at hf ⊢;rw [List.all_eq_true] at hf ⊢
   exact fun z hz=>hf z (List.mem_filter.1 hz).1
  have hbk:u.n≠un→freeI (u.n:Int) (L.filter fun z=>!keyB th z)=true→freeI (u.n:Int) L=true:=fun hnu hf=>by
   unfold freeI at hf ⊢;rw [List.all_eq_true] at hf ⊢;intro z hz
   by_cases hkz:keyB th z=true
   ·have hz':z=th:=h.rel.uniq ok hz hth (keyB_iff.1 hkz).1 (keyB_iff.1 hkz).2
    rw [hz',hof];simp;omega
   ·exact hf z (List.mem_filter.2 ⟨hz,by simpa using hkz⟩)
  have hid:hasB (xs ++ [th.id]) u.id=hasB xs u.id:=by rw [hasB_snoc,id_ne h.rel ok hth hz hne,Bool.or_false]
  rw [dueB_iff,hid,List.mem_append]
  constructor
  ·rintro⟨h1,h2,h3,h4⟩
   by_cases hold:u.token=true→freeI (u.n:Int) L=true
   ·exact .inl ((hin u hz hne).1 ((h.full u hz).1 (dueB_iff.2 ⟨h1,h2,hold,h4⟩)))
   ·obtain⟨htok,hnf⟩:=Classical.not_imp.1 hold
    have hun:u.n=un:=Classical.byContradiction fun e=>hnf (hbk e (h3 htok))
    right
    obtain⟨p,hp,rfl⟩:=hR2.tok_mem hu htok;have hpn:p.n=un:=hun
    have hfind:((Item.gone tk n).app s).tks.find? (fun t=>t.n==un)=some p:=by
     cases hfd:((Item.gone tk n).app s).tks.find? (fun t=>t.n==un) with
     | none=>exact absurd (List.find?_eq_none.1 hfd p hp) (by simp [hpn])
     | some p2 =>
      have h5:=List.mem_of_find?_eq_some hfd
      have h6:p2.n=un:=by simpa using List.find?_some hfd
      have hinc:((Item.gone tk n).app s).tks.Pairwise (fun a b=>a.n<b.n):=by
       show (dropTok tk n s.tks).Pairwise _
       unfold dropTok
       split
       ·exact ok.incT.filter _
       ·exact ok.incT
      rw [inc_inj (f:=TokE.n) hinc h5 hp (by omega)]
    have hpd:p.pd=true:=by
     rcases h1 with e | e
     ·exact e
     ·cases e
    have hfu:=h3 rfl;rw [show ((thT p).n:Int)=(p.n:Int) from rfl,hR2.free] at hfu
    have hc:(p.pd&&decide (p.at_≤tm) && !hasU ((Item.gone tk n).app s) p.n)=true:=by
     rw [hpd,hfu,decide_eq_true (show p.at_≤tm from h2)];rfl
    unfold upAdd;rw [hfind];unfold hasU at hc;unfold dueT;simp only;rw [if_pos hc];exact List.mem_singleton.2 rfl
  ·rintro(hm | hm)
   ·obtain⟨h1,h2,h3,h4⟩:=dueB_iff.1 ((h.full u hz).2 ((hin u hz hne).2 hm))
    exact⟨h1,h2,fun e=>hmono (h3 e),h4⟩
   ·unfold upAdd at hm
    split at hm
    ·rename_i p hfd
     have h5:=List.mem_of_find?_eq_some hfd
     have h6:p.n=un:=by simpa using List.find?_some hfd
     obtain⟨e,hpd,hat,hnb⟩:=dueT_mem hm;have hpL:=hR2.mem_tok h5;have hup:u=thT p:=turn_ne h.rel ok (List.mem_filter.1 hpL).1 hz (by rw [e];rfl);subst hup;refine⟨.inl hpd,hat,fun _=>by rw [show ((thT p).n:Int)=(p.n:Int) from rfl,hR2.free,hnb];rfl,?_⟩;rw [Bool.eq_false_iff];intro hb;have hf:=h.tried _ hz rfl hb;unfold freeI at hf;rw [List.all_eq_true] at hf;have:=hf th hth;rw [hof] at this;simp [thT,h6] at this
    ·cases hm
 ·rw [erase_eq_filter hi huq] at hu ⊢
  obtain⟨hz,hk⟩:=List.mem_filter.1 hu
  have hne:u≠th:=fun e=>by rw [e] at hk;simp [keyB] at hk
  rw [hasB_snoc,id_ne h.rel ok hth hz hne,Bool.or_false] at hb;have hf:=h.tried u hz htok hb;unfold freeI at hf ⊢;rw [List.all_eq_true] at hf ⊢
  exact fun z hz=>hf z (List.mem_filter.1 hz).1
theorem TInv.stop {tm:Int} {s:VSt} {L:List ThingD} {xs:List (List UInt8)} (h:TInv tm s [] L xs):dueI tm L xs=none:=
 dueI_none fun u hu=>by
  rw [Bool.eq_false_iff];intro hp;exact absurd ((h.full u hu).1 hp) (by simp)
theorem Try1.lens {tm:Int} {a b:TS} (h:Try1 tm a b) (ht:Tree a.s):b.s.tks.length≤a.s.tks.length∧b.s.lks.length≤a.s.lks.length:=by
 cases h with
 | fail hs hp hl ho hq =>
  cases hs with
  | tok t hm hk =>
   have:(putTok (failT tm t) a.s.tks).length=a.s.tks.length:=putTok_same ht.incT hm rfl;simp only [Item.app];omega
  | lea t hm hk =>
   have:(putLea (failL tm t) a.s.lks).length=a.s.lks.length:=putLea_same ht.incL hm rfl;simp only [Item.app];omega
 | @ok t q' q'' it tk n un hs hp hl ho hq =>
  have h1:(dropTok tk n a.s.tks).length≤a.s.tks.length:=by unfold dropTok;split;exact List.length_filter_le _ _;exact Nat.le_refl _
  have h2:(dropLea tk n a.s.lks).length≤a.s.lks.length:=by unfold dropLea;split;exact Nat.le_refl _;exact List.length_filter_le _ _
  exact⟨h1,h2⟩
theorem Try1.strict {tm:Int} {a b:TS} (h:Try1 tm a b) (ht:Tree a.s):b.q.length+(b.s.tks.length+b.s.lks.length)+1≤a.q.length+(a.s.tks.length+a.s.lks.length):=by
 cases h with
 | fail hs hp hl ho hq =>
  have h1:=hp.length_eq;have h2:=hq.length_eq;simp only [List.length_cons] at h1
  cases hs with
  | tok t hm hk =>
   have:(putTok (failT tm t) a.s.tks).length=a.s.tks.length:=putTok_same ht.incT hm rfl;simp only [Item.app];omega
  | lea t hm hk =>
   have:(putLea (failL tm t) a.s.lks).length=a.s.lks.length:=putLea_same ht.incL hm rfl;simp only [Item.app];omega
 | @ok t q' q'' it tk n un hs hp hl ho hq =>
  have h1:=hp.length_eq;have h2:=hq.length_eq
  have h3:(upAdd ((Item.gone tk n).app a.s) tm un).length≤1:=by
   unfold upAdd
   split
   ·unfold dueT;split <;> simp
   ·simp
  rw [List.length_append] at h2;simp only [List.length_cons] at h1
  cases hs with
  | tok t hm hk =>
   have:(a.s.tks.filter (fun x=>x.n != t.n)).length+1≤a.s.tks.length:=filter_less _ hm (by simp);simp only [Item.app,dropTok,dropLea,delTok,if_true];omega
  | lea t hm hk =>
   have:(a.s.lks.filter (fun x=>x.n != t.n)).length+1≤a.s.lks.length:=filter_less _ hm (by simp);simp only [Item.app,dropTok,dropLea,delLea,Bool.false_eq_true,if_false];omega
structure Bnd (s:VSt):Prop where
 ok:ListsOk s.tks s.lks
 nt:∀ x∈s.tks,x.n≤s.tn
 nl:∀ x∈s.lks,x.n≤s.ln
theorem Try1.bnd {tm:Int} {a b:TS} (h:Try1 tm a b) (hb:Bnd a.s) (hT:Tree a.s) (hT':Tree b.s):Bnd b.s∧b.s.tn=a.s.tn∧b.s.ln=a.s.ln:=by
 have hl:=h.lens hT;have h1:=hb.ok
 cases h with
 | fail hs hp hl' ho hq =>
  cases hs with
  | tok t hm hk =>
   have en:max a.s.tn t.n=a.s.tn:=Nat.max_eq_left (hb.nt t hm);refine⟨⟨⟨Nat.le_trans hl.1 h1.lenT,Nat.le_trans hl.2 h1.lenL,hT'.incT,hT'.incL,fun x hx=>?_,h1.limL⟩,fun x hx=>?_,hb.nl⟩,en,rfl⟩
   ·rcases putTok_mem hT.incT hx with rfl | hx
    ·exact h1.limT t hm
    ·exact h1.limT x hx
   ·show x.n≤max a.s.tn t.n
    rw [en]
    rcases putTok_mem hT.incT hx with rfl | hx
    ·exact hb.nt t hm
    ·exact hb.nt x hx
  | lea t hm hk =>
   have en:max a.s.ln t.n=a.s.ln:=Nat.max_eq_left (hb.nl t hm);refine⟨⟨⟨Nat.le_trans hl.1 h1.lenT,Nat.le_trans hl.2 h1.lenL,hT'.incT,hT'.incL,h1.limT,fun x hx=>?_⟩,hb.nt,fun x hx=>?_⟩,rfl,en⟩
   ·rcases putLea_mem hT.incL hx with rfl | hx
    ·exact h1.limL t hm
    ·exact h1.limL x hx
   ·show x.n≤max a.s.ln t.n
    rw [en]
    rcases putLea_mem hT.incL hx with rfl | hx
    ·exact hb.nl t hm
    ·exact hb.nl x hx
 | ok hs hp hl' ho hq =>
  exact⟨⟨⟨Nat.le_trans hl.1 h1.lenT,Nat.le_trans hl.2 h1.lenL,hT'.incT,hT'.incL,fun x hx=>h1.limT x (dropTok_mem hx),fun x hx=>h1.limL x (dropLea_mem hx)⟩,fun x hx=>hb.nt x (dropTok_mem hx),fun x hx=>hb.nl x (dropLea_mem hx)⟩,rfl,rfl⟩
theorem Tries.head' {tm:Int} {a b:TS} (h:Tries tm a b):a=b∨∃ c,Try1 tm a c∧Tries tm c b:=by
 induction h with
 | refl=>exact .inl rfl
 | step h h1 ih =>
  rcases ih with rfl | ⟨c,h2,h3⟩
  ·exact .inr ⟨_,h1,.refl _⟩
  ·exact .inr ⟨c,h2,.step h3 h1⟩
theorem Try1.cl_eq {tm:Int} {a b:TS} (h:Try1 tm a b):∃ k n,b.cl=a.cl ++ [(k,n)]:=by
 cases h with
 | fail hs hp hl ho hq=>exact⟨_,_,rfl⟩
 | ok hs hp hl ho hq=>exact⟨_,_,rfl⟩
theorem Tries.cl_pre {tm:Int} {a b:TS} (h:Tries tm a b):a.cl <+: b.cl:=by
 induction h with
 | refl=>exact List.prefix_refl _
 | step h h1 ih =>
  obtain⟨k,n,e⟩:=h1.cl_eq;rw [e];exact ih.trans (List.prefix_append _ _)
structure Tk (tm:Int) (M:Int) (b a:TS) (L:List ThingD) (xs:List (List UInt8)):Prop where
 fwd:Tries tm a b
 bq:b.q = []
 go:Going tm (M+a.cl.length) a
 bnd:Bnd a.s
 inv:TInv tm a.s a.q L xs
 hd:Head0 L
 len:xs.length=a.cl.length
 old:∀ t∈a.s.tks,(t.n=0∧t.ak=0∧t.au=0)∨(t.ak=1∧t.au<t.n)
theorem Tk.step {tm M:Int} {b a:TS} {L:List ThingD} {xs:List (List UInt8)} (h:Tk tm M b a L xs) (hlt:a.cl.length<b.cl.length) :
  ∃ c i th k n,L[i]? = some th∧dueI tm L xs=some i∧b.cl[a.cl.length]? = some (k,n)∧th.id=nmStr k n∧0<i∧(th∈L∧0≤th.tries∧th.tries≤M+a.cl.length)∧c.fl=a.fl / 2∧c.cl.length=a.cl.length+1∧(c.s.tn=a.s.tn∧c.s.ln=a.s.ln∧c.s.tks.length≤a.s.tks.length∧c.s.lks.length≤a.s.lks.length)∧(((a.fl % 2==1)=true∧Tk tm M b c (L.set i (failAt tm th)) (xs ++ [th.id]))∨((a.fl % 2==1)=false∧Tk tm M b c (L.eraseIdx i) (xs ++ [th.id]))):=by
 rcases h.fwd.head' with rfl | ⟨c,h1,h2⟩
 ·omega
 ·obtain⟨hg,hcl⟩:=h1.going h.go
  have hg':Going tm (M+c.cl.length) c:=by
   have e:M+((c.cl.length:Nat):Int)=M+(a.cl.length:Int)+1:=by rw [hcl];omega
   rw [e];exact hg
  obtain⟨hb,htn,hln⟩:=h1.bnd h.bnd h.go.tree hg.tree;have hlens:=h1.lens h.go.tree;have hold:=h1.old h.go.tree h.old;have hpre:=h2.cl_pre
  have hxl:∀ th:ThingD,(xs ++ [th.id]).length=c.cl.length:=fun th=>by rw [List.length_append,h.len,hcl];rfl
  cases h1 with
  | @fail t q' q'' it tk n un hs hp hl ho hq =>
   obtain⟨i,th,hi,hdue,htk,hn,hT1,-⟩:=(h.inv.perm hp).try1 h.bnd.ok (h.go.q.perm hp) hs hl;have hm:=List.mem_of_getElem? hi
   have hnz:th.n≠0∨th.token=false:=by
    cases htk':th.token with
    | false=>exact .inr rfl
    | true =>
     left
     have hk:=hs.key;intro e0;exact(h.go.nz.perm hp) t (by simp) (by rw [hk.1,← htk,htk'];rfl) (by rw [hk.2,← hn,e0];rfl)
   have hi0:0<i:=by
    rcases Nat.eq_zero_or_pos i with rfl | hp0
    ·obtain⟨x,x1,x2,x3⟩:=h.hd
     rw [hi] at x1;cases x1
     rcases hnz with e | e
     ·exact absurd x3 e
     ·rw [x2] at e;cases e
    ·exact hp0
   have htr:0≤th.tries∧th.tries≤M+a.cl.length:=by
    cases htk':th.token with
    | true=>obtain⟨z,hz,rfl⟩:=h.inv.rel.tok_mem hm htk';exact h.go.tr.1 z hz
    | false=>obtain⟨z,hz,rfl⟩:=h.inv.rel.lea_mem hm htk';exact h.go.tr.2 z hz
   have hcn:b.cl[a.cl.length]? = some (kdB tk,n):=by
    obtain⟨r,hr⟩:=hpre;rw [← hr];simp
   refine⟨_,i,th,kdB tk,n,hi,hdue,hcn,by rw [ThingD.id_nm,htk,hn];rfl,hi0,⟨hm,htr⟩,rfl,hcl,⟨htn,hln,hlens⟩,.inl ⟨ho,⟨h2,h.bq,hg',hb,hT1.perm hq,h.hd.set hi rfl rfl,hxl th,hold⟩⟩⟩
  | @ok t q' q'' it tk n un hs hp hl ho hq =>
   obtain⟨i,th,hi,hdue,htk,hn,-,hT2⟩:=(h.inv.perm hp).try1 h.bnd.ok (h.go.q.perm hp) hs hl;have hm:=List.mem_of_getElem? hi
   have hnz:th.n≠0∨th.token=false:=by
    cases htk':th.token with
    | false=>exact .inr rfl
    | true =>
     left
     have hk:=hs.key;intro e0;exact(h.go.nz.perm hp) t (by simp) (by rw [hk.1,← htk,htk'];rfl) (by rw [hk.2,← hn,e0];rfl)
   have hi0:0<i:=by
    rcases Nat.eq_zero_or_pos i with rfl | hp0
    ·obtain⟨x,x1,x2,x3⟩:=h.hd
     rw [hi] at x1;cases x1
     rcases hnz with e | e
     ·exact absurd x3 e
     ·rw [x2] at e;cases e
    ·exact hp0
   have htr:0≤th.tries∧th.tries≤M+a.cl.length:=by
    cases htk':th.token with
    | true=>obtain⟨z,hz,rfl⟩:=h.inv.rel.tok_mem hm htk';exact h.go.tr.1 z hz
    | false=>obtain⟨z,hz,rfl⟩:=h.inv.rel.lea_mem hm htk';exact h.go.tr.2 z hz
   have hcn:b.cl[a.cl.length]? = some (kdB tk,n):=by
    obtain⟨r,hr⟩:=hpre;rw [← hr];simp
   refine⟨_,i,th,kdB tk,n,hi,hdue,hcn,by rw [ThingD.id_nm,htk,hn];rfl,hi0,⟨hm,htr⟩,rfl,hcl,⟨htn,hln,hlens⟩,.inr ⟨ho,⟨h2,h.bq,hg',hb,hT2.perm hq,h.hd.erase hi0,hxl th,hold⟩⟩⟩
theorem Tk.stop {tm M:Int} {b a:TS} {L:List ThingD} {xs:List (List UInt8)} (h:Tk tm M b a L xs) (he:¬ a.cl.length<b.cl.length):a=b∧dueI tm L xs=none:=by
 rcases h.fwd.head' with rfl | ⟨c,h1,h2⟩
 ·refine⟨rfl,TInv.stop (s:=a.s) ?_⟩
  have:=h.inv;rw [h.bq] at this;exact this
 ·obtain⟨k,n,e⟩:=h1.cl_eq
  obtain⟨r,hr⟩:=h2.cl_pre;rw [← hr,e] at he;simp at he
theorem Tk.start {tm M:Int} {s:VSt} {fl:Int} {c:List UInt8} {b:TS} {L:List ThingD} {N:Nat} (hb:Tries tm ⟨s,s.tks.flatMap (dueT s tm)++s.lks.flatMap (dueL tm),fl,c,[]⟩ b) (hq:b.q = []) (ha:Alive N s) (hM:M=((48*N:Nat):Int)) (hbn:Bnd s) (hr:Rel s.tks s.lks L) (hd:Head0 L) (f0:0≤fl) (f1:fl≤18446744073709551615):Tk tm M b ⟨s,s.tks.flatMap (dueT s tm)++s.lks.flatMap (dueL tm),fl,c,[]⟩ L []:=
 ⟨hb,hq,by
  rw [hM]
  exact⟨ha.tree,QOk.start ha.tree,QNz.start ha.tree,by simpa using ha.tr,f0,f1⟩,hbn,TInv.start hr hbn.ok,hd,rfl,ha.old⟩
theorem Tries.most {tm M:Int} {a b:TS} (h:Tries tm a b) (hg:Going tm M a):(∃ M',Going tm M' b)∧b.cl.length+(b.q.length+(b.s.tks.length+b.s.lks.length))≤a.cl.length+(a.q.length+(a.s.tks.length+a.s.lks.length)):=by
 induction h with
 | refl=>exact⟨⟨M,hg⟩,Nat.le_refl _⟩
 | step h h1 ih =>
  obtain⟨⟨M',hg'⟩,hle⟩:=ih;obtain⟨hg2,hcl⟩:=h1.going hg';have:=h1.strict hg'.tree;exact⟨⟨_,hg2⟩,by omega⟩
end Go.Proofs
namespace Go.Proofs
open Go.RowKit Go.Sort Go.Lib Go.Shelf Go.Maps Go.WideMaps
theorem Tryz.TAt.aside {B:Nat} {W W':World} {k:Blk} {vx:VX} {tm:Int} {s:VSt} {c:List UInt8} {l f:Int} {rb:Nat} {fl:Int} {v:Value} {xs:List Value} {q:List TurnD} (h:TAt B W k vx tm s c l f rb fl v xs q) {nb:Nat} {cs:Array Value} (hN:BoxN W nb 144 cs) (hne:vx.due.ownBlock≠some nb) (h9:9≤nb) (hS:Spares [nb] W W'):TAt B W' k vx tm s c l f rb fl v xs q:=by
 obtain⟨fd,fn,hd,⟨e1,e2⟩,hs1,hs2⟩:=h.sep
 have hq:RvQ W [nb]:=fun b hb=>by
  obtain rfl:=List.mem_singleton.1 hb;exact⟨h9,_,_,hN,.inr (.inr rfl)⟩
 have hV':=hS.box h.wh.v.va.v (fun hm=>h.wh.v.va.v.ne hN (by decide) (List.mem_singleton.1 hm));obtain⟨hW',hD'⟩:=h.wh.reV hd e1 e2 (hS.mono (fun b hb=>List.mem_cons_of_mem _ hb)) hq (fun p hp hm=>(hd.sd p hp).ne hN (by decide) (List.mem_singleton.1 hm)) (fun p hp hm=>(hd.sn p hp).ne hN (by decide) (List.mem_singleton.1 hm)) hV' rfl h.wh.v.t0 h.wh.v.t1
 exact { h with wh:=hW',sep:=⟨fd,fn,hD',⟨e1,e2⟩,hs1,hs2⟩,due:=hS.row' h.due (fun b hb hm=>by rw [List.mem_singleton.1 hm] at hb;exact hne hb),rbx:=hS.box h.rbx (fun hm=>h.rbx.ne hN (by decide) (List.mem_singleton.1 hm)),row:=hS.row' h.row (fun b hb hm=>by
   obtain⟨-,cs',hB⟩:=row_box h.row hb
   exact hB.ne hN (by decide) (List.mem_singleton.1 hm)),bw:=Nat.le_trans h.bw hS.size }
theorem leastOf_take {P:Nat→Prop} (h:∃ n,P n):∃ m,P m∧leastOf P=m:=⟨_,leastOf_spec h,rfl⟩
theorem Tryz.vTick (B:Nat) (k:Blk) (vx:VX) (tm:Int) (s:VSt) (c:List UInt8) (l f:Int) (rb:Nat) (fl:Int) (v:Value) (w:World) (h:TAt B w k vx tm s c l f rb fl v [] []) (htk:vx.tk=false) (hT:Tree s) (h50:s.tks.length+s.lks.length≤50) (M:Int) (hM:M≤9000000000000000000) (hMB:TrB M s) (hl:l<0) (hl1 : -900000000≤l) (hf:f<0) (hf1 : -900000000≤f) (hc:c.length≤890000000000) (fl0:0≤fl) (fl1:fl≤18446744073709551615) (now:Int) (hn0:0≤now) (hn1:now≤18446744073709551615) :
  Calls prog 46 #[.pointer (some ⟨k.vb,0,none⟩),.int .u64 now] w fun e w'=>e=.returned .nilIface∧∃ vx' v' b l' f',Tries (max tm now) ⟨s,s.tks.flatMap (dueT s (max tm now))++s.lks.flatMap (dueL (max tm now)),fl,c,[]⟩ b∧b.q = []∧TAt B w' k vx' (max tm now) b.s b.c l' f' rb b.fl v' (b.cl.map fun p=>.string ⟨(nmStr p.1 p.2).toArray⟩) []∧vx'.tk=false∧Going (max tm now) (M+b.cl.length) b∧(b.cl.length≤150∧b.c.length≤c.length+20000*b.cl.length∧b.s.tks.length+b.s.lks.length≤50)∧Spares (tickBs k rb v vx.due) w w':=by
 obtain⟨a0,ha0⟩:∃ a0,a0=(⟨s,s.tks.flatMap (dueT s (max tm now))++s.lks.flatMap (dueL (max tm now)),fl,c,[]⟩:TS):=⟨_,rfl⟩
 rw [← ha0];have lv:=h.wh.v.va.v.lt;have t0:=h.wh.v.t0;have t1:=h.wh.v.t1
 have hmf:∀(fn:Fn) (first cap:Array Value) (w:World),(Instr.makeFunc fn first cap).run prog w=.ok (.func fn first cap) w:=fun _ _ _ _=>rfl
 have bV0:=h.wh.v.va.v;have c1:=bV0.cell 2 (v:=.int .u64 tm) rfl;have f1:=bV0.frozen 2
 have h0':0≤max tm now:=by omega
 have h1':max tm now≤18446744073709551615:=by omega
 have bV1:BoxN ((w.setCell ⟨k.vb,2,none⟩ (.int .u64 (max tm now))).alloc (.cells #[.pointer (some ⟨k.vb,0,none⟩)] 76)).drew k.vb 126 (vaultC vx (max tm now) k.mt k.ml s.tn s.ln):=(bV0.set 2 (.int .u64 (max tm now))).alloc _
 have bB1:BoxN ((w.setCell ⟨k.vb,2,none⟩ (.int .u64 (max tm now))).alloc (.cells #[.pointer (some ⟨k.vb,0,none⟩)] 76)).drew w.heap.size 76 #[.pointer (some ⟨k.vb,0,none⟩)]:=by
  have h:BoxN ((w.setCell ⟨k.vb,2,none⟩ (.int .u64 (max tm now))).alloc (.cells #[.pointer (some ⟨k.vb,0,none⟩)] 76)) w.heap.size 76 #[.pointer (some ⟨k.vb,0,none⟩)]:=by simpa using BoxN.new (w.setCell ⟨k.vb,2,none⟩ (.int .u64 (max tm now))) 76 #[.pointer (some ⟨k.vb,0,none⟩)]
  exact h
 have hS1:Spares [k.vb] w ((w.setCell ⟨k.vb,2,none⟩ (.int .u64 (max tm now))).alloc (.cells #[.pointer (some ⟨k.vb,0,none⟩)] 76)).drew:=(((Spares.of_below (Below.refl _ w)).set (by simp) _ _).alloc _).drew
 have hnd:∀ b,vx.due.ownBlock=some b→b≠k.vb:=fun b hb e=>by
  obtain⟨-,cs,h2⟩:=row_box h.due hb;exact h2.ne bV0 (by decide) e
 go_enter_defers func46,ntmps46
 go_wp2_with fail
 go_region
 generalize ((w.setCell ⟨k.vb,2,none⟩ (.int .u64 (max tm now))).alloc (.cells #[.pointer (some ⟨k.vb,0,none⟩)] 76)).drew=W1 at *;have hw1:=hS1.size;have h1:TAt B W1 k vx (max tm now) s c l f rb fl v [] []:=h.queued bV1 rfl rfl h0' h1' (hS1.row' h.due (fun b hb hm=>hnd b hb (List.mem_singleton.1 hm))) h.hp (hS1.mono (by simp));generalize htm':max tm now=tm' at *;have HTM:=hid_intro htm';clear htm'
 have hne:w.heap.size≠k.vb:=by omega
 have c6:=bV1.cell 7 (v:=.bool false) (by rw [← htk];rfl);have f6:=bV1.frozen 7;have cB1:=bB1.cell 0 (v:=.pointer (some ⟨k.vb,0,none⟩)) rfl;have bV2:BoxN (W1.setCell ⟨k.vb,7,none⟩ (.bool true)) k.vb 126 (vaultC { vx with tk:=true } tm' k.mt k.ml s.tn s.ln):=bV1.set 7 (.bool true);have bB2:=bB1.other hne 7 (.bool true);have cB2:=bB2.cell 0 (v:=.pointer (some ⟨k.vb,0,none⟩)) rfl;have hS2:Spares [k.vb] W1 (W1.setCell ⟨k.vb,7,none⟩ (.bool true)):=(Spares.of_below (Below.refl _ W1)).set (by simp) _ _;have h2:TAt B (W1.setCell ⟨k.vb,7,none⟩ (.bool true)) k { vx with tk:=true } tm' s c l f rb fl v [] []:=h1.queued bV2 rfl rfl h0' h1' (hS2.row' h1.due (fun b hb hm=>hnd b hb (List.mem_singleton.1 hm))) h1.hp (hS2.mono (by simp));have hQ:=callsIn_wide.1 (queueAll B k { vx with tk:=true } tm' s c l f rb fl v [] _ h2 h50)
 have hq100:∀ q:List TurnD,q.Perm (s.tks.flatMap (dueT s tm')++s.lks.flatMap (dueL tm'))→q.length≤100:=fun q hq=>by
  have e1:=hq.length_eq;have e2:=flatDue_len (dueT s tm') (fun x=>by unfold dueT;split <;> simp) s.tks;have e3:=flatDue_len (dueL tm') (fun x=>by unfold dueL;split <;> simp) s.lks;rw [List.length_append] at e1;omega
 have hnds:∀ {b:Nat},b∈k.vb :: vx.due.ownBlock.toList→b∈tickBs k rb v vx.due:=fun {b} hb=>by
  simp only [tickBs,Blk.turns,List.mem_append,List.mem_cons] at hb ⊢
  rcases hb with e | e
  ·exact .inl (.inl e)
  ·exact .inr (.inr (.inr e))
 have hS02:Spares (tickBs k rb v vx.due) w (W1.setCell ⟨k.vb,7,none⟩ (.bool true)):=(hS1.mono (fun b hb=>hnds (by rw [List.mem_singleton.1 hb];simp))).trans (hS2.mono (fun b hb=>hnds (by rw [List.mem_singleton.1 hb];simp)));have hz2:w.heap.size≤(W1.setCell ⟨k.vb,7,none⟩ (.bool true)).heap.size:=hS02.size
 go_wp2_with (first
  | (go_at_call 75;refine hQ.mono ?_;rintro e W3 ⟨rfl,vx3,q3,hp3,h3,htk3,hj3,hd3,hs3⟩;have bB3:=hs3.box bB2 (fun hm=>by
    rcases List.mem_cons.1 hm with e | hm
    ·exact hne e
    ·obtain⟨-,cs,hB⟩:=row_box h2.due (by simpa using hm)
     exact bB2.ne hB (by decide) rfl);have cB3:=bB3.cell 0 (v:=.pointer (some ⟨k.vb,0,none⟩)) rfl;have hPop:=popAny B k vx3 tm' s c l f rb fl v [] q3 W3 h3 (hq100 q3 hp3);have HS3:=hid_intro (And.intro hd3 hs3);clear hd3 hs3)
  | (go_at_call 76;refine hPop.mono ?_;rintro e W4 ⟨⟨y1,y2,y3⟩,ok,rfl,vx4,q4,h4,hok0,hok1,htk4,hd4,hs4⟩;simp only [TurnD.cells] ))
 obtain⟨hd3,hs3⟩:=hid_elim HS3
 have hd3':∀ d,vx3.due.ownBlock=some d→vx.due.ownBlock=some d∨w.heap.size≤d:=fun d hd=>(hd3 d hd).imp id (fun h=>Nat.le_trans hz2 h)
 have hS03:Spares (tickBs k rb v vx.due) w W3:=hS02.trans (hs3.mono (fun b hb=>hnds hb))
 have hS04:Spares (tickBs k rb v vx.due) w W4:=by
  have h:=(hS03.mono (bs':=tickBs k rb v vx.due++(k.vb :: vx3.due.ownBlock.toList)) (fun b hb=>List.mem_append_left _ hb)).trans (hs4.mono (fun b hb=>List.mem_append_right _ hb));refine h.shed (fun b hb=>?_)
  rcases List.mem_append.1 hb with hb | hb
  ·exact .inl hb
  ·rcases List.mem_cons.1 hb with rfl | hb
   ·exact .inl (hnds (by simp))
   ·exact(hd3' b (by simpa using hb)).imp (fun e=>hnds (List.mem_cons_of_mem _ (by simpa using e))) id
 have hz4:=hS04.size
 have bB4:=hs4.box bB3 (fun hm=>by
  rcases List.mem_cons.1 hm with e | hm
  ·exact hne e
  ·obtain⟨-,cs,hB⟩:=row_box h3.due (by simpa using hm)
   exact bB3.ne hB (by decide) rfl)
 have hdlt:∀ d,vx4.due.ownBlock=some d→d<W4.heap.size:=fun d hd=>by
  obtain⟨-,cs,hB⟩:=row_box h4.due hd;exact hB.lt
 have hB5:Below W4.heap.size W4 (W4.alloc (.cells #[.int .u64 y1,.int .i64 y2,.int .u64 y3] 144)):=(Below.refl _ W4).alloc (Nat.le_refl _) _
 have hq0:(s.tks.flatMap (dueT s tm')++s.lks.flatMap (dueL tm')).length≤s.tks.length+s.lks.length:=by
  have e2:=flatDue_len (dueT s tm') (fun x=>by unfold dueT;split <;> simp) s.tks;have e3:=flatDue_len (dueL tm') (fun x=>by unfold dueL;split <;> simp) s.lks;rw [List.length_append];omega
 have hleft0:a0.left≤150:=by rw [ha0];unfold TS.left;simp only;omega
 have hst:∃ n,TkI B k tm' a0 l f M rb w.heap.size v vx.due w (.pointer (some ⟨W4.heap.size,0,none⟩)) (.bool ok) (W4.alloc (.cells #[.int .u64 y1,.int .i64 y2,.int .u64 y3] 144)) n:=by
  refine⟨a0.left,W4.heap.size,⟨y1,y2,y3⟩,ok,vx4,v,q4,a0,0,rfl,rfl,rfl,?_⟩;refine { bN:=BoxN.new W4 144 _,nd:=fun e=>by have:=hdlt _ e;omega,nw:=hz4,bB:=bB4.alloc _,tat:=?_,yes:=fun e=>?_,no:=fun e=>?_,tries:=.refl _,going:=?_,left:=by omega,cl:=by rw [ha0];rfl,c:=by omega,n50:=by rw [ha0];exact h50,qc:=by rw [ha0];simp only;omega,tk:=by rw [htk4,htk3],sp:=hS04.trans (Spares.of_below hB5),vo:=fun g hg=>.inl hg,do_:=fun d hd=>hd3' d (by rw [← hd4];exact hd) }
  ·rw [ha0]
   have h5:=h4.below hB5
   simpa using h5
  ·obtain⟨o1,o2⟩:=hok1 e
   rw [ha0];exact⟨o1.trans hp3,o2⟩
  ·obtain⟨o1,o2⟩:=hok0 e
   rw [ha0];refine⟨?_,o2⟩;rw [o1] at hp3;exact List.Perm.eq_nil hp3.symm
  ·rw [ha0]
   exact⟨hT,QOk.start hT,QNz.start hT,by simpa using hMB,fl0,fl1⟩
 have hlow:∀ b∈tickBs k rb v vx.due,True:=fun _ _=>trivial
 have HN:=hid_intro (And.intro @hnds (And.intro lv (And.intro h.b9 h.bw)));clear hlow hq0 hB5 hdlt bB4 hz4 hS04 hS03 hd3' hd3 hs3 HS3 hs4 hd4 htk4 hok0 hok1 h4 hPop cB3 bB3 hj3 htk3 h3 hp3 hz2 hS02 hnds hq100 hQ h2 hS2 cB2 bB2 bV2 cB1 f6 c6 h1 bB1 bV1 hS1 hw1 hT hMB;generalize W4.heap.size=nb0 at *
 go_loopw [5,6] (fun p o wr=>∃ n,TkI B k tm' a0 l f M rb w.heap.size v vx.due w p o wr n) (fun p o wr=>leastOf (TkI B k tm' a0 l f M rb w.heap.size v vx.due w p o wr))
 case atStart=>exact hst
 case round =>
  clear hst;obtain⟨m,hm,hme⟩:=leastOf_take hrel;clear hrel;have HM:=hid_intro hme;clear hme;obtain⟨nb,t,okb,vx1,v1,q1,a,j,rfl,rfl,hmn,hR⟩:=hm;obtain⟨hnds,lv,hb9,hbw⟩:=hid_elim HN
  have hj:j≤150:=by have:=hR.left;omega
  have cB:=hR.bB.cell 0 (v:=.pointer (some ⟨k.vb,0,none⟩)) rfl
  cases okb with
  | false =>
   obtain⟨haq,hq0⟩:=hR.no rfl;subst hq0;have bV:=hR.tat.wh.v.va.v;go_wp2;refine leaves_cons (f:=73) (args:=#[.pointer (some ⟨w.heap.size,0,none⟩)]) (by simp) (by simp [invoke,go_sem]) ?_;refine(vTick1 k.vb w.heap.size vx1.due (.bool true) .returning wr (row_none hR.tat.due) cB (by rw [← hR.tk];exact bV.cell 7 rfl) (bV.frozen 7) (bV.cell 8 rfl) (bV.frozen 8) hne).mono ?_;rintro e u' w'' ⟨rfl,rfl,rfl⟩;have bV2:BoxN ((wr.setCell ⟨k.vb,7,none⟩ (.bool false)).setCell ⟨k.vb,8,none⟩ vx1.due) k.vb 126 (vaultC { vx1 with tk:=false } tm' k.mt k.ml a.s.tn a.s.ln):=(bV.set 7 (.bool false)).set 8 vx1.due;have hS2:Spares [k.vb] wr ((wr.setCell ⟨k.vb,7,none⟩ (.bool false)).setCell ⟨k.vb,8,none⟩ vx1.due):=((Spares.of_below (Below.refl _ wr)).set (by simp) _ _).set (by simp) _ _
   have hA2:=hR.tat.queued bV2 rfl rfl hR.tat.wh.v.t0 hR.tat.wh.v.t1 (hS2.row' hR.tat.due (fun b hb hm=>by
    obtain⟨-,cs,hB⟩:=row_box hR.tat.due hb
    exact hB.ne bV (by decide) (List.mem_singleton.1 hm))) hR.tat.hp (hS2.mono (by simp))
   have hcl:=hR.cl;have hgo:=hR.going;have hc2:=hR.c;rw [← hcl] at hgo hc2;have htm':=hid_elim HTM;subst htm';exact⟨_,results_tmp rfl _ _ _,rfl,{ vx1 with tk:=false },v1,a,_,_,hR.tries,haq,hA2,rfl,hgo,⟨by omega,by rw [ha0] at hc2;exact hc2,hR.n50⟩,hR.sp.trans (hS2.mono (fun b hb=>hnds (by rw [List.mem_singleton.1 hb];simp)))⟩
  | true =>
   obtain⟨hpm,hmin⟩:=hR.yes rfl;have hQ:=hR.going.q.perm hpm;have hNz:=hR.going.nz.perm hpm;obtain⟨it,tk,n,un,hs⟩:=hQ.ex t (by simp);obtain⟨hk1,hk2⟩:=hs.key;have hcl:=hR.cl;have hcc:=hR.c;have hqc:=hR.qc;have hql:=hpm.length_eq;simp only [List.length_cons] at hql
   have hc0:a0.c.length=c.length:=by rw [ha0]
   have hTry:=tryAny B k vx1 tm' a.s a.c (l-2*j) (f-2*j) rb a.fl v1 _ q1 wr hR.tat (by omega) (by omega) (by omega) (by omega) (by omega) (by rw [List.length_map];omega) (by omega) hR.going.f0 hR.going.f1 t it tk n un hs hR.going.tree hQ hmin (fun e en=>hNz t (by simp) (by rw [hk1,e];rfl) (by rw [hk2,en];rfl)) hR.n50 (fun x hx=>by have:=hR.going.tr.1 x hx;omega) (fun x hx=>by have:=hR.going.tr.2 x hx;omega) a.cl;have bN:=hR.bN;obtain⟨y1,y2,y3⟩:=t;simp only at hk1 hk2;subst hk1 hk2;simp only [TurnD.cells] at bN;unfold nmV at hTry;have n0:=bN.cell 0 (v:=.int .u64 y1) rfl;have n1:=bN.cell 1 (v:=.int .i64 (kdB tk)) rfl;have n2:=bN.cell 2 (v:=.int .u64 (n:Int)) rfl
   have hnt:nb∉tickBs k rb v1 vx1.due:=fun hm=>by
    simp only [tickBs,List.mem_append,List.mem_cons] at hm
    rcases hm with hm | e | e | e
    ·exact hR.tat.wh.no bN (by decide) (by decide) hm
    ·exact bN.ne hR.tat.rbx (by decide) e
    ·obtain⟨-,cs,hB⟩:=row_box hR.tat.row (g:=nb) (by simpa using e)
     exact bN.ne hB (by decide) rfl
    ·exact hR.nd (by simpa using e)
   have hBt:w.heap.size∉tickBs k rb v1 vx1.due:=fun hm=>by
    simp only [tickBs,List.mem_append,List.mem_cons] at hm
    rcases hm with hm | e | e | e
    ·exact hR.tat.wh.no hR.bB (by decide) (by decide) hm
    ·exact hR.bB.ne hR.tat.rbx (by decide) e
    ·obtain⟨-,cs,hB⟩:=row_box hR.tat.row (g:=w.heap.size) (by simpa using e)
     exact hR.bB.ne hB (by decide) rfl
    ·obtain⟨-,cs,hB⟩:=row_box hR.tat.due (g:=w.heap.size) (by simpa using e)
     exact hR.bB.ne hB (by decide) rfl
   have hfresh:∀(W:World) {vxa:VX} {sa:VSt} {ca:List UInt8} {la fa:Int} {fla:Int} {va:Value} {xsa:List Value} {qa:List TurnD},TAt B W k vxa tm' sa ca la fa rb fla va xsa qa→True→W.heap.size∉k.vb :: vxa.due.ownBlock.toList:=fun W _ _ _ _ _ _ _ _ _ hA _ hm=>by
    rcases List.mem_cons.1 hm with e | hm
    ·have:=hA.wh.v.va.v.lt;omega
    ·obtain⟨-,cs,hB⟩:=row_box hA.due (g:=W.heap.size) (by simpa using hm)
     have:=hB.lt;omega
   have hvbl:True:=trivial;have HR:=hid_intro hR;have HX:=hid_intro (And.intro hpm (And.intro hs (And.intro hQ hmin)));have bB:=hR.bB;clear hR hpm hQ hNz hs hmin
   go_wp2_with (first
    | (go_at_call 77;refine hTry.mono ?_;rintro e w6 ⟨rfl,vx6,v6,b,hT1,hbcl,hA6,htk6,hv6,hd6,hs6⟩;have bN6:=hs6.box bN hnt;have bB6:=hs6.box bB hBt;have m0:=bN6.cell 0 (v:=.int .u64 y1) rfl;have m1:=bN6.cell 1 (v:=.int .i64 (kdB tk)) rfl;have m2:=bN6.cell 2 (v:=.int .u64 (n:Int)) rfl;have hA7:=hA6.below ((Below.refl _ w6).alloc (Nat.le_refl _) (.cells #[.int .u64 y1,.int .i64 (kdB tk),.int .u64 (n:Int)] 144));have cB7:=(bB6.alloc (.cells #[.int .u64 y1,.int .i64 (kdB tk),.int .u64 (n:Int)] 144)).cell 0 (v:=.pointer (some ⟨k.vb,0,none⟩)) rfl;have hPop:=popAny B k vx6 tm' b.s b.c _ _ rb b.fl v6 _ b.q _ hA7 (by have:=(hT1.of_perm (hid_elim HX).1).qc (hid_elim HR).going.tree;omega);have HS6:=hid_intro (And.intro hs6 (And.intro hv6 hd6));clear hs6 hv6 hd6)
    | (go_at_call 76;refine hPop.mono ?_;rintro e w8 ⟨⟨z1,z2,z3⟩,ok8,rfl,vx8,q8,h8,hok0,hok1,htk8,hd8,hs8⟩;have bN8:=hs8.box (BoxN.new w6 144 #[.int .u64 y1,.int .i64 (kdB tk),.int .u64 (n:Int)]) (hfresh w6 hA6 hvbl);have r0:=bN8.cell 0 (v:=.int .u64 y1) rfl;have r1:=bN8.cell 1 (v:=.int .i64 (kdB tk)) rfl;have r2:=bN8.cell 2 (v:=.int .u64 (n:Int)) rfl;have fz0:=bN8.frozen 0;have fz1:=bN8.frozen 1;have fz2:=bN8.frozen 2;simp only [TurnD.cells]))
   obtain⟨hs6,hv6,hd6⟩:=hid_elim HS6;have hR:=hid_elim HR;obtain⟨hpm,hs,hQ,hmin⟩:=hid_elim HX;have hTr:=hT1.of_perm hpm;obtain⟨hgo,hcl2⟩:=hTr.going hR.going;have hcnt:=hTr.count hR.going.tree;have hqc2:=hTr.qc hR.going.tree;have hless:=hTr.less hR.going.tree;have hlen:=hTr.len hR.going (by omega) hR.tat.wh.v.t0 hR.tat.wh.v.t1 hR.tat.wh.v.va.ok hR.tat.wh.v.okT hR.tat.wh.v.okL hR.n50;have hz6:=hs6.size;have hzr:=hR.sp.size;have hleft:=hR.left
   have hd8lt:∀ d,vx8.due.ownBlock=some d→d<w6.heap.size:=fun d hd=>by
    rw [hd8] at hd;obtain⟨-,cs,hB⟩:=row_box hA6.due hd;exact hB.lt
   have bN9:=((bN8.set 0 (.int .u64 z1)).set 1 (.int .i64 z2)).set 2 (.int .u64 z3);have hS9:Spares [w6.heap.size] w8 (((w8.setCell ⟨w6.heap.size,0,none⟩ (.int .u64 z1)).setCell ⟨w6.heap.size,1,none⟩ (.int .i64 z2)).setCell ⟨w6.heap.size,2,none⟩ (.int .u64 z3)):=(((Spares.of_below (Below.refl _ w8)).set (by simp) _ _).set (by simp) _ _).set (by simp) _ _;have h9:=h8.aside bN8 (fun e=>by have:=hd8lt _ e;omega) (by omega) hS9
   have bB8:=hs8.box (bB6.alloc (.cells #[.int .u64 y1,.int .i64 (kdB tk),.int .u64 (n:Int)] 144)) (fun hm=>by
    rcases List.mem_cons.1 hm with e | hm
    ·exact hne e
    ·obtain⟨-,cs,hB⟩:=row_box hA6.due (g:=w.heap.size) (by simpa using hm)
     exact bB6.ne hB (by decide) rfl)
   have bB9:=hS9.box bB8 (fun hm=>by have:=List.mem_singleton.1 hm;have:=bB6.lt;omega)
   have hvn:∀ g,v6.ownBlock=some g→v.ownBlock=some g∨w.heap.size≤g:=fun g hg=>by
    rcases hv6 g hg with e | e
    ·exact hR.vo g e
    ·exact .inr (by omega)
   have hdn:∀ d,vx6.due.ownBlock=some d→vx.due.ownBlock=some d∨w.heap.size≤d:=fun d hd=>by
    rcases hd6 d hd with e | e
    ·exact hR.do_ d e
    ·exact .inr (by omega)
   have hspn:Spares (tickBs k rb v vx.due) w (((w8.setCell ⟨w6.heap.size,0,none⟩ (.int .u64 z1)).setCell ⟨w6.heap.size,1,none⟩ (.int .i64 z2)).setCell ⟨w6.heap.size,2,none⟩ (.int .u64 z3)):=by
    have q1:=hR.sp.mono (bs':=tickBs k rb v vx.due++(tickBs k rb v1 vx1.due++(k.vb :: vx6.due.ownBlock.toList ++ [w6.heap.size]))) (fun b hb=>List.mem_append_left _ hb);have q2:=hs6.mono (bs':=tickBs k rb v vx.due++(tickBs k rb v1 vx1.due++(k.vb :: vx6.due.ownBlock.toList ++ [w6.heap.size]))) (fun b hb=>List.mem_append_right _ (List.mem_append_left _ hb));have q3:=hs8.mono (bs':=tickBs k rb v vx.due++(tickBs k rb v1 vx1.due++(k.vb :: vx6.due.ownBlock.toList ++ [w6.heap.size]))) (fun b hb=>List.mem_append_right _ (List.mem_append_right _ (List.mem_append_left _ hb)));have q4:=hS9.mono (bs':=tickBs k rb v vx.due++(tickBs k rb v1 vx1.due++(k.vb :: vx6.due.ownBlock.toList ++ [w6.heap.size]))) (fun b hb=>List.mem_append_right _ (List.mem_append_right _ (List.mem_append_right _ hb)));refine((((q1.trans q2).alloc _).trans q3).trans q4).shed (fun b hb=>?_)
    rcases List.mem_append.1 hb with hb | hb
    ·exact .inl hb
    ·rcases List.mem_append.1 hb with hb | hb
     ·simp only [tickBs,List.mem_append,List.mem_cons] at hb ⊢
      rcases hb with hb | hb | hb | hb
      ·exact .inl (.inl hb)
      ·exact .inl (.inr (.inl hb))
      ·exact(hR.vo b (by simpa using hb)).imp (fun e=>.inr (.inr (.inl (by simpa using e)))) id
      ·exact(hR.do_ b (by simpa using hb)).imp (fun e=>.inr (.inr (.inr (by simpa using e)))) id
     ·rcases List.mem_append.1 hb with hb | hb
      ·rcases List.mem_cons.1 hb with rfl | hb
       ·exact .inl (hnds (by simp))
       ·exact(hdn b (by simpa using hb)).imp (fun e=>hnds (List.mem_cons_of_mem _ (by simpa using e))) id
      ·exact .inr (by rw [List.mem_singleton.1 hb];omega)
   have hnext:TkI B k tm' a0 l f M rb w.heap.size v vx.due w (.pointer (some ⟨w6.heap.size,0,none⟩)) (.bool ok8) (((w8.setCell ⟨w6.heap.size,0,none⟩ (.int .u64 z1)).setCell ⟨w6.heap.size,1,none⟩ (.int .i64 z2)).setCell ⟨w6.heap.size,2,none⟩ (.int .u64 z3)) b.left:=by
    refine⟨w6.heap.size,⟨z1,z2,z3⟩,ok8,vx8,v6,q8,b,j+1,rfl,rfl,rfl,?_⟩
    have ej:∀ x:Int,x-2*((j+1:Nat):Int)=x-2*(j:Int)-2:=fun x=>by omega
    refine { bN:=by simpa [TurnD.cells] using bN9,nd:=fun e=>by have:=hd8lt _ e;omega,nw:=by omega,bB:=bB9,tat:=?_,yes:=hok1,no:=hok0,tries:=.step hR.tries hTr,going:=?_,left:=by omega,cl:=by rw [hcl2,hR.cl],c:=by rw [Nat.mul_succ,← Nat.add_assoc];exact Nat.le_trans hlen (Nat.add_le_add_right hcc _),n50:=Nat.le_trans hcnt hR.n50,qc:=by omega,tk:=by rw [htk8,htk6,hR.tk],sp:=hspn,vo:=hvn,do_:=fun d hd=>hdn d (by rw [← hd8];exact hd) }
    ·rw [ej,ej,hbcl,List.map_append]
     exact h9
    ·have e:M+((j+1:Nat):Int)=M+(j:Int)+1:=by omega
     rw [e];exact hgo
   exact⟨⟨_,hnext⟩,by
    have:=leastOf_le hnext;have:=hid_elim HM
    omega⟩
end Go.Proofs
