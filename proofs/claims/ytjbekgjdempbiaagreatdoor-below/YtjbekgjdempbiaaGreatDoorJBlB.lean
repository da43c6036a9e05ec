import Derived.Test.YtjbekgjdempbiaaGreatDoorJRefL
import Derived.BigQuiet
import Derived.Test.YtjbekgjdempbiaaGreatDoorJTkO
import Derived.Test.YtjbekgjdempbiaaGreatDoorJTkC
import Derived.Test.YtjbekgjdempbiaaGreatDoorJPutL
import Derived.Test.YtjbekgjdempbiaaGreatDoorJRvD
import Derived.Test.YtjbekgjdempbiaaGreatDoorJVIssue
import Derived.Test.YtjbekgjdempbiaaGreatDoorJTmB
set_option maxRecDepth 100000
set_option maxHeartbeats 8000000
namespace Go.Proofs
open Go.RowKit Go.Sort Go.Lib Go.Shelf
def StrRow (W:World) (v:Value) (xs:List (List UInt8)):Prop:=
 ∃ p cap,v=.slice p xs.length cap∧∀(k:Nat) (x:List UInt8),xs[k]? = some x→∃ q,p=some ⟨q,0,none⟩∧q<W.heap.size∧W.cell? ⟨q,k,none⟩=some (.string ⟨x.toArray⟩)
def hasB (xs:List (List UInt8)) (id:List UInt8):Bool:=xs.any (fun x=>x==id)
def dueB (tm:Int) (L:List ThingD) (xs:List (List UInt8)) (t:ThingD):Bool:=
 t.state tm==2&&(decide (t.at_≤tm)&&((!t.token||freeI t.n L) && !hasB xs t.id))
def firstB (t u:ThingD):Bool:=decide (t.at_<u.at_)||(t.at_==u.at_&&((!t.token&&u.token)||(t.token==u.token&&decide ((t.n:Int)<u.n))))
def dueK (p:ThingD→Bool) (L:List ThingD):Nat→Option Nat
 | 0=>none
 | k+1=>match L[k]? with
  | none=>dueK p L k
  | some t=>if p t then (match dueK p L k with
    | none=>some k
    | some b=>match L[b]? with
     | none=>some k
     | some u=>if firstB t u then some k else some b) else dueK p L k
def dueV:Option Nat→Int
 | none=>-1
 | some k=>k
def dueI (tm:Int) (L:List ThingD) (xs:List (List UInt8)):Option Nat:=dueK (dueB tm L xs) L L.length
end Go.Proofs
namespace Go.Proofs
open Go.RowKit Go.Sort Go.Lib Go.Shelf Go.Maps
def ThingD.turn (t:ThingD):TurnD:=⟨t.at_,kdB t.token,t.n⟩
section
variable {tks:List TokE} {lks:List LeaE} {L:List ThingD}
end
def keyB (x z:ThingD):Bool:=z.token==x.token&&z.n==x.n
theorem putLea_map {t:LeaE} {l:List LeaE} (hs:l.Pairwise (fun a b=>a.n<b.n)) {x:LeaE} (hx:x∈l) (hn:x.n=t.n):putLea t l=l.map (fun z=>if z.n=t.n then t else z):=by
 rcases putLea_split (t:=t) hs with⟨a,y,b,rfl,hy,hp,hne⟩ | ⟨hne,-⟩
 ·rw [hp]
  obtain⟨h1,h2,h3⟩:=List.pairwise_append.1 hs;obtain⟨h4,-⟩:=List.pairwise_cons.1 h2;rw [List.map_append,List.map_cons,if_pos hy]
  congr 1
  ·exact((List.map_congr_left (fun z hz=>show (if z.n=t.n then t else z)=id z from if_neg (by have:=h3 z hz y (by simp);omega))).trans (List.map_id a)).symm
  ·congr 1
   exact((List.map_congr_left (fun z hz=>show (if z.n=t.n then t else z)=id z from if_neg (by have:=h4 z hz;omega))).trans (List.map_id b)).symm
 ·exact absurd hn (hne x hx)
section
variable {tks:List TokE} {lks:List LeaE} {L:List ThingD}
end
def Item.Old:Item→VSt→Prop
 | .tok t,s=>TokOk t∧(∃ x∈s.tks,x.n=t.n)∧t.n<u64lim∧t.au<u64lim
 | .lea t,s=>LeaOk t∧(∃ x∈s.lks,x.n=t.n)∧t.n<u64lim∧t.au<u64lim
 | .gone _ _,_=>False
theorem putLea_num {t:LeaE} {l:List LeaE} (hs:l.Pairwise (fun a b=>a.n<b.n)) {m:Nat} (h:∃ p∈l,p.n=m):∃ p∈putLea t l,p.n=m:=by
 obtain⟨p,hp,e⟩:=h
 rcases putLea_has (t:=t) hs hp with h1 | h1
 ·refine⟨t,?_,by omega⟩
  rcases putLea_split (t:=t) hs with⟨a,y,b,rfl,hy,hq,hne⟩ | ⟨hne,hq⟩ <;> rw [hq] <;> simp
 ·exact⟨p,h1,e⟩
theorem fitsAll_old:∀(is:List Item) (s:VSt),(∀ i∈is,i.Old s)→s.tks.Pairwise (fun a b=>a.n<b.n)→s.lks.Pairwise (fun a b=>a.n<b.n)→s.tks.length<500→s.lks.length<500→FitsAll is s
 | [],_,_,_,_,_,_=>trivial
 | i :: is,s,h,hT,hL,nT,nL=>by
  have hi:=h i (by simp)
  have hr:=fun j hj=>h j (List.mem_cons_of_mem _ hj)
  cases i with
  | tok t =>
   obtain⟨h1,⟨x,hx,hn⟩,h3,h4⟩:=hi;refine⟨⟨h1,.inl ⟨x,hx,hn⟩,nT,h3,h4⟩,fitsAll_old is _ (fun j hj=>?_) (putTok_inc hT (.inl ⟨x,hx,hn⟩)) hL (by show (putTok t s.tks).length<500;rw [putTok_same hT hx hn];exact nT) nL⟩;have:=hr j hj
   cases j with
   | tok u=>exact⟨this.1,putTok_num hT this.2.1,this.2.2⟩
   | lea u=>exact this
   | gone _ _=>exact this
  | lea t =>
   obtain⟨h1,⟨x,hx,hn⟩,h3,h4⟩:=hi;refine⟨⟨h1,.inl ⟨x,hx,hn⟩,nL,h3,h4⟩,fitsAll_old is _ (fun j hj=>?_) hT (putLea_inc hL (.inl ⟨x,hx,hn⟩)) nT (by show (putLea t s.lks).length<500;rw [putLea_same hL hx hn];exact nL)⟩;have:=hr j hj
   cases j with
   | tok u=>exact this
   | lea u=>exact⟨this.1,putLea_num hL this.2.1,this.2.2⟩
   | gone _ _=>exact this
  | gone _ _=>exact hi.elim
def goL (tm:Int) (p:LeaE→Bool) (l:LeaE):Bool:=(!l.pd&&decide (tm<l.at_))&&p l
def revL (tm:Int) (l:LeaE):LeaE:={ l with pd:=true,at_:=tm }
def revT (tm:Int) (t:TokE):TokE:={ t with pd:=true,at_:=tm }
def revJ (tm:Int) (p:TokE→Bool) (ts:List TokE):List Item:=(ts.filter fun t=>!t.pd&&p t).map fun t=>Item.tok (revT tm t)
theorem any_num {α:Type} {f:α→Nat} {ls:List α} {m:Nat} (h:∀ l∈ls,m<f l):ls.any (fun l=>f l==m)=false:=by
 rw [List.any_eq_false];intro l hl;have:=h l hl;simp;omega
theorem appAll_revI {tm:Int} {p:LeaE→Bool}:∀(ls:List LeaE) (s:VSt),ls.Pairwise (fun a b=>a.n<b.n)→s.lks.Pairwise (fun a b=>a.n<b.n)→(∀ l∈ls,l∈s.lks)→(∀ l∈ls,l.n≤s.ln)→appAll (revI tm p ls) s=⟨s.tn,s.ln,s.tks,s.lks.map fun z=>if ls.any (fun l=>l.n==z.n)&&goL tm p z then revL tm z else z⟩
 | [],s,_,_,_,_=>by
  obtain⟨tn,ln,tks,lks⟩:=s;simp [revI,appAll]
 | a :: ls,s,hp,hs,hm,hn=>by
  obtain⟨h1,h2⟩:=List.pairwise_cons.1 hp;have ham:=hm a (by simp)
  by_cases hg:goL tm p a=true
  ·have e:revI tm p (a :: ls)=.lea (revL tm a) :: revI tm p ls:=by
    have hg':(!a.pd&&decide (tm<a.at_)&&p a)=true:=hg;simp only [revI,List.filter_cons,hg',if_true,List.map_cons];rfl
   have hput:putLea (revL tm a) s.lks=s.lks.map (fun z=>if z.n=a.n then revL tm a else z):=putLea_map (t:=revL tm a) hs ham rfl
   have happ:(Item.lea (revL tm a)).app s=⟨s.tn,s.ln,s.tks,s.lks.map (fun z=>if z.n=a.n then revL tm a else z)⟩:=by
    show VSt.mk s.tn (max s.ln a.n) s.tks (putLea (revL tm a) s.lks)=_
    rw [hput,Nat.max_eq_left (hn a (by simp))]
   rw [e]
   show appAll (revI tm p ls) ((Item.lea (revL tm a)).app s)=_
   rw [happ,appAll_revI ls ⟨s.tn,s.ln,s.tks,s.lks.map (fun z=>if z.n=a.n then revL tm a else z)⟩ h2 (by
     show (s.lks.map (fun z=>if z.n=a.n then revL tm a else z)).Pairwise _
     rw [← hput]
     exact putLea_inc hs (.inl ⟨a,ham,rfl⟩)) (fun l hl=>List.mem_map.2 ⟨l,hm l (List.mem_cons_of_mem _ hl),if_neg (by have:=h1 l hl;omega)⟩) (fun l hl=>hn l (List.mem_cons_of_mem _ hl))]
   congr 1
   simp only;rw [List.map_map];refine List.map_congr_left (fun z hz=>?_);simp only [Function.comp]
   by_cases hza:z.n=a.n
   ·have:z=a:=inc_inj (f:=LeaE.n) hs hz ham hza
    subst this;rw [if_pos rfl];have hno:ls.any (fun l=>l.n==z.n)=false:=any_num (f:=LeaE.n) h1;rw [show (revL tm z).n=z.n from rfl,hno];simp [hg]
   ·rw [if_neg hza]
    have:(a.n==z.n)=false:=by rw [beq_eq_false_iff_ne];omega
    simp [this]
  ·have e:revI tm p (a :: ls)=revI tm p ls:=by
    have hg':(!a.pd&&decide (tm<a.at_)&&p a)=false:=by simpa using(show ¬ (!a.pd&&decide (tm<a.at_)&&p a)=true from hg)
    simp only [revI,List.filter_cons,hg',Bool.false_eq_true,if_false]
   rw [e,appAll_revI ls s h2 hs (fun l hl=>hm l (List.mem_cons_of_mem _ hl)) (fun l hl=>hn l (List.mem_cons_of_mem _ hl))]
   congr 1
   refine List.map_congr_left (fun z hz=>?_)
   by_cases hza:z.n=a.n
   ·have:z=a:=inc_inj (f:=LeaE.n) hs hz ham hza
    subst this
    have:goL tm p z=false:=by simpa using hg
    simp [this]
   ·have:(a.n==z.n)=false:=by rw [beq_eq_false_iff_ne];omega
    simp [this]
theorem Tryz.keepRow (B:Nat) (k:Blk) (vx:VX) (tm:Int) (s:VSt) (c:List UInt8) (l f:Int) (is:List Item) (v:Value) (w:World) (hW:Whole w k vx tm s c l f) (hl:l<0) (hl1 : -999999990≤l) (hf:f<0) (hf1 : -999999990≤f) (hc:c.length≤900000000000) (hrow:w.ownsRow B 135 10 v is.length (flatR (is.map Item.rec_))) (hn1:is.length≤500) (hF:FitsAll is s) :
  Calls prog 66 #[.pointer (some ⟨k.vb,0,none⟩),v] w fun e w'=>e=.returned .nilIface∧(∃ c' l' f',c'.length≤c.length+1300000∧Whole w' k vx tm (appAll is s) c' l' f')∧Spares k.turns w w':=by
 cases is with
 | nil =>
  refine(keepNil k.vb v w (row_none hrow)).mono ?_;rintro e w' ⟨rfl,rfl⟩;exact⟨rfl,⟨c,l,f,by omega,hW⟩,Spares.of_below (Below.refl _ _)⟩
 | cons i is =>
  obtain⟨g,cap,rfl⟩:=row_some hrow (by simp);obtain⟨hlo,cs,hB⟩:=row_box hrow (g:=g) rfl;have hkl:=keepLine_len hW.v.t0 hW.v.t1 hF hn1;refine(vKeep k vx tm s c l f (i :: is) g cap w hW hl hl1 hf hf1 hc (rowR_flat hrow) hB.lt (hW.no hB (by decide) (by decide)) (by simp) hn1 hF).mono ?_;rintro e w' ⟨rfl,hW',hs'⟩;exact⟨rfl,⟨_,_,_,by rw [List.length_append];omega,hW'⟩,hs'⟩
end Go.Proofs
namespace Go.Proofs
open Go.RowKit Go.Sort Go.Lib Go.Shelf Go.Maps Go.WideMaps
theorem Tryz.vRevPre_err (vb:Nat) (w:World) (pre:List UInt8) (hpl:pre.length≤1000000) (hne:pre ≠ []) (hbad:pathI pre=false) :
  Calls prog 52 #[.pointer (some ⟨vb,0,none⟩),.string ⟨pre.toArray⟩] w fun e w'=>e=.returned (.tuple #[.int .i64 0,errV 2])∧Below w.heap.size w w':=by
 have hB0:Below w.heap.size w (w.alloc (.cells #[.string ⟨pre.toArray⟩] 9)):=(Below.refl _ w).alloc (Nat.le_refl _) _
 have hV:=fun W=>valid pre W hpl
 rw [hbad] at hV
 have h0:(pre == [])=false:=by simpa using hne
 have hl0:((pre.length:Int)==0)=false:=by
  rw [beq_eq_false_iff_ne];intro e;exact hne (List.length_eq_zero_iff.1 (by omega))
 go_enter func52,ntmps52
 go_wp2_with (go_at_call 92;refine(hV _).mono ?_;rintro e w1 ⟨rfl,hb1⟩)
 exact bodyPost_ret (v:=.tuple #[.int .i64 0,errV 2]) (by simp [results,results52,go_sem,errV]) rfl ⟨rfl,hB0.trans (hb1.mono hB0.size)⟩
theorem any_self {α:Type} {f:α→Nat} {ls:List α} {z:α} (h:z∈ls):ls.any (fun l=>f l==f z)=true:=List.any_eq_true.2 ⟨z,h,by simp⟩
theorem revI_state {tm:Int} {p:LeaE→Bool} {tn ln:Nat} {tks:List TokE} {lks:List LeaE} (hs:lks.Pairwise (fun a b=>a.n<b.n)) (hn:∀ l∈lks,l.n≤ln):appAll (revI tm p lks) ⟨tn,ln,tks,lks⟩=⟨tn,ln,tks,lks.map fun z=>if goL tm p z then revL tm z else z⟩:=by
 rw [appAll_revI lks ⟨tn,ln,tks,lks⟩ hs hs (fun _ h=>h) hn]
 congr 1
 exact List.map_congr_left (fun z hz=>by rw [any_self (f:=LeaE.n) hz,Bool.true_and])
theorem revI_old {tm:Int} {p:LeaE→Bool} {s:VSt} (t0:0≤tm) (t1:tm≤18446744073709551615) (hok:ListsOk s.tks s.lks) (okL:∀ l∈s.lks,LeaOk l):∀ i∈revI tm p s.lks,i.Old s:=fun i hi=>by
 obtain⟨l,hl,rfl⟩:=List.mem_map.1 hi;have hm:=(List.mem_filter.1 hl).1;have ho:=okL l hm;exact⟨⟨t0,t1,ho.r0,ho.r1,ho.l0,ho.l1,ho.p1,ho.pa⟩,⟨l,hm,rfl⟩,(hok.limL l hm).1,(hok.limL l hm).2⟩
theorem revI_len {tm:Int} {p:LeaE→Bool} {lks:List LeaE}:(revI tm p lks).length≤lks.length:=by unfold revI;rw [List.length_map];exact List.length_filter_le _ _
theorem Tryz.vRevPre_ok (k:Blk) (vx:VX) (tm:Int) (s:VSt) (c:List UInt8) (l f:Int) (w:World) (hW:Whole w k vx tm s c l f) (hl:l<0) (hl1 : -999999990≤l) (hf:f<0) (hf1 : -999999990≤f) (hc:c.length≤900000000000) (pre:List UInt8) (hpl:pre.length≤1000000) (hgo:pre = []∨pathI pre=true) (nT:s.tks.length<500) (nL:s.lks.length<500) :
  Calls prog 52 #[.pointer (some ⟨k.vb,0,none⟩),.string ⟨pre.toArray⟩] w fun e w'=>e=.returned (.tuple #[.int .i64 ((revI tm (fun l=>beginsB l.pth pre) s.lks).length:Nat),.nilIface])∧(∃ c' l' f',c'.length≤c.length+1300000∧Whole w' k vx tm ⟨s.tn,s.ln,s.tks,s.lks.map fun z=>if goL tm (fun l=>beginsB l.pth pre) z then revL tm z else z⟩ c' l' f')∧Spares k.turns w w':=by
 have hok:=hW.v.va.ok
 have hmf:∀(fn:Fn) (first cap:Array Value) (w:World),(Instr.makeFunc fn first cap).run prog w=.ok (.func fn first cap) w:=fun _ _ _ _=>rfl
 have hF:FitsAll (revI tm (fun l=>beginsB l.pth pre) s.lks) s:=fitsAll_old _ _ (revI_old hW.v.t0 hW.v.t1 hok hW.v.okL) hok.incT hok.incL nT nL;have hst:appAll (revI tm (fun l=>beginsB l.pth pre) s.lks) s=⟨s.tn,s.ln,s.tks,s.lks.map fun z=>if goL tm (fun l=>beginsB l.pth pre) z then revL tm z else z⟩:=revI_state (tn:=s.tn) (tks:=s.tks) hok.incL hW.v.nl;have hn:(revI tm (fun l=>beginsB l.pth pre) s.lks).length≤500:=Nat.le_trans revI_len (by omega);have hB0:Below w.heap.size w (w.alloc (.cells #[.string ⟨pre.toArray⟩] 9)):=(Below.refl _ w).alloc (Nat.le_refl _) _;have bP:=BoxN.new w 9 #[.string ⟨pre.toArray⟩]
 have hV:=fun W=>valid pre W hpl
 have hR:∀ W,Below (w.heap.size+1) (w.alloc (.cells #[.string ⟨pre.toArray⟩] 9)) W→Calls prog 86 #[.pointer (some ⟨k.vb,0,none⟩),.func (.func 93) #[] #[.pointer (some ⟨w.heap.size,0,none⟩)]] W fun e w'=>∃ v,e=.returned v∧w'.ownsRow W.heap.size 135 10 v (revI tm (fun l=>beginsB l.pth pre) s.lks).length (flatR ((revI tm (fun l=>beginsB l.pth pre) s.lks).map Item.rec_))∧Below W.heap.size W w':=fun W hb=>by
  have bP':=bP.below hb (by omega);exact callsIn_wide.1 (revLeaPre k.vb k.mt k.ml vx tm s.tn s.ln s.tks s.lks W (hW.v.va.below (hB0.trans (hb.mono (by omega)))) w.heap.size (fun l=>beginsB l.pth pre) (fun l hl W' hb'=>vRevPre1 w.heap.size pre l W' (bP'.below hb' bP'.lt)))
 have hK:∀ W v,Below w.heap.size w W→(∃ B,W.ownsRow B 135 10 v (revI tm (fun l=>beginsB l.pth pre) s.lks).length (flatR ((revI tm (fun l=>beginsB l.pth pre) s.lks).map Item.rec_)))→Calls prog 66 #[.pointer (some ⟨k.vb,0,none⟩),v] W fun e w'=>e=.returned .nilIface∧(∃ c' l' f',c'.length≤c.length+1300000∧Whole w' k vx tm ⟨s.tn,s.ln,s.tks,s.lks.map fun z=>if goL tm (fun l=>beginsB l.pth pre) z then revL tm z else z⟩ c' l' f')∧Spares k.turns W w':=fun W v hb ⟨B,hr⟩=>by
  have h:=keepRow B k vx tm s c l f _ v W (hW.below hb) hl hl1 hf hf1 hc hr hn hF;rw [hst] at h;exact h
 have hsz:(w.alloc (.cells #[.string ⟨pre.toArray⟩] 9)).heap.size=w.heap.size+1:=by simp
 obtain⟨n,hnn⟩:∃ n,(revI tm (fun l=>beginsB l.pth pre) s.lks).length=n:=⟨_,rfl⟩
 have hform:∀ {W:World} {B:Nat} {v:Value} {xs:List Value},W.ownsRow B 135 10 v n xs→∃ p cap,v=.slice p n cap:=fun h=>by
  rcases h.2 with⟨rfl,h0⟩ | ⟨g,cap,cur,rfl,-⟩
  ·exact⟨none,0,by rw [show n=0 from by omega]⟩
  ·exact⟨_,cap,rfl⟩
 rw [hnn] at hR hK hn ⊢;clear hst hF hnn bP
 by_cases h0:pre = []
 ·subst h0
  go_enter func52,ntmps52
  go_wp2_with (first
   | (go_at_call 86;refine(hR _ (Below.refl _ _)).mono ?_;rintro e w2 ⟨v,rfl,hr2,hb2⟩;obtain⟨p,cap,rfl⟩:=hform hr2;have hB2:Below w.heap.size w w2:=hB0.trans (hb2.mono hB0.size);have hK2:=hK w2 _ hB2 ⟨_,hr2⟩)
   | (go_at_call 66;refine hK2.mono ?_;rintro e w3 ⟨rfl,hW3,hs3⟩))
  exact bodyPost_ret (v:=.tuple #[.int .i64 (n:Nat),.nilIface]) (by simp [results,results52,go_sem]) rfl ⟨rfl,hW3,(Spares.of_below hB2).trans hs3⟩
 ·have hv:pathI pre=true:=hgo.resolve_left h0
  have h0':(pre == [])=false:=by simpa using h0
  have hl0:((pre.length:Int)==0)=false:=by
   rw [beq_eq_false_iff_ne];intro e;exact h0 (List.length_eq_zero_iff.1 (by omega))
  rw [hv] at hV;go_enter func52,ntmps52
  go_wp2_with (first
   | (go_at_call 92;refine(hV _).mono ?_;rintro e w1 ⟨rfl,hb1⟩)
   | (go_at_call 86;refine(hR _ (hb1.mono (by simp))).mono ?_;rintro e w2 ⟨v,rfl,hr2,hb2⟩;obtain⟨p,cap,rfl⟩:=hform hr2;have hB2:Below w.heap.size w w2:=(hB0.trans (hb1.mono hB0.size)).trans (hb2.mono (Nat.le_trans hB0.size hb1.size));have hK2:=hK w2 _ hB2 ⟨_,hr2⟩)
   | (go_at_call 66;refine hK2.mono ?_;rintro e w3 ⟨rfl,hW3,hs3⟩))
  exact bodyPost_ret (v:=.tuple #[.int .i64 (n:Nat),.nilIface]) (by simp [results,results52,go_sem]) rfl ⟨rfl,hW3,(Spares.of_below hB2).trans hs3⟩
section
variable {B hb rb:Nat} {k:Blk} {vx:VX} {tm:Int} {tn ln:Nat} {tks:List TokE} {lks:List LeaE} {c:List UInt8} {w:World}
theorem Tryz.kIssueBad (hS:Sys B w hb rb ⟨k,vx,tm,⟨tn,ln,tks,lks⟩,c⟩) (m:TokE) (hm:m∈tks) (hlv:m.pd=false) (pth:List UInt8) (hpv:pathI pth=false) (hp:pth.length≤1000000) (ttl most:Int) (cc dd:Int) :
  Calls prog 18 #[.pointer (some ⟨hb,0,none⟩),.string ⟨(nmStr 1 m.n).toArray⟩,.string ⟨pth.toArray⟩,.int .u64 ttl,.int .u64 most,fallV (-1) (-1) cc dd] w fun e w'=>e=.returned (.tuple #[.string ⟨#[]⟩,.int .i64 2])∧Sys B w' hb rb ⟨k,vx,tm,⟨tn,ln,tks,lks⟩,c⟩∧Spares k.turns w w':=by
 have hlim:=(hS.wh.v.va.ok.limT m hm).1
 have h:=hIssue B hb rb _ w hS (nmStr 1 m.n) pth ttl most cc dd (.string ⟨#[]⟩) (errV 2) 2 (toldK 2 (.inr (by simp [ErrK]))) (fun σ'=>σ'=⟨k,vx,tm,⟨tn,ln,tks,lks⟩,c⟩)
  (fun W _ hV=>by
   have hMay:∀ W',Below W.heap.size W W'→Calls prog 64 #[.pointer (some ⟨k.vb,0,none⟩),nmV (parseN (nmStr 1 m.n)),.string ⟨pth.toArray⟩,.int .u64 ttl,.int .u64 most] W' fun e w'=>e=.returned (errV 2)∧Below W'.heap.size W' w':=fun W' hb'=>by
    have hq:=mayIssue k.vb k.mt k.ml vx tm tn ln tks lks W' (hV.v.va.below hb') (parseN (nmStr 1 m.n)) true pth hp ttl most (fun W2 hb2=>by
     rw [parse_tok hlim];have hl:=isLive_hit k.vb k.mt k.ml vx tm _ _ tks lks W2 ((hV.v.va.below hb').below hb2) m hm;rw [hlv] at hl
     exact hl)
    have he:mayE true (pathI pth) ttl most lks.length tm=2:=by
     unfold mayE;rw [hpv,if_neg (by simp),if_pos (by simp)]
    rw [he] at hq;exact hq
   refine(vIssue_err k.vb k.mt k.ml vx tm tn ln tks lks W hV.v.va (nmStr 1 m.n) pth (nm_len1 hlim) ttl most 2 (by decide) hMay).mono ?_;rintro e w' ⟨rfl,hb'⟩
   exact⟨rfl,⟨_,_,_,⟨rfl,rfl,rfl⟩,hV.below hb'⟩,Spares.of_below hb'⟩)
 refine h.mono ?_;rintro e w' ⟨rfl,⟨σ',⟨rfl,-,-⟩,hS'⟩,hs⟩;exact⟨rfl,hS',hs⟩
theorem Tryz.kPrefix (hS:Sys B w hb rb ⟨k,vx,tm,⟨tn,ln,tks,lks⟩,c⟩) (pre:List UInt8) (hpl:pre.length≤1000000) (hgo:pre = []∨pathI pre=true) (nT:tks.length<500) (nL:lks.length<500) (hc:c.length≤900000000000) (cc dd:Int) :
  Calls prog 29 #[.pointer (some ⟨hb,0,none⟩),.string ⟨pre.toArray⟩,fallV (-1) (-1) cc dd] w fun e w'=>e=.returned (.tuple #[.int .i64 ((revI tm (fun l=>beginsB l.pth pre) lks).length:Nat),.int .i64 0])∧(∃ c',c'.length≤c.length+1300000∧Sys B w' hb rb ⟨k,vx,tm,⟨tn,ln,tks,lks.map fun z=>if goL tm (fun l=>beginsB l.pth pre) z then revL tm z else z⟩,c'⟩)∧Spares k.turns w w':=by
 have h:=hRevPre B hb rb _ w hS pre cc dd (.int .i64 ((revI tm (fun l=>beginsB l.pth pre) lks).length:Nat)) .nilIface 0 (fun W _=>told_nil W) (fun σ'=>∃ c',c'.length≤c.length+1300000∧σ'=⟨k,vx,tm,⟨tn,ln,tks,lks.map fun z=>if goL tm (fun l=>beginsB l.pth pre) z then revL tm z else z⟩,c'⟩)
  (fun W _ hV=>by
   refine(vRevPre_ok k vx tm ⟨tn,ln,tks,lks⟩ c (-1) (-1) W hV (by decide) (by decide) (by decide) (by decide) hc pre hpl hgo nT nL).mono ?_;rintro e w' ⟨rfl,⟨c',l',f',hc',hV'⟩,hs'⟩
   exact⟨rfl,⟨_,l',f',⟨⟨c',hc',rfl⟩,rfl,rfl⟩,hV'⟩,hs'⟩)
 refine h.mono ?_;rintro e w' ⟨rfl,⟨σ',⟨⟨c',hc',rfl⟩,-,-⟩,hS'⟩,hs⟩;exact⟨rfl,⟨c',hc',hS'⟩,hs⟩
theorem Tryz.kPrefixBad (hS:Sys B w hb rb ⟨k,vx,tm,⟨tn,ln,tks,lks⟩,c⟩) (pre:List UInt8) (hpl:pre.length≤1000000) (hne:pre ≠ []) (hbad:pathI pre=false) (cc dd:Int) :
  Calls prog 29 #[.pointer (some ⟨hb,0,none⟩),.string ⟨pre.toArray⟩,fallV (-1) (-1) cc dd] w fun e w'=>e=.returned (.tuple #[.int .i64 0,.int .i64 2])∧Below B w w':=by
 have h:=hRevPre B hb rb _ w hS pre cc dd (.int .i64 0) (errV 2) 2 (toldK 2 (.inr (by simp [ErrK]))) (fun _=>True)
  (fun W _ hV=>by
   refine(vRevPre_err k.vb W pre hpl hne hbad).mono ?_;rintro e w' ⟨rfl,hb'⟩
   exact⟨rfl,⟨⟨k,vx,tm,⟨tn,ln,tks,lks⟩,c⟩,-1,-1,⟨trivial,rfl,rfl⟩,hV.below hb'⟩,Spares.of_below hb'⟩)
 refine h.mono ?_;rintro e w' ⟨rfl,-,hs⟩;exact⟨rfl,hs.below (Nat.le_of_lt (Nat.lt_of_le_of_lt hS.hlow hS.host.lt)) (fun b hb=>hS.low b hb)⟩
end
def mkL:Nat→List (List UInt8)→List LeaE
 | _,[]=>[]
 | n,p :: r=>newL n 0 150 150 p :: mkL (n+1) r
theorem mkL_snoc:∀(xs:List (List UInt8)) (n:Nat) (p:List UInt8),mkL n (xs ++ [p])=mkL n xs ++ [newL (n+xs.length) 0 150 150 p]
 | [],_,_=>rfl
 | x :: xs,n,p=>by
  show newL n 0 150 150 x :: mkL (n+1) (xs ++ [p])=_
  rw [mkL_snoc xs (n+1) p,show n+1+xs.length=n+(x :: xs).length by simp;omega];rfl
theorem mkL_len:∀(xs:List (List UInt8)) (n:Nat),(mkL n xs).length=xs.length
 | [],_=>rfl
 | x :: xs,n=>by show (mkL (n+1) xs).length+1=_;rw [mkL_len xs (n+1)];rfl
theorem mkL_get:∀(xs:List (List UInt8)) (n i:Nat) (p:List UInt8),xs[i]? = some p→(mkL n xs)[i]? = some (newL (n+i) 0 150 150 p)
 | [],_,_,_,h=>by simp at h
 | x :: xs,n,0,p,h=>by
  have:x=p:=by simpa using h
  subst this;rfl
 | x :: xs,n,i+1,p,h=>by
  show (mkL (n+1) xs)[i]? = _
  rw [mkL_get xs (n+1) i p (by simpa using h),show n+1+i=n+(i+1) by omega]
def mkI (n:Nat):Nat→List Value
 | 0=>[]
 | i+1=>mkI n i ++ [.string ⟨(nmStr 2 (n+i)).toArray⟩]
theorem mkI_len (n:Nat):∀ i,(mkI n i).length=i
 | 0=>rfl
 | i+1=>by simp [mkI,mkI_len n i]
theorem mkI_get (n:Nat):∀(m i:Nat),i<m→(mkI n m)[i]? = some (.string ⟨(nmStr 2 (n+i)).toArray⟩)
 | 0,_,h=>by omega
 | m+1,i,h=>by
  rw [mkI,List.getElem?_append,mkI_len]
  by_cases hi:i<m
  ·rw [if_pos hi];exact mkI_get n m i hi
  ·obtain rfl:i=m:=by omega
   rw [if_neg hi];simp
theorem revI_mkL (pre:List UInt8):∀(xs:List (List UInt8)) (n:Nat),(revI 100 (fun l=>beginsB l.pth pre) (mkL n xs)).length=(xs.filter fun p=>beginsB p pre).length
 | [],_=>rfl
 | x :: xs,n=>by
  have ih:=revI_mkL pre xs (n+1);unfold revI at ih ⊢;rw [List.length_map] at ih ⊢
  show ((newL n 0 150 150 x :: mkL (n+1) xs).filter _).length=_
  rw [List.filter_cons,List.filter_cons]
  have e:((!(newL n 0 150 150 x).pd&&decide ((100:Int)<(newL n 0 150 150 x).at_))&&beginsB (newL n 0 150 150 x).pth pre)=beginsB x pre:=by simp [newL]
  rw [e]
  split
  ·rw [List.length_cons,List.length_cons,ih]
  ·exact ih
theorem textL_head {ls:List LineD} (h:textL ls ≠ []):∃ r,textL ls=10 :: r:=by
 cases ls with
 | nil=>exact absurd rfl h
 | cons l ls =>
  refine⟨bodyL (recTxt l.recs)++textL ls,?_⟩;unfold textL recLine;rw [List.flatMap_cons,lineL_body];rfl
theorem Tryz.Sys.ownStr {B hb rb:Nat} {σ:SS} {W W':World} (h:Sys B W hb rb σ) {g:Nat} {cs:Array Value} {x:List UInt8} (hB:BoxN W g 9 cs) (g9:9≤g) (h0:cs[0]? = some (.string ⟨x.toArray⟩)) (hx:(10:UInt8)∉x) (hc:σ.c ≠ []) (hs:Spares [g] W W'):Sys B W' hb rb σ:=by
 obtain⟨fd,fn,hd,e1,e2⟩:=h.wh.d;obtain⟨n1,-,m1⟩:=h.wh.v.va.held.mapT;obtain⟨n2,-,m2⟩:=h.wh.v.va.held.mapL;obtain⟨n3,-,m3⟩:=hd.dm;obtain⟨n4,-,m4⟩:=hd.nm;obtain⟨ra,rc,hr⟩:=h.rvb;obtain⟨ls,-,-,hcc,-⟩:=h.wh.log.ex;rw [hcc] at hc;obtain⟨rest,hrest⟩:=textL_head hc
 have nf:∀(q:Nat × List UInt8),q.2=σ.c→BoxN W q.1 9 #[.string ⟨q.2.toArray⟩]→q.1 ∉ [g]:=fun q hq hb' hm=>by
  obtain rfl:q.1=g:=List.mem_singleton.1 hm;have e:=hb'.symm.trans hB;simp only [Option.some.injEq,Obj.cells.injEq] at e;rw [← e.1] at h0
  have h1:q.2=x:=by simpa using h0
  rw [← h1,hq,hcc,hrest] at hx;simp at hx
 have hB9:Below 9 W W':=hs.below h.nine (fun b hb=>by rw [List.mem_singleton.1 hb];exact g9)
 have tn:∀ b∈σ.k.turns,b ∉ [g]:=fun b hb hm=>by
  rw [List.mem_singleton.1 hm] at hb;exact h.wh.no hB (by decide) (by decide) hb
 have hd':=hd.spared hs (tn _ (by simp [Blk.turns])) (tn _ (by simp [Blk.turns])) (tn _ (by simp [Blk.turns])) (fun q hq=>nf q (by rw [← e1,hq];rfl) (hd.sd q hq)) (fun q hq=>nf q (by rw [← e2,hq];rfl) (hd.sn q hq));have hv:=h.wh.v.spared hs (tn _ (by simp [Blk.turns])) (tn _ (by simp [Blk.turns])) (tn _ (by simp [Blk.turns])) (fun b hb=>by rw [List.mem_singleton.1 hb];omega)
 exact { h with
  host:=hs.box h.host (by simpa using h.host.ne hB (by decide)),
  wh:={ h.wh with v:=hv,j:=hs.box h.wh.j (by simpa using h.wh.j.ne hB (by decide)),d:=⟨fd,fn,hd',e1,e2⟩ },
  err:=h.err.below hB9,
  rvb:=⟨ra,rc,hs.box hr (by simpa using hr.ne hB (by decide))⟩,
  due:=hs.row' h.due (fun b hb hm=>by
   obtain⟨-,cur,hcu⟩:=row_box h.due hb;rw [List.mem_singleton.1 hm] at hcu
   exact hcu.ne hB (by decide) rfl) }
theorem Tryz.Sys.grew {B hb rb:Nat} {σ:SS} {W W':World} (h:Sys B W hb rb σ) {v:Value} {n:Nat} {xs:List Value} (hr:W.ownsRow B 9 1 v n xs) (h1:∀ y,xs[0]? = some y→∃ x:List UInt8,y=.string ⟨x.toArray⟩∧(10:UInt8)∉x) (h2:∀ g,v.ownBlock=some g→0<n) (hc:σ.c ≠ []) (hg:W.grownBy W' v.ownBlock):Sys B W' hb rb σ:=by
 cases hv:v.ownBlock with
 | none =>
  rw [hv] at hg;exact h.below ⟨hg.os,hg.tape,hg.output,hg.size,fun k hk=>hg.block k hk (by simp)⟩
 | some g =>
  rw [hv] at hg;have hn:=h2 g hv;obtain⟨hl,hb'⟩:=hr
  rcases hb' with⟨rfl,-⟩ | ⟨g',cap,cur,rfl,hge,hcur,hnc,-,hsz,htk⟩
  ·cases hv
  ·have hgg:g'=g:=by simpa [Value.ownBlock] using hv
   subst hgg
   have hc0:cur[0]? = xs[0]?:=by
    have e:(cur.toList.take (n*1))[0]? = xs[0]?:=by rw [htk]
    rw [List.getElem?_take,if_pos (by omega)] at e
    simpa using e
   cases hx0:xs[0]? with
   | none=>simp at hx0;rw [hx0] at hl;simp at hl;omega
   | some y =>
    obtain⟨x,rfl,hx⟩:=h1 y hx0;rw [hx0] at hc0;exact h.ownStr (cs:=cur) (x:=x) hcur (Nat.le_trans h.b9 hge) hc0 hx hc ⟨hg.os,hg.tape,hg.output,hg.size,fun k hk hn'=>hg.block k hk (fun e=>hn' (by injection e with e;simp [e]))⟩
end Go.Proofs
