import Derived.Test.YtjbekgjdempbiaaGreatDoorJSq
import Derived.Test.YtjbekgjdempbiaaGreatDoorJRvD
import Derived.Test.YtjbekgjdempbiaaGreatDoorJKpA
import Derived.Test.YtjbekgjdempbiaaGreatDoorJVIssue
import Derived.Test.YtjbekgjdempbiaaGreatDoorJKtD
set_option maxRecDepth 100000
set_option maxHeartbeats 8000000
namespace Go.Proofs
open Go.RowKit Go.Sort Go.Lib Go.Shelf Go.Maps
def Item.Old:Item->VSt->Prop
 | .tok t,s=>Xc7 t/\(∃ x∈s.tks,x.n=t.n)/\t.n<Xn/\t.au<Xn
 | .lea t,s=>Xdg t/\(∃ x∈s.lks,x.n=t.n)/\t.n<Xn/\t.au<Xn
 | .gone _ _,_=>False
theorem Xl6 {t:Xc} {l:List Xc} (hs:l.Pairwise (fun a b=>a.n<b.n)) {m:Nat} (h:∃ p∈l,p.n=m):∃ p∈Yc t l,p.n=m:=by
 obtain⟨p,hp,e⟩:=h
 rcases putLea_has (t:=t) hs hp with h1 | h1
 ·refine⟨t,?_,by omega⟩
  rcases Yw (t:=t) hs with⟨a,y,b,rfl,hy,hq,hne⟩ | ⟨hne,hq⟩ <;> rw [hq] <;> simp
 exact⟨p,h1,e⟩
theorem Vd:∀(is:List Item) (s:VSt),(∀ i∈is,i.Old s)->s.tks.Pairwise (fun a b=>a.n<b.n)->s.lks.Pairwise (fun a b=>a.n<b.n)->s.tks.length<500->s.lks.length<500->Yr is s
 | [],_,_,_,_,_,_=>trivial
 | i :: is,s,h,hT,hL,nT,nL=>by
  have hi:=h i (by simp)
  have hr:=fun j hj=>h j (List.mem_cons_of_mem _ hj)
  cases i with
  | tok t =>
   obtain⟨h1,⟨x,hx,hn⟩,h3,h4⟩:=hi;refine⟨⟨h1,.inl ⟨x,hx,hn⟩,nT,h3,h4⟩,Vd is _ (fun j hj=>?_) (V9 hT (.inl ⟨x,hx,hn⟩)) hL (by show (Yh t s.tks).length<500;rw [J8 hT hx hn];exact nT) nL⟩;have:=hr j hj
   cases j with
   | tok u=>exact⟨this.1,V7 hT this.2.1,this.2.2⟩
   | lea u=>exact this
   | gone _ _=>exact this
  | lea t =>
   obtain⟨h1,⟨x,hx,hn⟩,h3,h4⟩:=hi;refine⟨⟨h1,.inl ⟨x,hx,hn⟩,nL,h3,h4⟩,Vd is _ (fun j hj=>?_) hT (Mc hL (.inl ⟨x,hx,hn⟩)) nT (by show (Yc t s.lks).length<500;rw [Ua hL hx hn];exact nL)⟩;have:=hr j hj
   cases j with
   | tok u=>exact this
   | lea u=>exact⟨this.1,Xl6 hL this.2.1,this.2.2⟩
   | gone _ _=>exact this
  | gone _ _=>exact hi.elim
theorem Xfz (a b:List Item) (s:VSt):Yq (a++b) s=Yq b (Yq a s):=by
 induction a generalizing s with
 | nil=>rfl
 | cons i a ih=>exact ih (i.app s)
def goL (tm:Int) (p:Xc->Bool) (l:Xc):Bool:=(!l.pd&&decide (tm<l.at_))&&p l
def Z9 (tm:Int) (l:Xc):Xc:={ l with pd:=true,at_:=tm }
def U6 (tm:Int) (t:Xd):Xd:={ t with pd:=true,at_:=tm }
def Zm (tm:Int) (p:Xd->Bool) (ts:List Xd):List Item:=(ts.filter fun t=>!t.pd&&p t).map fun t=>Item.tok (U6 tm t)
theorem Xng {α:Type} {f:α->Nat} {ls:List α} {m:Nat} (h:∀ l∈ls,m<f l):ls.any (fun l=>f l==m)=false:=by
 rw [List.any_eq_false];intro l hl;have:=h l hl;simp;omega
theorem Mx {tm:Int} {p:Xc->Bool}:∀(ls:List Xc) (s:VSt),ls.Pairwise (fun a b=>a.n<b.n)->s.lks.Pairwise (fun a b=>a.n<b.n)->(∀ l∈ls,l∈s.lks)->(∀ l∈ls,l.n<=s.ln)->Yq (X3 tm p ls) s=⟨s.tn,s.ln,s.tks,s.lks.map fun z=>if ls.any (fun l=>l.n==z.n)&&goL tm p z then Z9 tm z else z⟩
 | [],s,_,_,_,_=>by
  obtain⟨tn,ln,tks,lks⟩:=s;simp [X3,Yq]
 | a :: ls,s,hp,hs,hm,hn=>by
  obtain⟨h1,h2⟩:=List.pairwise_cons.1 hp;have ham:=hm a (by simp)
  by_cases hg:goL tm p a=true
  ·have e:X3 tm p (a :: ls)=.lea (Z9 tm a) :: X3 tm p ls:=by
    have hg':(!a.pd&&decide (tm<a.at_)&&p a)=true:=hg;simp only [X3,List.filter_cons,hg',if_true,List.map_cons];rfl
   have hput:Yc (Z9 tm a) s.lks=s.lks.map (fun z=>if z.n=a.n then Z9 tm a else z):=Xfk (t:=Z9 tm a) hs ham rfl
   have happ:(Item.lea (Z9 tm a)).app s=⟨s.tn,s.ln,s.tks,s.lks.map (fun z=>if z.n=a.n then Z9 tm a else z)⟩:=by
    show VSt.mk s.tn (max s.ln a.n) s.tks (Yc (Z9 tm a) s.lks)=_
    rw [hput,Nat.max_eq_left (hn a (by simp))]
   rw [e]
   show Yq (X3 tm p ls) ((Item.lea (Z9 tm a)).app s)=_
   rw [happ,Mx ls ⟨s.tn,s.ln,s.tks,s.lks.map (fun z=>if z.n=a.n then Z9 tm a else z)⟩ h2 (by
     show (s.lks.map (fun z=>if z.n=a.n then Z9 tm a else z)).Pairwise _
     rw [<- hput]
     exact Mc hs (.inl ⟨a,ham,rfl⟩)) (fun l hl=>List.mem_map.2 ⟨l,hm l (List.mem_cons_of_mem _ hl),if_neg (by have:=h1 l hl;omega)⟩) (fun l hl=>hn l (List.mem_cons_of_mem _ hl))]
   congr 1
   simp only;rw [List.map_map];refine List.map_congr_left (fun z hz=>?_);simp only [Function.comp]
   by_cases hza:z.n=a.n
   ·have:z=a:=Z5 (f:=Xc.n) hs hz ham hza
    subst this;rw [if_pos rfl];have hno:ls.any (fun l=>l.n==z.n)=false:=Xng (f:=Xc.n) h1;rw [show (Z9 tm z).n=z.n from rfl,hno];simp [hg]
   rw [if_neg hza]
   have:(a.n==z.n)=false:=by rw [beq_eq_false_iff_ne];omega
   simp [this]
  have e:X3 tm p (a :: ls)=X3 tm p ls:=by
   have hg':(!a.pd&&decide (tm<a.at_)&&p a)=false:=by simpa using(show ¬ (!a.pd&&decide (tm<a.at_)&&p a)=true from hg)
   simp only [X3,List.filter_cons,hg',Bool.false_eq_true,if_false]
  rw [e,Mx ls s h2 hs (fun l hl=>hm l (List.mem_cons_of_mem _ hl)) (fun l hl=>hn l (List.mem_cons_of_mem _ hl))]
  congr 1
  refine List.map_congr_left (fun z hz=>?_)
  by_cases hza:z.n=a.n
  ·have:z=a:=Z5 (f:=Xc.n) hs hz ham hza
   subst this
   have:goL tm p z=false:=by simpa using hg
   simp [this]
  have:(a.n==z.n)=false:=by rw [beq_eq_false_iff_ne];omega
  simp [this]
theorem My {tm:Int} {p:Xd->Bool}:∀(ls:List Xd) (s:VSt),ls.Pairwise (fun a b=>a.n<b.n)->s.tks.Pairwise (fun a b=>a.n<b.n)->(∀ l∈ls,l∈s.tks)->(∀ l∈ls,l.n<=s.tn)->Yq (Zm tm p ls) s=⟨s.tn,s.ln,s.tks.map fun z=>if ls.any (fun l=>l.n==z.n)&&(!z.pd&&p z) then U6 tm z else z,s.lks⟩
 | [],s,_,_,_,_=>by
  obtain⟨tn,ln,tks,lks⟩:=s;simp [Zm,Yq]
 | a :: ls,s,hp,hs,hm,hn=>by
  obtain⟨h1,h2⟩:=List.pairwise_cons.1 hp;have ham:=hm a (by simp)
  by_cases hg:(!a.pd&&p a)=true
  ·have e:Zm tm p (a :: ls)=.tok (U6 tm a) :: Zm tm p ls:=by
    simp only [Zm,List.filter_cons,hg,if_true,List.map_cons]
   have hput:Yh (U6 tm a) s.tks=s.tks.map (fun z=>if z.n=a.n then U6 tm a else z):=Xel (t:=U6 tm a) hs ham rfl
   have happ:(Item.tok (U6 tm a)).app s=⟨s.tn,s.ln,s.tks.map (fun z=>if z.n=a.n then U6 tm a else z),s.lks⟩:=by
    show VSt.mk (max s.tn a.n) s.ln (Yh (U6 tm a) s.tks) s.lks=_
    rw [hput,Nat.max_eq_left (hn a (by simp))]
   rw [e]
   show Yq (Zm tm p ls) ((Item.tok (U6 tm a)).app s)=_
   rw [happ,My ls ⟨s.tn,s.ln,s.tks.map (fun z=>if z.n=a.n then U6 tm a else z),s.lks⟩ h2 (by
     show (s.tks.map (fun z=>if z.n=a.n then U6 tm a else z)).Pairwise _
     rw [<- hput]
     exact V9 hs (.inl ⟨a,ham,rfl⟩)) (fun l hl=>List.mem_map.2 ⟨l,hm l (List.mem_cons_of_mem _ hl),if_neg (by have:=h1 l hl;omega)⟩) (fun l hl=>hn l (List.mem_cons_of_mem _ hl))]
   congr 1
   simp only;rw [List.map_map];refine List.map_congr_left (fun z hz=>?_);simp only [Function.comp]
   by_cases hza:z.n=a.n
   ·have:z=a:=Z5 (f:=Xd.n) hs hz ham hza
    subst this;rw [if_pos rfl];have hno:ls.any (fun l=>l.n==z.n)=false:=Xng (f:=Xd.n) h1;rw [show (U6 tm z).n=z.n from rfl,hno];simp [hg]
   rw [if_neg hza]
   have:(a.n==z.n)=false:=by rw [beq_eq_false_iff_ne];omega
   simp [this]
  have e:Zm tm p (a :: ls)=Zm tm p ls:=by
   have hg':(!a.pd&&p a)=false:=by simpa using hg
   simp only [Zm,List.filter_cons,hg',Bool.false_eq_true,if_false]
  rw [e,My ls s h2 hs (fun l hl=>hm l (List.mem_cons_of_mem _ hl)) (fun l hl=>hn l (List.mem_cons_of_mem _ hl))]
  congr 1
  refine List.map_congr_left (fun z hz=>?_)
  by_cases hza:z.n=a.n
  ·have:z=a:=Z5 (f:=Xd.n) hs hz ham hza
   subst this
   have:(!z.pd&&p z)=false:=by simpa using hg
   simp [this]
  have:(a.n==z.n)=false:=by rw [beq_eq_false_iff_ne];omega
  simp [this]
theorem Tryz.Xm8 (B:Nat) (k:Blk) (vx:VX) (tm:Int) (s:VSt) (c:List UInt8) (l f:Int) (is:List Item) (v:Value) (w:World) (hW:Whole w k vx tm s c l f) (hl:l<0) (hl1 : -999999990<=l) (hf:f<0) (hf1 : -999999990<=f) (hc:c.length<=900000000000) (hrow:w.ownsRow B 135 10 v is.length (Yi (is.map Item.rec_))) (hn1:is.length<=50) (hF:Yr is s) :
  Calls prog 66 #[.pointer (some ⟨k.vb,0,none⟩),v] w fun e w'=>e=.returned .nilIface/\(∃ c' l' f',c'.length<=c.length+70000/\Whole w' k vx tm (Yq is s) c' l' f')/\Spares k.turns w w':=by
 cases is with
 | nil =>
  refine(Xs1 k.vb v w (Xe6 hrow)).mono ?_;rintro e w' ⟨rfl,rfl⟩;exact⟨rfl,⟨c,l,f,by omega,hW⟩,Spares.of_below (Below.refl _ _)⟩
 | cons i is =>
  obtain⟨g,cap,rfl⟩:=Xjo hrow (by simp);obtain⟨hlo,cs,hB⟩:=Xm hrow (g:=g) rfl;have hkl:=Jp hW.v.t0 hW.v.t1 hF hn1;refine(Xuo k vx tm s c l f (i :: is) g cap w hW hl hl1 hf hf1 hc (Xcm hrow) hB.lt (hW.no hB (by decide) (by decide)) (by simp) hn1 hF).mono ?_;rintro e w' ⟨rfl,hW',hs'⟩;exact⟨rfl,⟨_,_,_,by rw [List.length_append];omega,hW'⟩,hs'⟩
end Go.Proofs
namespace Go.Proofs
open Go.RowKit Go.Sort Go.Lib Go.Shelf Go.Maps Go.WideMaps
theorem Tryz.Xkg (vb:Nat) (w:World) (pre:List UInt8) (hpl:pre.length<=1000000) (hne:pre ≠ []) (hbad:pathI pre=false) :
  Calls prog 52 #[.pointer (some ⟨vb,0,none⟩),.string ⟨pre.toArray⟩] w fun e w'=>e=.returned (.tuple #[.int .i64 0,Jf 2])/\Below w.heap.size w w':=by
 have hB0:Below w.heap.size w (w.alloc (.cells #[.string ⟨pre.toArray⟩] 9)):=(Below.refl _ w).alloc (Nat.le_refl _) _
 have hV:=fun W=>valid pre W hpl
 rw [hbad] at hV
 have h0:(pre == [])=false:=by simpa using hne
 have hl0:((pre.length:Int)==0)=false:=by
  rw [beq_eq_false_iff_ne];intro e;exact hne (List.length_eq_zero_iff.1 (by omega))
 go_enter func52,ntmps52
 go_wp2_with (go_at_call 92;refine(hV _).mono ?_;rintro e w1 ⟨rfl,hb1⟩)
 exact bodyPost_ret (v:=.tuple #[.int .i64 0,Jf 2]) (by simp [results,results52,go_sem,Jf]) rfl ⟨rfl,hB0.trans (hb1.mono hB0.size)⟩
theorem Xjc {α:Type} {f:α->Nat} {ls:List α} {z:α} (h:z∈ls):ls.any (fun l=>f l==f z)=true:=List.any_eq_true.2 ⟨z,h,by simp⟩
theorem Xer {tm:Int} {p:Xc->Bool} {tn ln:Nat} {tks:List Xd} {lks:List Xc} (hs:lks.Pairwise (fun a b=>a.n<b.n)) (hn:∀ l∈lks,l.n<=ln):Yq (X3 tm p lks) ⟨tn,ln,tks,lks⟩=⟨tn,ln,tks,lks.map fun z=>if goL tm p z then Z9 tm z else z⟩:=by
 rw [Mx lks ⟨tn,ln,tks,lks⟩ hs hs (fun _ h=>h) hn]
 congr 1
 exact List.map_congr_left (fun z hz=>by rw [Xjc (f:=Xc.n) hz,Bool.true_and])
theorem Xjp {tm:Int} {p:Xc->Bool} {s:VSt} (t0:0<=tm) (t1:tm<=18446744073709551615) (hok:Xx s.tks s.lks) (okL:∀ l∈s.lks,Xdg l):∀ i∈X3 tm p s.lks,i.Old s:=fun i hi=>by
 obtain⟨l,hl,rfl⟩:=List.mem_map.1 hi;have hm:=(List.mem_filter.1 hl).1;have ho:=okL l hm;exact⟨⟨t0,t1,ho.r0,ho.r1,ho.l0,ho.l1,ho.p1,ho.pa⟩,⟨l,hm,rfl⟩,(hok.limL l hm).1,(hok.limL l hm).2⟩
theorem Xjf {tm:Int} {p:Xc->Bool} {lks:List Xc}:(X3 tm p lks).length<=lks.length:=by unfold X3;rw [List.length_map];exact List.length_filter_le _ _
theorem Tryz.Xk0 (k:Blk) (vx:VX) (tm:Int) (s:VSt) (c:List UInt8) (l f:Int) (w:World) (hW:Whole w k vx tm s c l f) (hl:l<0) (hl1 : -999999990<=l) (hf:f<0) (hf1 : -999999990<=f) (hc:c.length<=900000000000) (pre:List UInt8) (hpl:pre.length<=1000000) (hgo:pre = []\/pathI pre=true) (nT:s.tks.length<500) (nL:s.lks.length<50) :
  Calls prog 52 #[.pointer (some ⟨k.vb,0,none⟩),.string ⟨pre.toArray⟩] w fun e w'=>e=.returned (.tuple #[.int .i64 ((X3 tm (fun l=>beginsB l.pth pre) s.lks).length:Nat),.nilIface])/\(∃ c' l' f',c'.length<=c.length+70000/\Whole w' k vx tm ⟨s.tn,s.ln,s.tks,s.lks.map fun z=>if goL tm (fun l=>beginsB l.pth pre) z then Z9 tm z else z⟩ c' l' f')/\Spares k.turns w w':=by
 have hok:=hW.v.va.ok
 have hmf:∀(fn:Fn) (first cap:Array Value) (w:World),(Instr.makeFunc fn first cap).run prog w=.ok (.func fn first cap) w:=fun _ _ _ _=>rfl
 have hF:Yr (X3 tm (fun l=>beginsB l.pth pre) s.lks) s:=Vd _ _ (Xjp hW.v.t0 hW.v.t1 hok hW.v.okL) hok.incT hok.incL nT (by omega);have hst:Yq (X3 tm (fun l=>beginsB l.pth pre) s.lks) s=⟨s.tn,s.ln,s.tks,s.lks.map fun z=>if goL tm (fun l=>beginsB l.pth pre) z then Z9 tm z else z⟩:=Xer (tn:=s.tn) (tks:=s.tks) hok.incL hW.v.nl;have hn:(X3 tm (fun l=>beginsB l.pth pre) s.lks).length<=50:=Nat.le_trans Xjf (by omega);have hB0:Below w.heap.size w (w.alloc (.cells #[.string ⟨pre.toArray⟩] 9)):=(Below.refl _ w).alloc (Nat.le_refl _) _;have bP:=BoxN.new w 9 #[.string ⟨pre.toArray⟩]
 have hV:=fun W=>valid pre W hpl
 have hR:∀ W,Below (w.heap.size+1) (w.alloc (.cells #[.string ⟨pre.toArray⟩] 9)) W->Calls prog 86 #[.pointer (some ⟨k.vb,0,none⟩),.func (.func 93) #[] #[.pointer (some ⟨w.heap.size,0,none⟩)]] W fun e w'=>∃ v,e=.returned v/\w'.ownsRow W.heap.size 135 10 v (X3 tm (fun l=>beginsB l.pth pre) s.lks).length (Yi ((X3 tm (fun l=>beginsB l.pth pre) s.lks).map Item.rec_))/\Below W.heap.size W w':=fun W hb=>by
  have bP':=bP.below hb (by omega);exact callsIn_wide.1 (Xn2 k.vb k.mt k.ml vx tm s.tn s.ln s.tks s.lks W (hW.v.va.below (hB0.trans (hb.mono (by omega)))) w.heap.size (fun l=>beginsB l.pth pre) (fun l hl W' hb'=>Xpj w.heap.size pre l W' (bP'.below hb' bP'.lt)))
 have hK:∀ W v,Below w.heap.size w W->(∃ B,W.ownsRow B 135 10 v (X3 tm (fun l=>beginsB l.pth pre) s.lks).length (Yi ((X3 tm (fun l=>beginsB l.pth pre) s.lks).map Item.rec_)))->Calls prog 66 #[.pointer (some ⟨k.vb,0,none⟩),v] W fun e w'=>e=.returned .nilIface/\(∃ c' l' f',c'.length<=c.length+70000/\Whole w' k vx tm ⟨s.tn,s.ln,s.tks,s.lks.map fun z=>if goL tm (fun l=>beginsB l.pth pre) z then Z9 tm z else z⟩ c' l' f')/\Spares k.turns W w':=fun W v hb ⟨B,hr⟩=>by
  have h:=Xm8 B k vx tm s c l f _ v W (hW.below hb) hl hl1 hf hf1 hc hr hn hF;rw [hst] at h;exact h
 have hsz:(w.alloc (.cells #[.string ⟨pre.toArray⟩] 9)).heap.size=w.heap.size+1:=by simp
 obtain⟨n,hnn⟩:∃ n,(X3 tm (fun l=>beginsB l.pth pre) s.lks).length=n:=⟨_,rfl⟩
 have hform:∀ {W:World} {B:Nat} {v:Value} {xs:List Value},W.ownsRow B 135 10 v n xs->∃ p cap,v=.slice p n cap:=fun h=>by
  rcases h.2 with⟨rfl,h0⟩ | ⟨g,cap,cur,rfl,-⟩
  ·exact⟨none,0,by rw [show n=0 from by omega]⟩
  exact⟨_,cap,rfl⟩
 rw [hnn] at hR hK hn ⊢;clear hst hF hnn bP
 by_cases h0:pre = []
 focus
  subst h0;go_enter func52,ntmps52
  go_wp2_with (first
   | (go_at_call 86;refine(hR _ (Below.refl _ _)).mono ?_;rintro e w2 ⟨v,rfl,hr2,hb2⟩;obtain⟨p,cap,rfl⟩:=hform hr2;have hB2:Below w.heap.size w w2:=hB0.trans (hb2.mono hB0.size);have hK2:=hK w2 _ hB2 ⟨_,hr2⟩)
   | (go_at_call 66;refine hK2.mono ?_;rintro e w3 ⟨rfl,hW3,hs3⟩))
 rotate_left
 focus
  have hv:pathI pre=true:=hgo.resolve_left h0
  have h0':(pre == [])=false:=by simpa using h0
  have hl0:((pre.length:Int)==0)=false:=by
   rw [beq_eq_false_iff_ne];intro e;exact h0 (List.length_eq_zero_iff.1 (by omega))
  rw [hv] at hV;go_enter func52,ntmps52
  go_wp2_with (first
   | (go_at_call 92;refine(hV _).mono ?_;rintro e w1 ⟨rfl,hb1⟩)
   | (go_at_call 86;refine(hR _ (hb1.mono (by simp))).mono ?_;rintro e w2 ⟨v,rfl,hr2,hb2⟩;obtain⟨p,cap,rfl⟩:=hform hr2;have hB2:Below w.heap.size w w2:=(hB0.trans (hb1.mono hB0.size)).trans (hb2.mono (Nat.le_trans hB0.size hb1.size));have hK2:=hK w2 _ hB2 ⟨_,hr2⟩)
   | (go_at_call 66;refine hK2.mono ?_;rintro e w3 ⟨rfl,hW3,hs3⟩))
 rotate_left
 all_goals
  exact bodyPost_ret (v:=.tuple #[.int .i64 (n:Nat),.nilIface]) (by simp [results,results52,go_sem]) rfl ⟨rfl,hW3,(Spares.of_below hB2).trans hs3⟩
attribute [local go_sem] Oper.semAt_some
structure Tryz.LkV (bv vb c m nb:Nat) (tm:TypeId) (k u:Int) (r:Value) (W:World):Prop where
 bx:W.cell? ⟨bv,0,none⟩=some (.pointer (some ⟨vb,0,none⟩))
 mp:W.cell? ⟨vb,c,none⟩=some (.map (some m))
 n0:W.cell? ⟨nb,0,none⟩=some (.int .i64 k)
 n1:W.cell? ⟨nb,1,none⟩=some (.int .u64 u)
 lk:(Instr.lookup tm (.map (some m)) (.agg #[.int .i64 k,.int .u64 u]) true).run Tryz.prog W=.ok r W
theorem Xsq {W:World} {B size n:Nat} {e:TypeId} {v:Value} {xs:List Value} (h:W.ownsRow B e size v n xs):∃ p cap,v=.slice p n cap:=by
 rcases h.2 with⟨rfl,h0⟩ | ⟨g,cap,cur,rfl,-⟩
 ·exact⟨none,0,by rw [show n=0 from by omega]⟩
 exact⟨_,cap,rfl⟩
theorem Tryz.Whole.own {W W':World} {k:Blk} {vx:VX} {tm:Int} {s:VSt} {c:List UInt8} {l f:Int} (h:Whole W k vx tm s c l f) {r:Nat} {o:Obj} (hS:Spares [r] W W') (ho:W.heap[r]? = some o) (hc:o.isCells=false) (h6:6<=r) (hr:r∉k.turns):Whole W' k vx tm s c l f:=by
 have nb:∀ {b:Nat} {t:TypeId} {cs:Array Value},BoxN W b t cs->b ∉ [r]:=fun {b} {t} {cs} hB hm=>by
  rw [<- List.mem_singleton.1 hm,show W.heap[b]? = _ from hB] at ho;cases ho;cases hc
 exact h.spared hS (fun b hb hm=>hr (by rw [<- List.mem_singleton.1 hm];exact hb)) (nb h.j) (fun b x hx=>nb hx) (fun b hb=>by rw [List.mem_singleton.1 hb];exact h6)
theorem Xqv {tm:Int} {p:Xd->Bool} {s:VSt} (t0:0<=tm) (t1:tm<=18446744073709551615) (hok:Xx s.tks s.lks) (okT:∀ l∈s.tks,Xc7 l):∀ i∈Zm tm p s.tks,i.Old s:=fun i hi=>by
 obtain⟨l,hl,rfl⟩:=List.mem_map.1 hi;have hm:=(List.mem_filter.1 hl).1;have ho:=okT l hm;exact⟨⟨t0,t1,ho.r0,ho.r1⟩,⟨l,hm,rfl⟩,(hok.limT l hm).1,(hok.limT l hm).2⟩
theorem Xpq {tm:Int} {p:Xd->Bool} {tks:List Xd}:(Zm tm p tks).length<=tks.length:=by unfold Zm;rw [List.length_map];exact List.length_filter_le _ _
theorem Xk4 {tm:Int} {p:Xd->Bool} {tn ln:Nat} {tks:List Xd} {lks:List Xc} (hs:tks.Pairwise (fun a b=>a.n<b.n)) (hn:∀ l∈tks,l.n<=tn):Yq (Zm tm p tks) ⟨tn,ln,tks,lks⟩=⟨tn,ln,tks.map fun z=>if !z.pd&&p z then U6 tm z else z,lks⟩:=by
 rw [My tks ⟨tn,ln,tks,lks⟩ hs hs (fun _ h=>h) hn]
 congr 1
 exact List.map_congr_left (fun z hz=>by rw [Xjc (f:=Xd.n) hz,Bool.true_and])
def Tryz.Xtj (t:TypeId):Bool:=t==162||t==135||t==153
theorem Uo {P:Program} {c:Code} {K:Act->World->Prop} {Q:Exit->Act->World->Prop} {a:Act} {w:World} (h:c.wp P (Exit.then K (fun _ _ _=>False)) a w):c.wp P (Exit.then K Q) a w:=
 wp_mono h (fun e a w hq=>by cases e <;> first | exact hq | exact hq.elim)
abbrev Tryz.NbP (nb:Nat) (k u:Int) (W:World):Prop:=W.cell? ⟨nb,0,none⟩=some (.int .i64 k)/\W.cell? ⟨nb,1,none⟩=some (.int .u64 u)
theorem Tryz.Xlu (vb mt ml:Nat) (vx:VX) (tm tn ln:Int) (tks:List Xd) (lks:List Xc) (w:World) (hV:Xq w vb mt ml vx tm tn ln tks lks) (id:List UInt8) (hid:id.length<=1000000) (x:Int × Int) (hp:parseN id=x) (hw:Zq x) (hn:∀ t∈tks,x≠(1,(t.n:Int))) :
  CallsIn Fence.wide 9 prog 50 #[.pointer (some ⟨vb,0,none⟩),.string ⟨id.toArray⟩] w fun e w'=>e=.returned (Jf 1)/\Below w.heap.size w w':=by
 have hB0:Below w.heap.size w (w.alloc (.cells #[.pointer (some ⟨vb,0,none⟩)] 76)):=(Below.refl _ w).alloc (Nat.le_refl _) _;have hV0:=hV.below hB0;have hP:=parse ⟨id.toArray⟩ (by simpa [ByteArray.size] using hid) _ hV0.env hV0.six;simp only [hp] at hP;have bV:=BoxN.new w 76 #[.pointer (some ⟨vb,0,none⟩)];have lv:=hV.v.lt;have hfp:Fence.wide.fn 63:=trivial;have hfr:Fence.wide.fn 85:=trivial;unfold nmV at hP;refine callsIn_of_wp_marks func50 rfl trivial ?_ rfl;simp only [ntmps50,List.size_toArray,List.length_cons,List.length_nil,Nat.reduceAdd,Nat.reduceSub,Array.replicate_succ,Array.replicate_zero,List.push_toArray,List.append_toArray,List.nil_append,List.cons_append]
 gi_wp2_with (gi_at_call 63;refine(callsIn_wide.2 hP).mono ?_;rintro e w1 ⟨rfl,hb1'⟩)
 have hB1:=(hB0.trans (hb1'.mono hB0.size)).alloc (Nat.le_trans hB0.size hb1'.size) (.cells #[.int .i64 x.1,.int .u64 x.2] 114);have bN:=BoxN.new w1 114 #[.int .i64 x.1,.int .u64 x.2];have bV1:=(bV.below hb1' bV.lt).alloc (.cells #[.int .i64 x.1,.int .u64 x.2] 114)
 obtain⟨N,hs0⟩:∃ N,(w1.alloc (.cells #[.int .i64 x.1,.int .u64 x.2] 114)).heap.size=N:=⟨_,rfl⟩
 have hN:N=w1.heap.size+1:=by rw [<- hs0];simp
 obtain⟨nb,hnb⟩:∃ nb,w1.heap.size=nb:=⟨_,rfl⟩
 have hz1:w.heap.size<nb:=by rw [<- hnb];have:=hb1'.size;simp at this;omega
 rw [hnb] at bN hN;rw [hnb];generalize (w1.alloc (.cells #[.int .i64 x.1,.int .u64 x.2] 114))=W1 at *;clear hnb hb1' hP hV0 hB0 bV
 have hS:∀ W,Below N W1 W->LkV w.heap.size vb 3 mt nb 120 x.1 x.2 (.tuple #[.agg #[.int .i64 0,.int .u64 0,.int .u64 0,.int .i64 0,.bool false],.bool false]) W:=fun W hb=>by
  have bN':=bN.below hb (by omega);have bV':=bV1.below hb (by omega);have hV':=hV.below (hB1.trans (hb.mono (by omega)));exact⟨bV'.cell 0 rfl,hV'.v.cell 3 rfl,bN'.cell 0 rfl,bN'.cell 1 rfl,hV'.Xaa hw hn⟩
 have hb1:Below N W1 W1.drew:=(Below.refl _ _).drew;refine wpIn_wide.2 (Uo ?_);refine wp_region_held_drew (S:=(LkV w.heap.size vb 3 mt nb 120 x.1 x.2 (.tuple #[.agg #[.int .i64 0,.int .u64 0,.int .u64 0,.int .i64 0,.bool false],.bool false]))) (by kernel_rfl) (hS _ hb1) (fun hS0=>?_);refine Xt 0 ?v0 rfl ?y0 hS0 ?_
 case y0=>(rintro w ⟨q0,q1,q2,q3,q4⟩;go_simp;try with_reducible rfl)
 refine Xt 1 ?v1 rfl ?y1 hS0 ?_
 case y1=>(rintro w ⟨q0,q1,q2,q3,q4⟩;go_simp;try with_reducible rfl)
 refine Xt 2 ?v2 rfl ?y2 hS0 ?_
 case y2=>(rintro w ⟨q0,q1,q2,q3,q4⟩;go_simp;try with_reducible rfl)
 refine Xt 3 ?v3 rfl ?y3 hS0 ?_
 case y3=>(rintro w ⟨q0,q1,q2,q3,q4⟩;go_simp;try with_reducible rfl)
 refine Xt 4 ?v4 rfl ?y4 hS0 ?_
 case y4=>(rintro w ⟨q0,q1,q2,q3,q4⟩;go_simp;try with_reducible rfl)
 refine Xt 5 ?v5 rfl ?y5 hS0 ?_
 case y5=>(rintro w ⟨q0,q1,q2,q3,q4⟩;go_simp;try with_reducible rfl)
 refine Xt 6 ?v6 rfl ?y6 hS0 ?_
 case y6=>(rintro w ⟨q0,q1,q2,q3,q4⟩;go_simp;try with_reducible rfl)
 refine Xt 7 ?v7 rfl ?y7 hS0 ?_
 case y7=>(rintro w ⟨q0,q1,q2,q3,q4⟩;go_simp;try with_reducible rfl)
 refine Xt 8 ?v8 rfl ?y8 hS0 ?_
 case y8=>(rintro w ⟨q0,q1,q2,q3,q4⟩;go_simp;try with_reducible rfl)
 refine Xh 9 rfl fun K hK=>?_;go_simp;refine hK.out _ _ (hS _ (hb1.alloc (by simp [hs0]) _)) (fun hS1=>?_);clear hK K;refine Xh 10 rfl fun K hK=>?_;go_simp;have hb2:Below N W1 (W1.alloc (.cells #[.int .i64 0,.int .u64 0,.int .u64 0,.int .i64 0,.bool false] 153)).drew:=((Below.refl _ _).alloc (by omega) _).drew;refine hK.out _ _ (hS _ hb2) (fun hS2=>?_);clear hK K;refine Xh 11 rfl fun K hK=>?_;go_simp;refine hK.out _ _ hS2 (fun _=>?_);clear hK K hS0 hS1 hS2;refine wpAnyH_done (by kernel_rfl) ?_ _;have bN2:=bN.below hb2 (by omega);have hB2:=hB1.trans (hb2.mono (by omega));clear hS hb1 hb2;generalize (W1.alloc (.cells #[.int .i64 0,.int .u64 0,.int .u64 0,.int .i64 0,.bool false] 153)).drew=W2 at *
 have hQ2:NbP nb x.1 x.2 W2.drew:=⟨bN2.cell 0 rfl,bN2.cell 1 rfl⟩
 gi_wp2_with fail
 refine wpIn_wide.2 (Uo ?_);refine wp_region_held_drew (S:=NbP nb x.1 x.2) (by kernel_rfl) hQ2 (fun hS1=>?_);refine Xt 0 ?av0 rfl ?ay0 hS1 ?_
 case ay0=>(rintro w ⟨q0,q1⟩;go_simp;try with_reducible rfl)
 refine Xt 1 ?av1 rfl ?ay1 hS1 ?_
 case ay1=>(rintro w ⟨q0,q1⟩;go_simp;try with_reducible rfl)
 refine Xt 2 ?av2 rfl ?ay2 hS1 ?_
 case ay2=>(rintro w ⟨q0,q1⟩;go_simp;try with_reducible rfl)
 refine Xu 3 rfl hS1 ?_;refine Xu 4 rfl hS1 ?_;refine Xu 5 rfl hS1 ?_;refine Xt 6 ?av6 rfl ?ay6 hS1 ?_
 case ay6=>(rintro w ⟨q0,q1⟩;go_simp;try with_reducible rfl)
 refine wpAnyH_done (by kernel_rfl) ?_ _;go_simp
 gi_wp2
 exact⟨_,results_tmp rfl _ _ _,by simp [Jf],hB2.drew⟩
theorem Tryz.Xia (vb mt ml:Nat) (vx:VX) (tm tn ln:Int) (tks:List Xd) (lks:List Xc) (w:World) (hV:Xq w vb mt ml vx tm tn ln tks lks) (id:List UInt8) (hid:id.length<=1000000) (t:Xd) (ht:t∈tks) (h0:t.n=0) (hp:parseN id=(1,(t.n:Int))) :
  CallsIn Fence.wide 9 prog 50 #[.pointer (some ⟨vb,0,none⟩),.string ⟨id.toArray⟩] w fun e w'=>e=.returned (Jf 1)/\Below w.heap.size w w':=by
 have H0:=Xb h0;clear h0;have hB0:Below w.heap.size w (w.alloc (.cells #[.pointer (some ⟨vb,0,none⟩)] 76)):=(Below.refl _ w).alloc (Nat.le_refl _) _;have hV0:=hV.below hB0;have hP:=parse ⟨id.toArray⟩ (by simpa [ByteArray.size] using hid) _ hV0.env hV0.six;simp only [hp] at hP;have bV:=BoxN.new w 76 #[.pointer (some ⟨vb,0,none⟩)];have lv:=hV.v.lt;have hfp:Fence.wide.fn 63:=trivial;have hfr:Fence.wide.fn 85:=trivial;unfold nmV at hP;refine callsIn_of_wp_marks func50 rfl trivial ?_ rfl;simp only [ntmps50,List.size_toArray,List.length_cons,List.length_nil,Nat.reduceAdd,Nat.reduceSub,Array.replicate_succ,Array.replicate_zero,List.push_toArray,List.append_toArray,List.nil_append,List.cons_append]
 gi_wp2_with (gi_at_call 63;refine(callsIn_wide.2 hP).mono ?_;rintro e w1 ⟨rfl,hb1'⟩)
 have hB1:=(hB0.trans (hb1'.mono hB0.size)).alloc (Nat.le_trans hB0.size hb1'.size) (.cells #[.int .i64 1,.int .u64 (t.n:Int)] 114);have bN:=BoxN.new w1 114 #[.int .i64 1,.int .u64 (t.n:Int)];have bV1:=(bV.below hb1' bV.lt).alloc (.cells #[.int .i64 1,.int .u64 (t.n:Int)] 114)
 obtain⟨N,hs0⟩:∃ N,(w1.alloc (.cells #[.int .i64 1,.int .u64 (t.n:Int)] 114)).heap.size=N:=⟨_,rfl⟩
 have hN:N=w1.heap.size+1:=by rw [<- hs0];simp
 obtain⟨nb,hnb⟩:∃ nb,w1.heap.size=nb:=⟨_,rfl⟩
 have hz1:w.heap.size<nb:=by rw [<- hnb];have:=hb1'.size;simp at this;omega
 rw [hnb] at bN hN;rw [hnb];generalize (w1.alloc (.cells #[.int .i64 1,.int .u64 (t.n:Int)] 114))=W1 at *;clear hnb hb1' hP hV0 hB0 bV
 have hS:∀ W,Below N W1 W->LkV w.heap.size vb 3 mt nb 120 1 (t.n:Int) (.tuple #[.agg #[.int .i64 t.ak,.int .u64 (t.au:Int),.int .u64 t.at_,.int .i64 t.tr,.bool t.pd],.bool true]) W:=fun W hb=>by
  have bN':=bN.below hb (by omega);have bV':=bV1.below hb (by omega);have hV':=hV.below (hB1.trans (hb.mono (by omega)));exact⟨bV'.cell 0 rfl,hV'.v.cell 3 rfl,bN'.cell 0 rfl,bN'.cell 1 rfl,hV'.Xhi ht⟩
 have hb1:Below N W1 W1.drew:=(Below.refl _ _).drew;refine wpIn_wide.2 (Uo ?_);refine wp_region_held_drew (S:=(LkV w.heap.size vb 3 mt nb 120 1 (t.n:Int) (.tuple #[.agg #[.int .i64 t.ak,.int .u64 (t.au:Int),.int .u64 t.at_,.int .i64 t.tr,.bool t.pd],.bool true]))) (by kernel_rfl) (hS _ hb1) (fun hS0=>?_);refine Xt 0 ?v0 rfl ?y0 hS0 ?_
 case y0=>(rintro w ⟨q0,q1,q2,q3,q4⟩;go_simp;try with_reducible rfl)
 refine Xt 1 ?v1 rfl ?y1 hS0 ?_
 case y1=>(rintro w ⟨q0,q1,q2,q3,q4⟩;go_simp;try with_reducible rfl)
 refine Xt 2 ?v2 rfl ?y2 hS0 ?_
 case y2=>(rintro w ⟨q0,q1,q2,q3,q4⟩;go_simp;try with_reducible rfl)
 refine Xt 3 ?v3 rfl ?y3 hS0 ?_
 case y3=>(rintro w ⟨q0,q1,q2,q3,q4⟩;go_simp;try with_reducible rfl)
 refine Xt 4 ?v4 rfl ?y4 hS0 ?_
 case y4=>(rintro w ⟨q0,q1,q2,q3,q4⟩;go_simp;try with_reducible rfl)
 refine Xt 5 ?v5 rfl ?y5 hS0 ?_
 case y5=>(rintro w ⟨q0,q1,q2,q3,q4⟩;go_simp;try with_reducible rfl)
 refine Xt 6 ?v6 rfl ?y6 hS0 ?_
 case y6=>(rintro w ⟨q0,q1,q2,q3,q4⟩;go_simp;try with_reducible rfl)
 refine Xt 7 ?v7 rfl ?y7 hS0 ?_
 case y7=>(rintro w ⟨q0,q1,q2,q3,q4⟩;go_simp;try with_reducible rfl)
 refine Xt 8 ?v8 rfl ?y8 hS0 ?_
 case y8=>(rintro w ⟨q0,q1,q2,q3,q4⟩;go_simp;try with_reducible rfl)
 refine Xh 9 rfl fun K hK=>?_;go_simp;refine hK.out _ _ (hS _ (hb1.alloc (by simp [hs0]) _)) (fun hS1=>?_);clear hK K;refine Xh 10 rfl fun K hK=>?_;go_simp;have hb2:Below N W1 (W1.alloc (.cells #[.int .i64 t.ak,.int .u64 (t.au:Int),.int .u64 t.at_,.int .i64 t.tr,.bool t.pd] 153)).drew:=((Below.refl _ _).alloc (by omega) _).drew;refine hK.out _ _ (hS _ hb2) (fun hS2=>?_);clear hK K;refine Xh 11 rfl fun K hK=>?_;go_simp;refine hK.out _ _ hS2 (fun _=>?_);clear hK K hS0 hS1 hS2;refine wpAnyH_done (by kernel_rfl) ?_ _;have bN2:=bN.below hb2 (by omega);have hB2:=hB1.trans (hb2.mono (by omega));clear hS hb1 hb2;generalize (W1.alloc (.cells #[.int .i64 t.ak,.int .u64 (t.au:Int),.int .u64 t.at_,.int .i64 t.tr,.bool t.pd] 153)).drew=W2 at *
 have hQ2:NbP nb 1 (t.n:Int) W2.drew:=⟨bN2.cell 0 rfl,bN2.cell 1 rfl⟩
 gi_wp2_with fail
 refine wpIn_wide.2 (Uo ?_);refine wp_region_held_drew (S:=NbP nb 1 (t.n:Int)) (by kernel_rfl) hQ2 (fun hS1=>?_);refine Xt 0 ?av0 rfl ?ay0 hS1 ?_
 case ay0=>(rintro w ⟨q0,q1⟩;go_simp;try with_reducible rfl)
 refine Xt 1 ?av1 rfl ?ay1 hS1 ?_
 case ay1=>(rintro w ⟨q0,q1⟩;go_simp;try with_reducible rfl)
 refine Xt 2 ?av2 rfl ?ay2 hS1 ?_
 case ay2=>(rintro w ⟨q0,q1⟩;go_simp;try with_reducible rfl)
 have h0':((t.n:Int)==0)=true:=by have:=Xa H0;rw [beq_iff_eq];omega
 refine Xt 3 ?av3 rfl ?ay3 hS1 ?_
 case ay3=>(rintro w ⟨q0,q1⟩;go_simp;try with_reducible rfl)
 refine Xh 4 rfl fun K hK=>?_;go_simp;have hRt:=root W2.drew;unfold nmV at hRt;refine hRt.mono ?_;rintro e w5 ⟨rfl,hb5⟩
 have hQ5:NbP nb 1 (t.n:Int) w5:=⟨cell_later hb5 hQ2.1,cell_later hb5 hQ2.2⟩
 refine hK.out _ _ hQ5 (fun hS2=>?_);clear hK K;refine Xt 5 ?av5 rfl ?ay5 hS2 ?_
 case ay5=>(rintro w ⟨q0,q1⟩;go_simp;try with_reducible rfl)
 refine Xt 6 ?av6 rfl ?ay6 hS2 ?_
 case ay6=>(rintro w ⟨q0,q1⟩;go_simp;try with_reducible rfl)
 refine wpAnyH_done (by kernel_rfl) ?_ _;go_simp
 gi_wp2
 exact⟨_,results_tmp rfl _ _ _,by simp [Jf],hB2.drew.trans (hb5.mono hB2.drew.size)⟩
end Go.Proofs
namespace Go.Proofs
open Go.RowKit Go.Sort Go.Lib Go.Shelf Go.Maps Go.WideMaps
attribute [local go_sem] Oper.semAt_some
theorem Tryz.Xlp (k:Blk) (vx:VX) (tm:Int) (tn ln:Nat) (tks:List Xd) (lks:List Xc) (c:List UInt8) (l f:Int) (w:World) (hW:Whole w k vx tm ⟨tn,ln,tks,lks⟩ c l f) (hl:l<0) (hl1 : -999999990<=l) (hf:f<0) (hf1 : -999999990<=f) (hc:c.length<=900000000000) (nT:tks.length<=20) (nL:lks.length<=20) (id:List UInt8) (hid:id.length<=1000000) (t:Xd) (ht:t∈tks) (h0:t.n≠0) (hp:parseN id=(1,(t.n:Int))) (bL:Xc->Bool) (bT:Xd->Bool) (hCL:∀ l∈lks,∃ n,Vm tks (1,(t.n:Int)) (bL l) n (l.ak,(l.au:Int))) (hCT:∀ z∈tks,∃ n,Vm tks (1,(t.n:Int)) (bT z) n (1,(z.n:Int))) :
  CallsIn Fence.wide 9 prog 50 #[.pointer (some ⟨k.vb,0,none⟩),.string ⟨id.toArray⟩] w fun e w'=>e=.returned .nilIface/\(∃ c' l' f',c'.length<=c.length+70000/\Whole w' k vx tm ⟨tn,ln,tks.map (fun z=>if !z.pd&&bT z then U6 tm z else z),lks.map (fun z=>if goL tm bL z then Z9 tm z else z)⟩ c' l' f')/\Spares k.turns w w':=by
 obtain⟨vb,hvb⟩:∃ vb,vb=k.vb:=⟨_,rfl⟩
 obtain⟨mt,hmt⟩:∃ mt,mt=k.mt:=⟨_,rfl⟩
 obtain⟨ml,hml⟩:∃ ml,ml=k.ml:=⟨_,rfl⟩
 have hV:Xq w vb mt ml vx tm tn ln tks lks:=by rw [hvb,hmt,hml];exact hW.v.va
 rw [<- hvb];have HKB:=Xb (And.intro hvb (And.intro hmt hml));have HW:=Xb hW;clear hvb hmt hml hW;have H0:=Xb h0;clear h0;have hB0:Below w.heap.size w (w.alloc (.cells #[.pointer (some ⟨vb,0,none⟩)] 76)):=(Below.refl _ w).alloc (Nat.le_refl _) _;have hV0:=hV.below hB0;have hP:=parse ⟨id.toArray⟩ (by simpa [ByteArray.size] using hid) _ hV0.env hV0.six;simp only [hp] at hP;have bV:=BoxN.new w 76 #[.pointer (some ⟨vb,0,none⟩)];have lv:=hV.v.lt;have hfp:Fence.wide.fn 63:=trivial;have hfr:Fence.wide.fn 85:=trivial;unfold nmV at hP;refine callsIn_of_wp_marks func50 rfl trivial ?_ rfl;simp only [ntmps50,List.size_toArray,List.length_cons,List.length_nil,Nat.reduceAdd,Nat.reduceSub,Array.replicate_succ,Array.replicate_zero,List.push_toArray,List.append_toArray,List.nil_append,List.cons_append]
 gi_wp2_with (gi_at_call 63;refine(callsIn_wide.2 hP).mono ?_;rintro e w1 ⟨rfl,hb1'⟩)
 have hB1:=(hB0.trans (hb1'.mono hB0.size)).alloc (Nat.le_trans hB0.size hb1'.size) (.cells #[.int .i64 1,.int .u64 (t.n:Int)] 114);have bN:=BoxN.new w1 114 #[.int .i64 1,.int .u64 (t.n:Int)];have bV1:=(bV.below hb1' bV.lt).alloc (.cells #[.int .i64 1,.int .u64 (t.n:Int)] 114)
 obtain⟨N,hs0⟩:∃ N,(w1.alloc (.cells #[.int .i64 1,.int .u64 (t.n:Int)] 114)).heap.size=N:=⟨_,rfl⟩
 have hN:N=w1.heap.size+1:=by rw [<- hs0];simp
 obtain⟨nb,hnb⟩:∃ nb,w1.heap.size=nb:=⟨_,rfl⟩
 have hz1:w.heap.size<nb:=by rw [<- hnb];have:=hb1'.size;simp at this;omega
 rw [hnb] at bN hN;rw [hnb];generalize (w1.alloc (.cells #[.int .i64 1,.int .u64 (t.n:Int)] 114))=W1 at *;clear hnb hb1' hP hV0 hB0 bV
 have hS:∀ W,Below N W1 W->LkV w.heap.size vb 3 mt nb 120 1 (t.n:Int) (.tuple #[.agg #[.int .i64 t.ak,.int .u64 (t.au:Int),.int .u64 t.at_,.int .i64 t.tr,.bool t.pd],.bool true]) W:=fun W hb=>by
  have bN':=bN.below hb (by omega);have bV':=bV1.below hb (by omega);have hV':=hV.below (hB1.trans (hb.mono (by omega)));exact⟨bV'.cell 0 rfl,hV'.v.cell 3 rfl,bN'.cell 0 rfl,bN'.cell 1 rfl,hV'.Xhi ht⟩
 have hb1:Below N W1 W1.drew:=(Below.refl _ _).drew;refine wpIn_wide.2 (Uo ?_);refine wp_region_held_drew (S:=(LkV w.heap.size vb 3 mt nb 120 1 (t.n:Int) (.tuple #[.agg #[.int .i64 t.ak,.int .u64 (t.au:Int),.int .u64 t.at_,.int .i64 t.tr,.bool t.pd],.bool true]))) (by kernel_rfl) (hS _ hb1) (fun hS0=>?_);refine Xt 0 ?v0 rfl ?y0 hS0 ?_
 case y0=>(rintro w ⟨q0,q1,q2,q3,q4⟩;go_simp;try with_reducible rfl)
 refine Xt 1 ?v1 rfl ?y1 hS0 ?_
 case y1=>(rintro w ⟨q0,q1,q2,q3,q4⟩;go_simp;try with_reducible rfl)
 refine Xt 2 ?v2 rfl ?y2 hS0 ?_
 case y2=>(rintro w ⟨q0,q1,q2,q3,q4⟩;go_simp;try with_reducible rfl)
 refine Xt 3 ?v3 rfl ?y3 hS0 ?_
 case y3=>(rintro w ⟨q0,q1,q2,q3,q4⟩;go_simp;try with_reducible rfl)
 refine Xt 4 ?v4 rfl ?y4 hS0 ?_
 case y4=>(rintro w ⟨q0,q1,q2,q3,q4⟩;go_simp;try with_reducible rfl)
 refine Xt 5 ?v5 rfl ?y5 hS0 ?_
 case y5=>(rintro w ⟨q0,q1,q2,q3,q4⟩;go_simp;try with_reducible rfl)
 refine Xt 6 ?v6 rfl ?y6 hS0 ?_
 case y6=>(rintro w ⟨q0,q1,q2,q3,q4⟩;go_simp;try with_reducible rfl)
 refine Xt 7 ?v7 rfl ?y7 hS0 ?_
 case y7=>(rintro w ⟨q0,q1,q2,q3,q4⟩;go_simp;try with_reducible rfl)
 refine Xt 8 ?v8 rfl ?y8 hS0 ?_
 case y8=>(rintro w ⟨q0,q1,q2,q3,q4⟩;go_simp;try with_reducible rfl)
 refine Xh 9 rfl fun K hK=>?_;go_simp;refine hK.out _ _ (hS _ (hb1.alloc (by simp [hs0]) _)) (fun hS1=>?_);clear hK K;refine Xh 10 rfl fun K hK=>?_;go_simp;have hb2:Below N W1 (W1.alloc (.cells #[.int .i64 t.ak,.int .u64 (t.au:Int),.int .u64 t.at_,.int .i64 t.tr,.bool t.pd] 153)).drew:=((Below.refl _ _).alloc (by omega) _).drew;refine hK.out _ _ (hS _ hb2) (fun hS2=>?_);clear hK K;refine Xh 11 rfl fun K hK=>?_;go_simp;refine hK.out _ _ hS2 (fun _=>?_);clear hK K hS0 hS1 hS2;refine wpAnyH_done (by kernel_rfl) ?_ _;have bN2:=bN.below hb2 (by omega);have hB2:=hB1.trans (hb2.mono (by omega));clear hS hb1;have bV2:=bV1.below hb2 (by omega);clear hb2;generalize (W1.alloc (.cells #[.int .i64 t.ak,.int .u64 (t.au:Int),.int .u64 t.at_,.int .i64 t.tr,.bool t.pd] 153)).drew=W2 at *
 have hQ2:NbP nb 1 (t.n:Int) W2.drew:=⟨bN2.cell 0 rfl,bN2.cell 1 rfl⟩
 gi_wp2_with fail
 refine wpIn_wide.2 (Uo ?_);refine wp_region_held_drew (S:=NbP nb 1 (t.n:Int)) (by kernel_rfl) hQ2 (fun hS1=>?_);refine Xt 0 ?av0 rfl ?ay0 hS1 ?_
 case ay0=>(rintro w ⟨q0,q1⟩;go_simp;try with_reducible rfl)
 refine Xt 1 ?av1 rfl ?ay1 hS1 ?_
 case ay1=>(rintro w ⟨q0,q1⟩;go_simp;try with_reducible rfl)
 refine Xt 2 ?av2 rfl ?ay2 hS1 ?_
 case ay2=>(rintro w ⟨q0,q1⟩;go_simp;try with_reducible rfl)
 have h0':((t.n:Int)==0)=false:=by have:=Xa H0;rw [beq_eq_false_iff_ne];omega
 refine Xt 3 ?av3 rfl ?ay3 hS1 ?_
 case ay3=>(rintro w ⟨q0,q1⟩;go_simp;try with_reducible rfl)
 refine Xh 4 rfl fun K hK=>?_;go_simp;have hRt:=root W2.drew;unfold nmV at hRt;refine hRt.mono ?_;rintro e w5 ⟨rfl,hb5⟩
 have hQ5:NbP nb 1 (t.n:Int) w5:=⟨cell_later hb5 hQ2.1,cell_later hb5 hQ2.2⟩
 refine hK.out _ _ hQ5 (fun hS2=>?_);clear hK K;refine Xt 5 ?av5 rfl ?ay5 hS2 ?_
 case ay5=>(rintro w ⟨q0,q1⟩;go_simp;try with_reducible rfl)
 refine Xt 6 ?av6 rfl ?ay6 hS2 ?_
 case ay6=>(rintro w ⟨q0,q1⟩;go_simp;try with_reducible rfl)
 refine wpAnyH_done (by kernel_rfl) ?_ _;go_simp
 have hmf:∀(fn:Fn) (first cap:Array Value) (w:World),(Instr.makeFunc fn first cap).run prog w=.ok (.func fn first cap) w:=fun _ _ _ _=>rfl
 have bV5:=(show BoxN W2.drew _ _ _ from bV2).below hb5 bV2.lt;have bN5:=(show BoxN W2.drew _ _ _ from bN2).below hb5 bN2.lt;have cV5:=bV5.cell 0 (v:=.pointer (some ⟨vb,0,none⟩)) rfl;have hB5:Below w.heap.size w w5:=hB2.drew.trans (hb5.mono hB2.drew.size);have hV5:=hV.below hB5
 have hRL:=(callsIn_wide (n:=8)).2 (callsIn_wide.1 (Xpc vb mt ml vx tm tn ln tks lks w5 hV5 w.heap.size nb bL (fun l hl W' hb'=>by
  obtain⟨m,hm⟩:=hCL l hl
  exact Xp8 vb mt ml vx tm tn ln tks lks w.heap.size nb (1,(t.n:Int)) l W' (hV5.below hb') (bV5.below hb' bV5.lt) (bN5.below hb' bN5.lt) (bL l) m hm)))
 have hfq:Fence.wide.fn 86:=trivial;have hfw:Fence.wide.fn 79:=trivial;have hfk:Fence.wide.fn 66:=trivial;clear hRt hQ5 hS2 hQ2 hS1 hb5 hB2 bV2 bN2 bV1 hB1 bN
 gi_wp2_with (first
  | (gi_at_call 86;refine hRL.mono ?_;rintro e w6 ⟨v,rfl,hr6,hb6⟩;obtain⟨pp,pcap,rfl⟩:=Xsq hr6;have hB6:Below w.heap.size w w6:=hB5.trans (hb6.mono hB5.size);have bV6:=(bV5.below hb6 bV5.lt).alloc (.cells #[.slice pp (X3 tm bL lks).length pcap] 162);have bN6:=(bN5.below hb6 bN5.lt).alloc (.cells #[.slice pp (X3 tm bL lks).length pcap] 162);have cV6:=bV6.cell 0 (v:=.pointer (some ⟨vb,0,none⟩)) rfl;have hV6:=(hV.below hB6);have bVl:=hV6.v.alloc (.cells #[.slice pp (X3 tm bL lks).length pcap] 162);have cM6:=bVl.cell 3 (v:=.map (some mt)) rfl)
  | (gi_at_call 79;refine(callsIn_wide.2 (Xh3 (some mt) _)).mono ?_;rintro e w' ⟨rfl,rfl⟩))
 obtain⟨v0,hv0⟩:∃ v0,v0=Value.slice pp (X3 tm bL lks).length pcap:=⟨_,rfl⟩
 rw [<- hv0] at hr6 bV6 bN6 cV6 bVl cM6 ⊢;clear hv0;obtain⟨i0,hi,hz0,hz1,hz2⟩:=info_parts Xbo;have hok:=hV.ok;have bL6:BoxN (w6.alloc (.cells #[v0] 162)) w6.heap.size 162 #[v0]:=BoxN.new w6 162 #[v0];have hr7:=hr6.alloc (.cells #[v0] 162);have bM8:=BoxN.new (w6.alloc (.cells #[v0] 162)) 120 #[.map (some mt)];rw [World.size_alloc] at bM8;have hB7:=hB6.alloc hB6.size (.cells #[v0] 162)
 have hz7:(w6.alloc (.cells #[v0] 162)).heap.size=w6.heap.size+1:=by simp
 have hB8:=hB7.alloc hB7.size (.cells #[.map (some mt)] 120)
 have hz8:((w6.alloc (.cells #[v0] 162)).alloc (.cells #[.map (some mt)] 120)).heap.size=w6.heap.size+1+1:=by simp
 have hV8:=hV.below hB8;have bV8:=bV6.alloc (.cells #[.map (some mt)] 120);have bN8:=bN6.alloc (.cells #[.map (some mt)] 120);have bL8:=bL6.alloc (.cells #[.map (some mt)] 120);have hr8:=hr7.alloc (.cells #[.map (some mt)] 120)
 obtain⟨B0,hB0e⟩:∃ B0,w5.heap.size=B0:=⟨_,rfl⟩
 rw [hB0e] at hr8
 have hB0w:w.heap.size<=B0:=by rw [<- hB0e];exact hB5.size
 have hlo6:B0<=w6.heap.size:=by rw [<- hB0e];exact hb6.size
 obtain⟨LI,hLI⟩:∃ LI,LI=X3 tm bL lks:=⟨_,rfl⟩
 rw [<- hLI] at hr8
 have hlLI:LI.length<=20:=by rw [hLI];exact Nat.le_trans Xjf nL
 have nbl:nb<w6.heap.size:=by have:=(bN5.below hb6 bN5.lt).lt;exact this
 have HLI:=Xb hLI;clear hLI hB0e hr6 hr7 bV6 bN6 cV6 bVl cM6 bL6 hB7 hV6 hB6 hRL hV5 hB5 cV5 bV5 bN5 hb6
 obtain⟨LB,hLB⟩:∃ LB,LB=w6.heap.size:=⟨_,rfl⟩
 rw [<- hLB] at bM8 hz7 hz8 bL8 hlo6 nbl ⊢;generalize ((w6.alloc (.cells #[v0] 162)).alloc (.cells #[.map (some mt)] 120))=W1 at *;clear hLB hz7;obtain⟨kT,sT⟩:=hV8.ok.ksT;obtain⟨nTm,hnT,mT⟩:=hV8.held.mapT
 refine wpIn_rangeFunc_ownH rfl (by omega) (gf:=136) (lb:=#[.pointer (some ⟨LB+1,0,none⟩)]) rfl trivial Xcs
  (Vk 8 (by omega) Xtj (by decide) (by decide) (LB+1) mt nTm (tks.map Xd.key) kT sT (by have:=hok.lenT;simp;omega) (Xd.sh tks) W1 bM8 mT) Js Jo (Below.refl _ _) (fun _=>rfl)
  (fun pre V=>(((∃ v,Boxed V LB 162 v/\V.ownsRow B0 135 10 v (LI++Zm tm bT (pre.map X7)).length (Yi ((LI++Zm tm bT (pre.map X7)).map Item.rec_))/\True)/\BoxN V w.heap.size 76 #[.pointer (some ⟨vb,0,none⟩)])/\BoxN V nb 114 #[.int .i64 1,.int .u64 (t.n:Int)])/\Below w.heap.size w V)
  (fun _ _ _=>False)
  (OwnFrom.and (OwnFrom.and (OwnFrom.and (Own.from (holdsRow_own _ _ _ _ _ (fun pre:List { x // x∈tks.map Xd.key }=>(LI++Zm tm bT (pre.map X7)).length) (fun pre=>Yi ((LI++Zm tm bT (pre.map X7)).map Item.rec_)) (fun _ _=>True)) _) (Own.from (Xy _ _ (fun _=>#[.pointer (some ⟨vb,0,none⟩)])) _)) (Own.from (Xy _ _ (fun _=>#[.int .i64 1,.int .u64 (t.n:Int)])) _)) (ownFrom_below (Nat.le_refl _) (by omega)))
  (fun _ _ _ _ _ hs _ _=>hs)
  ⟨⟨⟨⟨_,bL8,by simpa [Zm] using hr8,trivial⟩,bV8⟩,bN8⟩,hB8⟩
  (fun x a' V=>∃ Bx Bt,LB<Bx/\LB<Bt/\Bx≠Bt/\BoxN V Bx 114 #[.int .i64 x.1.1.1,.int .u64 x.1.1.2]/\BoxN V Bt 153 (X7 x).cells/\a' = { tmps:=#[.pointer (some ⟨vb,0,none⟩),.string ⟨id.toArray⟩,.pointer (some ⟨w.heap.size,0,none⟩),undef,.nilIface,.pointer (some ⟨nb,0,none⟩),.pointer (some ⟨nb+1,0,none⟩),.bool true,.pointer (some ⟨LB,0,none⟩),.pointer (some ⟨Bx,0,none⟩),.pointer (some ⟨Bt,0,none⟩),.string ⟨id.toArray⟩,.agg #[.int .i64 1,.int .u64 (t.n:Int)],.tuple #[.agg #[.int .i64 t.ak,.int .u64 (t.au:Int),.int .u64 t.at_,.int .i64 t.tr,.bool t.pd],.bool true],.pointer (some ⟨vb,0,none⟩),.pointer (some ⟨vb,0,none⟩),.pointer (some ⟨vb,3,none⟩),.map (some mt),.agg #[.int .i64 1,.int .u64 (t.n:Int)],.tuple #[.agg #[.int .i64 t.ak,.int .u64 (t.au:Int),.int .u64 t.at_,.int .i64 t.tr,.bool t.pd],.bool true],.agg #[.int .i64 t.ak,.int .u64 (t.au:Int),.int .u64 t.at_,.int .i64 t.tr,.bool t.pd],.bool true,.bool true,.bool false,.bool false,.agg #[.int .i64 1,.int .u64 (t.n:Int)],.agg #[.int .i64 1,.int .u64 0],.bool false,.bool false,undef,.pointer (some ⟨vb,0,none⟩),.func (.func 87) #[] #[.pointer (some ⟨w.heap.size,0,none⟩),.pointer (some ⟨nb,0,none⟩)],v0,.pointer (some ⟨vb,0,none⟩),.pointer (some ⟨vb,0,none⟩),.pointer (some ⟨vb,3,none⟩),.map (some mt),.func (.func 136) #[] #[.pointer (some ⟨LB+1,0,none⟩)],.agg #[.int .i64 x.1.1.1,.int .u64 x.1.1.2],.agg (X7 x).cells,undef,undef,undef,undef,undef,undef,undef,undef,undef,undef,undef,undef,undef,undef,undef,undef,undef,undef,undef,undef,undef,undef,undef],defers:=[] })
  (fun x a' _ X Y row hs hgr hr=>by obtain⟨Bx,Bt,h1,h2,h3,h4,h5,h6⟩:=hs;exact⟨Bx,Bt,h1,h2,h3,Xy Bx 114 (fun(_:Unit)=>#[.int .i64 x.1.1.1,.int .u64 x.1.1.2]) () X Y row h4 hgr (fun r e=>(hr r e).2),Xy Bt 153 (fun(_:Unit)=>(X7 x).cells) () X Y row h5 hgr (fun r e=>(hr r e).2),h6⟩)
  ?assign ?body ?done ?stop
 case assign =>
  rintro ll pre x X K ⟨⟨⟨⟨v,b1,hr1,-⟩,bV⟩,bN⟩,hBX⟩ hK
  have e2:x.1.2=.agg (X7 x).cells:=by rw [<- (Jc x).2];rfl
  rw [e2];unfold nmV;simp only [Xd.cells] at hK ⊢
  gi_wp2
  have hBB:Below X.heap.size X ((X.alloc (.cells #[.int .i64 x.1.1.1,.int .u64 x.1.1.2] 114)).alloc (.cells (X7 x).cells 153)):=((Below.refl _ X).alloc (Nat.le_refl _) _).alloc (by simp) _;have hl1:=b1.lt;refine hK _ _ (((KeepsOthers.alloc _ _).from _).trans ((KeepsOthers.alloc _ _).from _)) ((KeepsT.alloc _ _).trans (KeepsT.alloc _ _)) ⟨⟨⟨⟨v,(b1.alloc _).alloc _,(hr1.alloc _).alloc _,trivial⟩,(bV.alloc _).alloc _⟩,(bN.alloc _).alloc _⟩,hBX.trans (hBB.mono hBX.size)⟩ ⟨X.heap.size,X.heap.size+1,hl1,by omega,by omega,(BoxN.new X 114 _).alloc _,?_,?_⟩
  ·have:=BoxN.new (X.alloc (.cells #[.int .i64 x.1.1.1,.int .u64 x.1.1.2] 114)) 153 (X7 x).cells
   rwa [World.size_alloc] at this
  simp
 case body =>
  rintro ll pre x a' V hl ⟨r,hr⟩ ⟨⟨⟨⟨v,b1,hr1,-⟩,bV⟩,bN⟩,hBV⟩ ⟨Bx,Bt,hx1,hx2,hx3,bX,bTk,rfl⟩ hlt';obtain⟨htm,hkx⟩:=Jc x
  have hsn:LI++Zm tm bT ((pre ++ [x]).map X7)=(LI++Zm tm bT (pre.map X7))++Zm tm bT [X7 x]:=by simp [Zm]
  obtain⟨tk,htk⟩:∃ tk,X7 x=tk:=⟨_,rfl⟩
  rw [htk] at htm hkx bTk hsn ⊢;obtain⟨x,hxm⟩:=x;simp only at hkx;subst hkx
  have hlr:(LI++Zm tm bT (pre.map X7)).length<=1000:=by
   have e1:(Zm tm bT (pre.map X7)).length<=(pre.map X7).length:=by unfold Zm;rw [List.length_map];exact List.length_filter_le _ _
   simp at hlt' e1;rw [List.length_append];omega
  obtain⟨J,hJ⟩:∃ J,J=LI++Zm tm bT (pre.map X7):=⟨_,rfl⟩
  rw [<- hJ] at hsn hr1 hlr
  have hend:∀ V' v',KeepsFrom W1.heap.size V V'->KeepsT Xtj V V'->Boxed V' LB 162 v'->V'.ownsRow B0 135 10 v' (J++Zm tm bT [tk]).length (Yi ((J++Zm tm bT [tk]).map Item.rec_))->BoxN V' w.heap.size 76 #[.pointer (some ⟨vb,0,none⟩)]->BoxN V' nb 114 #[.int .i64 1,.int .u64 (t.n:Int)]->Below w.heap.size w V'->KeepsFrom W1.heap.size V V'/\KeepsT Xtj V V'/\(((∃ v,Boxed V' LB 162 v/\V'.ownsRow B0 135 10 v (LI++Zm tm bT ((pre ++ [(⟨tk.key,hxm⟩:{ p // p∈tks.map Xd.key })]).map X7)).length (Yi ((LI++Zm tm bT ((pre ++ [(⟨tk.key,hxm⟩:{ p // p∈tks.map Xd.key })]).map X7)).map Item.rec_))/\True)/\BoxN V' w.heap.size 76 #[.pointer (some ⟨vb,0,none⟩)])/\BoxN V' nb 114 #[.int .i64 1,.int .u64 (t.n:Int)])/\Below w.heap.size w V':=fun V' v' h1 h2 h3 h4 h5 h6 h7=>⟨h1,h2,⟨⟨⟨v',h3,by rw [hsn];exact h4,trivial⟩,h5⟩,h6⟩,h7⟩
  have hVV:=hV.below hBV;have ct:=hVV.v.cell 2 (v:=.int .u64 tm) rfl;have cB:=bV.cell 0 (v:=.pointer (some ⟨vb,0,none⟩)) rfl;have cN0:=bN.cell 0 (v:=.int .i64 1) rfl;have cN1:=bN.cell 1 (v:=.int .u64 (t.n:Int)) rfl;have cX0:=bX.cell 0 (v:=.int .i64 1) rfl;have cX1:=bX.cell 1 (v:=.int .u64 (tk.n:Int)) rfl;have hL:=Vt Bt tk.pd V (bTk.cell 4 rfl);obtain⟨mC,hmC⟩:=hCT tk htm;have hPl:=Xj8 vb mt ml vx tm tn ln tks lks V hVV (1,(tk.n:Int)) (1,(t.n:Int)) mC (bT tk) hmC;have hfl:Fence.wide.fn 89:=trivial;have hfc:Fence.wide.fn 88:=trivial;have hfe:Fence.wide.fn 90:=trivial;have hfd:Fence.wide.fn 84:=trivial;have HE:=Xb hend;have hBVs:=hBV.size;simp only [Xd.key] at HE ⊢;clear hend hsn hVV hJ;unfold nmV at hPl;simp only [Xd.cells] at hPl ⊢
  by_cases hpd:tk.pd=true
  ·rw [hpd] at hL
   have hno:Zm tm bT [tk] = []:=by simp [Zm,hpd]
   rw [hno,List.append_nil] at HE
   gi_wp2_with (gi_at_call 89;refine(callsIn_wide.2 hL).mono ?_;rintro e V ⟨rfl,rfl⟩)
   exact(Xa HE) _ v (X0 _ (Below.refl _ _)) (KeepsT.below (Below.refl _ _)) b1 hr1 bV bN hBV
  have hpd:tk.pd=false:=by simpa using hpd
  rw [hpd] at hL
  cases hpt:bT tk with
  | false =>
   rw [hpt] at hPl
   have hno:Zm tm bT [tk] = []:=by simp [Zm,hpt]
   rw [hno,List.append_nil] at HE
   gi_wp2_with (first
    | (gi_at_call 89;refine(callsIn_wide.2 hL).mono ?_;rintro e V ⟨rfl,rfl⟩)
    | (gi_at_call 88;refine(callsIn_wide.2 hPl).mono ?_;rintro e w4 ⟨rfl,hb4⟩))
   exact(Xa HE) _ v (X0 _ hb4) (KeepsT.below hb4) ((show BoxN _ _ _ _ from b1).below hb4 b1.lt) (ownsRow_below hr1 hb4) (bV.below hb4 bV.lt) (bN.below hb4 bN.lt) (hBV.trans (hb4.mono hBVs))
  | true =>
   rw [hpt] at hPl
   have hyes:Zm tm bT [tk] = [.tok (U6 tm tk)]:=by simp [Zm,hpd,hpt]
   rw [hyes] at HE
   gi_wp2_with (first
    | (gi_at_call 89;refine(callsIn_wide.2 hL).mono ?_;rintro e V ⟨rfl,rfl⟩)
    | (gi_at_call 88;refine(callsIn_wide.2 hPl).mono ?_;rintro e w4 ⟨rfl,hb4⟩;have bT4:=bTk.below hb4 bTk.lt;have bV4:=bV.below hb4 bV.lt;have cB4:=bV4.cell 0 (v:=.pointer (some ⟨vb,0,none⟩)) rfl;have ct4:=cell_later hb4 ct;have hRv:=Xd5 Bt 153 tk.ak (tk.au:Int) tk.at_ tk.tr tm tk.pd [] w4 (by simpa [Xd.cells] using bT4))
    | (gi_at_call 90;refine(callsIn_wide.2 hRv).mono ?_;rintro e w5 ⟨rfl,bT5,hs5⟩))
   have bX5:=hs5.box (bX.below hb4 bX.lt) (fun hm=>hx3 (List.mem_singleton.1 hm));have bL5:BoxN w5 LB 162 #[v]:=hs5.box ((show BoxN _ _ _ _ from b1).below hb4 b1.lt) (fun hm=>by have:=List.mem_singleton.1 hm;omega);have bV5:=hs5.box bV4 (fun hm=>by have:=List.mem_singleton.1 hm;omega);have bN5:=hs5.box (bN.below hb4 bN.lt) (fun hm=>by have:=List.mem_singleton.1 hm;omega)
   have hr5:=hs5.J2 (ownsRow_below hr1 hb4) (fun g hg hm=>by
    obtain⟨-,cs,hB⟩:=Xm (ownsRow_below hr1 hb4) hg
    exact hB.ne bT4 (by decide) (List.mem_singleton.1 hm))
   have hB5:Below w.heap.size w w5:=(hBV.trans (hb4.mono hBVs)).trans (hs5.below (Nat.le_trans hBVs hb4.size) (fun b hb=>by rw [List.mem_singleton.1 hb];omega));have kf5:KeepsFrom W1.heap.size V w5:=Yk ((X0 0 hb4).trans (hs5.Jm (fun b hb=>by rw [List.mem_singleton.1 hb];exact⟨_,_,bT4⟩) 0)) (Nat.zero_le _);have kt5:KeepsT Xtj V w5:=(KeepsT.below hb4).trans (hs5.M9 (fun b hb=>by rw [List.mem_singleton.1 hb];exact⟨_,_,bT4,by decide⟩))
   have hrec:∀ m X,Below w5.heap.size w5 X->CallsIn Fence.wide m prog 84 #[.pointer (some ⟨Bt,0,none⟩),.agg #[.int .i64 1,.int .u64 (tk.n:Int)]] X fun e X'=>e=.returned (.agg (Xi 1 1 (tk.n:Int) tk.ak (tk.au:Int) true tm tk.tr 0 []))/\Below X.heap.size X X':=fun m X hbX=>by
    have bTX:=bT5.below hbX bT5.lt;exact callsIn_wide.2 (Xac Bt 1 (tk.n:Int) tk.ak (tk.au:Int) tm tk.tr true X (bTX.cell 0 (by simp)) (bTX.cell 1 (by simp)) (bTX.cell 2 (by simp)) (bTX.cell 3 (by simp)) (bTX.cell 4 (by simp)))
   unfold Xi at hrec
   have hfin:∀(V5 w8:World) (g8 cap8:Nat),Below w5.heap.size w5 V5->(V5.alloc (.cells #[.int .i64 1,.int .i64 1,.int .u64 (tk.n:Int),.int .i64 tk.ak,.int .u64 (tk.au:Int),.bool true,.int .u64 tm,.int .i64 tk.tr,.int .u64 0,.string ⟨#[]⟩] 135)).grownBy w8 v.ownBlock->w8.ownsRow B0 135 10 (.slice (some ⟨g8,0,none⟩) (J.length+1) cap8) (J.length+1) (Yi (J.map Item.rec_) ++ [.int .i64 1,.int .i64 1,.int .u64 (tk.n:Int),.int .i64 tk.ak,.int .u64 (tk.au:Int),.bool true,.int .u64 tm,.int .i64 tk.tr,.int .u64 0,.string ⟨#[]⟩])->BoxN w8 LB 162 #[v]->_:=fun V5 w8 g8 cap8 hw5 h83 h82 bL8=>by
    have hS8:Spares (v.ownBlock.toList ++ [LB]) w5 w8:=((Spares.of_below hw5).alloc _).trans (Spares.Vz h83 (fun r hr=>List.mem_append_left _ (by simpa using hr)));have hS9:Spares [LB] w8 (w8.setCell ⟨LB,0,none⟩ (.slice (some ⟨g8,0,none⟩) (J.length+1) cap8)):=(Spares.of_below (Below.refl _ w8)).set (by simp) _ _;have hS:=hS8.trans (hS9.mono (fun b hb=>List.mem_append_right _ hb))
    have hbx:∀ b∈v.ownBlock.toList ++ [LB],∃ t cs,BoxN w5 b t cs/\(t=135\/t=162)/\w.heap.size<=b:=fun b hb=>by
     rcases List.mem_append.1 hb with hb | hb
     ·obtain⟨hlo,cs,hB⟩:=Xm hr5 (g:=b) (by simpa using hb)
      exact⟨_,_,hB,.inl rfl,by omega⟩
     rw [List.mem_singleton.1 hb];exact⟨_,_,bL5,.inr rfl,by omega⟩
    have hno:∀ {b:Nat} {t:TypeId} {cs:Array Value},BoxN w5 b t cs->t≠135->t≠162->b∉v.ownBlock.toList ++ [LB]:=fun hB n1 n2 hm=>by
     obtain⟨t',cs',hB',ht',-⟩:=hbx _ hm
     rcases ht' with rfl | rfl
     ·exact hB.ne hB' n1 rfl
     exact hB.ne hB' n2 rfl
    have hrow9:=hS9.J2 h82 (fun g hg hm=>by
     obtain⟨-,cs,hB⟩:=Xm h82 hg
     exact hB.ne bL8 (by decide) (List.mem_singleton.1 hm))
    exact(Xa HE) _ (.slice (some ⟨g8,0,none⟩) (J.length+1) cap8) (kf5.trans (Yk (hS.Jm (fun b hb=>by obtain⟨t,cs,hB,-,-⟩:=hbx b hb;exact⟨t,cs,hB⟩) 0) (Nat.zero_le _))) (kt5.trans (hS.M9 (fun b hb=>by obtain⟨t,cs,hB,ht,-⟩:=hbx b hb;exact⟨t,cs,hB,by rcases ht with rfl | rfl <;> decide⟩))) (bL8.set 0 (.slice (some ⟨g8,0,none⟩) (J.length+1) cap8)) (by simpa [Yi,Item.rec_,Xd.rec_,U6,Yf.cells,Xi] using hrow9) (hS.box bV5 (hno bV5 (by decide) (by decide))) (hS.box bN5 (hno bN5 (by decide) (by decide))) (hB5.trans (hS.below hB5.size (fun b hb=>by obtain⟨t,cs,hB,-,hlo⟩:=hbx b hb;exact hlo)))
   have HFI:=Xb hfin;clear hfin;have y0:=bX5.cell 0 (v:=.int .i64 1) rfl;have y1:=bX5.cell 1 (v:=.int .u64 (tk.n:Int)) rfl;have yL:=bL5.cell 0 (v:=v) rfl;have fL:=bL5.frozen 0;have hB5s:=hB5.size
   have hlo5:B0<=w5.heap.size:=by have:=bL5.lt;omega
   have HK:=Xb (And.intro kf5 (And.intro kt5 (And.intro bV5 (And.intro bN5 (And.intro hB5 (And.intro hr5 bL5))))));clear kf5 kt5 bV5 bN5 hB5 hr5 hs5 bT5 bT4 bV4 cB4 ct4 hRv hb4 cB cN0 cN1 cX0 cX1 ct hL hPl bTk bX b1 hr1 bV bN hBV bM8 hB8 hV8 mT bV8 bN8 bL8 kT sT hr8;refine wpIn_region_any (by kernel_rfl) (X2 ll (by kernel_rfl) _ _ _ _ ?_)
   change wpAnyIn _ _ _ _ _ _ _ _ _ (World.drew _)
   refine Xv 1 (.pointer (some ⟨Bt,0,none⟩)) rfl ?_
   refine Xs 0 2 rfl rfl (fun K hK=>?_) fun K hK=>?_
   focus
    go_simp;refine hK _ _ ?_;clear hK K;refine Xr 2 rfl fun K hK=>?_;go_simp;refine hK _ _ ?_;clear hK K;refine Xr 3 rfl fun K hK=>?_;go_simp;refine(hrec _ w5.drew (Below.refl _ _).drew).mono ?_;rintro e V5 ⟨rfl,hb5⟩;have hw5:Below w5.heap.size w5 V5:=(Below.refl _ w5).drew.trans hb5;have bL6:=bL5.below hw5 bL5.lt;have yL6:=bL6.cell 0 (v:=v) rfl;have bL7:=bL6.alloc (.cells #[.int .i64 1,.int .i64 1,.int .u64 (tk.n:Int),.int .i64 tk.ak,.int .u64 (tk.au:Int),.bool true,.int .u64 tm,.int .i64 tk.tr,.int .u64 0,.string ⟨#[]⟩] 135);have yL7:=bL7.cell 0 (v:=v) rfl;have lL6:=bL6.lt;refine hK _ _ ?_;clear hK K;refine wpAnyIn_ready (rs:=[4]) (by kernel_rfl) (by simp) ?_
   rotate_left
   focus
    go_simp;refine hK _ _ ?_;clear hK K;refine Xs 0 3 rfl rfl (fun K hK=>?_) fun K hK=>?_
    focus
     go_simp;refine hK _ _ ?_;clear hK K;refine Xr 3 rfl fun K hK=>?_;go_simp;refine(hrec _ w5.drew (Below.refl _ _).drew).mono ?_;rintro e V5 ⟨rfl,hb5⟩;have hw5:Below w5.heap.size w5 V5:=(Below.refl _ w5).drew.trans hb5;have bL6:=bL5.below hw5 bL5.lt;have yL6:=bL6.cell 0 (v:=v) rfl;have bL7:=bL6.alloc (.cells #[.int .i64 1,.int .i64 1,.int .u64 (tk.n:Int),.int .i64 tk.ak,.int .u64 (tk.au:Int),.bool true,.int .u64 tm,.int .i64 tk.tr,.int .u64 0,.string ⟨#[]⟩] 135);have yL7:=bL7.cell 0 (v:=v) rfl;have lL6:=bL6.lt;refine hK _ _ ?_;clear hK K;refine wpAnyIn_ready (rs:=[4]) (by kernel_rfl) (by simp) ?_
    rotate_left
    focus
     go_simp;refine(hrec _ w5.drew (Below.refl _ _).drew).mono ?_;rintro e V5 ⟨rfl,hb5⟩;have hw5:Below w5.heap.size w5 V5:=(Below.refl _ w5).drew.trans hb5;have bL6:=bL5.below hw5 bL5.lt;have yL6:=bL6.cell 0 (v:=v) rfl;have bL7:=bL6.alloc (.cells #[.int .i64 1,.int .i64 1,.int .u64 (tk.n:Int),.int .i64 tk.ak,.int .u64 (tk.au:Int),.bool true,.int .u64 tm,.int .i64 tk.tr,.int .u64 0,.string ⟨#[]⟩] 135);have yL7:=bL7.cell 0 (v:=v) rfl;have lL6:=bL6.lt;refine hK _ _ ?_;clear hK K;refine Xs 0 4 rfl rfl (fun K hK=>?_) fun K hK=>?_
     focus
      go_simp;refine hK _ _ ?_;clear hK K;refine wpAnyIn_ready (rs:=[4]) (by kernel_rfl) (by simp) ?_
     rotate_left
     focus
      go_simp;refine hK _ _ ?_;clear hK K;refine wpAnyIn_ready (rs:=[0]) (by kernel_rfl) (by simp) ?_
     rotate_left
    rotate_left 2
   rotate_left 3
   all_goals
    refine AllReadyIn.cons rfl (fun K hK=>?_) (AllReadyIn.nil);go_simp;refine hK _ _ ?_;clear hK K;refine Xr 5 rfl fun K hK=>?_;have hr7:=(ownsRow_below (Xa HK).2.2.2.2.2.1 hw5).alloc (.cells #[.int .i64 1,.int .i64 1,.int .u64 (tk.n:Int),.int .i64 tk.ak,.int .u64 (tk.au:Int),.bool true,.int .u64 tm,.int .i64 tk.tr,.int .u64 0,.string ⟨#[]⟩] 135);have hsz7:=hw5.size;obtain⟨g8,cap8,w8,hrun,h82,h83,h84,-⟩:=run_append_lies (P:=prog) (V5.alloc (.cells #[.int .i64 1,.int .i64 1,.int .u64 (tk.n:Int),.int .i64 tk.ak,.int .u64 (tk.au:Int),.bool true,.int .u64 tm,.int .i64 tk.tr,.int .u64 0,.string ⟨#[]⟩] 135)) 162 162 B0 135 i0 _ 10 88 underlying162 hi hz0 hz1 hz2 rfl (by decide) v _ _ hr7 ⟨V5.heap.size,0,none⟩ 1 1 [.int .i64 1,.int .i64 1,.int .u64 (tk.n:Int),.int .i64 tk.ak,.int .u64 (tk.au:Int),.bool true,.int .u64 tm,.int .i64 tk.tr,.int .u64 0,.string ⟨#[]⟩] rfl (Mg _ _ _ _ _ _ _ _ _ _ _ _) (by simp [Value.oneCell']) (by omega) (by unfold maxLen;omega) (by omega) (by simp;omega) _ rfl;have bL8:=bL7.kept h83 (BoxN.not_row bL7 (by decide) hr7);have yL8:=bL8.cell 0 (v:=v) rfl;have fL8:=bL8.frozen 0;refine Vl rfl _ _ _ rfl rfl rfl hrun ?_;refine hK _ _ ?_;clear hK K;refine Xr 6 rfl fun K hK=>?_;go_simp;refine hK _ _ ?_;clear hK K;refine wpAnyIn_done (by kernel_rfl) ?_ _
    gi_wp2
    exact(Xa HFI) _ _ _ _ hw5 h83 h82 bL8
 case done =>
  rintro D zs V hD hzs ⟨⟨⟨⟨v,b1,hr1,-⟩,bV⟩,bN⟩,hBV⟩ hK
  have hzs':zs.map X7=tks:=by rw [hzs];exact Mf hok.incT
  rw [hzs'] at hr1;have hW:=Xa HW;have hLI:=Xa HLI
  have hF:Yr (LI++Zm tm bT tks) ⟨tn,ln,tks,lks⟩:=Vd _ _ (fun i hi=>by
   rcases List.mem_append.1 hi with hi | hi
   ·rw [hLI] at hi;exact Xjp (s:=⟨tn,ln,tks,lks⟩) hW.v.t0 hW.v.t1 hok hW.v.okL i hi
   exact Xqv (s:=⟨tn,ln,tks,lks⟩) hW.v.t0 hW.v.t1 hok hW.v.okT i hi) hok.incT hok.incL (by show tks.length<500;omega) (by show lks.length<500;omega)
  have hst:Yq (LI++Zm tm bT tks) ⟨tn,ln,tks,lks⟩=⟨tn,ln,tks.map (fun z=>if !z.pd&&bT z then U6 tm z else z),lks.map (fun z=>if goL tm bL z then Z9 tm z else z)⟩:=by
   rw [Xfz,hLI,Xer hok.incL hW.v.nl,Xk4 hok.incT hW.v.nt]
  have hKp:=Xm8 B0 k vx tm ⟨tn,ln,tks,lks⟩ c l f _ v V (hW.below hBV) hl hl1 hf hf1 hc hr1 (by rw [List.length_append];have:=@Xpq tm bT tks;omega) hF;rw [hst] at hKp;have hlts:=hW.lts;have h9:=hW.v.nine;rw [show k.vb=vb from (Xa HKB).1.symm] at hKp;have cV:=bV.cell 0 (v:=.pointer (some ⟨vb,0,none⟩)) rfl;have cL:=b1.cell;have hDl:D<V.heap.size:=(Array.getElem?_eq_some_iff.1 hK).1;have hBVs:=hBV.size;have HFD:=Xb (And.intro hlts h9);clear hF hst hW hLI hlts h9 hr1 hzs'
  gi_wp2_with (gi_at_call 66;refine(callsIn_wide.2 hKp).mono ?_;rintro e w7 ⟨rfl,⟨c',l',f',hc',hW7⟩,hs7⟩)
  obtain⟨hlts,h9⟩:=Xa HFD
  have hDn:D∉k.turns:=fun hm=>by have:=hlts D hm;omega
  have hK7:w7.heap[D]? = some (.deferred (some [])):=(hs7.block D hDl hDn).trans hK;refine⟨by simp,.inl ⟨_,_,rfl,run_takeDeferred hK7,?_⟩⟩;have hSp:Spares [D] w7 (w7.putObj D (.deferred none)):=Spares.Vz (grownBy_putObj' w7 D (.deferred none)) (fun r hr=>by cases hr;simp);refine⟨_,results_tmp rfl _ _ _,rfl,⟨c',l',f',hc',hW7.own hSp hK7 rfl (by omega) hDn⟩,?_⟩
  exact((Spares.of_below (bs:=k.turns ++ [D]) hBV).trans ((hs7.mono (fun b hb=>List.mem_append_left _ hb)).trans (hSp.mono (fun b hb=>List.mem_append_right _ hb)))).Xwa (fun b hb=>by
   rcases List.mem_append.1 hb with hb | hb
   ·exact .inl hb
   exact .inr (by rw [List.mem_singleton.1 hb];omega))
 case stop =>
  rintro D c pre V _ _ h _;exact h.elim
end Go.Proofs
