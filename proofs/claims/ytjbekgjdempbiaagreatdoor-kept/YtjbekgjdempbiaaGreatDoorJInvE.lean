import Derived.Test.YtjbekgjdempbiaaGreatDoorJRefR
import Derived.Test.YtjbekgjdempbiaaGreatDoorJAskVT
import Derived.Test.YtjbekgjdempbiaaGreatDoorJRvH
import Derived.Test.YtjbekgjdempbiaaGreatDoorJFndA
set_option maxRecDepth 100000
set_option maxHeartbeats 8000000
namespace Go.Proofs
open Go.RowKit Go.Sort Go.Lib Go.Shelf Go.Maps Go.WideMaps
theorem Xjy {id:List UInt8} {L:List ThingD} {i:Nat} {t:ThingD} (h:L.findIdx? (fun t=>t.id==id)=some i) (ht:L[i]? = some t):t.id=id:=by
 obtain⟨hl,hp,-⟩:=List.findIdx?_eq_some_iff_getElem.1 h;obtain⟨h1,h2⟩:=List.getElem?_eq_some_iff.1 ht;rw [h2] at hp
 simpa using hp
theorem Xns {id:List UInt8} {L:List ThingD} (h:L.findIdx? (fun t=>t.id==id)=none):∀ x∈L,x.id≠id:=fun x hx e=>by
 have:=List.findIdx?_eq_none_iff.1 h x hx;simp [e] at this
theorem Xds {t:ThingD} {id:List UInt8} (h:t.id=id) (hn:t.n<Xn):parseN id=(kd t.token,(t.n:Int)):=by
 rw [<- h,ThingD.U5];exact Xae t.token hn
section
variable {tks:List Xd} {lks:List Xc} {L:List ThingD}
theorem Xpv (h:Rel tks lks L) {id:List UInt8} (hno:∀ x∈L,x.id=id->x.token=true):∀ l∈lks,parseN id≠(2,(l.n:Int)):=fun l hl e=>by
 have e2:id=nmStr (kd false) l.n:=M6 e;have:=hno (thL l) (h.Xcl hl) (by rw [ThingD.U5,e2];rfl);cases this
theorem Xpw (h:Rel tks lks L) {id:List UInt8} (hno:∀ x∈L,x.id=id->x.token=false):∀ t∈tks,parseN id≠(1,(t.n:Int)):=fun l hl e=>by
 have e2:id=nmStr (kd true) l.n:=M6 e;have:=hno (thT l) (h.Vh hl) (by rw [ThingD.U5,e2];rfl);cases this
theorem Xm1 (h:Rel tks lks L) (ok:Xx tks lks) {x y:ThingD} (hx:x∈L) (hy:y∈L) (e:x.id=y.id):x=y:=by
 rw [ThingD.U5,ThingD.U5] at e;obtain⟨e1,e2⟩:=Xcu (h.num ok hx) (h.num ok hy) e;exact h.Xkr ok hx hy e1 e2
theorem Rel.Xus {N:Nat} {s:VSt} (h:Rel s.tks s.lks L) (ha:Z7 N s):Xa5 L:=fun t ht htk=>by
 obtain⟨z,hz,rfl⟩:=h.Zj ht htk;unfold thT
 rcases ha.old z hz with⟨-,h2,-⟩ | ⟨h1,h2⟩
 ·simp [h2];omega
 simp [h1];omega
end
theorem Xti {n v:Int}:∀ {L:List ThingD},(∀ t∈L,t.token=true->(t.n:Int)=n->t.of_=v)->(∃ t∈L,t.token=true/\(t.n:Int)=n)->upI n L=v:=by
 intro L;unfold upI
 suffices ∀ u,(u=v\/∃ t∈L,t.token=true/\(t.n:Int)=n)->(∀ t∈L,t.token=true->(t.n:Int)=n->t.of_=v)->L.foldl (fun u t=>if t.token&&(t.n:Int)==n then t.of_ else u) u=v from fun h1 h2=>this _ (.inr h2) h1
 induction L with
 | nil =>
  rintro u (h | ⟨t,ht,-⟩) _
  ·exact h
  cases ht
 | cons a L ih =>
  intro u hu h;rw [List.foldl_cons];refine ih _ ?_ (fun x hx=>h x (List.mem_cons_of_mem _ hx))
  by_cases hc:(a.token&&(a.n:Int)==n)=true
  ·rw [if_pos hc]
   simp only [Bool.and_eq_true,beq_iff_eq] at hc;exact .inl (h a (by simp) hc.1 hc.2)
  rw [if_neg hc]
  rcases hu with hu | ⟨t,ht,h1,h2⟩
  ·exact .inl hu
  rcases List.mem_cons.1 ht with rfl | ht
  ·exact absurd (by simp [h1,h2]) hc
  exact .inr ⟨t,ht,h1,h2⟩
theorem Xul {N:Nat} {s:VSt} {L:List ThingD} (h:Rel s.tks s.lks L) (ok:Xx s.tks s.lks) (ha:Z7 N s) (top:Nat):∀ n:Nat,n<Xn->∃ m,Vm s.tks (1,(top:Int)) (Yp L top n) m (1,(n:Int)):=by
 intro n
 induction n using Nat.strongRecOn with
 | ind n ih =>
  intro hn
  by_cases ht:n=top
  ·subst ht
   exact⟨0,.here (Xec L (by omega)) rfl⟩
  have hne:((1:Int),(n:Int))≠(1,(top:Int)):=fun e=>ht (by have:=(Prod.mk.inj e).2;omega)
  rw [Xcn (h.Xus ha) (by omega) (by omega)]
  by_cases hex:∃ t∈s.tks,t.n=n
  ·obtain⟨t,htm,rfl⟩:=hex
   have hu:upI (t.n:Int) L=(thT t).of_:=Xti (fun x hx hk hxn=>by
    have:x=thT t:=h.Xkr ok hx (h.Vh htm) hk (by have:(thT t).n=t.n:=rfl;omega)
    rw [this]) ⟨thT t,h.Vh htm,rfl,rfl⟩
   rw [hu];unfold thT
   rcases ha.old t htm with⟨h1,h2,h3⟩ | ⟨h1,h2⟩
   ·have hf:Yp L (top:Int) (-1)=false:=Ma L _ (by omega)
    simp only [h2,show ((0:Int)=1)=False from by simp,if_false,hf];exact⟨1,.up t htm hne rfl (.off rfl (by rw [h2];intro e;have:=(Prod.mk.inj e).1;omega) (by rw [h2,h3];exact⟨by decide,by decide⟩) (fun z _ e=>by rw [h2] at e;have:=(Prod.mk.inj e).1;omega))⟩
   obtain⟨m,hm⟩:=ih t.au h2 (ok.limT t htm).2;simp only [h1,if_true];exact⟨m+1,.up t htm hne rfl (by rw [h1];exact hm)⟩
  have hu:upI (n:Int) L = -1:=Xh4 (p:=fun u=>u = -1) _ rfl L (fun x hx hk hxn=>by
   obtain⟨z,hz,rfl⟩:=h.Zj hx hk
   exact absurd ⟨z,hz,by have:(thT z).n=z.n:=rfl;omega⟩ hex)
  rw [hu,Ma L _ (by omega)];exact⟨0,.off rfl hne (Xdw (.inl rfl) hn) (fun z hz e=>hex ⟨z,hz,by have:=(Prod.mk.inj e).2;omega⟩)⟩
theorem Xgl {tm:Int} {pre:List UInt8} {l:Xc}:Va pre tm (thL l)=goL tm (fun l=>beginsB l.pth pre) l:=by
 unfold Va goL
 have:decide ((thL l).state tm=1)=(!l.pd&&decide (tm<l.at_)):=by
  rw [Bool.eq_iff_iff,decide_eq_true_iff];exact Vr
 rw [this];simp [thL,Bool.and_comm]
theorem Xfh {tm:Int} {l:Xc} (h:(!l.pd&&decide (tm<l.at_))=true):Y2 tm (thL l)=thL (Z9 tm l):=by
 unfold Y2;rw [if_pos (Vr.2 h)];rfl
theorem Xc8 {tm:Int} {l:Xc} (h:(!l.pd&&decide (tm<l.at_))=false):Y2 tm (thL l)=thL l:=by
 unfold Y2;rw [if_neg (fun e=>by rw [Vr.1 e] at h;cases h)]
theorem Xbs (tm:Int) (t:ThingD):(Y2 tm t).token=t.token:=by unfold Y2;split <;> rfl
theorem Rel.pre {s:VSt} {L:List ThingD} (h:Rel s.tks s.lks L) (pre:List UInt8) (tm:Int):Rel s.tks (s.lks.map fun z=>if goL tm (fun l=>beginsB l.pth pre) z then Z9 tm z else z) (L.map (Vy pre tm)):=by
 have:=h.mapped (Vy pre tm) id (fun z=>if goL tm (fun l=>beginsB l.pth pre) z then Z9 tm z else z) (fun z=>by unfold Vy;split;exact Xbs _ _;rfl) (fun t _=>by simp [Vy,Va,thT]) (fun l _=>?_) (fun _ _=>rfl) (fun l _=>by split <;> rfl)
 ·simpa using this
 unfold Vy;rw [Xgl]
 by_cases hg:goL tm (fun l=>beginsB l.pth pre) l=true
 ·rw [if_pos hg,if_pos hg]
  exact Xfh (by unfold goL at hg;simp only [Bool.and_eq_true] at hg ⊢;exact hg.1)
 rw [if_neg hg,if_neg hg]
theorem Rel.preN {s:VSt} {L:List ThingD} (h:Rel s.tks s.lks L) (pre:List UInt8) (tm:Int):preN pre tm L=(X3 tm (fun l=>beginsB l.pth pre) s.lks).length:=by
 have e1:L.filter (Va pre tm)=(L.filter (fun t=>t.token==false)).filter (Va pre tm):=by
  rw [List.filter_filter];refine List.filter_congr (fun x _=>?_);unfold Va
  cases x.token <;> simp
 unfold Proofs.preN;rw [e1,h.leas,List.filter_map,List.length_map,show (Va pre tm ∘ thL)=goL tm (fun l=>beginsB l.pth pre) from by funext l;exact Xgl];unfold X3;rw [List.length_map];rfl
theorem Rel.tree {s:VSt} {L:List ThingD} (h:Rel s.tks s.lks L) (top tm:Int):Rel (s.tks.map fun z=>if !z.pd&&Yp L top z.n then U6 tm z else z) (s.lks.map fun z=>if goL tm (fun l=>Yp L top l.au) z then Z9 tm z else z) (L.map (tokF L top tm)):=by
 refine h.mapped (tokF L top tm) _ _ (fun z=>by unfold tokF;split;exact Xbs _ _;rfl) (fun t _=>?_) (fun l _=>?_) (fun l _=>by split <;> rfl) (fun l _=>by split <;> rfl)
 ·unfold tokF
  rw [show (thT t).Xdz=(t.n:Int) from rfl];cases hb:Yp L top (t.n:Int)
  ·simp
  cases hp:t.pd
  ·simp [Y2,ThingD.state,thT,U6,hp]
  simp [Y2,ThingD.state,thT,hp]
 unfold tokF;rw [show (thL l).Xdz=(l.au:Int) from rfl];cases hb:Yp L top (l.au:Int)
 ·simp [goL,hb]
 by_cases hlv:(!l.pd&&decide (tm<l.at_))=true
 ·have hg:goL tm (fun l=>Yp L top l.au) l=true:=by unfold goL;rw [hlv];exact hb
  rw [if_pos rfl,if_pos hg];exact Xfh hlv
 have hlv':(!l.pd&&decide (tm<l.at_))=false:=by simpa using hlv
 have hg:goL tm (fun l=>Yp L top l.au) l=false:=by unfold goL;rw [hlv'];rfl
 rw [if_pos rfl,if_neg (by simp [hg])];exact Xc8 hlv'
theorem Xpz {α:Type} {l:List α} {i:Nat} {x:α} (h:l[i]? = some x):l.set i x=l:=by
 apply List.ext_getElem?;intro j
 by_cases e:i=j
 ·subst e
  rw [List.getElem?_set_self (List.getElem?_eq_some_iff.1 h).1,h]
 rw [List.getElem?_set_ne e]
theorem Tryz.Xqu {w0:World} {B N wb hb:Nat} (w:World) (hI:Inv w0 B N wb hb w) (hN:N<20000) (ss tt:List UInt8) (hss:ss.length<=1000000) (aa bb ff ke pa:Int) :
  Calls prog 62 #[.pointer (some ⟨wb,0,none⟩),.agg (Xo.cells ⟨5,ss,tt,aa,bb,ff,-1,-1,ke,pa⟩)] w fun e w'=>e=.returned (.bool true)/\Inv w0 B (N+1) wb hb w':=by
 obtain⟨rb,σ,ra,g,cap,L,hS,hR,hl,hW,hn,hra⟩:=hI.ex;have hok:=hS.wh.v.va.ok
 have hpos:0<L.length:=by rw [hl.len];have:=hn.pos;omega
 have b9:=hS.b9;have hcs:=hn.small hN;have hnm:=hn.more (Nat.le_succ N)
 have same:∀(k:Int) (hk:k=0\/Ml k),(∀ W,Whole W σ.k σ.vx σ.tm σ.s σ.c (-1) (-1)->Calls prog 51 #[.pointer (some ⟨σ.k.vb,0,none⟩),.string ⟨ss.toArray⟩] W fun e w'=>e=.returned (Jf k)/\Below W.heap.size W w')->(∀ B' W nb g' cap',B'<=W.heap.size->B'<=nb->Xk B' W nb g' cap' L σ.tm ((σ.s.tn+1:Nat):Int) ((σ.s.ln+1:Nat):Int)->Calls prog 114 #[.pointer (some ⟨nb,0,none⟩),.string ⟨ss.toArray⟩] W fun e w'=>e=.returned (.int .i64 k)/\Xk B' w' nb g' cap' L σ.tm ((σ.s.tn+1:Nat):Int) ((σ.s.ln+1:Nat):Int)/\Spares [nb,g'] W w') ->
   Calls prog 62 #[.pointer (some ⟨wb,0,none⟩),.agg (Xo.cells ⟨5,ss,tt,aa,bb,ff,-1,-1,ke,pa⟩)] w fun e w'=>e=.returned (.bool true)/\Inv w0 B (N+1) wb hb w':=fun k hk hc hd=>by
  have hA:=Xmw B wb hb ra g cap σ.tm L _ _ w _ _ (Y9 B hb rb σ) (J1 B hb rb (fun σ'=>σ'=σ)) hS hR hpos hW hI.hB b9 hI.bw hra ss tt aa bb ff (-1) (-1) ke pa k (fun a b c=>a=L/\b=((σ.s.tn+1:Nat):Int)/\c=((σ.s.ln+1:Nat):Int))
   5 (.inl ⟨rfl,(fun W _ hS'=>((six B hb rb σ W hS' ke pa (Jf k) k (Vf k hk) _).2.2.2.1 ss (fun W' _ hV=>(hc W' hV).mono (fun _ _ h=>Xfd hV h))).mono (fun _ _ h=>Za hS' h)),(fun B' W nb g' cap' h1 h2 hR'=>(hd B' W nb g' cap' h1 h2 hR').mono (by rintro e w' ⟨rfl,hR2,hs2⟩;exact⟨g',cap',L,_,_,⟨rfl,rfl,rfl⟩,rfl,hR2,hs2⟩))⟩)
  refine hA.mono ?_;rintro e w' ⟨rfl,hA'⟩;exact⟨rfl,hA'.inv hI (by rintro _ _ _ _ rfl ⟨rfl,rfl,rfl⟩;exact⟨rfl,hl,rfl,rfl,hnm⟩)⟩
 have miss:(∀ l∈σ.s.lks,parseN ss≠(2,(l.n:Int)))->∀ W,Whole W σ.k σ.vx σ.tm σ.s σ.c (-1) (-1)->Calls prog 51 #[.pointer (some ⟨σ.k.vb,0,none⟩),.string ⟨ss.toArray⟩] W fun e w'=>e=.returned (Jf 5)/\Below W.heap.size W w':=fun hno W hV=>Xho σ.k σ.vx σ.tm σ.s σ.c (-1) (-1) W hV ss hss _ rfl 0 0 0 0 false [] 0 (fun W' hb'=>(hV.v.va.below hb').Xkp (Xak ss) hno)
 rcases Mt ss L with⟨i,t,hfi,ht,hf⟩ | ⟨hfi,hf⟩
 ·have hid:=Xjy hfi ht
  have hm:=List.mem_of_getElem? ht
  cases htk:t.token with
  | true =>
   exact same 5 (.inr (by simp [Ml])) (miss (Xpv hl (fun x hx e=>by rw [Xm1 hl hok hx hm (e.trans hid.symm)];exact htk)))
    (fun B' W nb g' cap' _ _ hR'=>(Xcg B' nb g' cap' L σ.tm _ _ ss W hR' (.inr ⟨i,t,ht,hf,htk⟩)).mono (by rintro e w' ⟨rfl,hb'⟩;exact⟨rfl,hR'.below hb',Spares.of_below hb'⟩))
  | false =>
   obtain⟨k,l,hk,rfl,hrel⟩:=hl.Xsd ht htk;have hlm:=List.mem_of_getElem? hk;have hp:parseN ss=(2,(l.n:Int)):=Xds hid (hl.num hok hm)
   by_cases hlv:(!l.pd&&decide (σ.tm<l.at_))=true
   ·have hkl:(keepLine σ.tm [.lea (Z9 σ.tm l)]).length<=70000:=by
     have hokt:=hS.wh.v.okL l hlm;exact Jp hS.wh.v.t0 hS.wh.v.t1 (s:=σ.s) ⟨⟨⟨hS.wh.v.t0,hS.wh.v.t1,hokt.r0,hokt.r1,hokt.l0,hokt.l1,hokt.p1,hokt.pa⟩,.inl ⟨l,hlm,rfl⟩,by have:=hn.nl;omega,(hok.limL l hlm).1,(hok.limL l hlm).2⟩,trivial⟩ (by simp)
    have hA:=Xmw B wb hb ra g cap σ.tm L _ _ w _ _ (Y9 B hb rb σ) (J1 B hb rb (fun σ'=>σ'=⟨σ.k,σ.vx,σ.tm,⟨σ.s.tn,σ.s.ln,σ.s.tks,σ.s.lks.set k (Z9 σ.tm l)⟩,σ.c++keepLine σ.tm [.lea (Z9 σ.tm l)]⟩)) hS hR hpos hW hI.hB b9 hI.bw hra ss tt aa bb ff (-1) (-1) ke pa 0 (fun a b c=>a=L.set i (thL (Z9 σ.tm l))/\b=((σ.s.tn+1:Nat):Int)/\c=((σ.s.ln+1:Nat):Int))
     5 (.inl ⟨rfl,(fun W _ hS'=>((six B hb rb σ W hS' ke pa (Jf 0) 0 (Vf 0 (.inl rfl)) _).2.2.2.1 ss (fun W' _ hV=>by
      obtain⟨n,ak,au,at_,tr,pd,pth,la⟩:=l
      exact(Xln σ.k σ.vx σ.tm σ.s σ.c (-1) (-1) W' hV (by decide) (by decide) (by decide) (by decide) hcs ss hss ak n au at_ tr pd pth la k hk hp hlv (by have:=hn.nl;omega) _ rfl _ rfl).mono (by rintro e w' ⟨rfl,hV',hs'⟩;exact⟨rfl,⟨_,_,_,⟨rfl,rfl,rfl⟩,hV'⟩,hs'⟩))).mono (fun _ _ h=>Za hS' h)),(fun B' W nb g' cap' hBW _ hR'=>(Xdl B' nb g' cap' L σ.tm _ _ ss W hR' hBW hR'.ne i _ ht hf htk).mono (by
      rintro e w' ⟨rfl,hR2,-,hs2⟩;rw [Xfh hlv] at hR2
      exact⟨g',cap',_,_,_,⟨rfl,rfl,rfl⟩,rfl,hR2,hs2⟩))⟩)
    refine hA.mono ?_;rintro e w' ⟨rfl,hA'⟩;refine⟨rfl,hA'.inv hI ?_⟩;rintro _ _ _ _ rfl ⟨rfl,rfl,rfl⟩;refine⟨rfl,?_,rfl,rfl,⟨hn.nt,?_,hn.pos,?_,?_,?_,?_,hn.hd.set ht rfl rfl⟩⟩
    ·have huq:∀ j u,L[j]? = some u->u.token=(thL l).token->u.n=(thL l).n->j=i:=fun j u hj e1 e2=>hl.idx hok ht hj e1 e2
     rw [Xm9 hok.incL hk,U2 ht huq]
     have:=hl.mapped (fun z=>if Z1 (thL l) z then thL (Z9 σ.tm l) else z) id (fun z=>if z.n=l.n then Z9 σ.tm l else z) (fun z=>by
       split
       ·rename_i e;exact(Ys.1 e).1.symm
       rfl) (fun z hz=>by simp [Z1,thT,thL]) (fun z hz=>?_) (fun z hz=>rfl) (fun z hz=>?_)
     ·simpa using this
     ·by_cases e:z.n=l.n
      ·have:Z1 (thL l) (thL z)=true:=Ys.2 ⟨rfl,e⟩
       rw [if_pos this,if_pos e]
      have:Z1 (thL l) (thL z)=false:=by rw [Bool.eq_false_iff,Ne,Ys];exact fun h=>e h.2
      rw [if_neg (by simp [this]),if_neg e]
     split
     ·rename_i e
      have:z=l:=Z5 (f:=Xc.n) hok.incL hz hlm e;rw [this];rfl
     rfl
    ·simpa using hn.nl
    ·have:=hn.tn;show σ.s.tn<=N+1;omega
    ·have:=hn.ln;show σ.s.ln<=N+1;omega
    ·have:=hn.c;simp only [List.length_append];omega
    exact(hn.al.more (Nat.le_succ N)).setL hk rfl rfl rfl rfl
   have hlv':(!l.pd&&decide (σ.tm<l.at_))=false:=by simpa using hlv
   exact same 0 (.inl rfl) (fun W hV=>Xjt σ.k σ.vx σ.tm σ.s σ.c (-1) (-1) W hV ss hss _ hp l.ak l.au l.at_ l.tr l.pd l.pth l.last hlv' (fun W' hb'=>(hV.v.va.below hb').Xsg hlm))
    (fun B' W nb g' cap' hBW _ hR'=>(Xdl B' nb g' cap' L σ.tm _ _ ss W hR' hBW hR'.ne i _ ht hf htk).mono (by
     rintro e w' ⟨rfl,hR2,-,hs2⟩;rw [Xc8 hlv',Xpz ht] at hR2
     exact⟨rfl,hR2,hs2⟩))
 exact same 5 (.inr (by simp [Ml])) (miss (Xpv hl (fun x hx e=>absurd e (Xns hfi x hx))))
  (fun B' W nb g' cap' _ _ hR'=>(Xcg B' nb g' cap' L σ.tm _ _ ss W hR' (.inl hf)).mono (by rintro e w' ⟨rfl,hb'⟩;exact⟨rfl,hR'.below hb',Spares.of_below hb'⟩))
theorem Tryz.Xrk {w0:World} {B N wb hb:Nat} (w:World) (hI:Inv w0 B N wb hb w) (hN:N<20000) (ss tt:List UInt8) (htt:tt.length<=1000000) (aa bb ff ke pa:Int) :
  Calls prog 62 #[.pointer (some ⟨wb,0,none⟩),.agg (Xo.cells ⟨6,ss,tt,aa,bb,ff,-1,-1,ke,pa⟩)] w fun e w'=>e=.returned (.bool true)/\Inv w0 B (N+1) wb hb w':=by
 obtain⟨rb,σ,ra,g,cap,L,hS,hR,hl,hW,hn,hra⟩:=hI.ex;have hok:=hS.wh.v.va.ok
 have hpos:0<L.length:=by rw [hl.len];have:=hn.pos;omega
 have b9:=hS.b9;have hcs:=hn.small hN;have hnm:=hn.more (Nat.le_succ N)
 by_cases hgo:tt = []\/pathI tt=true
 ·have hA:=Xnl B wb hb ra g cap σ.tm L _ _ w _ _ (Y9 B hb rb σ) (J1 B hb rb (fun σ'=>σ'.tm=σ.tm/\σ'.s=⟨σ.s.tn,σ.s.ln,σ.s.tks,σ.s.lks.map fun z=>if goL σ.tm (fun l=>beginsB l.pth tt) z then Z9 σ.tm z else z⟩/\σ'.c.length<=σ.c.length+70000)) hS hR hpos hW hI.hB b9 hI.bw hra ss tt aa bb ff (-1) (-1) ke pa 0 ((X3 σ.tm (fun l=>beginsB l.pth tt) σ.s.lks).length:Nat) (fun h=>absurd rfl h) (fun a b c=>a=L.map (Vy tt σ.tm)/\b=((σ.s.tn+1:Nat):Int)/\c=((σ.s.ln+1:Nat):Int))
   6 (.inr ⟨rfl,(fun W _ hS'=>((six B hb rb σ W hS' ke pa (Jf 0) 0 (Vf 0 (.inl rfl)) (fun σ'=>σ'.tm=σ.tm/\σ'.s=⟨σ.s.tn,σ.s.ln,σ.s.tks,σ.s.lks.map fun z=>if goL σ.tm (fun l=>beginsB l.pth tt) z then Z9 σ.tm z else z⟩/\σ'.c.length<=σ.c.length+70000)).2.2.2.2.1 tt (.int .i64 ((X3 σ.tm (fun l=>beginsB l.pth tt) σ.s.lks).length:Nat)) (fun W' _ hV=>(Xk0 σ.k σ.vx σ.tm σ.s σ.c (-1) (-1) W' hV (by decide) (by decide) (by decide) (by decide) hcs tt htt hgo (by have:=hn.nt;omega) (by have:=hn.nl;omega)).mono (by rintro e w' ⟨rfl,⟨c',l',f',hc',hV'⟩,hs'⟩;exact⟨rfl,⟨⟨σ.k,σ.vx,σ.tm,_,c'⟩,l',f',⟨⟨rfl,rfl,hc'⟩,rfl,rfl⟩,hV'⟩,hs'⟩))).mono (fun _ _ h=>Za hS' h)),(fun B' W nb g' cap' hBW _ hR'=>(Xlz B' nb g' cap' L σ.tm _ _ tt htt W hR' hBW hR'.ne hgo).mono (by
    rintro e w' ⟨rfl,hR2,-,hs2⟩;rw [hl.preN]
    exact⟨g',cap',_,_,_,⟨rfl,rfl,rfl⟩,rfl,hR2,hs2⟩))⟩)
  refine hA.mono ?_;rintro e w' ⟨rfl,hA'⟩;refine⟨rfl,hA'.inv hI ?_⟩;rintro σ' _ _ _ ⟨h1,h2,h3⟩ ⟨rfl,rfl,rfl⟩;obtain⟨k',vx',tm',s',c'⟩:=σ';simp only at h1 h2 h3;subst h1 h2;refine⟨rfl,hl.pre tt σ.tm,rfl,rfl,⟨hn.nt,?_,hn.pos,?_,?_,?_,?_,hn.hd.map _ (fun x=>by unfold Vy Y2;split <;> (try split) <;> exact⟨rfl,rfl⟩)⟩⟩
  ·simpa using hn.nl
  ·have:=hn.tn;show σ.s.tn<=N+1;omega
  ·have:=hn.ln;show σ.s.ln<=N+1;omega
  ·have:=hn.c;show c'.length<=(N+1)*150000;omega
  have:=(hn.al.more (Nat.le_succ N)).mapped (tn':=σ.s.tn) (ln':=σ.s.ln) id (fun z=>if goL σ.tm (fun l=>beginsB l.pth tt) z then Z9 σ.tm z else z) (fun t ht=>⟨rfl,rfl,rfl,rfl,fun _=>rfl⟩) (fun t ht=>by split <;> exact⟨rfl,rfl,rfl,rfl⟩)
  simpa using this
 have h0:tt ≠ []:=fun e=>hgo (.inl e)
 have hbad:pathI tt=false:=by simpa using fun e=>hgo (.inr e)
 have hA:=Xnl B wb hb ra g cap σ.tm L _ _ w _ _ (Y9 B hb rb σ) (J1 B hb rb (fun σ'=>σ'=σ)) hS hR hpos hW hI.hB b9 hI.bw hra ss tt aa bb ff (-1) (-1) ke pa 2 0 (fun _=>rfl) (fun a b c=>a=L/\b=((σ.s.tn+1:Nat):Int)/\c=((σ.s.ln+1:Nat):Int))
  6 (.inr ⟨rfl,(fun W _ hS'=>((six B hb rb σ W hS' ke pa (Jf 2) 2 (Vf 2 (.inr (by simp [Ml]))) _).2.2.2.2.1 tt (.int .i64 0) (fun W' _ hV=>(Xkg σ.k.vb W' tt htt h0 hbad).mono (fun _ _ h=>Xfd hV h))).mono (fun _ _ h=>Za hS' h)),(fun B' W nb g' cap' _ _ hR'=>(Xke nb tt htt h0 hbad W).mono (by rintro e w' ⟨rfl,rfl⟩;exact⟨g',cap',L,_,_,⟨rfl,rfl,rfl⟩,rfl,hR',Spares.of_below (Below.refl _ _)⟩))⟩)
 refine hA.mono ?_;rintro e w' ⟨rfl,hA'⟩;exact⟨rfl,hA'.inv hI (by rintro _ _ _ _ rfl ⟨rfl,rfl,rfl⟩;exact⟨rfl,hl,rfl,rfl,hnm⟩)⟩
theorem Tryz.Xvt {w0:World} {B N wb hb:Nat} (w:World) (hI:Inv w0 B N wb hb w) (hN:N<20000) (ss tt:List UInt8) (hss:ss.length<=1000000) (aa bb ff ke pa:Int) :
  Calls prog 62 #[.pointer (some ⟨wb,0,none⟩),.agg (Xo.cells ⟨7,ss,tt,aa,bb,ff,-1,-1,ke,pa⟩)] w fun e w'=>e=.returned (.bool true)/\Inv w0 B (N+1) wb hb w':=by
 obtain⟨rb,σ,ra,g,cap,L,hS,hR,hl,hW,hn,hra⟩:=hI.ex;have hok:=hS.wh.v.va.ok
 have hpos:0<L.length:=by rw [hl.len];have:=hn.pos;omega
 have b9:=hS.b9;have hcs:=hn.small hN;have hnm:=hn.more (Nat.le_succ N)
 have same:(∀ W,Whole W σ.k σ.vx σ.tm σ.s σ.c (-1) (-1)->Calls prog 50 #[.pointer (some ⟨σ.k.vb,0,none⟩),.string ⟨ss.toArray⟩] W fun e w'=>e=.returned (Jf 1)/\Below W.heap.size W w')->(J9 ss L = -1\/∃(i:Nat) (t:ThingD),L[i]? = some t/\J9 ss L=i/\(t.token=false\/t.n=0)) ->
   Calls prog 62 #[.pointer (some ⟨wb,0,none⟩),.agg (Xo.cells ⟨7,ss,tt,aa,bb,ff,-1,-1,ke,pa⟩)] w fun e w'=>e=.returned (.bool true)/\Inv w0 B (N+1) wb hb w':=fun hc hd=>by
  have hA:=Xmw B wb hb ra g cap σ.tm L _ _ w _ _ (Y9 B hb rb σ) (J1 B hb rb (fun σ'=>σ'=σ)) hS hR hpos hW hI.hB b9 hI.bw hra ss tt aa bb ff (-1) (-1) ke pa 1 (fun a b c=>a=L/\b=((σ.s.tn+1:Nat):Int)/\c=((σ.s.ln+1:Nat):Int))
   7 (.inr ⟨rfl,(fun W _ hS'=>((six B hb rb σ W hS' ke pa (Jf 1) 1 (Vf 1 (.inr (by simp [Ml]))) _).2.2.2.2.2 ss (fun W' _ hV=>(hc W' hV).mono (fun _ _ h=>Xfd hV h))).mono (fun _ _ h=>Za hS' h)),(fun B' W nb g' cap' _ _ hR'=>(Xh0 B' nb g' cap' L σ.tm _ _ ss W hR' hd).mono (by rintro e w' ⟨rfl,hb'⟩;exact⟨g',cap',L,_,_,⟨rfl,rfl,rfl⟩,rfl,hR'.below hb',Spares.of_below hb'⟩))⟩)
  refine hA.mono ?_;rintro e w' ⟨rfl,hA'⟩;exact⟨rfl,hA'.inv hI (by rintro _ _ _ _ rfl ⟨rfl,rfl,rfl⟩;exact⟨rfl,hl,rfl,rfl,hnm⟩)⟩
 have no:(∀ t∈σ.s.tks,parseN ss≠(1,(t.n:Int)))->∀ W,Whole W σ.k σ.vx σ.tm σ.s σ.c (-1) (-1)->Calls prog 50 #[.pointer (some ⟨σ.k.vb,0,none⟩),.string ⟨ss.toArray⟩] W fun e w'=>e=.returned (Jf 1)/\Below W.heap.size W w':=fun hno W hV=>callsIn_wide.1 (Xlu σ.k.vb σ.k.mt σ.k.ml σ.vx σ.tm σ.s.tn σ.s.ln σ.s.tks σ.s.lks W hV.v.va ss hss _ rfl (Xak ss) hno)
 rcases Mt ss L with⟨i,t,hfi,ht,hf⟩ | ⟨hfi,hf⟩
 ·have hid:=Xjy hfi ht
  have hm:=List.mem_of_getElem? ht
  cases htk:t.token with
  | false=>exact same (no (Xpw hl (fun x hx e=>by rw [Xm1 hl hok hx hm (e.trans hid.symm)];exact htk))) (.inr ⟨i,t,ht,hf,.inl htk⟩)
  | true =>
   obtain⟨z,hz,rfl⟩:=hl.Zj hm htk;have hp:parseN ss=(1,(z.n:Int)):=Xds hid (hl.num hok hm)
   by_cases h0:z.n=0
   ·exact same (fun W hV=>callsIn_wide.1 (Xia σ.k.vb σ.k.mt σ.k.ml σ.vx σ.tm σ.s.tn σ.s.ln σ.s.tks σ.s.lks W hV.v.va ss hss z hz h0 hp)) (.inr ⟨i,_,ht,hf,.inr h0⟩)
   have hold:=hl.Xus hn.al
   have hA:=Xmw B wb hb ra g cap σ.tm L _ _ w _ _ (Y9 B hb rb σ) (J1 B hb rb (fun σ'=>σ'.tm=σ.tm/\σ'.s=⟨σ.s.tn,σ.s.ln,σ.s.tks.map (fun y=>if !y.pd&&Yp L (z.n:Int) y.n then U6 σ.tm y else y),σ.s.lks.map (fun y=>if goL σ.tm (fun l=>Yp L (z.n:Int) l.au) y then Z9 σ.tm y else y)⟩/\σ'.c.length<=σ.c.length+70000)) hS hR hpos hW hI.hB b9 hI.bw hra ss tt aa bb ff (-1) (-1) ke pa 0 (fun a b c=>a=L.map (tokF L (z.n:Int) σ.tm)/\b=((σ.s.tn+1:Nat):Int)/\c=((σ.s.ln+1:Nat):Int))
    7 (.inr ⟨rfl,(fun W _ hS'=>((six B hb rb σ W hS' ke pa (Jf 0) 0 (Vf 0 (.inl rfl)) (fun σ'=>σ'.tm=σ.tm/\σ'.s=⟨σ.s.tn,σ.s.ln,σ.s.tks.map (fun y=>if !y.pd&&Yp L (z.n:Int) y.n then U6 σ.tm y else y),σ.s.lks.map (fun y=>if goL σ.tm (fun l=>Yp L (z.n:Int) l.au) y then Z9 σ.tm y else y)⟩/\σ'.c.length<=σ.c.length+70000)).2.2.2.2.2 ss (fun W' _ hV=>(callsIn_wide.1 (Xlp σ.k σ.vx σ.tm σ.s.tn σ.s.ln σ.s.tks σ.s.lks σ.c (-1) (-1) W' hV (by decide) (by decide) (by decide) (by decide) hcs (by have:=hn.nt;omega) (by have:=hn.nl;omega) ss hss z hz h0 hp (fun l=>Yp L (z.n:Int) l.au) (fun y=>Yp L (z.n:Int) y.n) (fun l hlm=>by
      rw [hl.akL l hlm]
      exact Xul hl hok hn.al z.n l.au (hok.limL l hlm).2) (fun y hy=>Xul hl hok hn.al z.n y.n (hok.limT y hy).1))).mono (by rintro e w' ⟨rfl,⟨c',l',f',hc',hV'⟩,hs'⟩;exact⟨rfl,⟨⟨σ.k,σ.vx,σ.tm,_,c'⟩,l',f',⟨⟨rfl,rfl,hc'⟩,rfl,rfl⟩,hV'⟩,hs'⟩))).mono (fun _ _ h=>Za hS' h)),(fun B' W nb g' cap' hBW _ hR'=>(Xkj B' nb g' cap' L σ.tm _ _ ss W hR' hBW hR'.ne hold i _ ht hf htk h0).mono (by
     rintro e w' ⟨rfl,hR2,-,hs2⟩
     exact⟨g',cap',_,_,_,⟨rfl,rfl,rfl⟩,rfl,hR2,hs2⟩))⟩)
   refine hA.mono ?_;rintro e w' ⟨rfl,hA'⟩;refine⟨rfl,hA'.inv hI ?_⟩;rintro σ' _ _ _ ⟨h1,h2,h3⟩ ⟨rfl,rfl,rfl⟩;obtain⟨k',vx',tm',s',c'⟩:=σ';simp only at h1 h2 h3;subst h1 h2;refine⟨rfl,hl.tree (z.n:Int) σ.tm,rfl,rfl,⟨?_,?_,?_,?_,?_,?_,?_,hn.hd.map _ (fun x=>by unfold tokF Y2;split <;> (try split) <;> exact⟨rfl,rfl⟩)⟩⟩
   ·simpa using hn.nt
   ·simpa using hn.nl
   ·simpa using hn.pos
   ·have:=hn.tn;show σ.s.tn<=N+1;omega
   ·have:=hn.ln;show σ.s.ln<=N+1;omega
   ·have:=hn.c;show c'.length<=(N+1)*150000;omega
   refine(hn.al.more (Nat.le_succ N)).mapped _ _ (fun t ht=>?_) (fun t ht=>by split <;> exact⟨rfl,rfl,rfl,rfl⟩)
   split
   ·rename_i e
    refine⟨rfl,rfl,rfl,rfl,fun en=>?_⟩;have hu:=Xhu hold (n:=0) (by omega)
    have hb:Yp L (z.n:Int) 0=false:=by rw [Xcn hold (by omega) (by omega)];exact Ma L _ hu
    rw [en] at e;simp [hb] at e
   exact⟨rfl,rfl,rfl,rfl,fun _=>rfl⟩
 exact same (no (Xpw hl (fun x hx e=>absurd e (Xns hfi x hx)))) (.inl hf)
end Go.Proofs
