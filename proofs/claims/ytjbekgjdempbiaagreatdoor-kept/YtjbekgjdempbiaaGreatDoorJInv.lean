import Derived.Test.YtjbekgjdempbiaaGreatDoorJTkJ
import Derived.Defers
import Derived.Test.YtjbekgjdempbiaaGreatDoorJRefB
import Derived.Test.YtjbekgjdempbiaaGreatDoorJQueA
set_option maxRecDepth 100000
set_option maxHeartbeats 8000000
namespace Go.Proofs
open Go.RowKit Go.Sort Go.Lib Go.Shelf Go.Maps Go.WideMaps
theorem Spares.Xwa {bs bs':List Nat} {W W':World} (h:Spares bs W W') (hb:∀ b∈bs,b∈bs'\/W.heap.size<=b):Spares bs' W W':=
 ⟨h.os,h.tape,h.output,h.size,fun k hk hn=>h.block k hk (fun hm=>(hb k hm).elim hn (fun e=>by omega))⟩
theorem Tryz.Xv8 (vb Bv:Nat) (v t:Value) (u:FrameMode) (w:World) (hv:v=.slice none 0 0\/∃ g cap,v=.slice (some ⟨g,0,none⟩) 0 cap) (cB:w.cell? ⟨Bv,0,none⟩=some (.pointer (some ⟨vb,0,none⟩))) (c6:w.cell? ⟨vb,7,none⟩=some t) (f6:w.frozen? ⟨vb,7,none⟩=false) (c7:w.cell? ⟨vb,8,none⟩=some v) (f7:w.frozen? ⟨vb,8,none⟩=false) (hne:Bv≠vb) :
  CallsD prog 73 #[.pointer (some ⟨Bv,0,none⟩)] u w fun e u' w'=>u'=u/\(e=.returned (.tuple #[])/\w'=(w.setCell ⟨vb,7,none⟩ (.bool false)).setCell ⟨vb,8,none⟩ v):=by
 have c7':(w.setCell ⟨vb,7,none⟩ (.bool false)).cell? ⟨vb,8,none⟩=some v:=(World.cell?_setCell_other _ _ _ _ (by simp)).trans c7
 have f7':(w.setCell ⟨vb,7,none⟩ (.bool false)).frozen? ⟨vb,8,none⟩=false:=by rw [World.frozen?_setCell];exact f7
 have cB':(w.setCell ⟨vb,7,none⟩ (.bool false)).cell? ⟨Bv,0,none⟩=some (.pointer (some ⟨vb,0,none⟩)):=(World.cell?_setCell_far _ _ _ _ (fun e=>hne e.symm)).trans cB;have hE:=Xog vb v _ hv c7' f7'
 go_enter_d func73,ntmps73
 go_wp2_with (go_at_call 74;refine hE.mono ?_;rintro e w1 ⟨rfl,rfl⟩)
 go_end0
 exact⟨rfl,rfl⟩
end Go.Proofs
namespace Go.Proofs
open Go.RowKit Go.Sort Go.Lib Go.Shelf Go.Maps
def hasU (s:VSt) (u:Nat):Bool:=s.tks.any (fun x=>x.ak==1&&(x.au:Int)==(u:Int))||s.lks.any (fun x=>x.ak==1&&(x.au:Int)==(u:Int))
def Va (tm:Int) (t:Xd):Xd:={ t with pd:=true,tr:=t.tr+1,at_:=plusI tm (waitN t.tr.toNat) }
def Vb (tm:Int) (t:Xc):Xc:={ t with pd:=true,tr:=t.tr+1,at_:=plusI tm (waitN t.tr.toNat) }
inductive Zq (tm:Int) (s:VSt):Xe->Item->Bool->Nat->Nat->Prop where
 | tok (t:Xd) (ht:t∈s.tks) (hk:t.ak=1):Zq tm s ⟨t.at_,1,t.n⟩ (.tok (Va tm t)) true t.n t.au
 | lea (t:Xc) (ht:t∈s.lks) (hk:t.ak=1):Zq tm s ⟨t.at_,2,t.n⟩ (.lea (Vb tm t)) false t.n t.au
def Jb (s:VSt) (tm:Int) (un:Nat):List Xe:=match s.tks.find? (fun t=>t.n==un) with
 | some p=>Yv s tm p
 | none=>[]
structure TS where
 s:VSt
 q:List Xe
 fl:Int
 c:List UInt8
 cl:List (Int × Nat)
inductive Jn (tm:Int):TS->TS->Prop where
 | fail {a:TS} {t:Xe} {q' q'':List Xe} {it:Item} {tk:Bool} {n un:Nat} (hs:Zq tm a.s t it tk n un) (hp:(t :: q').Perm a.q) (hl:∀ u∈q',¬ ltT u t) (ho:(a.fl % 2==1)=true) (hq:q''.Perm q'):Jn tm a ⟨it.app a.s,q'',a.fl / 2,a.c++keepLine tm [it],a.cl ++ [(kdB tk,n)]⟩
 | ok {a:TS} {t:Xe} {q' q'':List Xe} {it:Item} {tk:Bool} {n un:Nat} (hs:Zq tm a.s t it tk n un) (hp:(t :: q').Perm a.q) (hl:∀ u∈q',¬ ltT u t) (ho:(a.fl % 2==1)=false) (hq:q''.Perm (q'++Jb ((Item.gone tk n).app a.s) tm un)):Jn tm a ⟨(Item.gone tk n).app a.s,q'',a.fl / 2,a.c++keepLine tm [.gone tk n],a.cl ++ [(kdB tk,n)]⟩
inductive Jv (tm:Int):TS->TS->Prop where
 | refl (a:TS):Jv tm a a
 | step {a b c:TS} (h:Jv tm a b) (h1:Jn tm b c):Jv tm a c
structure Jt (s:VSt):Prop where
 incT:s.tks.Pairwise (fun a b=>a.n<b.n)
 incL:s.lks.Pairwise (fun a b=>a.n<b.n)
 upT:∀ t∈s.tks,t.n=0\/t.ak=1/\∃ p∈s.tks,p.n=t.au
 upL:∀ t∈s.lks,t.ak=1/\∃ p∈s.tks,p.n=t.au
 root:∀ t∈s.tks,t.n=0->t.pd=false
structure QOk (tm:Int) (s:VSt) (q:List Xe):Prop where
 nd:(q.map (fun t=>(t.k,t.n))).Nodup
 ex:∀ t∈q,∃ it tk n un,Zq tm s t it tk n un
 nb:∀ t∈q,t.k=1->∀ n:Nat,t.n=n->hasU s n=false
theorem QOk.perm {tm:Int} {s:VSt} {q q':List Xe} (h:QOk tm s q) (hp:q'.Perm q):QOk tm s q':=
 ⟨(hp.map _).nodup_iff.2 h.nd,fun t ht=>h.ex t (hp.mem_iff.1 ht),fun t ht=>h.nb t (hp.mem_iff.1 ht)⟩
theorem Xl1 {t:Xd} {l:List Xd} (hs:l.Pairwise (fun a b=>a.n<b.n)) {x:Xd} (hx:x∈l) (hn:x.n=t.n) (f:Xd->Bool) (hf:f t=f x):(Yh t l).any f=l.any f:=by
 rcases Yy (t:=t) hs with⟨a,y,b,rfl,hy,hp,hne⟩ | ⟨hne,-⟩
 ·have:x=y:=Z5 (f:=Xd.n) hs hx (by simp) (by omega)
  subst this;rw [hp];simp [hf]
 exact absurd hn (hne x hx)
theorem Xl7 {t:Xc} {l:List Xc} (hs:l.Pairwise (fun a b=>a.n<b.n)) {x:Xc} (hx:x∈l) (hn:x.n=t.n) (f:Xc->Bool) (hf:f t=f x):(Yc t l).any f=l.any f:=by
 rcases Yx (t:=t) hs with⟨a,y,b,rfl,hy,hp,hne⟩ | ⟨hne,-⟩
 ·have:x=y:=Z5 (f:=Xc.n) hs hx (by simp) (by omega)
  subst this;rw [hp];simp [hf]
 exact absurd hn (hne x hx)
theorem Zq.hasU {tm:Int} {s:VSt} {t:Xe} {it:Item} {tk:Bool} {n un:Nat} (hs:Zq tm s t it tk n un) (ht:Jt s) (u:Nat):hasU (it.app s) u=hasU s u:=by
 cases hs with
 | tok t hm hk=>show ((Yh (Va tm t) s.tks).any _||s.lks.any _)=_;rw [Xl1 (t:=Va tm t) ht.incT hm rfl _ rfl];rfl
 | lea t hm hk=>show (s.tks.any _||(Yc (Vb tm t) s.lks).any _)=_;rw [Xl7 (t:=Vb tm t) ht.incL hm rfl _ rfl];rfl
theorem Xov {s:VSt} {tk:Bool} {n u:Nat} (h:hasU s u=false):hasU ((Item.gone tk n).app s) u=false:=by
 unfold hasU at *;simp only [Bool.or_eq_false_iff,List.any_eq_false] at *;exact⟨fun x hx=>h.1 x (Y0 hx),fun x hx=>h.2 x (Ze hx)⟩
theorem putTok_has {t x:Xd} {l:List Xd} (hs:l.Pairwise (fun a b=>a.n<b.n)) (hx:x∈l):x.n=t.n\/x∈Yh t l:=by
 rcases Yy (t:=t) hs with⟨a,y,b,rfl,hy,hp,hne⟩ | ⟨hne,hp⟩
 ·rw [hp]
  simp only [List.mem_append,List.mem_cons] at hx ⊢
  rcases hx with h | rfl | h
  ·exact .inr (.inl h)
  ·exact .inl hy
  exact .inr (.inr (.inr h))
 rw [hp];exact .inr (by simp [hx])
theorem Xji {t:Xd} {l:List Xd} (hs:l.Pairwise (fun a b=>a.n<b.n)):t∈Yh t l:=by
 rcases Yy (t:=t) hs with⟨a,y,b,rfl,hy,hp,hne⟩ | ⟨hne,hp⟩ <;> rw [hp] <;> simp
theorem putLea_has {t x:Xc} {l:List Xc} (hs:l.Pairwise (fun a b=>a.n<b.n)) (hx:x∈l):x.n=t.n\/x∈Yc t l:=by
 rcases Yx (t:=t) hs with⟨a,y,b,rfl,hy,hp,hne⟩ | ⟨hne,hp⟩
 ·rw [hp]
  simp only [List.mem_append,List.mem_cons] at hx ⊢
  rcases hx with h | rfl | h
  ·exact .inr (.inl h)
  ·exact .inl hy
  exact .inr (.inr (.inr h))
 rw [hp];exact .inr (by simp [hx])
theorem Md {t:Xd} {l:List Xd} (hs:l.Pairwise (fun a b=>a.n<b.n)) {m:Nat} (h:∃ p∈l,p.n=m):∃ p∈Yh t l,p.n=m:=by
 obtain⟨p,hp,e⟩:=h
 rcases putTok_has (t:=t) hs hp with h1 | h1
 ·exact⟨t,Xji hs,by omega⟩
 exact⟨p,h1,e⟩
theorem Jt.failed {tm:Int} {s:VSt} {t:Xe} {it:Item} {tk:Bool} {n un:Nat} (h:Jt s) (hs:Zq tm s t it tk n un) (h0:tk=true->n≠0):Jt (it.app s):=by
 cases hs with
 | tok t hm hk =>
  refine⟨Mh h.incT (.inl ⟨t,hm,rfl⟩),h.incL,fun x hx=>?_,fun x hx=>⟨(h.upL x hx).1,Md h.incT (h.upL x hx).2⟩,fun x hx e=>?_⟩
  ·rcases Zh h.incT hx with rfl | hx
   ·rcases h.upT t hm with e | e
    ·exact .inl e
    exact .inr ⟨e.1,Md h.incT e.2⟩
   rcases h.upT x hx with e | e
   ·exact .inl e
   exact .inr ⟨e.1,Md h.incT e.2⟩
  rcases Zh h.incT hx with rfl | hx
  ·exact absurd e (h0 rfl)
  exact h.root x hx e
 | lea t hm hk =>
  refine⟨h.incT,Mg h.incL (.inl ⟨t,hm,rfl⟩),h.upT,fun x hx=>?_,h.root⟩
  rcases Jd h.incL hx with rfl | hx
  ·exact h.upL t hm
  exact h.upL x hx
theorem Jt.gone {s:VSt} (h:Jt s) (tk:Bool) (n:Nat) (hb:tk=true->hasU s n=false):Jt ((Item.gone tk n).app s):=by
 have hinc:(Yu tk n s.tks).Pairwise (fun a b=>a.n<b.n):=by
  cases tk
  ·exact h.incT
  exact h.incT.filter _
 have hincL:(Y6 tk n s.lks).Pairwise (fun a b=>a.n<b.n):=by
  cases tk
  ·exact h.incL.filter _
  exact h.incL
 have keep:∀ m,(∃ p∈s.tks,p.n=m)->(tk=true->m≠n)->∃ p∈Yu tk n s.tks,p.n=m:=fun m ⟨p,hp,e⟩ hne=>by
  cases tk
  ·exact⟨p,hp,e⟩
  exact⟨p,List.mem_filter.2 ⟨hp,by simpa [e] using hne rfl⟩,e⟩
 refine⟨hinc,hincL,fun x hx=>?_,fun x hx=>?_,fun x hx e=>h.root x (Y0 hx) e⟩
 ·rcases h.upT x (Y0 hx) with e | ⟨e1,e2⟩
  ·exact .inl e
  refine .inr ⟨e1,keep _ e2 (fun et en=>?_)⟩;have:=hb et;unfold hasU at this;simp only [Bool.or_eq_false_iff,List.any_eq_false] at this;exact this.1 x (Y0 hx) (by simp [e1,en])
 obtain⟨e1,e2⟩:=h.upL x (Ze hx);refine⟨e1,keep _ e2 (fun et en=>?_)⟩;have:=hb et;unfold hasU at this;simp only [Bool.or_eq_false_iff,List.any_eq_false] at this;exact this.2 x (Ze hx) (by simp [e1,en])
theorem Zq.key {tm:Int} {s:VSt} {t:Xe} {it:Item} {tk:Bool} {n un:Nat} (hs:Zq tm s t it tk n un):t.k=kdB tk/\t.n=(n:Int):=by
 cases hs with
 | tok t hm hk=>exact⟨rfl,rfl⟩
 | lea t hm hk=>exact⟨rfl,rfl⟩
theorem Zq.under {tm:Int} {s:VSt} {t:Xe} {it:Item} {tk:Bool} {n un:Nat} (hs:Zq tm s t it tk n un):Proofs.hasU s un=true:=by
 unfold Proofs.hasU;rw [Bool.or_eq_true]
 cases hs with
 | tok t hm hk=>exact .inl (List.any_eq_true.2 ⟨t,hm,by simp [hk]⟩)
 | lea t hm hk=>exact .inr (List.any_eq_true.2 ⟨t,hm,by simp [hk]⟩)
theorem Zq.other {tm:Int} {s:VSt} {t u:Xe} {it it2:Item} {tk tk2:Bool} {n un n2 un2:Nat} (hs:Zq tm s t it tk n un) (hu:Zq tm s u it2 tk2 n2 un2) (ht:Jt s) (hne:(u.k,u.n)≠(t.k,t.n)):Zq tm (it.app s) u it2 tk2 n2 un2:=by
 cases hs with
 | tok t hm hk =>
  cases hu with
  | tok x hx hk2 =>
   rcases putTok_has (t:=Va tm t) ht.incT hx with e | e
   ·exact absurd (by have e:x.n=t.n:=e;simp [e]) hne
   exact .tok x e hk2
  | lea x hx hk2=>exact .lea x hx hk2
 | lea t hm hk =>
  cases hu with
  | tok x hx hk2=>exact .tok x hx hk2
  | lea x hx hk2 =>
   rcases putLea_has (t:=Vb tm t) ht.incL hx with e | e
   ·exact absurd (by have e:x.n=t.n:=e;simp [e]) hne
   exact .lea x e hk2
theorem Zq.left {tm:Int} {s:VSt} {u:Xe} {it2:Item} {tk tk2:Bool} {n n2 un2:Nat} (hu:Zq tm s u it2 tk2 n2 un2) (hne:(u.k,u.n)≠(kdB tk,(n:Int))):Zq tm ((Item.gone tk n).app s) u it2 tk2 n2 un2:=by
 cases hu with
 | tok x hx hk2 =>
  refine .tok x ?_ hk2;cases tk
  ·exact hx
  exact List.mem_filter.2 ⟨hx,by simpa using fun e=>hne (by simp [kdB,e])⟩
 | lea x hx hk2 =>
  refine .lea x ?_ hk2;cases tk
  ·exact List.mem_filter.2 ⟨hx,by simpa using fun e=>hne (by simp [kdB,e])⟩
  exact hx
theorem QOk.failed {tm:Int} {s:VSt} {t:Xe} {q':List Xe} {it:Item} {tk:Bool} {n un:Nat} (h:QOk tm s (t :: q')) (ht:Jt s) (hs:Zq tm s t it tk n un):QOk tm (it.app s) q':=by
 obtain⟨h1,h2⟩:=List.nodup_cons.1 (by simpa using h.nd:((t.k,t.n) :: q'.map (fun t=>(t.k,t.n))).Nodup);refine⟨h2,fun u hu=>?_,fun u hu hk m hm=>by rw [hs.hasU ht];exact h.nb u (List.mem_cons_of_mem _ hu) hk m hm⟩;obtain⟨it2,tk2,n2,un2,hu2⟩:=h.ex u (List.mem_cons_of_mem _ hu);exact⟨it2,tk2,n2,un2,hs.other hu2 ht (fun e=>h1 (List.mem_map.2 ⟨u,hu,e⟩))⟩
theorem QOk.gone {tm:Int} {s:VSt} {t:Xe} {q':List Xe} {it:Item} {tk:Bool} {n un:Nat} (h:QOk tm s (t :: q')) (ht:Jt s) (hs:Zq tm s t it tk n un):QOk tm ((Item.gone tk n).app s) (q'++Jb ((Item.gone tk n).app s) tm un):=by
 obtain⟨h1,h2⟩:=List.nodup_cons.1 (by simpa using h.nd:((t.k,t.n) :: q'.map (fun t=>(t.k,t.n))).Nodup);have hkey:=hs.key
 have hleft:∀ u∈q',∃ it tk' n' un,Zq tm ((Item.gone tk n).app s) u it tk' n' un:=fun u hu=>by
  obtain⟨it2,tk2,n2,un2,hu2⟩:=h.ex u (List.mem_cons_of_mem _ hu);exact⟨it2,tk2,n2,un2,hu2.left (fun e=>h1 (List.mem_map.2 ⟨u,hu,by rw [e,hkey.1,hkey.2]⟩))⟩
 have hT:=ht.gone tk n (fun e=>h.nb t (by simp) (by rw [hkey.1,e];rfl) n hkey.2)
 have hup:∀ u∈Jb ((Item.gone tk n).app s) tm un,u.k=1/\u.n=(un:Int)/\Proofs.hasU ((Item.gone tk n).app s) un=false/\∃ it tk' n' un',Zq tm ((Item.gone tk n).app s) u it tk' n' un':=fun u hu=>by
  unfold Jb at hu
  split at hu
  ·rename_i p hp
   have hpm:=List.mem_of_find?_eq_some hp
   have hpn:p.n=un:=by simpa using List.find?_some hp
   unfold Yv at hu
   split at hu
   ·rename_i hc
    obtain rfl:=List.mem_singleton.1 hu;simp only [Bool.and_eq_true,Bool.not_eq_true'] at hc
    have hr:p.n≠0:=fun e=>by
     have:=hT.root p hpm e;rw [this] at hc;simp at hc
    have hk:p.ak=1:=by
     rcases hT.upT p hpm with e | e
     ·exact absurd e hr
     exact e.1
    refine⟨rfl,by simp [hpn],?_,_,_,_,_,.tok p hpm hk⟩;rw [<- hpn];exact hc.2
   cases hu
  cases hu
 have hlen:(Jb ((Item.gone tk n).app s) tm un).length<=1:=by
  unfold Jb
  split
  ·unfold Yv;split <;> simp
  simp
 refine⟨?_,fun u hu=>?_,fun u hu hk m hm=>?_⟩
 ·rw [List.map_append]
  refine List.nodup_append.2 ⟨h2,?_,fun x hx y hy e=>?_⟩
  ·match hq:Jb ((Item.gone tk n).app s) tm un,hlen with
   | [],_=>simp
   | [a],_=>simp
   | a :: b :: r,hl=>simp at hl
  obtain⟨u,hu,rfl⟩:=List.mem_map.1 hx;obtain⟨z,hz,rfl⟩:=List.mem_map.1 hy;obtain⟨z1,z2,-⟩:=hup z hz;have e':=Prod.mk.inj e;have:=h.nb u (List.mem_cons_of_mem _ hu) (by rw [e'.1,z1]) un (by rw [e'.2,z2]);rw [hs.under] at this;cases this
 ·rcases List.mem_append.1 hu with hu | hu
  ·exact hleft u hu
  exact(hup u hu).2.2.2
 rcases List.mem_append.1 hu with hu | hu
 ·exact Xov (h.nb u (List.mem_cons_of_mem _ hu) hk m hm)
 obtain⟨-,z2,z3,-⟩:=hup u hu
 have:m=un:=by rw [hm] at z2;omega
 rw [this];exact z3
theorem J8 {s:VSt} {tm:Int} {t:Xd} {u:Xe} (h:u∈Yv s tm t):u=⟨t.at_,1,t.n⟩/\t.pd=true/\t.at_<=tm/\Proofs.hasU s t.n=false:=by
 unfold Yv at h
 split at h
 ·rename_i hc
  simp only [Bool.and_eq_true,Bool.not_eq_true',decide_eq_true_eq] at hc;exact⟨List.mem_singleton.1 h,hc.1.1,hc.1.2,hc.2⟩
 cases h
theorem Vp {tm:Int} {t:Xc} {u:Xe} (h:u∈Zw tm t):u=⟨t.at_,2,t.n⟩/\t.at_<=tm:=by
 unfold Zw at h
 split at h
 ·rename_i hc
  exact⟨List.mem_singleton.1 h,hc⟩
 cases h
theorem Xcr {α:Type} (f:α->List Xe) (num:α->Nat) (kd:Int) (hf:∀ x u,u∈f x->u.k=kd/\u.n=(num x:Int)) (h1:∀ x,(f x).length<=1):∀ {l:List α},l.Pairwise (fun a b=>num a<num b)->((l.flatMap f).map (fun t=>(t.k,t.n))).Nodup
 | [],_=>by simp
 | a :: l,h=>by
  obtain⟨h2,h3⟩:=List.pairwise_cons.1 h;rw [List.flatMap_cons,List.map_append];refine List.nodup_append.2 ⟨?_,Xcr f num kd hf h1 h3,fun x hx y hy e=>?_⟩
  ·match f a,h1 a with
   | [],_=>simp
   | [b],_=>simp
   | b :: c :: r,hl=>simp at hl
  obtain⟨u,hu,rfl⟩:=List.mem_map.1 hx;obtain⟨z,hz,rfl⟩:=List.mem_map.1 hy;obtain⟨b,hb,hz⟩:=List.mem_flatMap.1 hz;have:=(hf a u hu).2;have:=(hf b z hz).2;have:=(Prod.mk.inj e).2;have:=h2 b hb;omega
theorem QOk.start {tm:Int} {s:VSt} (ht:Jt s):QOk tm s (s.tks.flatMap (Yv s tm)++s.lks.flatMap (Zw tm)):=by
 refine⟨?_,fun u hu=>?_,fun u hu hk m hm=>?_⟩
 ·rw [List.map_append]
  refine List.nodup_append.2 ⟨Xcr _ Xd.n 1 (fun x u h=>by rw [(J8 h).1];exact⟨rfl,rfl⟩) (fun x=>by unfold Yv;split <;> simp) ht.incT,Xcr _ Xc.n 2 (fun x u h=>by rw [(Vp h).1];exact⟨rfl,rfl⟩) (fun x=>by unfold Zw;split <;> simp) ht.incL,fun x hx y hy e=>?_⟩;obtain⟨u,hu,rfl⟩:=List.mem_map.1 hx;obtain⟨z,hz,rfl⟩:=List.mem_map.1 hy;obtain⟨a,-,hu⟩:=List.mem_flatMap.1 hu;obtain⟨b,-,hz⟩:=List.mem_flatMap.1 hz;rw [(J8 hu).1,(Vp hz).1] at e;exact absurd (Prod.mk.inj e).1 (by simp)
 ·rcases List.mem_append.1 hu with hu | hu
  ·obtain⟨a,ha,hu⟩:=List.mem_flatMap.1 hu
   obtain⟨rfl,hp,-,-⟩:=J8 hu
   rcases ht.upT a ha with e | e
   ·rw [ht.root a ha e] at hp;cases hp
   exact⟨_,_,_,_,.tok a ha e.1⟩
  obtain⟨a,ha,hu⟩:=List.mem_flatMap.1 hu;obtain⟨rfl,-⟩:=Vp hu;exact⟨_,_,_,_,.lea a ha (ht.upL a ha).1⟩
 rcases List.mem_append.1 hu with hu | hu
 ·obtain⟨a,ha,hu⟩:=List.mem_flatMap.1 hu
  obtain⟨rfl,-,-,hb⟩:=J8 hu
  have:m=a.n:=by have:(a.n:Int)=m:=hm;omega
  rw [this];exact hb
 obtain⟨a,ha,hu⟩:=List.mem_flatMap.1 hu;obtain⟨rfl,-⟩:=Vp hu;exact absurd hk (by simp)
theorem J9 {α:Type} (p:α->Bool):∀ {l:List α} {x:α},x∈l->p x=false->(l.filter p).length+1<=l.length
 | a :: l,x,hx,hp=>by
  rcases List.mem_cons.1 hx with rfl | hx
  ·rw [List.filter_cons_of_neg (by simp [hp])]
   have:=List.length_filter_le p l;simp;omega
  have:=J9 p hx hp
  by_cases h:p a=true
  ·rw [List.filter_cons_of_pos h];simp;omega
  rw [List.filter_cons_of_neg h];simp;omega
def TS.left (a:TS):Nat:=a.q.length+2*(a.s.tks.length+a.s.lks.length)
theorem J7 {t:Xd} {l:List Xd} (hs:l.Pairwise (fun a b=>a.n<b.n)) {x:Xd} (hx:x∈l) (hn:x.n=t.n):(Yh t l).length=l.length:=by
 rcases Yy (t:=t) hs with⟨a,y,b,rfl,hy,hp,hne⟩ | ⟨hne,-⟩
 ·rw [hp];simp
 exact absurd hn (hne x hx)
theorem J6 {t:Xc} {l:List Xc} (hs:l.Pairwise (fun a b=>a.n<b.n)) {x:Xc} (hx:x∈l) (hn:x.n=t.n):(Yc t l).length=l.length:=by
 rcases Yx (t:=t) hs with⟨a,y,b,rfl,hy,hp,hne⟩ | ⟨hne,-⟩
 ·rw [hp];simp
 exact absurd hn (hne x hx)
theorem Jn.less {tm:Int} {a b:TS} (h:Jn tm a b) (ht:Jt a.s):b.left<a.left:=by
 cases h with
 | fail hs hp hl ho hq =>
  have h1:=hp.length_eq;have h2:=hq.length_eq;simp only [List.length_cons] at h1;unfold TS.left
  cases hs with
  | tok t hm hk =>
   have:(Yh (Va tm t) a.s.tks).length=a.s.tks.length:=J7 ht.incT hm rfl;simp only [Item.app];omega
  | lea t hm hk =>
   have:(Yc (Vb tm t) a.s.lks).length=a.s.lks.length:=J6 ht.incL hm rfl;simp only [Item.app];omega
 | @ok t q' q'' it tk n un hs hp hl ho hq =>
  have h1:=hp.length_eq;have h2:=hq.length_eq
  have h3:(Jb ((Item.gone tk n).app a.s) tm un).length<=1:=by
   unfold Jb
   split
   ·unfold Yv;split <;> simp
   simp
  rw [List.length_append] at h2;simp only [List.length_cons] at h1;unfold TS.left
  cases hs with
  | tok t hm hk =>
   have:(a.s.tks.filter (fun x=>x.n != t.n)).length+1<=a.s.tks.length:=J9 _ hm (by simp);simp only [Item.app,Yu,Y6,Xba,if_true];omega
  | lea t hm hk =>
   have:(a.s.lks.filter (fun x=>x.n != t.n)).length+1<=a.s.lks.length:=J9 _ hm (by simp);simp only [Item.app,Yu,Y6,Xa8,Bool.false_eq_true,if_false];omega
section
variable {k:Blk} {vx:VX} {tm:Int} {s:VSt} {tn ln:Int}
theorem Tryz.Xds {t:Xe} {it:Item} {tk:Bool} {n un:Nat} (hs:Zq tm s t it tk n un) (W:World) (hV:Xq W k.vb k.mt k.ml vx tm tn ln s.tks s.lks):Calls prog 134 #[.pointer (some ⟨k.vb,0,none⟩),nmV (kdB tk,(n:Int))] W fun e w'=>e=.returned (nmV (1,(un:Int)))/\Below W.heap.size W w':=by
 cases hs with
 | tok t hm hk =>
  have h:=Xiz k.vb k.mt (1,(t.n:Int)) t.ak t.au t.at_ t.tr t.pd W (fun W' hb=>⟨(hV.below hb).v.cell 3 rfl,(hV.below hb).Xhi hm⟩);rw [hk] at h;exact h
 | lea t hm hk =>
  have h:=Xi3 k.vb k.mt k.ml (2,(t.n:Int)) t.ak t.au t.at_ t.tr t.pd t.pth t.last W (fun W' hb=>⟨(hV.below hb).v.cell 3 rfl,(hV.below hb).Xaa (Xdx (.inr rfl) (hV.ok.limL t hm).1) (fun x _ e=>by have:=(Prod.mk.inj e).1;omega)⟩) (fun W' hb=>⟨(hV.below hb).v.cell 4 rfl,(hV.below hb).Xse hm⟩);rw [hk] at h;exact h
theorem Tryz.Xks {t:Xe} {it:Item} {tk:Bool} {n un:Nat} (hs:Zq tm s t it tk n un) (t0:0<=tm) (t1:tm<=18446744073709551615) (hT:∀ x∈s.tks,0<=x.tr/\x.tr<9223372036854775807) (hL:∀ x∈s.lks,0<=x.tr/\x.tr<9223372036854775807) (W:World) (hV:Xq W k.vb k.mt k.ml vx tm tn ln s.tks s.lks):Calls prog 135 #[.pointer (some ⟨k.vb,0,none⟩),nmV (kdB tk,(n:Int))] W fun e w'=>e=.returned (.agg it.rec_.cells)/\Below W.heap.size W w':=by
 cases hs with
 | tok t hm hk=>exact Xk5 k.vb k.mt (1,(t.n:Int)) tm t.ak t.au t.at_ t.tr t.pd W (fun W' hb=>⟨(hV.below hb).v.cell 3 rfl,(hV.below hb).v.cell 2 rfl,(hV.below hb).Xhi hm⟩) (hT t hm).1 (hT t hm).2 t0 t1
 | lea t hm hk=>exact Xl5 k.vb k.mt k.ml (2,(t.n:Int)) tm t.ak t.au t.at_ t.tr t.pd t.pth t.last W hV.v.lt (fun W' hb=>⟨(hV.below hb).v.cell 3 rfl,(hV.below hb).v.cell 2 rfl,(hV.below hb).Xaa (Xdx (.inr rfl) (hV.ok.limL t hm).1) (fun x _ e=>by have:=(Prod.mk.inj e).1;omega)⟩) (fun W' hb=>⟨(hV.below hb).v.cell 4 rfl,(hV.below hb).Xse hm⟩) (hL t hm).1 (hL t hm).2 t0 t1
end
theorem Zq.fits {tm:Int} {s:VSt} {t:Xe} {it:Item} {tk:Bool} {n un:Nat} (hs:Zq tm s t it tk n un) (hok:Xx s.tks s.lks) (okT:∀ t∈s.tks,Xdo t) (okL:∀ t∈s.lks,Xc8 t) (h50:s.tks.length+s.lks.length<=50) (t0:0<=tm) (t1:tm<=18446744073709551615) (hT:∀ x∈s.tks,0<=x.tr/\x.tr<1000000000) (hL:∀ x∈s.lks,0<=x.tr/\x.tr<1000000000):it.Fits s/\n<Xo:=by
 have hw:=fun m:Nat=>Vu m
 cases hs with
 | tok t hm hk =>
  have h1:=hT t hm;have h2:=okT t hm;have hr:=Zv tm (waitN t.tr.toNat) t0 t1 (by have:=hw t.tr.toNat;omega) (by have:=hw t.tr.toNat;omega);exact⟨⟨⟨hr.1,hr.2,show 0<=t.tr+1 by omega,⟨show t.tr+1<=1000000000 by omega,h2.r1.2⟩⟩,.inl ⟨t,hm,rfl⟩,by omega,(hok.limT t hm).1,(hok.limT t hm).2⟩,(hok.limT t hm).1⟩
 | lea t hm hk =>
  have h1:=hL t hm;have h2:=okL t hm;have hr:=Zv tm (waitN t.tr.toNat) t0 t1 (by have:=hw t.tr.toNat;omega) (by have:=hw t.tr.toNat;omega);exact⟨⟨⟨hr.1,hr.2,show 0<=t.tr+1 by omega,⟨show t.tr+1<=1000000000 by omega,h2.r1.2⟩,h2.l0,h2.l1,h2.p1,h2.pa⟩,.inl ⟨t,hm,rfl⟩,by omega,(hok.limL t hm).1,(hok.limL t hm).2⟩,(hok.limL t hm).1⟩
theorem Zq.up {tm:Int} {s:VSt} {t:Xe} {q:List Xe} {it:Item} {tk:Bool} {n un:Nat} (hs:Zq tm s t it tk n un) (hT:Jt s) (hQ:QOk tm s (t :: q)) (h0:tk=true->n≠0):∃ p∈((Item.gone tk n).app s).tks,p.n=un/\Jb ((Item.gone tk n).app s) tm un=Yv ((Item.gone tk n).app s) tm p:=by
 have hex:∃ p∈s.tks,p.n=un:=by
  cases hs with
  | tok t hm hk =>
   rcases hT.upT t hm with e | e
   ·exact absurd e (h0 rfl)
   exact e.2
  | lea t hm hk=>exact(hT.upL t hm).2
 obtain⟨p,hp,hpn⟩:=hex
 have hp':p∈((Item.gone tk n).app s).tks:=by
  show p∈Yu tk n s.tks
  cases tk with
  | false=>exact hp
  | true =>
   refine List.mem_filter.2 ⟨hp,?_⟩
   have hne:un≠n:=fun e=>by
    have h1:=hQ.nb t (by simp) (by rw [hs.key.1];rfl) n hs.key.2;have h2:=hs.under;rw [e,h1] at h2;cases h2
   simpa [hpn] using hne
 cases hf:((Item.gone tk n).app s).tks.find? (fun t=>t.n==un) with
 | none=>exact absurd (List.find?_eq_none.1 hf p hp') (by simp [hpn])
 | some p2 =>
  refine⟨p2,List.mem_of_find?_eq_some hf,by simpa using List.find?_some hf,?_⟩;unfold Jb;rw [hf]
theorem Tryz.Xvw (B:Nat) (k:Blk) (vx:VX) (tm:Int) (s:VSt) (c:List UInt8) (l f:Int) (rb:Nat) (fl:Int) (v:Value) (xs:List Value) (q:List Xe) (w:World) (h:TAt B w k vx tm s c l f rb fl v xs q) (hl:l<0) (hl1 : -999999990<=l) (hf:f<0) (hf1 : -999999990<=f) (hc:c.length<=900000000000) (hx1:xs.length<=1000) (hq1:q.length<=100) (f0:0<=fl) (f1:fl<=18446744073709551615)
  (t:Xe) (it:Item) (tk:Bool) (n un:Nat) (hs:Zq tm s t it tk n un) (hT:Jt s) (hQ:QOk tm s (t :: q)) (hmin:∀ u∈q,¬ ltT u t) (h0:tk=true->n≠0) (h50:s.tks.length+s.lks.length<=50) (trT:∀ x∈s.tks,0<=x.tr/\x.tr<1000000000) (trL:∀ x∈s.lks,0<=x.tr/\x.tr<1000000000) (cl:List (Int × Nat)) :
  Calls prog 77 #[.pointer (some ⟨k.vb,0,none⟩),nmV (kdB tk,(n:Int))] w fun e w'=>e=.returned .nilIface/\∃ vx' v' b,Jn tm ⟨s,t :: q,fl,c,cl⟩ b/\b.cl=cl ++ [(kdB tk,n)]/\TAt B w' k vx' tm b.s b.c (l-2) (f-2) rb b.fl v' (xs ++ [.string ⟨(nmStr (kdB tk) n).toArray⟩]) b.q/\vx'.tk=vx.tk/\(∀ g,v'.ownBlock=some g->v.ownBlock=some g\/w.heap.size<=g)/\(∀ d,vx'.due.ownBlock=some d->vx.due.ownBlock=some d\/w.heap.size<=d)/\Spares (X8 k rb v vx.due) w w':=by
 have t0:=h.wh.v.t0;have t1:=h.wh.v.t1;obtain⟨hfit,hn⟩:=hs.fits h.wh.v.va.ok h.wh.v.okT h.wh.v.okL h50 t0 t1 trT trL
 by_cases ho:(fl % 2==1)=true
 ·refine(Xty B k vx tm s c l f rb fl v xs q w h hl hl1 hf hf1 hc hx1 f0 f1 ho (kdB tk) n hn 1 un it hfit (fun W hV=>Xds hs W hV) (fun W hV=>Xks hs t0 t1 (fun x hx=>⟨(trT x hx).1,by have:=(trT x hx).2;omega⟩) (fun x hx=>⟨(trL x hx).1,by have:=(trL x hx).2;omega⟩) W hV)).mono ?_
  rintro e w' ⟨rfl,g,cap,hA,hg,hS⟩;refine⟨rfl,vx,_,_,.fail (a:=⟨s,t :: q,fl,c,cl⟩) hs (List.Perm.refl _) hmin ho (List.Perm.refl _),rfl,hA,rfl,fun g' e=>?_,fun d hd=>.inl hd,hS.mono (fun b hb=>?_)⟩
  ·have e:g=g':=by simpa [Value.ownBlock] using e
   rw [<- e];exact hg
  simp only [X8,List.mem_append,List.mem_cons] at hb ⊢
  rcases hb with h | h | h
  ·exact .inl h
  ·exact .inr (.inl h)
  exact .inr (.inr (.inl h))
 have ho:(fl % 2==1)=false:=by simpa using ho
 obtain⟨p,hp,hpn,hadd⟩:=hs.up hT hQ h0;subst hpn;refine(tryOk B k vx tm s c l f rb fl v xs q w h hl hl1 hf hf1 hc hx1 hq1 f0 f1 ho tk (kdB tk) rfl n hn 1 p.n p.ak p.au p.at_ p.tr p.pd _ rfl (fun W hV=>Xds hs W hV) (fun W hV=>hV.Xsf hp) _ rfl (Jb ((Item.gone tk n).app s) tm p.n) hadd).mono ?_;rintro e w' ⟨rfl,g,cap,vx',ys,hA,h1,h2,hg,hd,hS⟩;refine⟨rfl,vx',_,_,.ok (a:=⟨s,t :: q,fl,c,cl⟩) hs (List.Perm.refl _) hmin ho h2,rfl,hA,h1,fun g' e=>?_,hd,hS⟩
 have e:g=g':=by simpa [Value.ownBlock] using e
 rw [<- e];exact hg
def QNz (q:List Xe):Prop:=∀ t∈q,t.k=1->t.n≠0
theorem QNz.perm {q q':List Xe} (h:QNz q) (hp:q'.Perm q):QNz q':=fun t ht=>h t (hp.mem_iff.1 ht)
theorem Xrg {s:VSt} (hT:Jt s) {tm:Int} {un:Nat}:QNz (Jb s tm un):=fun u hu hk e=>by
 unfold Jb at hu
 split at hu
 ·rename_i p hp
  have hpm:=List.mem_of_find?_eq_some hp;obtain⟨rfl,hpd,-,-⟩:=J8 hu;have e:(p.n:Int)=0:=e;rw [hT.root p hpm (by omega)] at hpd;cases hpd
 cases hu
theorem QNz.start {tm:Int} {s:VSt} (hT:Jt s):QNz (s.tks.flatMap (Yv s tm)++s.lks.flatMap (Zw tm)):=fun u hu hk e=>by
 rcases List.mem_append.1 hu with hu | hu
 ·obtain⟨a,ha,hu⟩:=List.mem_flatMap.1 hu
  obtain⟨rfl,hp,-,-⟩:=J8 hu;have e:(a.n:Int)=0:=e;rw [hT.root a ha (by omega)] at hp;cases hp
 obtain⟨a,ha,hu⟩:=List.mem_flatMap.1 hu;obtain⟨rfl,-⟩:=Vp hu;exact absurd hk (by simp)
def TrB (M:Int) (s:VSt):Prop:=(∀ x∈s.tks,0<=x.tr/\x.tr<=M)/\∀ x∈s.lks,0<=x.tr/\x.tr<=M
theorem Zq.trB {tm:Int} {s:VSt} {t:Xe} {it:Item} {tk:Bool} {n un:Nat} (hs:Zq tm s t it tk n un) (hT:Jt s) {M:Int} (h:TrB M s):TrB (M+1) (it.app s):=by
 cases hs with
 | tok t hm hk =>
  refine⟨fun x hx=>?_,fun x hx=>?_⟩
  ·rcases Zh hT.incT hx with rfl | hx
   ·have:=h.1 t hm
    show 0<=t.tr+1/\t.tr+1<=M+1
    omega
   have:=h.1 x hx;omega
  have:=h.2 x hx;omega
 | lea t hm hk =>
  refine⟨fun x hx=>?_,fun x hx=>?_⟩
  ·have:=h.1 x hx;omega
  rcases Jd hT.incL hx with rfl | hx
  ·have:=h.2 t hm
   show 0<=t.tr+1/\t.tr+1<=M+1
   omega
  have:=h.2 x hx;omega
theorem TrB.gone {s:VSt} {M:Int} (h:TrB M s) (tk:Bool) (n:Nat):TrB (M+1) ((Item.gone tk n).app s):=
 ⟨fun x hx=>by have:=h.1 x (Y0 hx);omega,fun x hx=>by have:=h.2 x (Ze hx);omega⟩
theorem Xa1 {tm:Int} (t0:0<=tm) (t1:tm<=18446744073709551615) {it:Item} {s:VSt} (hF:it.Fits s):(keepLine tm [it]).length<=2600:=by
 have hok:∀ r∈nowR tm :: [it].map Item.rec_,r.Ok:=fun r hr=>by
  rcases List.mem_cons.1 hr with rfl | hr
  ·exact⟨show (-9223372036854775808:Int)<=0 by decide,show (0:Int)<=9223372036854775807 by decide,show 0<18446744073709551616 by decide,show 0<18446744073709551616 by decide,t0,t1,show (-9223372036854775808:Int)<=0 by decide,show (0:Int)<=9223372036854775807 by decide,show (0:Int)<=0 by decide,show (0:Int)<=18446744073709551615 by decide,show 0<=1000 by decide⟩
  exact(Yr.ok (is:=[it]) (s:=s) ⟨hF,trivial⟩ r hr).1
 have h1:=Zx _ hok;have h2:=Xgg (recTxt (nowR tm :: [it].map Item.rec_)) (by simp at h1 ⊢;omega);unfold keepLine recLine;simp at h1 h2 ⊢;omega
structure Xaz (tm:Int) (M:Int) (a:TS):Prop where
 tree:Jt a.s
 q:QOk tm a.s a.q
 nz:QNz a.q
 tr:TrB M a.s
 f0:0<=a.fl
 f1:a.fl<=18446744073709551615
theorem Jn.going {tm M:Int} {a b:TS} (h:Jn tm a b) (hg:Xaz tm M a):Xaz tm (M+1) b/\b.cl.length=a.cl.length+1:=by
 have f0:=hg.f0;have f1:=hg.f1
 cases h with
 | @fail t q' q'' it tk n un hs hp hl ho hq =>
  have hQ:=hg.q.perm hp;have hn:=hg.nz.perm hp;have hkey:=hs.key
  have h0:tk=true->n≠0:=fun e en=>hn t (by simp) (by rw [hkey.1,e];rfl) (by rw [hkey.2,en];rfl)
  exact⟨⟨hg.tree.failed hs h0,(hQ.failed hg.tree hs).perm hq,QNz.perm (fun u hu=>hn u (List.mem_cons_of_mem _ hu)) hq,hs.trB hg.tree hg.tr,show 0<=a.fl / 2 by omega,show a.fl / 2<=18446744073709551615 by omega⟩,by simp⟩
 | @ok t q' q'' it tk n un hs hp hl ho hq =>
  have hQ:=hg.q.perm hp;have hn:=hg.nz.perm hp;have hkey:=hs.key;have hT:=hg.tree.gone tk n (fun e=>hQ.nb t (by simp) (by rw [hkey.1,e];rfl) n hkey.2);refine⟨⟨hT,(hQ.gone hg.tree hs).perm hq,QNz.perm (fun u hu=>?_) hq,hg.tr.gone tk n,show 0<=a.fl / 2 by omega,show a.fl / 2<=18446744073709551615 by omega⟩,by simp⟩
  rcases List.mem_append.1 hu with hu | hu
  ·exact hn u (List.mem_cons_of_mem _ hu)
  exact Xrg hT u hu
theorem Jn.len {tm M:Int} {a b:TS} (h:Jn tm a b) (hg:Xaz tm M a) (hM:M<1000000000) (t0:0<=tm) (t1:tm<=18446744073709551615) (hok:Xx a.s.tks a.s.lks) (okT:∀ t∈a.s.tks,Xdo t) (okL:∀ t∈a.s.lks,Xc8 t) (h50:a.s.tks.length+a.s.lks.length<=50):b.c.length<=a.c.length+2600:=by
 have hfit:∀ {t:Xe} {it:Item} {tk:Bool} {n un:Nat},Zq tm a.s t it tk n un->it.Fits a.s/\n<Xo:=fun hs=>hs.fits hok okT okL h50 t0 t1 (fun x hx=>by have:=hg.tr.1 x hx;omega) (fun x hx=>by have:=hg.tr.2 x hx;omega)
 cases h with
 | @fail t q' q'' it tk n un hs hp hl ho hq =>
  have:=Xa1 t0 t1 (hfit hs).1;simp only [List.length_append];omega
 | @ok t q' q'' it tk n un hs hp hl ho hq =>
  have:=Xa1 (it:=Item.gone tk n) (s:=a.s) t0 t1 (hfit hs).2;simp only [List.length_append];omega
theorem Jn.count {tm:Int} {a b:TS} (h:Jn tm a b) (ht:Jt a.s):b.s.tks.length+b.s.lks.length<=a.s.tks.length+a.s.lks.length:=by
 cases h with
 | fail hs hp hl ho hq =>
  cases hs with
  | tok t hm hk =>
   have:(Yh (Va tm t) a.s.tks).length=a.s.tks.length:=J7 ht.incT hm rfl;simp only [Item.app];omega
  | lea t hm hk =>
   have:(Yc (Vb tm t) a.s.lks).length=a.s.lks.length:=J6 ht.incL hm rfl;simp only [Item.app];omega
 | @ok t q' q'' it tk n un hs hp hl ho hq =>
  have h1:(Yu tk n a.s.tks).length<=a.s.tks.length:=by unfold Yu;split;exact List.length_filter_le _ _;exact Nat.le_refl _
  have h2:(Y6 tk n a.s.lks).length<=a.s.lks.length:=by unfold Y6;split;exact Nat.le_refl _;exact List.length_filter_le _ _
  simp only [Item.app];omega
theorem Jn.Xnv {tm:Int} {a b:TS} {q:List Xe} (h:Jn tm ⟨a.s,q,a.fl,a.c,a.cl⟩ b) (hp:q.Perm a.q):Jn tm a b:=by
 cases h with
 | fail hs hp1 hl ho hq=>exact .fail (a:=a) hs (hp1.trans hp) hl ho hq
 | ok hs hp1 hl ho hq=>exact .ok (a:=a) hs (hp1.trans hp) hl ho hq
theorem Jn.qc {tm:Int} {a b:TS} (h:Jn tm a b) (ht:Jt a.s):b.q.length+(b.s.tks.length+b.s.lks.length)<=a.q.length+(a.s.tks.length+a.s.lks.length):=by
 have hc:=h.count ht
 cases h with
 | fail hs hp hl ho hq =>
  have h1:=hp.length_eq;have h2:=hq.length_eq;simp only [List.length_cons] at h1 hc ⊢;omega
 | @ok t q' q'' it tk n un hs hp hl ho hq =>
  have h1:=hp.length_eq;have h2:=hq.length_eq
  have h3:(Jb ((Item.gone tk n).app a.s) tm un).length<=1:=by
   unfold Jb
   split
   ·unfold Yv;split <;> simp
   simp
  rw [List.length_append] at h2;simp only [List.length_cons] at h1 hc ⊢;omega
theorem Xj1 {P:Nat->Prop}:∀ n,P n->∃ m,P m/\∀ i,P i->m<=i:=by
 intro n
 induction n using Nat.strongRecOn with
 | ind n ih =>
  intro h
  by_cases hl:∃ m,m<n/\P m
  ·obtain⟨m,hm,hp⟩:=hl
   exact ih m hm hp
  exact⟨n,h,fun i hi=>Nat.le_of_not_lt (fun e=>hl ⟨i,e,hi⟩)⟩
open Classical in
noncomputable def leastOf (P:Nat->Prop):Nat:=if h:∃ m,P m/\∀ i,P i->m<=i then Classical.choose h else 0
theorem leastOf_spec {P:Nat->Prop} (h:∃ n,P n):P (leastOf P):=by
 obtain⟨n,hn⟩:=h;have he:=Xj1 n hn;unfold leastOf;rw [dif_pos he];exact(Classical.choose_spec he).1
theorem Xey {P:Nat->Prop} {n:Nat} (h:P n):leastOf P<=n:=by
 have he:=Xj1 n h;unfold leastOf;rw [dif_pos he];exact(Classical.choose_spec he).2 n h
structure Tryz.Xtv (B:Nat) (k:Blk) (tm:Int) (a0:TS) (l f M:Int) (rb Bv:Nat) (v0 due0:Value) (w wr:World) (nb:Nat) (t:Xe) (okb:Bool) (vx:VX) (v:Value) (q:List Xe) (a:TS) (j:Nat):Prop where
 bN:BoxN wr nb 144 t.cells
 nd:vx.due.ownBlock≠some nb
 nw:w.heap.size<=nb
 bB:BoxN wr Bv 76 #[.pointer (some ⟨k.vb,0,none⟩)]
 tat:Tryz.TAt B wr k vx tm a.s a.c (l-2*j) (f-2*j) rb a.fl v (a.cl.map fun p=>.string ⟨(nmStr p.1 p.2).toArray⟩) q
 yes:okb=true->(t :: q).Perm a.q/\∀ u∈q,¬ ltT u t
 no:okb=false->a.q = []/\q = []
 tries:Jv tm a0 a
 going:Xaz tm (M+j) a
 left:j+a.left<=a0.left
 cl:a.cl.length=j
 c:a.c.length<=a0.c.length+2600*j
 n50:a.s.tks.length+a.s.lks.length<=50
 qc:a.q.length+(a.s.tks.length+a.s.lks.length)<=100
 tk:vx.tk=true
 sp:Spares (X8 k rb v0 due0) w wr
 vo:∀ g,v.ownBlock=some g->v0.ownBlock=some g\/w.heap.size<=g
 do_:∀ d,vx.due.ownBlock=some d->due0.ownBlock=some d\/w.heap.size<=d
def Tryz.TkI (B:Nat) (k:Blk) (tm:Int) (a0:TS) (l f M:Int) (rb Bv:Nat) (v0 due0:Value) (w:World) (p o:Value) (wr:World) (n:Nat):Prop:=
 ∃ nb t okb vx v q a j,p=.pointer (some ⟨nb,0,none⟩)/\o=.bool okb/\n=a.left/\Xtv B k tm a0 l f M rb Bv v0 due0 w wr nb t okb vx v q a j
structure Z7 (N:Nat) (s:VSt):Prop where
 tree:Jt s
 tr:TrB ((48*N:Nat):Int) s
 old:∀ t∈s.tks,(t.n=0/\t.ak=0/\t.au=0)\/(t.ak=1/\t.au<t.n)
theorem Z7.more {N M:Nat} {s:VSt} (h:Z7 N s) (hM:N<=M):Z7 M s:=
 ⟨h.tree,⟨fun x hx=>by have:=h.tr.1 x hx;omega,fun x hx=>by have:=h.tr.2 x hx;omega⟩,h.old⟩
theorem Z7.start {tn ln:Nat}:Z7 0 ⟨tn,ln,[⟨0,0,0,18446744073709551615,0,false⟩],[]⟩:=
 ⟨⟨by simp,by simp,fun t ht=>.inl (by rw [List.mem_singleton.1 ht]),fun t ht=>(by cases ht),fun t ht _=>by rw [List.mem_singleton.1 ht]⟩,⟨fun x hx=>by rw [List.mem_singleton.1 hx];exact⟨Int.le_refl _,Int.le_refl _⟩,fun x hx=>(by cases hx)⟩,fun t ht=>.inl (by rw [List.mem_singleton.1 ht];exact⟨rfl,rfl,rfl⟩)⟩
theorem Xnh {α:Type} {f:α->Nat} {l:List α} {x:α} (h:l.Pairwise (fun a b=>f a<f b)) (hx:∀ a∈l,f a<f x):(l ++ [x]).Pairwise (fun a b=>f a<f b):=
 List.pairwise_append.2 ⟨h,by simp,fun a ha b hb=>by rw [List.mem_singleton.1 hb];exact hx a ha⟩
theorem Z7.snocT {N tn' ln' n m:Nat} {s:VSt} (h:Z7 N s) (hn:∀ x∈s.tks,x.n<n) (hm:∃ p∈s.tks,p.n=m):Z7 N ⟨tn',ln',s.tks ++ [Xbl n m],s.lks⟩:=by
 obtain⟨p,hp,rfl⟩:=hm;have hpn:=hn p hp
 have up:∀ {k:Nat},(∃ q∈s.tks,q.n=k)->∃ q∈s.tks ++ [Xbl n p.n],q.n=k:=fun⟨q,hq,e⟩=>⟨q,List.mem_append_left _ hq,e⟩
 refine⟨⟨Xnh (f:=Xd.n) h.tree.incT hn,h.tree.incL,fun t ht=>?_,fun t ht=>⟨(h.tree.upL t ht).1,up (h.tree.upL t ht).2⟩,fun t ht e=>?_⟩,⟨fun x hx=>?_,h.tr.2⟩,fun t ht=>?_⟩
 ·rcases List.mem_append.1 ht with ht | ht
  ·exact(h.tree.upT t ht).imp id (fun e=>⟨e.1,up e.2⟩)
  rw [List.mem_singleton.1 ht];exact .inr ⟨rfl,p,List.mem_append_left _ hp,rfl⟩
 ·rcases List.mem_append.1 ht with ht | ht
  ·exact h.tree.root t ht e
  rw [List.mem_singleton.1 ht];rfl
 ·rcases List.mem_append.1 hx with hx | hx
  ·exact h.tr.1 x hx
  rw [List.mem_singleton.1 hx];exact⟨Int.le_refl _,by show (0:Int)<=((48*N:Nat):Int);omega⟩
 rcases List.mem_append.1 ht with ht | ht
 ·exact h.old t ht
 rw [List.mem_singleton.1 ht];exact .inr ⟨rfl,hpn⟩
theorem Z7.snocL {N tn' ln' n m:Nat} {a b:Int} {pth:List UInt8} {s:VSt} (h:Z7 N s) (hn:∀ x∈s.lks,x.n<n) (hm:∃ p∈s.tks,p.n=m):Z7 N ⟨tn',ln',s.tks,s.lks ++ [Xb4 n m a b pth]⟩:=by
 refine⟨⟨h.tree.incT,Xnh (f:=Xc.n) h.tree.incL hn,h.tree.upT,fun t ht=>?_,h.tree.root⟩,⟨h.tr.1,fun x hx=>?_⟩,h.old⟩
 ·rcases List.mem_append.1 ht with ht | ht
  ·exact h.tree.upL t ht
  rw [List.mem_singleton.1 ht];exact⟨rfl,hm⟩
 rcases List.mem_append.1 hx with hx | hx
 ·exact h.tr.2 x hx
 rw [List.mem_singleton.1 hx];exact⟨Int.le_refl _,by show (0:Int)<=((48*N:Nat):Int);omega⟩
theorem Z7.mapped {N tn' ln':Nat} {s:VSt} (h:Z7 N s) (gT:Xd->Xd) (gL:Xc->Xc) (hT:∀ t∈s.tks,(gT t).n=t.n/\(gT t).ak=t.ak/\(gT t).au=t.au/\(gT t).tr=t.tr/\(t.n=0->(gT t).pd=t.pd)) (hL:∀ t∈s.lks,(gL t).n=t.n/\(gL t).ak=t.ak/\(gL t).au=t.au/\(gL t).tr=t.tr):Z7 N ⟨tn',ln',s.tks.map gT,s.lks.map gL⟩:=by
 have up:∀ {k:Nat},(∃ q∈s.tks,q.n=k)->∃ q∈s.tks.map gT,q.n=k:=fun⟨q,hq,e⟩=>⟨gT q,List.mem_map.2 ⟨q,hq,rfl⟩,by rw [(hT q hq).1,e]⟩
 have pwT:(s.tks.map gT).Pairwise (fun a b=>a.n<b.n):=by
  rw [List.pairwise_map];exact h.tree.incT.imp_of_mem (fun ha hb hab=>by rw [(hT _ ha).1,(hT _ hb).1];exact hab)
 have pwL:(s.lks.map gL).Pairwise (fun a b=>a.n<b.n):=by
  rw [List.pairwise_map];exact h.tree.incL.imp_of_mem (fun ha hb hab=>by rw [(hL _ ha).1,(hL _ hb).1];exact hab)
 refine⟨⟨pwT,pwL,fun t ht=>?_,fun t ht=>?_,fun t ht e=>?_⟩,⟨fun x hx=>?_,fun x hx=>?_⟩,fun t ht=>?_⟩
 ·obtain⟨q,hq,rfl⟩:=List.mem_map.1 ht
  obtain⟨a1,a2,a3,a4,a5⟩:=hT q hq;rw [a1,a2,a3];exact(h.tree.upT q hq).imp id (fun e=>⟨e.1,up e.2⟩)
 ·obtain⟨q,hq,rfl⟩:=List.mem_map.1 ht
  obtain⟨a1,a2,a3,a4⟩:=hL q hq;rw [a2,a3];exact⟨(h.tree.upL q hq).1,up (h.tree.upL q hq).2⟩
 ·obtain⟨q,hq,rfl⟩:=List.mem_map.1 ht
  obtain⟨a1,a2,a3,a4,a5⟩:=hT q hq;rw [a1] at e;rw [a5 e];exact h.tree.root q hq e
 ·obtain⟨q,hq,rfl⟩:=List.mem_map.1 hx
  rw [(hT q hq).2.2.2.1];exact h.tr.1 q hq
 ·obtain⟨q,hq,rfl⟩:=List.mem_map.1 hx
  rw [(hL q hq).2.2.2];exact h.tr.2 q hq
 obtain⟨q,hq,rfl⟩:=List.mem_map.1 ht;obtain⟨a1,a2,a3,a4,a5⟩:=hT q hq;rw [a1,a2,a3];exact h.old q hq
theorem Xng {l:List Xc} (hs:l.Pairwise (fun a b=>a.n<b.n)) {k:Nat} {x y:Xc} (h:l[k]? = some x):l.set k y=l.map (fun z=>if z.n=x.n then y else z):=by
 apply List.ext_getElem?;intro j;rw [List.getElem?_map]
 by_cases hj:k=j
 ·subst hj
  rw [h,List.getElem?_set_self (List.getElem?_eq_some_iff.1 h).1];simp
 rw [List.getElem?_set_ne hj]
 cases e:l[j]? with
 | none=>rfl
 | some u =>
  have hne:u.n≠x.n:=fun en=>by
   obtain⟨a1,a2⟩:=List.getElem?_eq_some_iff.1 h;obtain⟨b1,b2⟩:=List.getElem?_eq_some_iff.1 e;have hlt:=List.pairwise_iff_getElem.1 hs
   rcases Nat.lt_or_gt_of_ne hj with hl | hl
   ·have:=hlt k j a1 b1 hl;rw [a2,b2] at this;omega
   have:=hlt j k b1 a1 hl;rw [a2,b2] at this;omega
  simp [hne]
theorem Z7.setL {N tn' ln' k:Nat} {l l':Xc} {s:VSt} (h:Z7 N s) (hk:s.lks[k]? = some l) (h1:l'.n=l.n) (h2:l'.ak=l.ak) (h3:l'.au=l.au) (h4:l'.tr=l.tr):Z7 N ⟨tn',ln',s.tks,s.lks.set k l'⟩:=by
 have hm:=List.mem_of_getElem? hk;rw [Xng h.tree.incL hk]
 have:=h.mapped (tn':=tn') (ln':=ln') id (fun z=>if z.n=l.n then l' else z) (fun t ht=>⟨rfl,rfl,rfl,rfl,fun _=>rfl⟩) (fun t ht=>by
  split
  ·rename_i e
   have:t=l:=Z5 (f:=Xc.n) h.tree.incL ht hm e;subst this;exact⟨h1,h2,h3,h4⟩
  exact⟨rfl,rfl,rfl,rfl⟩)
 simpa using this
theorem Jn.old {tm:Int} {a b:TS} (h:Jn tm a b) (hT:Jt a.s) (ho:∀ t∈a.s.tks,(t.n=0/\t.ak=0/\t.au=0)\/(t.ak=1/\t.au<t.n)):∀ t∈b.s.tks,(t.n=0/\t.ak=0/\t.au=0)\/(t.ak=1/\t.au<t.n):=by
 cases h with
 | fail hs hp hl ho' hq =>
  cases hs with
  | tok t hm hk =>
   intro x hx
   rcases Zh hT.incT hx with rfl | hx
   ·exact ho t hm
   exact ho x hx
  | lea t hm hk=>exact ho
 | ok hs hp hl ho' hq=>exact fun t ht=>ho t (Y0 ht)
def Uu (L:List ThingD):Prop:=∃ x,L[0]? = some x/\x.token=true/\x.n=0
theorem Uu.snoc {L:List ThingD} (h:Uu L) (y:ThingD):Uu (L ++ [y]):=by
 obtain⟨x,h1,h2⟩:=h;exact⟨x,by rw [List.getElem?_append_left (List.getElem?_eq_some_iff.1 h1).1];exact h1,h2⟩
theorem Uu.map {L:List ThingD} (h:Uu L) (f:ThingD->ThingD) (hf:∀ x,(f x).token=x.token/\(f x).n=x.n):Uu (L.map f):=by
 obtain⟨x,h1,h2,h3⟩:=h;exact⟨f x,by rw [List.getElem?_map,h1];rfl,by rw [(hf x).1,h2],by rw [(hf x).2,h3]⟩
theorem Uu.set {L:List ThingD} (h:Uu L) {i:Nat} {x y:ThingD} (hi:L[i]? = some x) (h1:y.token=x.token) (h2:y.n=x.n):Uu (L.set i y):=by
 obtain⟨z,h3,h4,h5⟩:=h
 by_cases e:i=0
 ·subst e
  rw [hi] at h3;cases h3;exact⟨y,by rw [List.getElem?_set_self (List.getElem?_eq_some_iff.1 hi).1],by rw [h1,h4],by rw [h2,h5]⟩
 exact⟨z,by rw [List.getElem?_set_ne e];exact h3,h4,h5⟩
theorem Uu.erase {L:List ThingD} (h:Uu L) {i:Nat} (hi:0<i):Uu (L.eraseIdx i):=by
 obtain⟨x,h1,h2⟩:=h;exact⟨x,by rw [List.getElem?_eraseIdx,if_pos hi];exact h1,h2⟩
structure Xd9 (N:Nat) (σ:SS) (L:List ThingD):Prop where
 nt:σ.s.tks.length<=10
 nl:σ.s.lks.length<=14
 pos:0<σ.s.tks.length
 tn:σ.s.tn<=N
 ln:σ.s.ln<=N
 c:σ.c.length<=N*150000
 al:Z7 N σ.s
 hd:Uu L
theorem Xd9.more {N M:Nat} {σ:SS} {L:List ThingD} (h:Xd9 N σ L) (hM:N<=M):Xd9 M σ L:=⟨h.nt,h.nl,h.pos,Nat.le_trans h.tn hM,Nat.le_trans h.ln hM,Nat.le_trans h.c (Nat.mul_le_mul_right _ hM),h.al.more hM,h.hd⟩
theorem Xd9.small {N:Nat} {σ:SS} {L:List ThingD} (h:Xd9 N σ L) (hN:N<20000):σ.c.length<=900000000000:=Nat.le_trans h.c (by omega)
structure Tryz.Inv (w0:World) (B N wb hb:Nat) (W:World):Prop where
 bel:Below B w0 W
 hB:B<=W.heap.size
 bw:B<=wb
 ex:∃ rb σ ra g cap L,Tryz.Sys B W hb rb σ/\Tryz.Xk B W ra g cap L σ.tm ((σ.s.tn+1:Nat):Int) ((σ.s.ln+1:Nat):Int)/\Rel σ.s.tks σ.s.lks L/\BoxN W wb 69 #[.pointer (some ⟨hb,0,none⟩),.pointer (some ⟨ra,0,none⟩),.pointer none,.bool false,.bool false]/\Xd9 N σ L/\B<=ra
section
variable {w0 W W':World} {B N wb hb:Nat}
theorem Tryz.Inv.below (h:Inv w0 B N wb hb W) (hb':Below W.heap.size W W'):Inv w0 B N wb hb W':=by
 obtain⟨rb,σ,ra,g,cap,L,h1,h2,h3,h4,h5,h6⟩:=h.ex;exact⟨h.bel.trans (hb'.mono h.hB),Nat.le_trans h.hB hb'.size,h.bw,⟨rb,σ,ra,g,cap,L,h1.below hb',h2.below hb',h3,h4.below hb' h4.lt,h5,h6⟩⟩
theorem Tryz.Inv.more (h:Inv w0 B N wb hb W) {M:Nat} (hM:N<=M):Inv w0 B M wb hb W:=by
 obtain⟨rb,σ,ra,g,cap,L,h1,h2,h3,h4,h5,h6⟩:=h.ex;exact⟨h.bel,h.hB,h.bw,⟨rb,σ,ra,g,cap,L,h1,h2,h3,h4,h5.more hM,h6⟩⟩
theorem Tryz.Inv.nine (h:Inv w0 B N wb hb W):9<=B:=by
 obtain⟨rb,σ,ra,g,cap,L,h1,-⟩:=h.ex;exact h1.b9
theorem Tryz.After.inv {w:World} {M:Nat} {rb:Nat} {Q:SS->Prop} {Q2:List ThingD->Int->Int->Prop} {tm:Int} (hA:After w B wb hb tm (fun W=>∃ σ,Q σ/\Sys B W hb rb σ) Q2 W) (hI:Inv w0 B N wb hb w)
  (hQ:∀ σ L tr lr,Q σ->Q2 L tr lr->σ.tm=tm/\Rel σ.s.tks σ.s.lks L/\tr=((σ.s.tn+1:Nat):Int)/\lr=((σ.s.ln+1:Nat):Int)/\Xd9 M σ L):Inv w0 B M wb hb W:=by
 obtain⟨σ,q1,hS⟩:=hA.hp;obtain⟨L,tr,lr,nb,g,cap,q2,hR,hnb,hW⟩:=hA.ex;obtain⟨rfl,r1,rfl,rfl,r4⟩:=hQ _ _ _ _ q1 q2;exact⟨hI.bel.trans hA.bel,Nat.le_trans hI.hB hA.bel.size,hI.bw,⟨rb,σ,nb,g,cap,L,hS,hR,r1,hW,r4,hnb⟩⟩
theorem Tryz.Za {rb:Nat} {σ:SS} {w w':World} {r:Value} {e:Ending} (hS:Sys B w hb rb σ) {Q:SS->Prop} (h:e=.returned r/\(∃ σ',(Q σ'/\σ'.k=σ.k/\σ'.vx=σ.vx)/\Sys B w' hb rb σ')/\Spares σ.k.turns w w'):e=.returned r/\(∃ σ',Q σ'/\Sys B w' hb rb σ')/\Z9 B w w':=by
 obtain⟨rfl,⟨σ',⟨hQ,-,-⟩,hS'⟩,hs⟩:=h;exact⟨rfl,⟨σ',hQ,hS'⟩,hS.sp hs⟩
theorem Tryz.Xez {σ:SS} {w w':World} {r:Value} {e:Ending} (hW:Whole w σ.k σ.vx σ.tm σ.s σ.c (-1) (-1)) (h:e=.returned r/\Below w.heap.size w w'):e=.returned r/\(∃ σ' l f,(σ'=σ/\σ'.k=σ.k/\σ'.vx=σ.vx)/\Whole w' σ.k σ'.vx σ'.tm σ'.s σ'.c l f)/\Spares σ.k.turns w w':=by
 obtain⟨rfl,hb⟩:=h;exact⟨rfl,⟨σ,-1,-1,⟨rfl,rfl,rfl⟩,hW.below hb⟩,Spares.of_below hb⟩
end
theorem Tryz.Xsr {w0:World} {B N wb hb:Nat} (w:World) (hI:Inv w0 B N wb hb w) (hN:N<20000) (ss tt:List UInt8) (hss:ss.length<=1000000) (aa bb ff ke pa:Int) :
  Calls prog 62 #[.pointer (some ⟨wb,0,none⟩),.agg (Xn.cells ⟨1,ss,tt,aa,bb,ff,-1,-1,ke,pa⟩)] w fun e w'=>e=.returned (.bool true)/\Inv w0 B (N+1) wb hb w':=by
 obtain⟨rb,σ,ra,g,cap,L,hS,hR,hl,hW,hn,hra⟩:=hI.ex;have hok:=hS.wh.v.va.ok
 have hpos:0<L.length:=by rw [hl.len];have:=hn.pos;omega
 have hlen:L.length<100:=by rw [hl.len];have:=hn.nt;have:=hn.nl;omega
 have b9:=hS.b9;have hcs:=hn.small hN;have hnm:=hn.more (Nat.le_succ N)
 have hFt:∀ W,Whole W σ.k σ.vx σ.tm σ.s σ.c (-1) (-1)->∀ W',Below W.heap.size W W'->Calls prog 83 #[.pointer (some ⟨σ.k.vb,0,none⟩),nmV (parseN ss)] W' fun e w'=>e=.returned (.bool (decide (0<=liveI σ.tm ss true L)))/\Below W'.heap.size W' w':=fun W hV W' hb'=>Xne W' (hV.v.va.below hb') hl ss
 rcases Zt σ.tm ss true L with⟨i,t,ht,hid,htk,hst,hli⟩ | hli
 ·have hm:=List.mem_of_getElem? ht
  have hp:=Xal (L:=L) hid htk (hl.num hok hm) hli
  have hdec:decide (0<=liveI σ.tm ss true L)=true:=by rw [hli];simp
  rw [hdec] at hFt
  by_cases h10:σ.s.tks.length=10
  ·have hA:=Xjq B wb hb ra g cap σ.tm L _ _ w _ _ (Y9 B hb rb σ) (Jz B hb rb (fun σ'=>σ'=σ)) hS hR hpos hW hI.hB b9 hI.bw hra ss tt aa bb ff (-1) (-1) ke pa 4 [] (fun _=>rfl) (fun a b c=>a=L/\b=((σ.s.tn+1:Nat):Int)/\c=((σ.s.ln+1:Nat):Int))
    1 (.inl ⟨rfl,(fun W _ hS'=>((six B hb rb σ W hS' ke pa (Jf 4) 4 (Vg 4 (.inr (by simp [Mm]))) _).1 ss (.string ⟨#[]⟩) (fun W' _ hV=>(Xib σ.k.vb σ.k.mt σ.k.ml σ.vx σ.tm σ.s.tn σ.s.ln σ.s.tks σ.s.lks W' hV.v.va ss hss (hFt W' hV) (by omega)).mono (fun _ _ h=>Xez hV h))).mono (fun _ _ h=>Za hS' h)),(fun B' W nb g' cap' _ _ hR'=>(Xig B' nb g' cap' L σ.tm _ _ ss W hR' i hli (by rw [hl.Xsa];exact h10)).mono (by rintro e w' ⟨rfl,hb'⟩;exact⟨g',cap',L,_,_,⟨rfl,rfl,rfl⟩,rfl,hR'.below hb',Spares.of_below hb'⟩))⟩)
   refine hA.mono ?_;rintro e w' ⟨rfl,hA'⟩;exact⟨rfl,hA'.inv hI (by rintro _ _ _ _ rfl ⟨rfl,rfl,rfl⟩;exact⟨rfl,hl,rfl,rfl,hnm⟩)⟩
  have hlt10:σ.s.tks.length<10:=by have:=hn.nt;omega
  have htn:=hn.tn;have hkl:(keepLine σ.tm [.tok (Xbl (σ.s.tn+1) t.n)]).length<=70000:=Js hS.wh.v.t0 hS.wh.v.t1 (s:=σ.s) ⟨⟨⟨show (0:Int)<=18446744073709551615 by decide,show (18446744073709551615:Int)<=18446744073709551615 by decide,show (0:Int)<=0 by decide,⟨show (0:Int)<=1000000000 by decide,.inl rfl⟩⟩,.inr (fun x hx=>by have:=hS.wh.v.nt x hx;show x.n<σ.s.tn+1;omega),by omega,show σ.s.tn+1<Xo by unfold Xo;omega,hl.num hok hm⟩,trivial⟩ (by simp)
  have hA:=Xjq B wb hb ra g cap σ.tm L _ _ w _ _ (Y9 B hb rb σ) (Jz B hb rb (fun σ'=>σ'=⟨σ.k,σ.vx,σ.tm,⟨σ.s.tn+1,σ.s.ln,σ.s.tks ++ [Xbl (σ.s.tn+1) t.n],σ.s.lks⟩,σ.c++keepLine σ.tm [.tok (Xbl (σ.s.tn+1) t.n)]⟩)) hS hR hpos hW hI.hB b9 hI.bw hra ss tt aa bb ff (-1) (-1) ke pa 0 (nmStr 1 (σ.s.tn+1)) (fun h=>absurd rfl h) (fun a b c=>a=L ++ [Mp (σ.s.tn+1) t.n]/\b=((σ.s.tn+1+1:Nat):Int)/\c=((σ.s.ln+1:Nat):Int))
   1 (.inl ⟨rfl,(fun W _ hS'=>((six B hb rb σ W hS' ke pa (Jf 0) 0 (Vg 0 (.inl rfl)) _).1 ss (.string ⟨(nmStr 1 (σ.s.tn+1)).toArray⟩) (fun W' _ hV=>(Xll σ.k σ.vx σ.tm σ.s σ.c (-1) (-1) W' hV (by decide) (by decide) (by decide) (by decide) hcs ss hss t.n (hl.num hok hm) hp (hFt W' hV) hlt10 (by omega)).mono (by rintro e w' ⟨rfl,hV',hs'⟩;exact⟨rfl,⟨_,_,_,⟨rfl,rfl,rfl⟩,hV'⟩,hs'⟩))).mono (fun _ _ h=>Za hS' h)),(fun B' W nb g' cap' hBW hBn hR'=>(Xme B' nb g' cap' L σ.tm _ (σ.s.tn+1) ss W hR' hBn hR'.ne hBW (by omega) hlen i t ht hli (by rw [hl.Xsa];exact h10)).mono (by
    rintro e w' ⟨g2,cap2,rfl,hR2,-,-,hs2⟩;refine⟨g2,cap2,_,_,_,⟨rfl,rfl,rfl⟩,?_,hR2,hs2⟩;have:(Mp (σ.s.tn+1) t.n).id=nmStr 1 (σ.s.tn+1):=ThingD.U5 _
    rw [this]))⟩)
  refine hA.mono ?_;rintro e w' ⟨rfl,hA'⟩;refine⟨rfl,hA'.inv hI ?_⟩;rintro _ _ _ _ rfl ⟨rfl,rfl,rfl⟩;refine⟨rfl,hl.snocT (Xbl (σ.s.tn+1) t.n) rfl,rfl,rfl,⟨?_,hn.nl,?_,?_,?_,?_,?_,hn.hd.snoc _⟩⟩
  ·simp;omega
  ·simp
  ·show σ.s.tn+1<=N+1;omega
  ·have:=hn.ln;show σ.s.ln<=N+1;omega
  ·have:=hn.c;simp only [List.length_append];omega
  obtain⟨p,hp',e⟩:=hl.Zj hm htk;exact(hn.al.more (Nat.le_succ N)).snocT (fun x hx=>by have:=hS.wh.v.nt x hx;omega) ⟨p,hp',congrArg ThingD.n e⟩
 have hdec:decide (0<=liveI σ.tm ss true L)=false:=by rw [hli];simp
 rw [hdec] at hFt
 have hA:=Xjq B wb hb ra g cap σ.tm L _ _ w _ _ (Y9 B hb rb σ) (Jz B hb rb (fun σ'=>σ'=σ)) hS hR hpos hW hI.hB b9 hI.bw hra ss tt aa bb ff (-1) (-1) ke pa 1 [] (fun _=>rfl) (fun a b c=>a=L/\b=((σ.s.tn+1:Nat):Int)/\c=((σ.s.ln+1:Nat):Int))
  1 (.inl ⟨rfl,(fun W _ hS'=>((six B hb rb σ W hS' ke pa (Jf 1) 1 (Vg 1 (.inr (by simp [Mm]))) _).1 ss (.string ⟨#[]⟩) (fun W' _ hV=>(Xh1 σ.k.vb σ.k.mt σ.k.ml σ.vx σ.tm σ.s.tn σ.s.ln σ.s.tks σ.s.lks W' hV.v.va ss hss (hFt W' hV)).mono (fun _ _ h=>Xez hV h))).mono (fun _ _ h=>Za hS' h)),(fun B' W nb g' cap' _ _ hR'=>(Xhz B' nb g' cap' L σ.tm _ _ ss W hR' hli).mono (by rintro e w' ⟨rfl,hb'⟩;exact⟨g',cap',L,_,_,⟨rfl,rfl,rfl⟩,rfl,hR'.below hb',Spares.of_below hb'⟩))⟩)
 refine hA.mono ?_;rintro e w' ⟨rfl,hA'⟩;exact⟨rfl,hA'.inv hI (by rintro _ _ _ _ rfl ⟨rfl,rfl,rfl⟩;exact⟨rfl,hl,rfl,rfl,hnm⟩)⟩
end Go.Proofs
