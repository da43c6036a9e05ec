import Derived.Test.YtjbekgjdempbiaaGreatDoorJTkJ
import Derived.Defers
set_option maxRecDepth 100000
set_option maxHeartbeats 8000000
namespace Go.Proofs
open Go.RowKit Go.Sort Go.Lib Go.Shelf Go.Maps Go.WideMaps
theorem Spares.shed {bs bs':List Nat} {W W':World} (h:Spares bs W W') (hb:∀ b∈bs,b∈bs'∨W.heap.size≤b):Spares bs' W W':=
 ⟨h.os,h.tape,h.output,h.size,fun k hk hn=>h.block k hk (fun hm=>(hb k hm).elim hn (fun e=>by omega))⟩
theorem Tryz.vTick1 (vb Bv:Nat) (v t:Value) (u:FrameMode) (w:World) (hv:v=.slice none 0 0∨∃ g cap,v=.slice (some ⟨g,0,none⟩) 0 cap) (cB:w.cell? ⟨Bv,0,none⟩=some (.pointer (some ⟨vb,0,none⟩))) (c6:w.cell? ⟨vb,7,none⟩=some t) (f6:w.frozen? ⟨vb,7,none⟩=false) (c7:w.cell? ⟨vb,8,none⟩=some v) (f7:w.frozen? ⟨vb,8,none⟩=false) (hne:Bv≠vb) :
  CallsD prog 73 #[.pointer (some ⟨Bv,0,none⟩)] u w fun e u' w'=>u'=u∧(e=.returned (.tuple #[])∧w'=(w.setCell ⟨vb,7,none⟩ (.bool false)).setCell ⟨vb,8,none⟩ v):=by
 have c7':(w.setCell ⟨vb,7,none⟩ (.bool false)).cell? ⟨vb,8,none⟩=some v:=(World.cell?_setCell_other _ _ _ _ (by simp)).trans c7
 have f7':(w.setCell ⟨vb,7,none⟩ (.bool false)).frozen? ⟨vb,8,none⟩=false:=by rw [World.frozen?_setCell];exact f7
 have cB':(w.setCell ⟨vb,7,none⟩ (.bool false)).cell? ⟨Bv,0,none⟩=some (.pointer (some ⟨vb,0,none⟩)):=(World.cell?_setCell_far _ _ _ _ (fun e=>hne e.symm)).trans cB;have hE:=qEmptyNil vb v _ hv c7' f7'
 go_enter_d func73,ntmps73
 go_wp2_with (go_at_call 74;refine hE.mono ?_;rintro e w1 ⟨rfl,rfl⟩)
 go_end0
 exact⟨rfl,rfl⟩
end Go.Proofs
namespace Go.Proofs
open Go.RowKit Go.Sort Go.Lib Go.Shelf Go.Maps
def hasU (s:VSt) (u:Nat):Bool:=s.tks.any (fun x=>x.ak==1&&(x.au:Int)==(u:Int))||s.lks.any (fun x=>x.ak==1&&(x.au:Int)==(u:Int))
def failT (tm:Int) (t:TokE):TokE:={ t with pd:=true,tr:=t.tr+1,at_:=plusI tm (waitN t.tr.toNat) }
def failL (tm:Int) (t:LeaE):LeaE:={ t with pd:=true,tr:=t.tr+1,at_:=plusI tm (waitN t.tr.toNat) }
inductive Subj (tm:Int) (s:VSt):TurnD→Item→Bool→Nat→Nat→Prop where
 | tok (t:TokE) (ht:t∈s.tks) (hk:t.ak=1):Subj tm s ⟨t.at_,1,t.n⟩ (.tok (failT tm t)) true t.n t.au
 | lea (t:LeaE) (ht:t∈s.lks) (hk:t.ak=1):Subj tm s ⟨t.at_,2,t.n⟩ (.lea (failL tm t)) false t.n t.au
def upAdd (s:VSt) (tm:Int) (un:Nat):List TurnD:=match s.tks.find? (fun t=>t.n==un) with
 | some p=>dueT s tm p
 | none=>[]
structure TS where
 s:VSt
 q:List TurnD
 fl:Int
 c:List UInt8
 cl:List (Int × Nat)
inductive Try1 (tm:Int):TS→TS→Prop where
 | fail {a:TS} {t:TurnD} {q' q'':List TurnD} {it:Item} {tk:Bool} {n un:Nat} (hs:Subj tm a.s t it tk n un) (hp:(t :: q').Perm a.q) (hl:∀ u∈q',¬ ltT u t) (ho:(a.fl % 2==1)=true) (hq:q''.Perm q'):Try1 tm a ⟨it.app a.s,q'',a.fl / 2,a.c++keepLine tm [it],a.cl ++ [(kdB tk,n)]⟩
 | ok {a:TS} {t:TurnD} {q' q'':List TurnD} {it:Item} {tk:Bool} {n un:Nat} (hs:Subj tm a.s t it tk n un) (hp:(t :: q').Perm a.q) (hl:∀ u∈q',¬ ltT u t) (ho:(a.fl % 2==1)=false) (hq:q''.Perm (q'++upAdd ((Item.gone tk n).app a.s) tm un)):Try1 tm a ⟨(Item.gone tk n).app a.s,q'',a.fl / 2,a.c++keepLine tm [.gone tk n],a.cl ++ [(kdB tk,n)]⟩
inductive Tries (tm:Int):TS→TS→Prop where
 | refl (a:TS):Tries tm a a
 | step {a b c:TS} (h:Tries tm a b) (h1:Try1 tm b c):Tries tm a c
structure Tree (s:VSt):Prop where
 incT:s.tks.Pairwise (fun a b=>a.n<b.n)
 incL:s.lks.Pairwise (fun a b=>a.n<b.n)
 upT:∀ t∈s.tks,t.n=0∨t.ak=1∧∃ p∈s.tks,p.n=t.au
 upL:∀ t∈s.lks,t.ak=1∧∃ p∈s.tks,p.n=t.au
 root:∀ t∈s.tks,t.n=0→t.pd=false
structure QOk (tm:Int) (s:VSt) (q:List TurnD):Prop where
 nd:(q.map (fun t=>(t.k,t.n))).Nodup
 ex:∀ t∈q,∃ it tk n un,Subj tm s t it tk n un
 nb:∀ t∈q,t.k=1→∀ n:Nat,t.n=n→hasU s n=false
theorem QOk.perm {tm:Int} {s:VSt} {q q':List TurnD} (h:QOk tm s q) (hp:q'.Perm q):QOk tm s q':=
 ⟨(hp.map _).nodup_iff.2 h.nd,fun t ht=>h.ex t (hp.mem_iff.1 ht),fun t ht=>h.nb t (hp.mem_iff.1 ht)⟩
theorem putTok_any {t:TokE} {l:List TokE} (hs:l.Pairwise (fun a b=>a.n<b.n)) {x:TokE} (hx:x∈l) (hn:x.n=t.n) (f:TokE→Bool) (hf:f t=f x):(putTok t l).any f=l.any f:=by
 rcases putTok_split (t:=t) hs with⟨a,y,b,rfl,hy,hp,hne⟩ | ⟨hne,-⟩
 ·have:x=y:=inc_inj (f:=TokE.n) hs hx (by simp) (by omega)
  subst this;rw [hp];simp [hf]
 ·exact absurd hn (hne x hx)
theorem putLea_any {t:LeaE} {l:List LeaE} (hs:l.Pairwise (fun a b=>a.n<b.n)) {x:LeaE} (hx:x∈l) (hn:x.n=t.n) (f:LeaE→Bool) (hf:f t=f x):(putLea t l).any f=l.any f:=by
 rcases putLea_split (t:=t) hs with⟨a,y,b,rfl,hy,hp,hne⟩ | ⟨hne,-⟩
 ·have:x=y:=inc_inj (f:=LeaE.n) hs hx (by simp) (by omega)
  subst this;rw [hp];simp [hf]
 ·exact absurd hn (hne x hx)
theorem Subj.hasU {tm:Int} {s:VSt} {t:TurnD} {it:Item} {tk:Bool} {n un:Nat} (hs:Subj tm s t it tk n un) (ht:Tree s) (u:Nat):hasU (it.app s) u=hasU s u:=by
 cases hs with
 | tok t hm hk=>show ((putTok (failT tm t) s.tks).any _||s.lks.any _)=_;rw [putTok_any (t:=failT tm t) ht.incT hm rfl _ rfl];rfl
 | lea t hm hk=>show (s.tks.any _||(putLea (failL tm t) s.lks).any _)=_;rw [putLea_any (t:=failL tm t) ht.incL hm rfl _ rfl];rfl
theorem hasU_drop {s:VSt} {tk:Bool} {n u:Nat} (h:hasU s u=false):hasU ((Item.gone tk n).app s) u=false:=by
 unfold hasU at *;simp only [Bool.or_eq_false_iff,List.any_eq_false] at *;exact⟨fun x hx=>h.1 x (dropTok_mem hx),fun x hx=>h.2 x (dropLea_mem hx)⟩
theorem putTok_has {t x:TokE} {l:List TokE} (hs:l.Pairwise (fun a b=>a.n<b.n)) (hx:x∈l):x.n=t.n∨x∈putTok t l:=by
 rcases putTok_split (t:=t) hs with⟨a,y,b,rfl,hy,hp,hne⟩ | ⟨hne,hp⟩
 ·rw [hp]
  simp only [List.mem_append,List.mem_cons] at hx ⊢
  rcases hx with h | rfl | h
  ·exact .inr (.inl h)
  ·exact .inl hy
  ·exact .inr (.inr (.inr h))
 ·rw [hp];exact .inr (by simp [hx])
theorem putTok_self {t:TokE} {l:List TokE} (hs:l.Pairwise (fun a b=>a.n<b.n)):t∈putTok t l:=by
 rcases putTok_split (t:=t) hs with⟨a,y,b,rfl,hy,hp,hne⟩ | ⟨hne,hp⟩ <;> rw [hp] <;> simp
theorem putLea_has {t x:LeaE} {l:List LeaE} (hs:l.Pairwise (fun a b=>a.n<b.n)) (hx:x∈l):x.n=t.n∨x∈putLea t l:=by
 rcases putLea_split (t:=t) hs with⟨a,y,b,rfl,hy,hp,hne⟩ | ⟨hne,hp⟩
 ·rw [hp]
  simp only [List.mem_append,List.mem_cons] at hx ⊢
  rcases hx with h | rfl | h
  ·exact .inr (.inl h)
  ·exact .inl hy
  ·exact .inr (.inr (.inr h))
 ·rw [hp];exact .inr (by simp [hx])
theorem putTok_num {t:TokE} {l:List TokE} (hs:l.Pairwise (fun a b=>a.n<b.n)) {m:Nat} (h:∃ p∈l,p.n=m):∃ p∈putTok t l,p.n=m:=by
 obtain⟨p,hp,e⟩:=h
 rcases putTok_has (t:=t) hs hp with h1 | h1
 ·exact⟨t,putTok_self hs,by omega⟩
 ·exact⟨p,h1,e⟩
theorem Tree.failed {tm:Int} {s:VSt} {t:TurnD} {it:Item} {tk:Bool} {n un:Nat} (h:Tree s) (hs:Subj tm s t it tk n un) (h0:tk=true→n≠0):Tree (it.app s):=by
 cases hs with
 | tok t hm hk =>
  refine⟨putTok_inc h.incT (.inl ⟨t,hm,rfl⟩),h.incL,fun x hx=>?_,fun x hx=>⟨(h.upL x hx).1,putTok_num h.incT (h.upL x hx).2⟩,fun x hx e=>?_⟩
  ·rcases putTok_mem h.incT hx with rfl | hx
   ·rcases h.upT t hm with e | e
    ·exact .inl e
    ·exact .inr ⟨e.1,putTok_num h.incT e.2⟩
   ·rcases h.upT x hx with e | e
    ·exact .inl e
    ·exact .inr ⟨e.1,putTok_num h.incT e.2⟩
  ·rcases putTok_mem h.incT hx with rfl | hx
   ·exact absurd e (h0 rfl)
   ·exact h.root x hx e
 | lea t hm hk =>
  refine⟨h.incT,putLea_inc h.incL (.inl ⟨t,hm,rfl⟩),h.upT,fun x hx=>?_,h.root⟩
  rcases putLea_mem h.incL hx with rfl | hx
  ·exact h.upL t hm
  ·exact h.upL x hx
theorem Tree.gone {s:VSt} (h:Tree s) (tk:Bool) (n:Nat) (hb:tk=true→hasU s n=false):Tree ((Item.gone tk n).app s):=by
 have hinc:(dropTok tk n s.tks).Pairwise (fun a b=>a.n<b.n):=by
  cases tk
  ·exact h.incT
  ·exact h.incT.filter _
 have hincL:(dropLea tk n s.lks).Pairwise (fun a b=>a.n<b.n):=by
  cases tk
  ·exact h.incL.filter _
  ·exact h.incL
 have keep:∀ m,(∃ p∈s.tks,p.n=m)→(tk=true→m≠n)→∃ p∈dropTok tk n s.tks,p.n=m:=fun m ⟨p,hp,e⟩ hne=>by
  cases tk
  ·exact⟨p,hp,e⟩
  ·exact⟨p,List.mem_filter.2 ⟨hp,by simpa [e] using hne rfl⟩,e⟩
 refine⟨hinc,hincL,fun x hx=>?_,fun x hx=>?_,fun x hx e=>h.root x (dropTok_mem hx) e⟩
 ·rcases h.upT x (dropTok_mem hx) with e | ⟨e1,e2⟩
  ·exact .inl e
  ·refine .inr ⟨e1,keep _ e2 (fun et en=>?_)⟩
   have:=hb et;unfold hasU at this;simp only [Bool.or_eq_false_iff,List.any_eq_false] at this;exact this.1 x (dropTok_mem hx) (by simp [e1,en])
 ·obtain⟨e1,e2⟩:=h.upL x (dropLea_mem hx)
  refine⟨e1,keep _ e2 (fun et en=>?_)⟩;have:=hb et;unfold hasU at this;simp only [Bool.or_eq_false_iff,List.any_eq_false] at this;exact this.2 x (dropLea_mem hx) (by simp [e1,en])
theorem Subj.key {tm:Int} {s:VSt} {t:TurnD} {it:Item} {tk:Bool} {n un:Nat} (hs:Subj tm s t it tk n un):t.k=kdB tk∧t.n=(n:Int):=by
 cases hs with
 | tok t hm hk=>exact⟨rfl,rfl⟩
 | lea t hm hk=>exact⟨rfl,rfl⟩
theorem Subj.under {tm:Int} {s:VSt} {t:TurnD} {it:Item} {tk:Bool} {n un:Nat} (hs:Subj tm s t it tk n un):Proofs.hasU s un=true:=by
 unfold Proofs.hasU;rw [Bool.or_eq_true]
 cases hs with
 | tok t hm hk=>exact .inl (List.any_eq_true.2 ⟨t,hm,by simp [hk]⟩)
 | lea t hm hk=>exact .inr (List.any_eq_true.2 ⟨t,hm,by simp [hk]⟩)
theorem Subj.other {tm:Int} {s:VSt} {t u:TurnD} {it it2:Item} {tk tk2:Bool} {n un n2 un2:Nat} (hs:Subj tm s t it tk n un) (hu:Subj tm s u it2 tk2 n2 un2) (ht:Tree s) (hne:(u.k,u.n)≠(t.k,t.n)):Subj tm (it.app s) u it2 tk2 n2 un2:=by
 cases hs with
 | tok t hm hk =>
  cases hu with
  | tok x hx hk2 =>
   rcases putTok_has (t:=failT tm t) ht.incT hx with e | e
   ·exact absurd (by have e:x.n=t.n:=e;simp [e]) hne
   ·exact .tok x e hk2
  | lea x hx hk2=>exact .lea x hx hk2
 | lea t hm hk =>
  cases hu with
  | tok x hx hk2=>exact .tok x hx hk2
  | lea x hx hk2 =>
   rcases putLea_has (t:=failL tm t) ht.incL hx with e | e
   ·exact absurd (by have e:x.n=t.n:=e;simp [e]) hne
   ·exact .lea x e hk2
theorem Subj.left {tm:Int} {s:VSt} {u:TurnD} {it2:Item} {tk tk2:Bool} {n n2 un2:Nat} (hu:Subj tm s u it2 tk2 n2 un2) (hne:(u.k,u.n)≠(kdB tk,(n:Int))):Subj tm ((Item.gone tk n).app s) u it2 tk2 n2 un2:=by
 cases hu with
 | tok x hx hk2 =>
  refine .tok x ?_ hk2;cases tk
  ·exact hx
  ·exact List.mem_filter.2 ⟨hx,by simpa using fun e=>hne (by simp [kdB,e])⟩
 | lea x hx hk2 =>
  refine .lea x ?_ hk2;cases tk
  ·exact List.mem_filter.2 ⟨hx,by simpa using fun e=>hne (by simp [kdB,e])⟩
  ·exact hx
theorem QOk.failed {tm:Int} {s:VSt} {t:TurnD} {q':List TurnD} {it:Item} {tk:Bool} {n un:Nat} (h:QOk tm s (t :: q')) (ht:Tree s) (hs:Subj tm s t it tk n un):QOk tm (it.app s) q':=by
 obtain⟨h1,h2⟩:=List.nodup_cons.1 (by simpa using h.nd:((t.k,t.n) :: q'.map (fun t=>(t.k,t.n))).Nodup);refine⟨h2,fun u hu=>?_,fun u hu hk m hm=>by rw [hs.hasU ht];exact h.nb u (List.mem_cons_of_mem _ hu) hk m hm⟩;obtain⟨it2,tk2,n2,un2,hu2⟩:=h.ex u (List.mem_cons_of_mem _ hu);exact⟨it2,tk2,n2,un2,hs.other hu2 ht (fun e=>h1 (List.mem_map.2 ⟨u,hu,e⟩))⟩
theorem QOk.gone {tm:Int} {s:VSt} {t:TurnD} {q':List TurnD} {it:Item} {tk:Bool} {n un:Nat} (h:QOk tm s (t :: q')) (ht:Tree s) (hs:Subj tm s t it tk n un):QOk tm ((Item.gone tk n).app s) (q'++upAdd ((Item.gone tk n).app s) tm un):=by
 obtain⟨h1,h2⟩:=List.nodup_cons.1 (by simpa using h.nd:((t.k,t.n) :: q'.map (fun t=>(t.k,t.n))).Nodup);have hkey:=hs.key
 have hleft:∀ u∈q',∃ it tk' n' un,Subj tm ((Item.gone tk n).app s) u it tk' n' un:=fun u hu=>by
  obtain⟨it2,tk2,n2,un2,hu2⟩:=h.ex u (List.mem_cons_of_mem _ hu);exact⟨it2,tk2,n2,un2,hu2.left (fun e=>h1 (List.mem_map.2 ⟨u,hu,by rw [e,hkey.1,hkey.2]⟩))⟩
 have hT:=ht.gone tk n (fun e=>h.nb t (by simp) (by rw [hkey.1,e];rfl) n hkey.2)
 have hup:∀ u∈upAdd ((Item.gone tk n).app s) tm un,u.k=1∧u.n=(un:Int)∧Proofs.hasU ((Item.gone tk n).app s) un=false∧∃ it tk' n' un',Subj tm ((Item.gone tk n).app s) u it tk' n' un':=fun u hu=>by
  unfold upAdd at hu
  split at hu
  ·rename_i p hp
   have hpm:=List.mem_of_find?_eq_some hp
   have hpn:p.n=un:=by simpa using List.find?_some hp
   unfold dueT at hu
   split at hu
   ·rename_i hc
    obtain rfl:=List.mem_singleton.1 hu;simp only [Bool.and_eq_true,Bool.not_eq_true'] at hc
    have hr:p.n≠0:=fun e=>by
     have:=hT.root p hpm e;rw [this] at hc;simp at hc
    have hk:p.ak=1:=by
     rcases hT.upT p hpm with e | e
     ·exact absurd e hr
     ·exact e.1
    refine⟨rfl,by simp [hpn],?_,_,_,_,_,.tok p hpm hk⟩;rw [← hpn];exact hc.2
   ·cases hu
  ·cases hu
 have hlen:(upAdd ((Item.gone tk n).app s) tm un).length≤1:=by
  unfold upAdd
  split
  ·unfold dueT;split <;> simp
  ·simp
 refine⟨?_,fun u hu=>?_,fun u hu hk m hm=>?_⟩
 ·rw [List.map_append]
  refine List.nodup_append.2 ⟨h2,?_,fun x hx y hy e=>?_⟩
  ·match hq:upAdd ((Item.gone tk n).app s) tm un,hlen with
   | [],_=>simp
   | [a],_=>simp
   | a :: b :: r,hl=>simp at hl
  ·obtain⟨u,hu,rfl⟩:=List.mem_map.1 hx
   obtain⟨z,hz,rfl⟩:=List.mem_map.1 hy;obtain⟨z1,z2,-⟩:=hup z hz;have e':=Prod.mk.inj e;have:=h.nb u (List.mem_cons_of_mem _ hu) (by rw [e'.1,z1]) un (by rw [e'.2,z2]);rw [hs.under] at this;cases this
 ·rcases List.mem_append.1 hu with hu | hu
  ·exact hleft u hu
  ·exact(hup u hu).2.2.2
 ·rcases List.mem_append.1 hu with hu | hu
  ·exact hasU_drop (h.nb u (List.mem_cons_of_mem _ hu) hk m hm)
  ·obtain⟨-,z2,z3,-⟩:=hup u hu
   have:m=un:=by rw [hm] at z2;omega
   rw [this];exact z3
theorem dueT_mem {s:VSt} {tm:Int} {t:TokE} {u:TurnD} (h:u∈dueT s tm t):u=⟨t.at_,1,t.n⟩∧t.pd=true∧t.at_≤tm∧Proofs.hasU s t.n=false:=by
 unfold dueT at h
 split at h
 ·rename_i hc
  simp only [Bool.and_eq_true,Bool.not_eq_true',decide_eq_true_eq] at hc;exact⟨List.mem_singleton.1 h,hc.1.1,hc.1.2,hc.2⟩
 ·cases h
theorem dueL_mem {tm:Int} {t:LeaE} {u:TurnD} (h:u∈dueL tm t):u=⟨t.at_,2,t.n⟩∧t.at_≤tm:=by
 unfold dueL at h
 split at h
 ·rename_i hc
  exact⟨List.mem_singleton.1 h,hc⟩
 ·cases h
theorem due_nodup {α:Type} (f:α→List TurnD) (num:α→Nat) (kd:Int) (hf:∀ x u,u∈f x→u.k=kd∧u.n=(num x:Int)) (h1:∀ x,(f x).length≤1):∀ {l:List α},l.Pairwise (fun a b=>num a<num b)→((l.flatMap f).map (fun t=>(t.k,t.n))).Nodup
 | [],_=>by simp
 | a :: l,h=>by
  obtain⟨h2,h3⟩:=List.pairwise_cons.1 h;rw [List.flatMap_cons,List.map_append];refine List.nodup_append.2 ⟨?_,due_nodup f num kd hf h1 h3,fun x hx y hy e=>?_⟩
  ·match f a,h1 a with
   | [],_=>simp
   | [b],_=>simp
   | b :: c :: r,hl=>simp at hl
  ·obtain⟨u,hu,rfl⟩:=List.mem_map.1 hx
   obtain⟨z,hz,rfl⟩:=List.mem_map.1 hy;obtain⟨b,hb,hz⟩:=List.mem_flatMap.1 hz;have:=(hf a u hu).2;have:=(hf b z hz).2;have:=(Prod.mk.inj e).2;have:=h2 b hb;omega
theorem QOk.start {tm:Int} {s:VSt} (ht:Tree s):QOk tm s (s.tks.flatMap (dueT s tm)++s.lks.flatMap (dueL tm)):=by
 refine⟨?_,fun u hu=>?_,fun u hu hk m hm=>?_⟩
 ·rw [List.map_append]
  refine List.nodup_append.2 ⟨due_nodup _ TokE.n 1 (fun x u h=>by rw [(dueT_mem h).1];exact⟨rfl,rfl⟩) (fun x=>by unfold dueT;split <;> simp) ht.incT,due_nodup _ LeaE.n 2 (fun x u h=>by rw [(dueL_mem h).1];exact⟨rfl,rfl⟩) (fun x=>by unfold dueL;split <;> simp) ht.incL,fun x hx y hy e=>?_⟩;obtain⟨u,hu,rfl⟩:=List.mem_map.1 hx;obtain⟨z,hz,rfl⟩:=List.mem_map.1 hy;obtain⟨a,-,hu⟩:=List.mem_flatMap.1 hu;obtain⟨b,-,hz⟩:=List.mem_flatMap.1 hz;rw [(dueT_mem hu).1,(dueL_mem hz).1] at e;exact absurd (Prod.mk.inj e).1 (by simp)
 ·rcases List.mem_append.1 hu with hu | hu
  ·obtain⟨a,ha,hu⟩:=List.mem_flatMap.1 hu
   obtain⟨rfl,hp,-,-⟩:=dueT_mem hu
   rcases ht.upT a ha with e | e
   ·rw [ht.root a ha e] at hp;cases hp
   ·exact⟨_,_,_,_,.tok a ha e.1⟩
  ·obtain⟨a,ha,hu⟩:=List.mem_flatMap.1 hu
   obtain⟨rfl,-⟩:=dueL_mem hu;exact⟨_,_,_,_,.lea a ha (ht.upL a ha).1⟩
 ·rcases List.mem_append.1 hu with hu | hu
  ·obtain⟨a,ha,hu⟩:=List.mem_flatMap.1 hu
   obtain⟨rfl,-,-,hb⟩:=dueT_mem hu
   have:m=a.n:=by have:(a.n:Int)=m:=hm;omega
   rw [this];exact hb
  ·obtain⟨a,ha,hu⟩:=List.mem_flatMap.1 hu
   obtain⟨rfl,-⟩:=dueL_mem hu;exact absurd hk (by simp)
theorem filter_less {α:Type} (p:α→Bool):∀ {l:List α} {x:α},x∈l→p x=false→(l.filter p).length+1≤l.length
 | a :: l,x,hx,hp=>by
  rcases List.mem_cons.1 hx with rfl | hx
  ·rw [List.filter_cons_of_neg (by simp [hp])]
   have:=List.length_filter_le p l;simp;omega
  ·have:=filter_less p hx hp
   by_cases h:p a=true
   ·rw [List.filter_cons_of_pos h];simp;omega
   ·rw [List.filter_cons_of_neg h];simp;omega
def TS.left (a:TS):Nat:=a.q.length+2*(a.s.tks.length+a.s.lks.length)
theorem putTok_same {t:TokE} {l:List TokE} (hs:l.Pairwise (fun a b=>a.n<b.n)) {x:TokE} (hx:x∈l) (hn:x.n=t.n):(putTok t l).length=l.length:=by
 rcases putTok_split (t:=t) hs with⟨a,y,b,rfl,hy,hp,hne⟩ | ⟨hne,-⟩
 ·rw [hp];simp
 ·exact absurd hn (hne x hx)
theorem putLea_same {t:LeaE} {l:List LeaE} (hs:l.Pairwise (fun a b=>a.n<b.n)) {x:LeaE} (hx:x∈l) (hn:x.n=t.n):(putLea t l).length=l.length:=by
 rcases putLea_split (t:=t) hs with⟨a,y,b,rfl,hy,hp,hne⟩ | ⟨hne,-⟩
 ·rw [hp];simp
 ·exact absurd hn (hne x hx)
theorem Try1.less {tm:Int} {a b:TS} (h:Try1 tm a b) (ht:Tree a.s):b.left<a.left:=by
 cases h with
 | fail hs hp hl ho hq =>
  have h1:=hp.length_eq;have h2:=hq.length_eq;simp only [List.length_cons] at h1;unfold TS.left
  cases hs with
  | tok t hm hk =>
   have:(putTok (failT tm t) a.s.tks).length=a.s.tks.length:=putTok_same ht.incT hm rfl;simp only [Item.app];omega
  | lea t hm hk =>
   have:(putLea (failL tm t) a.s.lks).length=a.s.lks.length:=putLea_same ht.incL hm rfl;simp only [Item.app];omega
 | @ok t q' q'' it tk n un hs hp hl ho hq =>
  have h1:=hp.length_eq;have h2:=hq.length_eq
  have h3:(upAdd ((Item.gone tk n).app a.s) tm un).length≤1:=by
   unfold upAdd
   split
   ·unfold dueT;split <;> simp
   ·simp
  rw [List.length_append] at h2;simp only [List.length_cons] at h1;unfold TS.left
  cases hs with
  | tok t hm hk =>
   have:(a.s.tks.filter (fun x=>x.n != t.n)).length+1≤a.s.tks.length:=filter_less _ hm (by simp);simp only [Item.app,dropTok,dropLea,delTok,if_true];omega
  | lea t hm hk =>
   have:(a.s.lks.filter (fun x=>x.n != t.n)).length+1≤a.s.lks.length:=filter_less _ hm (by simp);simp only [Item.app,dropTok,dropLea,delLea,Bool.false_eq_true,if_false];omega
section
variable {k:Blk} {vx:VX} {tm:Int} {s:VSt} {tn ln:Int}
theorem Tryz.aboveOf_sub {t:TurnD} {it:Item} {tk:Bool} {n un:Nat} (hs:Subj tm s t it tk n un) (W:World) (hV:VaultAt W k.vb k.mt k.ml vx tm tn ln s.tks s.lks):Calls prog 134 #[.pointer (some ⟨k.vb,0,none⟩),nmV (kdB tk,(n:Int))] W fun e w'=>e=.returned (nmV (1,(un:Int)))∧Below W.heap.size W w':=by
 cases hs with
 | tok t hm hk =>
  have h:=aboveOf_tok k.vb k.mt (1,(t.n:Int)) t.ak t.au t.at_ t.tr t.pd W (fun W' hb=>⟨(hV.below hb).v.cell 3 rfl,(hV.below hb).lookT hm⟩);rw [hk] at h;exact h
 | lea t hm hk =>
  have h:=aboveOf_lea k.vb k.mt k.ml (2,(t.n:Int)) t.ak t.au t.at_ t.tr t.pd t.pth t.last W (fun W' hb=>⟨(hV.below hb).v.cell 3 rfl,(hV.below hb).lookT_no (wfNm (.inr rfl) (hV.ok.limL t hm).1) (fun x _ e=>by have:=(Prod.mk.inj e).1;omega)⟩) (fun W' hb=>⟨(hV.below hb).v.cell 4 rfl,(hV.below hb).look1L hm⟩);rw [hk] at h;exact h
theorem Tryz.failed_sub {t:TurnD} {it:Item} {tk:Bool} {n un:Nat} (hs:Subj tm s t it tk n un) (t0:0≤tm) (t1:tm≤18446744073709551615) (hT:∀ x∈s.tks,0≤x.tr∧x.tr<9223372036854775807) (hL:∀ x∈s.lks,0≤x.tr∧x.tr<9223372036854775807) (W:World) (hV:VaultAt W k.vb k.mt k.ml vx tm tn ln s.tks s.lks):Calls prog 135 #[.pointer (some ⟨k.vb,0,none⟩),nmV (kdB tk,(n:Int))] W fun e w'=>e=.returned (.agg it.rec_.cells)∧Below W.heap.size W w':=by
 cases hs with
 | tok t hm hk=>exact failed_tok k.vb k.mt (1,(t.n:Int)) tm t.ak t.au t.at_ t.tr t.pd W (fun W' hb=>⟨(hV.below hb).v.cell 3 rfl,(hV.below hb).v.cell 2 rfl,(hV.below hb).lookT hm⟩) (hT t hm).1 (hT t hm).2 t0 t1
 | lea t hm hk=>exact failed_lea k.vb k.mt k.ml (2,(t.n:Int)) tm t.ak t.au t.at_ t.tr t.pd t.pth t.last W hV.v.lt (fun W' hb=>⟨(hV.below hb).v.cell 3 rfl,(hV.below hb).v.cell 2 rfl,(hV.below hb).lookT_no (wfNm (.inr rfl) (hV.ok.limL t hm).1) (fun x _ e=>by have:=(Prod.mk.inj e).1;omega)⟩) (fun W' hb=>⟨(hV.below hb).v.cell 4 rfl,(hV.below hb).look1L hm⟩) (hL t hm).1 (hL t hm).2 t0 t1
end
theorem Subj.fits {tm:Int} {s:VSt} {t:TurnD} {it:Item} {tk:Bool} {n un:Nat} (hs:Subj tm s t it tk n un) (hok:ListsOk s.tks s.lks) (okT:∀ t∈s.tks,TokOk t) (okL:∀ t∈s.lks,LeaOk t) (h50:s.tks.length+s.lks.length≤50) (t0:0≤tm) (t1:tm≤18446744073709551615) (hT:∀ x∈s.tks,0≤x.tr∧x.tr<1000000000) (hL:∀ x∈s.lks,0≤x.tr∧x.tr<1000000000):it.Fits s∧n<u64lim:=by
 have hw:=fun m:Nat=>waitN_le m
 cases hs with
 | tok t hm hk =>
  have h1:=hT t hm;have h2:=okT t hm;have hr:=plusI_range tm (waitN t.tr.toNat) t0 t1 (by have:=hw t.tr.toNat;omega) (by have:=hw t.tr.toNat;omega);exact⟨⟨⟨hr.1,hr.2,show 0≤t.tr+1 by omega,⟨show t.tr+1≤1000000000 by omega,h2.r1.2⟩⟩,.inl ⟨t,hm,rfl⟩,by omega,(hok.limT t hm).1,(hok.limT t hm).2⟩,(hok.limT t hm).1⟩
 | lea t hm hk =>
  have h1:=hL t hm;have h2:=okL t hm;have hr:=plusI_range tm (waitN t.tr.toNat) t0 t1 (by have:=hw t.tr.toNat;omega) (by have:=hw t.tr.toNat;omega);exact⟨⟨⟨hr.1,hr.2,show 0≤t.tr+1 by omega,⟨show t.tr+1≤1000000000 by omega,h2.r1.2⟩,h2.l0,h2.l1,h2.p1,h2.pa⟩,.inl ⟨t,hm,rfl⟩,by omega,(hok.limL t hm).1,(hok.limL t hm).2⟩,(hok.limL t hm).1⟩
theorem Subj.up {tm:Int} {s:VSt} {t:TurnD} {q:List TurnD} {it:Item} {tk:Bool} {n un:Nat} (hs:Subj tm s t it tk n un) (hT:Tree s) (hQ:QOk tm s (t :: q)) (h0:tk=true→n≠0):∃ p∈((Item.gone tk n).app s).tks,p.n=un∧upAdd ((Item.gone tk n).app s) tm un=dueT ((Item.gone tk n).app s) tm p:=by
 have hex:∃ p∈s.tks,p.n=un:=by
  cases hs with
  | tok t hm hk =>
   rcases hT.upT t hm with e | e
   ·exact absurd e (h0 rfl)
   ·exact e.2
  | lea t hm hk=>exact(hT.upL t hm).2
 obtain⟨p,hp,hpn⟩:=hex
 have hp':p∈((Item.gone tk n).app s).tks:=by
  show p∈dropTok tk n s.tks
  cases tk with
  | false=>exact hp
  | true =>
   refine List.mem_filter.2 ⟨hp,?_⟩
   have hne:un≠n:=fun e=>by
    have h1:=hQ.nb t (by simp) (by rw [hs.key.1];rfl) n hs.key.2;have h2:=hs.under;rw [e,h1] at h2;cases h2
   simpa [hpn] using hne
 cases hf:((Item.gone tk n).app s).tks.find? (fun t=>t.n==un) with
 | none=>exact absurd (List.find?_eq_none.1 hf p hp') (by simp [hpn])
 | some p2 =>
  refine⟨p2,List.mem_of_find?_eq_some hf,by simpa using List.find?_some hf,?_⟩;unfold upAdd;rw [hf]
theorem Tryz.tryAny (B:Nat) (k:Blk) (vx:VX) (tm:Int) (s:VSt) (c:List UInt8) (l f:Int) (rb:Nat) (fl:Int) (v:Value) (xs:List Value) (q:List TurnD) (w:World) (h:TAt B w k vx tm s c l f rb fl v xs q) (hl:l<0) (hl1 : -999999990≤l) (hf:f<0) (hf1 : -999999990≤f) (hc:c.length≤900000000000) (hx1:xs.length≤1000) (hq1:q.length≤100) (f0:0≤fl) (f1:fl≤18446744073709551615)
  (t:TurnD) (it:Item) (tk:Bool) (n un:Nat) (hs:Subj tm s t it tk n un) (hT:Tree s) (hQ:QOk tm s (t :: q)) (hmin:∀ u∈q,¬ ltT u t) (h0:tk=true→n≠0) (h50:s.tks.length+s.lks.length≤50) (trT:∀ x∈s.tks,0≤x.tr∧x.tr<1000000000) (trL:∀ x∈s.lks,0≤x.tr∧x.tr<1000000000) (cl:List (Int × Nat)) :
  Calls prog 77 #[.pointer (some ⟨k.vb,0,none⟩),nmV (kdB tk,(n:Int))] w fun e w'=>e=.returned .nilIface∧∃ vx' v' b,Try1 tm ⟨s,t :: q,fl,c,cl⟩ b∧b.cl=cl ++ [(kdB tk,n)]∧TAt B w' k vx' tm b.s b.c (l-2) (f-2) rb b.fl v' (xs ++ [.string ⟨(nmStr (kdB tk) n).toArray⟩]) b.q∧vx'.tk=vx.tk∧(∀ g,v'.ownBlock=some g→v.ownBlock=some g∨w.heap.size≤g)∧(∀ d,vx'.due.ownBlock=some d→vx.due.ownBlock=some d∨w.heap.size≤d)∧Spares (tickBs k rb v vx.due) w w':=by
 have t0:=h.wh.v.t0;have t1:=h.wh.v.t1;obtain⟨hfit,hn⟩:=hs.fits h.wh.v.va.ok h.wh.v.okT h.wh.v.okL h50 t0 t1 trT trL
 by_cases ho:(fl % 2==1)=true
 ·refine(tryFail B k vx tm s c l f rb fl v xs q w h hl hl1 hf hf1 hc hx1 f0 f1 ho (kdB tk) n hn 1 un it hfit (fun W hV=>aboveOf_sub hs W hV) (fun W hV=>failed_sub hs t0 t1 (fun x hx=>⟨(trT x hx).1,by have:=(trT x hx).2;omega⟩) (fun x hx=>⟨(trL x hx).1,by have:=(trL x hx).2;omega⟩) W hV)).mono ?_
  rintro e w' ⟨rfl,g,cap,hA,hg,hS⟩;refine⟨rfl,vx,_,_,.fail (a:=⟨s,t :: q,fl,c,cl⟩) hs (List.Perm.refl _) hmin ho (List.Perm.refl _),rfl,hA,rfl,fun g' e=>?_,fun d hd=>.inl hd,hS.mono (fun b hb=>?_)⟩
  ·have e:g=g':=by simpa [Value.ownBlock] using e
   rw [← e];exact hg
  ·simp only [tickBs,List.mem_append,List.mem_cons] at hb ⊢
   rcases hb with h | h | h
   ·exact .inl h
   ·exact .inr (.inl h)
   ·exact .inr (.inr (.inl h))
 ·have ho:(fl % 2==1)=false:=by simpa using ho
  obtain⟨p,hp,hpn,hadd⟩:=hs.up hT hQ h0;subst hpn;refine(tryOk B k vx tm s c l f rb fl v xs q w h hl hl1 hf hf1 hc hx1 hq1 f0 f1 ho tk (kdB tk) rfl n hn 1 p.n p.ak p.au p.at_ p.tr p.pd _ rfl (fun W hV=>aboveOf_sub hs W hV) (fun W hV=>hV.look1T hp) _ rfl (upAdd ((Item.gone tk n).app s) tm p.n) hadd).mono ?_;rintro e w' ⟨rfl,g,cap,vx',ys,hA,h1,h2,hg,hd,hS⟩;refine⟨rfl,vx',_,_,.ok (a:=⟨s,t :: q,fl,c,cl⟩) hs (List.Perm.refl _) hmin ho h2,rfl,hA,h1,fun g' e=>?_,hd,hS⟩
  have e:g=g':=by simpa [Value.ownBlock] using e
  rw [← e];exact hg
end Go.Proofs
namespace Go.Proofs
open Go.RowKit Go.Sort Go.Lib Go.Shelf Go.Maps Go.WideMaps
theorem row_none {W:World} {base size:Nat} {v:Value} {e:TypeId} (h:W.ownsRow base e size v 0 []):v=.slice none 0 0∨∃ g cap,v=.slice (some ⟨g,0,none⟩) 0 cap:=by
 obtain⟨h1,⟨e1,-⟩ | ⟨g,cap,cur,e1,e2,e3,e4⟩⟩:=h
 ·exact .inl e1
 ·exact .inr ⟨g,cap,e1⟩
theorem row_some {W:World} {base size n:Nat} {v:Value} {e:TypeId} {xs:List Value} (h:W.ownsRow base e size v n xs) (hn:0<n):∃ g cap,v=.slice (some ⟨g,0,none⟩) n cap:=by
 obtain⟨h1,⟨e1,e2⟩ | ⟨g,cap,cur,e1,e2,e3,e4⟩⟩:=h
 ·omega
 ·exact⟨g,cap,e1⟩
theorem Tryz.popAny (B:Nat) (k:Blk) (vx:VX) (tm:Int) (s:VSt) (c:List UInt8) (l f:Int) (rb:Nat) (fl:Int) (v:Value) (xs:List Value) (q:List TurnD) (w:World) (h:TAt B w k vx tm s c l f rb fl v xs q) (hq1:q.length≤100) :
  Calls prog 76 #[.pointer (some ⟨k.vb,8,none⟩)] w fun e w'=>∃ t ok,e=.returned (.tuple #[.agg t.cells,.bool ok])∧∃ vx' q',TAt B w' k vx' tm s c l f rb fl v xs q'∧(ok=false→q = []∧q' = [])∧(ok=true→(t :: q').Perm q∧∀ u∈q',¬ ltT u t)∧vx'.tk=vx.tk∧vx'.due.ownBlock=vx.due.ownBlock∧Spares (k.vb :: vx.due.ownBlock.toList) w w':=by
 cases q with
 | nil =>
  refine(qPopNil k.vb vx.due w (row_none h.due) (h.wh.v.va.v.cell 8 rfl)).mono ?_;rintro e w' ⟨rfl,hb⟩;exact⟨⟨0,0,0⟩,false,rfl,vx,[],h.below hb,fun _=>⟨rfl,rfl⟩,fun e=>(by cases e),rfl,rfl,Spares.of_below hb⟩
 | cons a q =>
  obtain⟨g,cap,hd⟩:=row_some h.due (by simp)
  have hqv:QV B k.vb (vaultC vx tm k.mt k.ml s.tn s.ln) g cap (a :: q) w:=⟨by rw [← hd];exact h.wh.v.va.v,by rw [← hd];exact h.due,by show 8<9;decide⟩
  refine(qPop B k.vb g cap q.length (a :: q) _ w hqv h.hp rfl (by simp at hq1;omega)).mono ?_;rintro e w' ⟨rfl,cap',ys,hq2,hH,hpm,hS⟩
  have hown:vx.due.ownBlock=some g:=by rw [hd];rfl
  have hS':Spares (k.vb :: vx.due.ownBlock.toList) w w':=by rw [hown];exact hS
  have hleast:∀ u∈ys,¬ ltT u (getT (a :: q) 0):=fun u hu=>by
   have hm:=hpm.mem_iff.1 (List.mem_cons_of_mem _ hu);obtain⟨i,hi,e⟩:=List.getElem_of_mem hm;have:=h.hp.root i hi;have hg:getT (a :: q) i=u:=getT_of (by rw [List.getElem?_eq_getElem hi,e]);rw [hg] at this;exact this
  exact⟨getT (a :: q) 0,true,rfl,{ vx with due:=.slice (some ⟨g,0,none⟩) ys.length cap' },ys,h.queued hq2.v rfl rfl h.wh.v.t0 h.wh.v.t1 hq2.row hH hS',(fun e=>by cases e),(fun _=>⟨hpm,hleast⟩),rfl,(by rw [hown];rfl),hS'⟩
end Go.Proofs
namespace Go.Proofs
open Go.RowKit Go.Sort Go.Lib Go.Shelf Go.Maps
def QNz (q:List TurnD):Prop:=∀ t∈q,t.k=1→t.n≠0
theorem QNz.perm {q q':List TurnD} (h:QNz q) (hp:q'.Perm q):QNz q':=fun t ht=>h t (hp.mem_iff.1 ht)
theorem upAdd_nz {s:VSt} (hT:Tree s) {tm:Int} {un:Nat}:QNz (upAdd s tm un):=fun u hu hk e=>by
 unfold upAdd at hu
 split at hu
 ·rename_i p hp
  have hpm:=List.mem_of_find?_eq_some hp;obtain⟨rfl,hpd,-,-⟩:=dueT_mem hu;have e:(p.n:Int)=0:=e;rw [hT.root p hpm (by omega)] at hpd;cases hpd
 ·cases hu
theorem QNz.start {tm:Int} {s:VSt} (hT:Tree s):QNz (s.tks.flatMap (dueT s tm)++s.lks.flatMap (dueL tm)):=fun u hu hk e=>by
 rcases List.mem_append.1 hu with hu | hu
 ·obtain⟨a,ha,hu⟩:=List.mem_flatMap.1 hu
  obtain⟨rfl,hp,-,-⟩:=dueT_mem hu;have e:(a.n:Int)=0:=e;rw [hT.root a ha (by omega)] at hp;cases hp
 ·obtain⟨a,ha,hu⟩:=List.mem_flatMap.1 hu
  obtain⟨rfl,-⟩:=dueL_mem hu;exact absurd hk (by simp)
def TrB (M:Int) (s:VSt):Prop:=(∀ x∈s.tks,0≤x.tr∧x.tr≤M)∧∀ x∈s.lks,0≤x.tr∧x.tr≤M
theorem Subj.trB {tm:Int} {s:VSt} {t:TurnD} {it:Item} {tk:Bool} {n un:Nat} (hs:Subj tm s t it tk n un) (hT:Tree s) {M:Int} (h:TrB M s):TrB (M+1) (it.app s):=by
 cases hs with
 | tok t hm hk =>
  refine⟨fun x hx=>?_,fun x hx=>?_⟩
  ·rcases putTok_mem hT.incT hx with rfl | hx
   ·have:=h.1 t hm
    show 0≤t.tr+1∧t.tr+1≤M+1
    omega
   ·have:=h.1 x hx;omega
  ·have:=h.2 x hx;omega
 | lea t hm hk =>
  refine⟨fun x hx=>?_,fun x hx=>?_⟩
  ·have:=h.1 x hx;omega
  ·rcases putLea_mem hT.incL hx with rfl | hx
   ·have:=h.2 t hm
    show 0≤t.tr+1∧t.tr+1≤M+1
    omega
   ·have:=h.2 x hx;omega
theorem TrB.gone {s:VSt} {M:Int} (h:TrB M s) (tk:Bool) (n:Nat):TrB (M+1) ((Item.gone tk n).app s):=
 ⟨fun x hx=>by have:=h.1 x (dropTok_mem hx);omega,fun x hx=>by have:=h.2 x (dropLea_mem hx);omega⟩
theorem keepLine_len1 {tm:Int} (t0:0≤tm) (t1:tm≤18446744073709551615) {it:Item} {s:VSt} (hF:it.Fits s):(keepLine tm [it]).length≤20000:=by
 have hok:∀ r∈nowR tm :: [it].map Item.rec_,r.Ok:=fun r hr=>by
  rcases List.mem_cons.1 hr with rfl | hr
  ·exact⟨show (-9223372036854775808:Int)≤0 by decide,show (0:Int)≤9223372036854775807 by decide,show 0<18446744073709551616 by decide,show 0<18446744073709551616 by decide,t0,t1,show (-9223372036854775808:Int)≤0 by decide,show (0:Int)≤9223372036854775807 by decide,show (0:Int)≤0 by decide,show (0:Int)≤18446744073709551615 by decide,show 0≤1000 by decide⟩
  ·exact(FitsAll.ok (is:=[it]) (s:=s) ⟨hF,trivial⟩ r hr).1
 have h1:=recText_len _ hok;have h2:=lineL_len (recTxt (nowR tm :: [it].map Item.rec_)) (by simp at h1 ⊢;omega);unfold keepLine recLine;simp at h1 h2 ⊢;omega
structure Going (tm:Int) (M:Int) (a:TS):Prop where
 tree:Tree a.s
 q:QOk tm a.s a.q
 nz:QNz a.q
 tr:TrB M a.s
 f0:0≤a.fl
 f1:a.fl≤18446744073709551615
theorem Try1.going {tm M:Int} {a b:TS} (h:Try1 tm a b) (hg:Going tm M a):Going tm (M+1) b∧b.cl.length=a.cl.length+1:=by
 have f0:=hg.f0;have f1:=hg.f1
 cases h with
 | @fail t q' q'' it tk n un hs hp hl ho hq =>
  have hQ:=hg.q.perm hp;have hn:=hg.nz.perm hp;have hkey:=hs.key
  have h0:tk=true→n≠0:=fun e en=>hn t (by simp) (by rw [hkey.1,e];rfl) (by rw [hkey.2,en];rfl)
  exact⟨⟨hg.tree.failed hs h0,(hQ.failed hg.tree hs).perm hq,QNz.perm (fun u hu=>hn u (List.mem_cons_of_mem _ hu)) hq,hs.trB hg.tree hg.tr,show 0≤a.fl / 2 by omega,show a.fl / 2≤18446744073709551615 by omega⟩,by simp⟩
 | @ok t q' q'' it tk n un hs hp hl ho hq =>
  have hQ:=hg.q.perm hp;have hn:=hg.nz.perm hp;have hkey:=hs.key;have hT:=hg.tree.gone tk n (fun e=>hQ.nb t (by simp) (by rw [hkey.1,e];rfl) n hkey.2);refine⟨⟨hT,(hQ.gone hg.tree hs).perm hq,QNz.perm (fun u hu=>?_) hq,hg.tr.gone tk n,show 0≤a.fl / 2 by omega,show a.fl / 2≤18446744073709551615 by omega⟩,by simp⟩
  rcases List.mem_append.1 hu with hu | hu
  ·exact hn u (List.mem_cons_of_mem _ hu)
  ·exact upAdd_nz hT u hu
theorem Try1.len {tm M:Int} {a b:TS} (h:Try1 tm a b) (hg:Going tm M a) (hM:M<1000000000) (t0:0≤tm) (t1:tm≤18446744073709551615) (hok:ListsOk a.s.tks a.s.lks) (okT:∀ t∈a.s.tks,TokOk t) (okL:∀ t∈a.s.lks,LeaOk t) (h50:a.s.tks.length+a.s.lks.length≤50):b.c.length≤a.c.length+20000:=by
 have hfit:∀ {t:TurnD} {it:Item} {tk:Bool} {n un:Nat},Subj tm a.s t it tk n un→it.Fits a.s∧n<u64lim:=fun hs=>hs.fits hok okT okL h50 t0 t1 (fun x hx=>by have:=hg.tr.1 x hx;omega) (fun x hx=>by have:=hg.tr.2 x hx;omega)
 cases h with
 | @fail t q' q'' it tk n un hs hp hl ho hq =>
  have:=keepLine_len1 t0 t1 (hfit hs).1;simp only [List.length_append];omega
 | @ok t q' q'' it tk n un hs hp hl ho hq =>
  have:=keepLine_len1 (it:=Item.gone tk n) (s:=a.s) t0 t1 (hfit hs).2;simp only [List.length_append];omega
theorem Try1.count {tm:Int} {a b:TS} (h:Try1 tm a b) (ht:Tree a.s):b.s.tks.length+b.s.lks.length≤a.s.tks.length+a.s.lks.length:=by
 cases h with
 | fail hs hp hl ho hq =>
  cases hs with
  | tok t hm hk =>
   have:(putTok (failT tm t) a.s.tks).length=a.s.tks.length:=putTok_same ht.incT hm rfl;simp only [Item.app];omega
  | lea t hm hk =>
   have:(putLea (failL tm t) a.s.lks).length=a.s.lks.length:=putLea_same ht.incL hm rfl;simp only [Item.app];omega
 | @ok t q' q'' it tk n un hs hp hl ho hq =>
  have h1:(dropTok tk n a.s.tks).length≤a.s.tks.length:=by unfold dropTok;split;exact List.length_filter_le _ _;exact Nat.le_refl _
  have h2:(dropLea tk n a.s.lks).length≤a.s.lks.length:=by unfold dropLea;split;exact Nat.le_refl _;exact List.length_filter_le _ _
  simp only [Item.app];omega
theorem Try1.of_perm {tm:Int} {a b:TS} {q:List TurnD} (h:Try1 tm ⟨a.s,q,a.fl,a.c,a.cl⟩ b) (hp:q.Perm a.q):Try1 tm a b:=by
 cases h with
 | fail hs hp1 hl ho hq=>exact .fail (a:=a) hs (hp1.trans hp) hl ho hq
 | ok hs hp1 hl ho hq=>exact .ok (a:=a) hs (hp1.trans hp) hl ho hq
theorem Try1.qc {tm:Int} {a b:TS} (h:Try1 tm a b) (ht:Tree a.s):b.q.length+(b.s.tks.length+b.s.lks.length)≤a.q.length+(a.s.tks.length+a.s.lks.length):=by
 have hc:=h.count ht
 cases h with
 | fail hs hp hl ho hq =>
  have h1:=hp.length_eq;have h2:=hq.length_eq;simp only [List.length_cons] at h1 hc ⊢;omega
 | @ok t q' q'' it tk n un hs hp hl ho hq =>
  have h1:=hp.length_eq;have h2:=hq.length_eq
  have h3:(upAdd ((Item.gone tk n).app a.s) tm un).length≤1:=by
   unfold upAdd
   split
   ·unfold dueT;split <;> simp
   ·simp
  rw [List.length_append] at h2;simp only [List.length_cons] at h1 hc ⊢;omega
theorem least_ex {P:Nat→Prop}:∀ n,P n→∃ m,P m∧∀ i,P i→m≤i:=by
 intro n
 induction n using Nat.strongRecOn with
 | ind n ih =>
  intro h
  by_cases hl:∃ m,m<n∧P m
  ·obtain⟨m,hm,hp⟩:=hl
   exact ih m hm hp
  ·exact⟨n,h,fun i hi=>Nat.le_of_not_lt (fun e=>hl ⟨i,e,hi⟩)⟩
open Classical in
noncomputable def leastOf (P:Nat→Prop):Nat:=if h:∃ m,P m∧∀ i,P i→m≤i then Classical.choose h else 0
theorem leastOf_spec {P:Nat→Prop} (h:∃ n,P n):P (leastOf P):=by
 obtain⟨n,hn⟩:=h;have he:=least_ex n hn;unfold leastOf;rw [dif_pos he];exact(Classical.choose_spec he).1
theorem leastOf_le {P:Nat→Prop} {n:Nat} (h:P n):leastOf P≤n:=by
 have he:=least_ex n h;unfold leastOf;rw [dif_pos he];exact(Classical.choose_spec he).2 n h
structure Tryz.TkRound (B:Nat) (k:Blk) (tm:Int) (a0:TS) (l f M:Int) (rb Bv:Nat) (v0 due0:Value) (w wr:World) (nb:Nat) (t:TurnD) (okb:Bool) (vx:VX) (v:Value) (q:List TurnD) (a:TS) (j:Nat):Prop where
 bN:BoxN wr nb 144 t.cells
 nd:vx.due.ownBlock≠some nb
 nw:w.heap.size≤nb
 bB:BoxN wr Bv 76 #[.pointer (some ⟨k.vb,0,none⟩)]
 tat:Tryz.TAt B wr k vx tm a.s a.c (l-2*j) (f-2*j) rb a.fl v (a.cl.map fun p=>.string ⟨(nmStr p.1 p.2).toArray⟩) q
 yes:okb=true→(t :: q).Perm a.q∧∀ u∈q,¬ ltT u t
 no:okb=false→a.q = []∧q = []
 tries:Tries tm a0 a
 going:Going tm (M+j) a
 left:j+a.left≤a0.left
 cl:a.cl.length=j
 c:a.c.length≤a0.c.length+20000*j
 n50:a.s.tks.length+a.s.lks.length≤50
 qc:a.q.length+(a.s.tks.length+a.s.lks.length)≤100
 tk:vx.tk=true
 sp:Spares (tickBs k rb v0 due0) w wr
 vo:∀ g,v.ownBlock=some g→v0.ownBlock=some g∨w.heap.size≤g
 do_:∀ d,vx.due.ownBlock=some d→due0.ownBlock=some d∨w.heap.size≤d
def Tryz.TkI (B:Nat) (k:Blk) (tm:Int) (a0:TS) (l f M:Int) (rb Bv:Nat) (v0 due0:Value) (w:World) (p o:Value) (wr:World) (n:Nat):Prop:=
 ∃ nb t okb vx v q a j,p=.pointer (some ⟨nb,0,none⟩)∧o=.bool okb∧n=a.left∧TkRound B k tm a0 l f M rb Bv v0 due0 w wr nb t okb vx v q a j
end Go.Proofs
