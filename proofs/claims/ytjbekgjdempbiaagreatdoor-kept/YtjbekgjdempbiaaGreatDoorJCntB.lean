import Derived.Test.YtjbekgjdempbiaaGreatDoorJSq
import Derived.Test.YtjbekgjdempbiaaGreatDoorJRefJ
import Derived.Test.YtjbekgjdempbiaaGreatDoorJRefQ0
import Derived.Test.YtjbekgjdempbiaaGreatDoorJRecC
import Derived.Test.YtjbekgjdempbiaaGreatDoorJJrnC
set_option maxRecDepth 100000
set_option maxHeartbeats 8000000
namespace Go.Proofs
open Go.RowKit Go.Sort Go.Lib Go.Shelf
theorem Xdj (M:Nat) (c:UInt8) (h1:48<=c.toNat) (h2:c.toNat<=57):∀(l:List UInt8) (acc u:Nat),Lib.parseUintM M acc l=.ok u->u<1844674407370955162->u*10+(c.toNat-48)<=M->Lib.parseUintM M acc (l ++ [c])=.ok (u*10+(c.toNat-48))
 | [],acc,u,h,hu,hm=>by
  have e:acc=u:=by simpa [Lib.parseUintM] using h
  subst e;simp only [List.nil_append,Lib.parseUintM];rw [if_pos ⟨h1,h2⟩,if_neg (by omega),if_neg (by omega)]
 | d :: l,acc,u,h,hu,hm=>by
  simp only [List.cons_append,Lib.parseUintM] at h ⊢
  split at h
  ·split at h
   ·cases h
   split at h
   ·cases h
   rename_i a b c'
   rw [if_pos a,if_neg b,if_neg c'];exact Xdj M c h1 h2 l _ u h hu hm
  cases h
theorem Xg9 (d:Nat) (h:d<10):(UInt8.ofNat (48+d)).toNat=48+d:=by simp;omega
theorem Xlm (u:Nat) (hu:u<=18446744073709551615):Lib.parseUintM 18446744073709551615 0 (Lib.decDigits u)=.ok u:=by
 induction u using Nat.strongRecOn with
 | ind u ih =>
  by_cases h:u<10
  ·rw [Lib.decDigits_one h]
   have hd:=Xg9 u h;simp only [Lib.parseUintM,hd];rw [if_pos ⟨by omega,by omega⟩,if_neg (by omega),if_neg (by omega)]
   congr 1
   omega
  rw [Lib.decDigits,dif_neg h];have hd:=Xg9 (u % 10) (by omega);have:=Xdj 18446744073709551615 (UInt8.ofNat (48+u % 10)) (by omega) (by omega) _ 0 (u / 10) (ih (u / 10) (by omega) (by omega)) (by omega) (by omega);rw [this,hd]
  congr 1
  omega
theorem Xek (u:Nat):Lib.decDigits u ≠ []:=by
 rw [Lib.decDigits]
 split <;> simp
theorem Vx (u:Nat) (hu:u<18446744073709551616):Lib.parseUintB 64 (Lib.decDigits u)=.ok u:=by
 unfold Lib.parseUintB;rw [if_neg (Xek u)];exact Xlm u (by omega)
theorem Xnk {u v:Nat} (hu:u<18446744073709551616) (hv:v<18446744073709551616) (h:Lib.decDigits u=Lib.decDigits v):u=v:=by
 have h1:=Vx u hu;rw [h,Vx v hv] at h1;injection h1 with h1;exact h1.symm
def kd (tk:Bool):Int:=if tk then 1 else 2
theorem ThingD.U5 (t:ThingD):t.id=nmStr (kd t.token) t.n:=by
 cases h:t.token <;> simp [ThingD.id,nmStr,kd,h]
theorem Xcu {a b:Bool} {n m:Nat} (hn:n<Xn) (hm:m<Xn) (h:nmStr (kd a) n=nmStr (kd b) m):a=b/\n=m:=by
 cases a <;> cases b <;> simp [nmStr,kd] at h
 ·exact⟨rfl,Xnk hn hm h⟩
 exact⟨rfl,Xnk hn hm h⟩
theorem Xae (tk:Bool) {n:Nat} (h:n<Xn):parseN (nmStr (kd tk) n)=(kd tk,(n:Int)):=by
 cases tk
 ·show parseN (108 :: Lib.decDigits n)=_
  simp only [parseN,Vx n h];rw [if_pos (show nmStr (kindI 108) n=108 :: Lib.decDigits n from rfl)];rfl
 show parseN (116 :: Lib.decDigits n)=_
 simp only [parseN,Vx n h];rw [if_pos (show nmStr (kindI 116) n=116 :: Lib.decDigits n from rfl)];rfl
theorem M6 {s:List UInt8} {tk:Bool} {n:Nat} (h:parseN s=(kd tk,(n:Int))):s=nmStr (kd tk) n:=by
 have h0:kd tk≠0:=by cases tk <;> decide
 match s,h with
 | [],h=>exact absurd (Prod.mk.inj h).1.symm h0
 | c :: r,h =>
  simp only [parseN] at h
  split at h
  ·split at h
   ·rename_i u _ he
    obtain⟨e1,e2⟩:=Prod.mk.inj h
    have:u=n:=by omega
    subst this;rw [<- e1,he]
   exact absurd (Prod.mk.inj h).1.symm h0
  exact absurd (Prod.mk.inj h).1.symm h0
theorem Xak (s:List UInt8):Zq (parseN s):=by
 match s with
 | []=>exact⟨by decide,by decide⟩
 | c :: r =>
  simp only [parseN]
  split
  ·split
   ·rename_i u hu _
    have h64:=Xj0 hu;refine⟨?_,?_⟩
    ·show (Lit.int .i64 (kindI c)).wf=true
     unfold kindI
     split
     ·decide
     split <;> decide
    show (Lit.int .u64 (u:Int)).wf=true
    simp [Lit.wf,IntKind.min,IntKind.max,IntKind.bits,IntKind.signed];omega
   exact⟨by decide,by decide⟩
  exact⟨by decide,by decide⟩
def thT (t:Xd):ThingD:=⟨true,t.n,if t.ak=1 then (t.au:Int) else -1,[],t.at_,0,t.pd,t.tr⟩
def thL (l:Xc):ThingD:=⟨false,l.n,(l.au:Int),l.pth,l.at_,l.last,l.pd,l.tr⟩
structure Rel (tks:List Xd) (lks:List Xc) (L:List ThingD):Prop where
 toks:L.filter (fun t=>t.token==true)=tks.map thT
 leas:L.filter (fun t=>t.token==false)=lks.map thL
 akT:∀ t∈tks,t.ak=1\/t.ak=0
 akL:∀ l∈lks,l.ak=1
theorem Xcr (L:List ThingD):L.length=(L.filter (fun t=>t.token==true)).length+(L.filter (fun t=>t.token==false)).length:=by
 induction L with
 | nil=>rfl
 | cons x L ih=>cases h:x.token <;> simp [h] at ih ⊢ <;> omega
theorem Xc3 {α:Type} {f:α->Nat}:∀ {l:List α},l.Pairwise (fun a b=>f a<f b)->∀ {x y:α},x∈l->y∈l->f x=f y->x=y
 | [],_,_,_,hx,_,_=>by cases hx
 | a :: l,h,x,y,hx,hy,he=>by
  obtain⟨h1,h2⟩:=List.pairwise_cons.1 h
  rcases List.mem_cons.1 hx with rfl | hx' <;> rcases List.mem_cons.1 hy with rfl | hy'
  ·rfl
  ·have:=h1 y hy';omega
  ·have:=h1 x hx';omega
  exact Xc3 h2 hx' hy' he
section
variable {tks:List Xd} {lks:List Xc} {L:List ThingD}
theorem Rel.len (h:Rel tks lks L):L.length=tks.length+lks.length:=by
 rw [Xcr L,h.toks,h.leas,List.length_map,List.length_map]
theorem Rel.Xsa (h:Rel tks lks L):countI true L=tks.length:=by rw [countI,h.toks,List.length_map]
theorem Rel.countL (h:Rel tks lks L):countI false L=lks.length:=by rw [countI,h.leas,List.length_map]
theorem Rel.Zj (h:Rel tks lks L) {x:ThingD} (hx:x∈L) (ht:x.token=true):∃ t∈tks,thT t=x:=by
 have:x∈L.filter (fun t=>t.token==true):=List.mem_filter.2 ⟨hx,by simp [ht]⟩;rw [h.toks] at this
 simpa using this
theorem Rel.Mi (h:Rel tks lks L) {x:ThingD} (hx:x∈L) (ht:x.token=false):∃ t∈lks,thL t=x:=by
 have:x∈L.filter (fun t=>t.token==false):=List.mem_filter.2 ⟨hx,by simp [ht]⟩;rw [h.leas] at this
 simpa using this
theorem Rel.Vh (h:Rel tks lks L) {t:Xd} (ht:t∈tks):thT t∈L:=by
 have:thT t∈L.filter (fun t=>t.token==true):=by rw [h.toks];exact List.mem_map.2 ⟨t,ht,rfl⟩
 exact(List.mem_filter.1 this).1
theorem Rel.Xcl (h:Rel tks lks L) {t:Xc} (ht:t∈lks):thL t∈L:=by
 have:thL t∈L.filter (fun t=>t.token==false):=by rw [h.leas];exact List.mem_map.2 ⟨t,ht,rfl⟩
 exact(List.mem_filter.1 this).1
theorem Rel.Xkr (h:Rel tks lks L) (ok:Xx tks lks) {x y:ThingD} (hx:x∈L) (hy:y∈L) (ht:x.token=y.token) (hn:x.n=y.n):x=y:=by
 cases hb:x.token
 ·obtain⟨a,ha,rfl⟩:=h.Mi hx hb
  obtain⟨b,hb',rfl⟩:=h.Mi hy (ht ▸ hb);rw [Xc3 ok.incL ha hb' hn]
 obtain⟨a,ha,rfl⟩:=h.Zj hx hb;obtain⟨b,hb',rfl⟩:=h.Zj hy (ht ▸ hb);rw [Xc3 ok.incT ha hb' hn]
theorem Rel.num (h:Rel tks lks L) (ok:Xx tks lks) {x:ThingD} (hx:x∈L):x.n<Xn:=by
 cases hb:x.token
 ·obtain⟨a,ha,rfl⟩:=h.Mi hx hb
  exact(ok.limL a ha).1
 obtain⟨a,ha,rfl⟩:=h.Zj hx hb;exact(ok.limT a ha).1
theorem Rel.infos (h:Rel tks lks L) (tm:Int):infosOf tm tks lks=Xc9 tm L:=by
 unfold infosOf Xc9 Jk;rw [h.toks,h.leas,List.map_map,List.map_map]
 congr 1
 ·refine List.map_congr_left fun t ht=>?_
  rcases h.akT t ht with e | e <;> cases hp:t.pd <;> simp [Xd.info,ThingD.info,ThingD.id,ThingD.state,thT,nmStr,ofStr,e,hp] <;> omega
 refine List.map_congr_left fun l hl=>?_
 have e:=h.akL l hl
 cases hp:l.pd <;> simp [Xc.info,ThingD.info,ThingD.id,ThingD.state,thL,nmStr,ofStr,e,hp]
 by_cases hc:tm<l.at_
 ·rw [if_pos hc,if_neg (by omega)]
 rw [if_neg hc,if_pos (by omega)]
theorem Uh:∀(L:List ThingD) (m m':Int),L.foldl (fun m t=>min m t.at_) (min m m')=min ((L.filter (fun t=>t.token==true)).foldl (fun m t=>min m t.at_) m) ((L.filter (fun t=>t.token==false)).foldl (fun m t=>min m t.at_) m')
 | [],_,_=>rfl
 | x :: L,m,m'=>by
  cases h:x.token
  ·have:=Uh L m (min m' x.at_)
   simp only [List.foldl_cons,List.filter_cons,h];rw [<- Int.min_assoc] at this
   simpa using this
  have:=Uh L (min m x.at_) m';simp only [List.foldl_cons,List.filter_cons,h];rw [show min (min m x.at_) m'=min (min m m') x.at_ by omega] at this
  simpa using this
theorem Uf:∀(xs:List InfoD) (m m':Int),xs.foldl (fun m x=>min m x.at_) (min m m')=min m (xs.foldl (fun m x=>min m x.at_) m')
 | [],_,_=>rfl
 | x :: xs,m,m'=>by
  simp only [List.foldl_cons];rw [Int.min_assoc];exact Uf xs m (min m' x.at_)
theorem Rel.next (h:Rel tks lks L) (tm:Int):minAt (infosOf tm tks lks)=minT L:=by
 have h1:=Uh L 18446744073709551615 18446744073709551615;rw [h.toks,h.leas,List.foldl_map,List.foldl_map] at h1;rw [show min (18446744073709551615:Int) 18446744073709551615=18446744073709551615 by omega] at h1;rw [minT,h1];unfold minAt infosOf Mq;rw [List.foldl_append,List.foldl_map,List.foldl_map];have h2:=Uf (lks.map (Xc.info tm)) (tks.foldl (fun m t=>min m t.info.at_) 18446744073709551615) 18446744073709551615;rw [List.foldl_map,List.foldl_map] at h2
 have h3:min (tks.foldl (fun m t=>min m t.info.at_) 18446744073709551615) 18446744073709551615=tks.foldl (fun m t=>min m t.info.at_) 18446744073709551615:=by
  have h4:=Uf (tks.map Xd.info) 18446744073709551615 18446744073709551615;rw [List.foldl_map,List.foldl_map,show min (18446744073709551615:Int) 18446744073709551615=18446744073709551615 by omega] at h4;omega
 rw [h3] at h2;exact h2
theorem Xap {tm:Int} {id:List UInt8} {tk:Bool} {i:Nat} {t:ThingD} (hid:t.id=id) (htk:t.token=tk) (hn:t.n<Xn) (_:liveI tm id tk L=i):parseN id=(kd tk,(t.n:Int)):=by
 rw [<- hid,ThingD.U5,Xae _ hn,htk]
theorem Rel.Xhg (h:Rel tks lks L) (ok:Xx tks lks) {tm:Int} {id:List UInt8} {tk:Bool} (hl:liveI tm id tk L = -1) {x:ThingD} (hx:x∈L) (htk:x.token=tk) (hst:x.state tm=1):parseN id≠(kd tk,(x.n:Int)):=by
 intro hp
 have hid:x.id=id:=by rw [M6 hp,ThingD.U5,htk]
 unfold liveI at hl
 cases he:L.findIdx? (fun t=>t.id==id) with
 | none =>
  have:=List.findIdx?_eq_none_iff.1 he x hx;simp [hid] at this
 | some j =>
  obtain⟨hlt,hj,-⟩:=List.findIdx?_eq_some_iff_getElem.1 he
  have hg:L[j]? = some L[j]:=by simp [hlt]
  have hjm:L[j]∈L:=List.getElem_mem hlt
  have hj':nmStr (kd L[j].token) L[j].n=nmStr (kd x.token) x.n:=by
   rw [<- ThingD.U5,<- ThingD.U5,hid]
   simpa using hj
  obtain⟨e1,e2⟩:=Xcu (h.num ok hjm) (h.num ok hx) hj';have e:=h.Xkr ok hjm hx e1 e2;rw [he] at hl;simp only [hg,e,htk,hst] at hl;simp at hl
theorem Rel.snocT (h:Rel tks lks L) (t:Xd) (hk:t.ak=1):Rel (tks ++ [t]) lks (L ++ [thT t]):=
 ⟨by rw [List.filter_append,h.toks,List.map_append];rfl,by rw [List.filter_append,h.leas];simp [thT],fun x hx=>by
  rcases List.mem_append.1 hx with hx | hx
  ·exact h.akT x hx
  rw [List.mem_singleton.1 hx];exact .inl hk,h.akL⟩
theorem Rel.snocL (h:Rel tks lks L) (t:Xc) (hk:t.ak=1):Rel tks (lks ++ [t]) (L ++ [thL t]):=
 ⟨by rw [List.filter_append,h.toks];simp [thL],by rw [List.filter_append,h.leas,List.map_append];rfl,h.akT,fun x hx=>by
  rcases List.mem_append.1 hx with hx | hx
  ·exact h.akL x hx
  rw [List.mem_singleton.1 hx];exact hk⟩
end
theorem Xev:∀(L:List ThingD) (i:Nat) (t:ThingD),L[i]? = some t->t.token=false->∃ k,(L.filter (fun t=>t.token==false))[k]? = some t/\∀ y:ThingD,y.token=false->(L.set i y).filter (fun t=>t.token==false)=(L.filter (fun t=>t.token==false)).set k y/\(L.set i y).filter (fun t=>t.token==true)=L.filter (fun t=>t.token==true)
 | [],_,_,h,_=>by simp at h
 | x :: L,0,t,h,ht=>by
  obtain rfl:x=t:=by simpa using h
  exact⟨0,by simp [ht],fun y hy=>by simp [ht,hy]⟩
 | x :: L,i+1,t,h,ht=>by
  obtain⟨k,hk,hy⟩:=Xev L i t (by simpa using h) ht;cases hx:x.token
  ·refine⟨k+1,by simpa [hx] using hk,fun y hyt=>?_⟩
   obtain⟨h1,h2⟩:=hy y hyt;exact⟨by simpa [hx] using h1,by simpa [hx] using h2⟩
  refine⟨k,by simpa [hx] using hk,fun y hyt=>?_⟩;obtain⟨h1,h2⟩:=hy y hyt;exact⟨by simpa [hx] using h1,by simpa [hx] using h2⟩
theorem Rel.Xsd {tks:List Xd} {lks:List Xc} {L:List ThingD} (h:Rel tks lks L) {i:Nat} {t:ThingD} (hi:L[i]? = some t) (ht:t.token=false) :
  ∃(k:Nat) (l:Xc),lks[k]? = some l/\thL l=t/\∀ a:Int,Rel tks (lks.set k { l with at_:=a }) (L.set i { t with at_:=a }):=by
 obtain⟨k,hk,hy⟩:=Xev L i t hi ht;rw [h.leas,List.getElem?_map] at hk;obtain⟨l,hl,rfl⟩:=Option.map_eq_some_iff.1 hk;refine⟨k,l,hl,rfl,fun a=>?_⟩;obtain⟨h1,h2⟩:=hy { (thL l) with at_:=a } rfl;refine⟨by rw [h2,h.toks],?_,h.akT,fun x hx=>?_⟩
 ·rw [h1,h.leas,List.map_set]
  rfl
 rcases List.mem_or_eq_of_mem_set hx with hx | rfl
 ·exact h.akL x hx
 exact h.akL l (List.mem_of_getElem? hl)
end Go.Proofs
namespace Go.Proofs
open Go.RowKit Go.Sort Go.Lib Go.Shelf Go.Maps
theorem Tryz.later (a b:Int) (ha:0<=a) (ha1:a<=18446744073709551615) (hb0:0<=b) (hb:b<=18446744073709551615) (w:World) :
  Calls prog 65 #[.int .u64 a,.int .u64 b] w fun e w'=>e=.returned (.int .u64 (plusI a b))/\w'=w:=by
 have hr:Hid (plusI a b=if 18446744073709551615-b<a then 18446744073709551615 else a+b):=Xb rfl;generalize plusI a b=r at *
 by_cases h:18446744073709551615-a<b
 ·obtain rfl:r=18446744073709551615:=by rw [Xa hr,if_pos (by omega)]
  clear hr;go_enter func65,ntmps65;go_wp2;go_ret;exact⟨rfl,rfl⟩
 obtain rfl:r=a+b:=by rw [Xa hr,if_neg (by omega)]
 clear hr;go_enter func65,ntmps65;go_wp2;go_ret;exact⟨Yy (by omega),rfl⟩
theorem Tryz.Xih (w:World):(zeroValue 153).run prog w=.ok (.agg #[.int .i64 0,.int .u64 0,.int .u64 0,.int .i64 0,.bool false]) w:=zeroValue153 w
theorem Tryz.Xim (w:World):(zeroValue 131).run prog w=.ok (.agg #[.int .i64 0,.int .u64 0,.int .u64 0,.int .i64 0,.bool false,.string ⟨#[]⟩,.int .u64 0]) w:=zeroValue131 w
section
variable {W:World} {vb mt ml:Nat} {vx:VX} {tm tn ln:Int} {tks:List Xd} {lks:List Xc}
theorem Tryz.Xq.Xhi (h:Xq W vb mt ml vx tm tn ln tks lks) {t:Xd} (ht:t∈tks) :
  (Instr.lookup 120 (.map (some mt)) (nmV (1,(t.n:Int))) true).run prog W=.ok (.tuple #[.agg t.cells,.bool true]) W:=by
 obtain⟨n,_,hm⟩:=h.held.mapT;exact Xz.Xck h.ok.ksT.1 (Xdw (.inl rfl) (h.ok.limT t ht).1) hm underlying120 (Xih _) (Z0 h.ok.ksT.1 (List.mem_reverse.2 (List.mem_map.2 ⟨t,ht,rfl⟩)))
theorem Tryz.Xq.Xaa (h:Xq W vb mt ml vx tm tn ln tks lks) {x:Int × Int} (hx:Zq x) (hn:∀ t∈tks,x≠(1,(t.n:Int))) :
  (Instr.lookup 120 (.map (some mt)) (nmV x) true).run prog W=.ok (.tuple #[.agg #[.int .i64 0,.int .u64 0,.int .u64 0,.int .i64 0,.bool false],.bool false]) W:=by
 obtain⟨n,_,hm⟩:=h.held.mapT;refine Xz.Xhj h.ok.ksT.1 hx hm underlying120 (Xih _) (Xba.2 fun p hp e=>?_);obtain⟨t,ht,rfl⟩:=List.mem_map.1 (List.mem_reverse.1 hp);exact hn t ht e.symm
theorem Tryz.Xq.Xsg (h:Xq W vb mt ml vx tm tn ln tks lks) {t:Xc} (ht:t∈lks) :
  (Instr.lookup 121 (.map (some ml)) (nmV (2,(t.n:Int))) true).run prog W=.ok (.tuple #[.agg t.cells,.bool true]) W:=by
 obtain⟨n,_,hm⟩:=h.held.mapL;exact Xz.Xck h.ok.ksL.1 (Xdw (.inr rfl) (h.ok.limL t ht).1) hm underlying121 (Xim _) (Z0 h.ok.ksL.1 (List.mem_reverse.2 (List.mem_map.2 ⟨t,ht,rfl⟩)))
theorem Tryz.Xq.Xkp (h:Xq W vb mt ml vx tm tn ln tks lks) {x:Int × Int} (hx:Zq x) (hn:∀ t∈lks,x≠(2,(t.n:Int))) :
  (Instr.lookup 121 (.map (some ml)) (nmV x) true).run prog W=.ok (.tuple #[.agg #[.int .i64 0,.int .u64 0,.int .u64 0,.int .i64 0,.bool false,.string ⟨#[]⟩,.int .u64 0],.bool false]) W:=by
 obtain⟨n,_,hm⟩:=h.held.mapL;refine Xz.Xhj h.ok.ksL.1 hx hm underlying121 (Xim _) (Xba.2 fun p hp e=>?_);obtain⟨t,ht,rfl⟩:=List.mem_map.1 (List.mem_reverse.1 hp);exact hn t ht e.symm
end
structure Tryz.LkP (vb c m nb:Nat) (tm:TypeId) (k u:Int) (r:Value) (W:World):Prop where
 mp:W.cell? ⟨vb,c,none⟩=some (.map (some m))
 n0:W.cell? ⟨nb,0,none⟩=some (.int .i64 k)
 n1:W.cell? ⟨nb,1,none⟩=some (.int .u64 u)
 lk:(Instr.lookup tm (.map (some m)) (.agg #[.int .i64 k,.int .u64 u]) true).run Tryz.prog W=.ok r W
theorem Tryz.Xe9 (vb mt:Nat) (x:Int × Int) (ak au at_ tr:Int) (pd b:Bool) (w:World) (hP:∀ W,Below w.heap.size w W->W.cell? ⟨vb,3,none⟩=some (.map (some mt))/\(Instr.lookup 120 (.map (some mt)) (nmV x) true).run prog W=.ok (.tuple #[.agg #[.int .i64 ak,.int .u64 au,.int .u64 at_,.int .i64 tr,.bool pd],.bool b]) W) :
  Calls prog 83 #[.pointer (some ⟨vb,0,none⟩),nmV x] w fun e w'=>e=.returned (.bool (b && !pd))/\Below w.heap.size w w':=by
 have hB0:Below w.heap.size w (w.alloc (.cells #[.int .i64 x.1,.int .u64 x.2] 114)):=(Below.refl _ w).alloc (Nat.le_refl _) _;have bN:=BoxN.new w 114 #[.int .i64 x.1,.int .u64 x.2]
 have hS:∀ W,Below (w.heap.size+1) (w.alloc (.cells #[.int .i64 x.1,.int .u64 x.2] 114)) W->LkP vb 3 mt w.heap.size 120 x.1 x.2 (.tuple #[.agg #[.int .i64 ak,.int .u64 au,.int .u64 at_,.int .i64 tr,.bool pd],.bool b]) W:=fun W hb=>by
  have bN':=bN.below hb (by omega);obtain⟨h1,h2⟩:=hP W (hB0.trans (hb.mono (by omega)));exact⟨h1,bN'.cell 0 rfl,bN'.cell 1 rfl,h2⟩
 have hs0:(w.alloc (.cells #[.int .i64 x.1,.int .u64 x.2] 114)).heap.size=w.heap.size+1:=by simp
 unfold nmV;go_enter func83,ntmps83
 go_wp2_with fail
 generalize w.alloc (.cells #[.int .i64 x.1,.int .u64 x.2] 114)=W1 at *;have hb1:Below (w.heap.size+1) W1 W1.drew:=(Below.refl _ _).drew;refine wp_region_held_drew (S:=LkP vb 3 mt w.heap.size 120 x.1 x.2 (.tuple #[.agg #[.int .i64 ak,.int .u64 au,.int .u64 at_,.int .i64 tr,.bool pd],.bool b])) (by kernel_rfl) (hS _ hb1) (fun hS0=>?_);refine Xt 0 ?v0 rfl ?y0 hS0 ?_
 case y0=>(rintro w ⟨q0,q1,q2,q3⟩;go_simp;try with_reducible rfl)
 refine Xt 1 ?v1 rfl ?y1 hS0 ?_
 case y1=>(rintro w ⟨q0,q1,q2,q3⟩;go_simp;try with_reducible rfl)
 refine Xt 2 ?v2 rfl ?y2 hS0 ?_
 case y2=>(rintro w ⟨q0,q1,q2,q3⟩;go_simp;try with_reducible rfl)
 refine Xt 3 ?v3 rfl ?y3 hS0 ?_
 case y3=>(rintro w ⟨q0,q1,q2,q3⟩;go_simp;try with_reducible rfl)
 refine Xt 4 ?v4 rfl ?y4 hS0 ?_
 case y4=>(rintro w ⟨q0,q1,q2,q3⟩;go_simp;try with_reducible rfl)
 refine Xt 5 ?v5 rfl ?y5 hS0 ?_
 case y5=>(rintro w ⟨q0,q1,q2,q3⟩;go_simp;try with_reducible rfl)
 refine Xt 6 ?v6 rfl ?y6 hS0 ?_
 case y6=>(rintro w ⟨q0,q1,q2,q3⟩;go_simp;try with_reducible rfl)
 refine Xt 7 ?v7 rfl ?y7 hS0 ?_
 case y7=>(rintro w ⟨q0,q1,q2,q3⟩;go_simp;try with_reducible rfl)
 refine Xt 8 ?v8 rfl ?y8 hS0 ?_
 case y8=>(rintro w ⟨q0,q1,q2,q3⟩;go_simp;try with_reducible rfl)
 refine Xh 9 rfl fun K hK=>?_;go_simp;refine hK.out _ _ (hS _ (hb1.alloc (by simp [hs0]) _)) (fun hS1=>?_);clear hK K;refine Xh 10 rfl fun K hK=>?_;go_simp;have hb2:Below (w.heap.size+1) W1 (W1.alloc (.cells #[.int .i64 ak,.int .u64 au,.int .u64 at_,.int .i64 tr,.bool pd] 153)).drew:=((Below.refl _ _).alloc (by omega) _).drew
 have bT:BoxN (W1.alloc (.cells #[.int .i64 ak,.int .u64 au,.int .u64 at_,.int .i64 tr,.bool pd] 153)).drew (w.heap.size+1) 153 #[.int .i64 ak,.int .u64 au,.int .u64 at_,.int .i64 tr,.bool pd]:=by
  have h:=BoxN.new W1 153 #[.int .i64 ak,.int .u64 au,.int .u64 at_,.int .i64 tr,.bool pd];rw [hs0] at h;exact h
 refine hK.out _ _ (hS _ hb2) (fun hS2=>?_);clear hK K;refine Xh 11 rfl fun K hK=>?_;go_simp;refine hK.out _ _ hS2 (fun _=>?_);clear hK K;refine wpAnyH_done (by kernel_rfl) ?_ _;have hBf:Below w.heap.size w (W1.alloc (.cells #[.int .i64 ak,.int .u64 au,.int .u64 at_,.int .i64 tr,.bool pd] 153)).drew:=hB0.trans (hb2.mono (by omega));clear hS hP hS0 hS1 hS2 hb1 hb2 hB0 bN;generalize (W1.alloc (.cells #[.int .i64 ak,.int .u64 au,.int .u64 at_,.int .i64 tr,.bool pd] 153)).drew=W2 at *;have hL:=Vt (w.heap.size+1) pd W2 (bT.cell 4 rfl);cases b
 ·go_wp2_with (go_at_call 89;fail)
  go_ret;exact⟨rfl,hBf⟩
 go_wp2_with (go_at_call 89;refine hL.mono ?_;rintro e w5 ⟨rfl,rfl⟩)
 go_ret;exact⟨by simp,hBf⟩
theorem Tryz.Xef (vb mt ml:Nat) (vx:VX) (tm tn ln:Int) (tks:List Xd) (lks:List Xc) (w:World) (hV:Xq w vb mt ml vx tm tn ln tks lks) (t:Xd) (ht:t∈tks) :
  Calls prog 83 #[.pointer (some ⟨vb,0,none⟩),nmV (1,(t.n:Int))] w fun e w'=>e=.returned (.bool (!t.pd))/\Below w.heap.size w w':=by
 have h:=Xe9 vb mt (1,(t.n:Int)) t.ak t.au t.at_ t.tr t.pd true w (fun W hb=>⟨(hV.below hb).v.cell 3 rfl,(hV.below hb).Xhi ht⟩)
 simpa using h
theorem Tryz.Xi8 (vb mt ml:Nat) (vx:VX) (tm tn ln:Int) (tks:List Xd) (lks:List Xc) (w:World) (hV:Xq w vb mt ml vx tm tn ln tks lks) (x:Int × Int) (hx:Zq x) (hn:∀ t∈tks,x≠(1,(t.n:Int))) :
  Calls prog 83 #[.pointer (some ⟨vb,0,none⟩),nmV x] w fun e w'=>e=.returned (.bool false)/\Below w.heap.size w w':=by
 have h:=Xe9 vb mt x 0 0 0 0 false false w (fun W hb=>⟨(hV.below hb).v.cell 3 rfl,(hV.below hb).Xaa hx hn⟩)
 simpa using h
end Go.Proofs
namespace Go.Proofs
open Go.RowKit Go.Sort Go.Lib Go.Shelf Go.Maps Go.WideMaps
def Yh (t:Xd) (l:List Xd):List Xd:=if l.any (fun x=>x.n==t.n) then l.map (fun x=>if x.n=t.n then t else x) else l ++ [t]
def Xbj (n:Nat) (l:List Xd):List Xd:=l.filter (fun x=>x.n != n)
theorem Xa9 (x t:Xd):(Xd.key x).1=(Xd.key t).1↔x.n=t.n:=by
 simp [Xd.key];omega
theorem Yx {t:Xd} {l:List Xd} (hs:l.Pairwise (fun a b=>a.n<b.n)):(∃ a x b,l=a++x :: b/\x.n=t.n/\Yh t l=a++t :: b/\(∀ y∈a++b,y.n≠t.n))\/((∀ y∈l,y.n≠t.n)/\Yh t l=l ++ [t]):=by
 by_cases h:l.any (fun x=>x.n==t.n)=true
 ·obtain⟨x,hx,hn⟩:=List.any_eq_true.1 h
  have hn:x.n=t.n:=by simpa using hn
  obtain⟨a,b,rfl⟩:=List.append_of_mem hx;obtain⟨h1,h2,h3⟩:=List.pairwise_append.1 hs;obtain⟨h4,h5⟩:=List.pairwise_cons.1 h2
  have hne:∀ y∈a++b,y.n≠t.n:=fun y hy=>by
   rcases List.mem_append.1 hy with hy | hy
   ·have:=h3 y hy x (by simp);omega
   have:=h4 y hy;omega
  refine .inl ⟨a,x,b,rfl,hn,?_,hne⟩;unfold Yh;rw [if_pos h,List.map_append,List.map_cons,if_pos hn]
  have m:∀ c:List Xd,(∀ y∈c,y.n≠t.n)->c.map (fun x=>if x.n=t.n then t else x)=c:=fun c hc=>by
   conv=>rhs;rw [<- List.map_id c]
   exact List.map_congr_left fun y hy=>by simp [hc y hy]
  rw [m a (fun y hy=>hne y (by simp [hy])),m b (fun y hy=>hne y (by simp [hy]))]
 have hf:l.any (fun x=>x.n==t.n)=false:=by simpa using h
 refine .inr ⟨fun y hy e=>?_,by unfold Yh;rw [if_neg h]⟩;exact h (List.any_eq_true.2 ⟨y,hy,by simpa using e⟩)
theorem Xkc {l:List Xd} (hs:l.Pairwise (fun a b=>a.n<b.n)) (t:Xd):((Xd.key t) :: ((l.map Xd.key).reverse.filter (fun p=>decide (p.1≠(Xd.key t).1)))).Perm ((Yh t l).map Xd.key).reverse:=by
 have keep:∀ c:List Xd,(∀ y∈c,y.n≠t.n)->(c.map Xd.key).reverse.filter (fun p=>decide (p.1≠(Xd.key t).1))=(c.map Xd.key).reverse:=fun c hc=>List.filter_eq_self.2 fun p hp=>by
  obtain⟨y,hy,rfl⟩:=List.mem_map.1 (List.mem_reverse.1 hp)
  simpa using fun e=>hc y hy ((Xa9 y t).1 e)
 rcases Yx (t:=t) hs with⟨a,x,b,rfl,hn,hp,hne⟩ | ⟨hne,hp⟩
 ·rw [hp]
  simp only [List.map_append,List.map_cons,List.reverse_append,List.reverse_cons,List.filter_append,List.append_assoc];rw [keep a (fun y hy=>hne y (by simp [hy])),keep b (fun y hy=>hne y (by simp [hy]))]
  have e : [Xd.key x].filter (fun p=>decide (p.1≠(Xd.key t).1)) = []:=by
   simp [(Xa9 x t).2 hn]
  rw [e,List.nil_append];exact List.perm_middle.symm
 rw [hp,keep l hne,List.map_append,List.reverse_append];exact List.Perm.refl _
theorem Xfy (n:Nat) (l:List Xd) (t:Xd) (ht:t.n=n):(l.map Xd.key).reverse.filter (fun p=>decide (p.1≠(Xd.key t).1))=((Xbj n l).map Xd.key).reverse:=by
 unfold Xbj;rw [List.filter_reverse,List.filter_map]
 congr 2
 refine List.filter_congr fun x _=>?_
 have:=Xa9 x t;rw [ht] at this
 by_cases e:x.n=n
 ·simp [e,this.2 e]
 have h2:(Xd.key x).1≠(Xd.key t).1:=fun h=>e (this.1 h)
 simp [e,h2]
theorem Zh {t y:Xd} {l:List Xd} (hs:l.Pairwise (fun a b=>a.n<b.n)) (h:y∈Yh t l):y=t\/y∈l:=by
 rcases Yx (t:=t) hs with⟨a,x,b,rfl,hn,hp,hne⟩ | ⟨hne,hp⟩
 ·rw [hp] at h
  simp at h ⊢
  rcases h with h | h | h
  ·exact .inr (.inl h)
  ·exact .inl h
  exact .inr (.inr (.inr h))
 rw [hp] at h;simp at h
 rcases h with h | h
 ·exact .inr h
 exact .inl h
theorem Xlg {t:Xd} {l:List Xd} (hs:l.Pairwise (fun a b=>a.n<b.n)):(Yh t l).length<=l.length+1:=by
 rcases Yx (t:=t) hs with⟨a,x,b,rfl,hn,hp,hne⟩ | ⟨hne,hp⟩
 ·rw [hp];simp
 rw [hp];simp
def Xao (t:Xd) (l:List Xd):Prop:=(∃ x∈l,x.n=t.n)\/∀ x∈l,x.n<t.n
theorem V9 {t:Xd} {l:List Xd} (hs:l.Pairwise (fun a b=>a.n<b.n)) (hf:Xao t l):(Yh t l).Pairwise (fun a b=>a.n<b.n):=by
 rcases Yx (t:=t) hs with⟨a,x,b,rfl,hn,hp,hne⟩ | ⟨hne,hp⟩
 ·rw [hp]
  obtain⟨h1,h2,h3⟩:=List.pairwise_append.1 hs;obtain⟨h4,h5⟩:=List.pairwise_cons.1 h2;refine List.pairwise_append.2 ⟨h1,List.pairwise_cons.2 ⟨fun y hy=>by rw [<- hn];exact h4 y hy,h5⟩,fun y hy z hz=>?_⟩
  rcases List.mem_cons.1 hz with rfl | hz
  ·rw [<- hn];exact h3 y hy x (by simp)
  exact h3 y hy z (List.mem_cons_of_mem _ hz)
 rw [hp];refine List.pairwise_append.2 ⟨hs,by simp,fun y hy z hz=>?_⟩;rw [List.mem_singleton.1 hz]
 rcases hf with⟨x,hx,e⟩ | h
 ·exact absurd e (hne x hx)
 exact h y hy
def Yc (t:Xc) (l:List Xc):List Xc:=if l.any (fun x=>x.n==t.n) then l.map (fun x=>if x.n=t.n then t else x) else l ++ [t]
def Xbi (n:Nat) (l:List Xc):List Xc:=l.filter (fun x=>x.n != n)
theorem Xbe (x t:Xc):(Xc.key x).1=(Xc.key t).1↔x.n=t.n:=by
 simp [Xc.key];omega
theorem Yw {t:Xc} {l:List Xc} (hs:l.Pairwise (fun a b=>a.n<b.n)):(∃ a x b,l=a++x :: b/\x.n=t.n/\Yc t l=a++t :: b/\(∀ y∈a++b,y.n≠t.n))\/((∀ y∈l,y.n≠t.n)/\Yc t l=l ++ [t]):=by
 by_cases h:l.any (fun x=>x.n==t.n)=true
 ·obtain⟨x,hx,hn⟩:=List.any_eq_true.1 h
  have hn:x.n=t.n:=by simpa using hn
  obtain⟨a,b,rfl⟩:=List.append_of_mem hx;obtain⟨h1,h2,h3⟩:=List.pairwise_append.1 hs;obtain⟨h4,h5⟩:=List.pairwise_cons.1 h2
  have hne:∀ y∈a++b,y.n≠t.n:=fun y hy=>by
   rcases List.mem_append.1 hy with hy | hy
   ·have:=h3 y hy x (by simp);omega
   have:=h4 y hy;omega
  refine .inl ⟨a,x,b,rfl,hn,?_,hne⟩;unfold Yc;rw [if_pos h,List.map_append,List.map_cons,if_pos hn]
  have m:∀ c:List Xc,(∀ y∈c,y.n≠t.n)->c.map (fun x=>if x.n=t.n then t else x)=c:=fun c hc=>by
   conv=>rhs;rw [<- List.map_id c]
   exact List.map_congr_left fun y hy=>by simp [hc y hy]
  rw [m a (fun y hy=>hne y (by simp [hy])),m b (fun y hy=>hne y (by simp [hy]))]
 have hf:l.any (fun x=>x.n==t.n)=false:=by simpa using h
 refine .inr ⟨fun y hy e=>?_,by unfold Yc;rw [if_neg h]⟩;exact h (List.any_eq_true.2 ⟨y,hy,by simpa using e⟩)
theorem Xjq {l:List Xc} (hs:l.Pairwise (fun a b=>a.n<b.n)) (t:Xc):((Xc.key t) :: ((l.map Xc.key).reverse.filter (fun p=>decide (p.1≠(Xc.key t).1)))).Perm ((Yc t l).map Xc.key).reverse:=by
 have keep:∀ c:List Xc,(∀ y∈c,y.n≠t.n)->(c.map Xc.key).reverse.filter (fun p=>decide (p.1≠(Xc.key t).1))=(c.map Xc.key).reverse:=fun c hc=>List.filter_eq_self.2 fun p hp=>by
  obtain⟨y,hy,rfl⟩:=List.mem_map.1 (List.mem_reverse.1 hp)
  simpa using fun e=>hc y hy ((Xbe y t).1 e)
 rcases Yw (t:=t) hs with⟨a,x,b,rfl,hn,hp,hne⟩ | ⟨hne,hp⟩
 ·rw [hp]
  simp only [List.map_append,List.map_cons,List.reverse_append,List.reverse_cons,List.filter_append,List.append_assoc];rw [keep a (fun y hy=>hne y (by simp [hy])),keep b (fun y hy=>hne y (by simp [hy]))]
  have e : [Xc.key x].filter (fun p=>decide (p.1≠(Xc.key t).1)) = []:=by
   simp [(Xbe x t).2 hn]
  rw [e,List.nil_append];exact List.perm_middle.symm
 rw [hp,keep l hne,List.map_append,List.reverse_append];exact List.Perm.refl _
theorem Xfw (n:Nat) (l:List Xc) (t:Xc) (ht:t.n=n):(l.map Xc.key).reverse.filter (fun p=>decide (p.1≠(Xc.key t).1))=((Xbi n l).map Xc.key).reverse:=by
 unfold Xbi;rw [List.filter_reverse,List.filter_map]
 congr 2
 refine List.filter_congr fun x _=>?_
 have:=Xbe x t;rw [ht] at this
 by_cases e:x.n=n
 ·simp [e,this.2 e]
 have h2:(Xc.key x).1≠(Xc.key t).1:=fun h=>e (this.1 h)
 simp [e,h2]
theorem Jd {t y:Xc} {l:List Xc} (hs:l.Pairwise (fun a b=>a.n<b.n)) (h:y∈Yc t l):y=t\/y∈l:=by
 rcases Yw (t:=t) hs with⟨a,x,b,rfl,hn,hp,hne⟩ | ⟨hne,hp⟩
 ·rw [hp] at h
  simp at h ⊢
  rcases h with h | h | h
  ·exact .inr (.inl h)
  ·exact .inl h
  exact .inr (.inr (.inr h))
 rw [hp] at h;simp at h
 rcases h with h | h
 ·exact .inr h
 exact .inl h
theorem Xl0 {t:Xc} {l:List Xc} (hs:l.Pairwise (fun a b=>a.n<b.n)):(Yc t l).length<=l.length+1:=by
 rcases Yw (t:=t) hs with⟨a,x,b,rfl,hn,hp,hne⟩ | ⟨hne,hp⟩
 ·rw [hp];simp
 rw [hp];simp
def Xah (t:Xc) (l:List Xc):Prop:=(∃ x∈l,x.n=t.n)\/∀ x∈l,x.n<t.n
theorem Mc {t:Xc} {l:List Xc} (hs:l.Pairwise (fun a b=>a.n<b.n)) (hf:Xah t l):(Yc t l).Pairwise (fun a b=>a.n<b.n):=by
 rcases Yw (t:=t) hs with⟨a,x,b,rfl,hn,hp,hne⟩ | ⟨hne,hp⟩
 ·rw [hp]
  obtain⟨h1,h2,h3⟩:=List.pairwise_append.1 hs;obtain⟨h4,h5⟩:=List.pairwise_cons.1 h2;refine List.pairwise_append.2 ⟨h1,List.pairwise_cons.2 ⟨fun y hy=>by rw [<- hn];exact h4 y hy,h5⟩,fun y hy z hz=>?_⟩
  rcases List.mem_cons.1 hz with rfl | hz
  ·rw [<- hn];exact h3 y hy x (by simp)
  exact h3 y hy z (List.mem_cons_of_mem _ hz)
 rw [hp];refine List.pairwise_append.2 ⟨hs,by simp,fun y hy z hz=>?_⟩;rw [List.mem_singleton.1 hz]
 rcases hf with⟨x,hx,e⟩ | h
 ·exact absurd e (hne x hx)
 exact h y hy
theorem Xx.putT {tks:List Xd} {lks:List Xc} (h:Xx tks lks) {t:Xd} (hf:Xao t tks) (hl:tks.length<500) (h1:t.n<Xn) (h2:t.au<Xn):Xx (Yh t tks) lks:=
 ⟨by have:=Xlg (t:=t) h.incT;omega,h.lenL,V9 h.incT hf,h.incL,fun x hx=>by rcases Zh h.incT hx with rfl | hx;exact⟨h1,h2⟩;exact h.limT x hx,h.limL⟩
theorem Xx.putL {tks:List Xd} {lks:List Xc} (h:Xx tks lks) {t:Xc} (hf:Xah t lks) (hl:lks.length<500) (h1:t.n<Xn) (h2:t.au<Xn):Xx tks (Yc t lks):=
 ⟨h.lenT,by have:=Xl0 (t:=t) h.incL;omega,h.incT,Mc h.incL hf,h.limT,fun x hx=>by rcases Jd h.incL hx with rfl | hx;exact⟨h1,h2⟩;exact h.limL x hx⟩
theorem Xx.delT {tks:List Xd} {lks:List Xc} (h:Xx tks lks) (n:Nat):Xx (Xbj n tks) lks:=
 ⟨Nat.le_trans (List.length_filter_le _ _) h.lenT,h.lenL,h.incT.filter _,h.incL,fun x hx=>h.limT x (List.mem_filter.1 hx).1,h.limL⟩
theorem Xx.delL {tks:List Xd} {lks:List Xc} (h:Xx tks lks) (n:Nat):Xx tks (Xbi n lks):=
 ⟨h.lenT,Nat.le_trans (List.length_filter_le _ _) h.lenL,h.incT,h.incL.filter _,h.limT,fun x hx=>h.limL x (List.mem_filter.1 hx).1⟩
theorem J3 {H:Type} {P:Program} {k:TypeId} {R:Value->Option (DataW H × List MemPlace)} {D:DataW H} {W:World} {b n:Nat} (h:W.ownsMap P k R b n D):W.ownsMap P k R b (Maps.size D) D:=by
 obtain⟨es,clock,hb,F,hs,rfl⟩:=h;exact⟨es,clock,hb,F,by simp [Maps.size,length_sorted],rfl⟩
section
variable {W:World} {mt ml:Nat} {tks:List Xd} {lks:List Xc}
theorem Tryz.storeT (hH:Mm W mt ml tks lks) (ok:Xx tks lks) {t:Xd} (hf:Xao t tks) (hl:tks.length<500) (h1:t.n<Xn) (h2:t.au<Xn) :
  ∃ w',(Instr.mapUpdate 120 (.map (some mt)) (nmV (1,(t.n:Int))) (.agg t.cells)).run prog W=.ok () w'/\(∃ n,n<=1000/\w'.ownsMap prog 114 Yd mt n (mapD ((Yh t tks).map Xd.key).reverse))/\W.grownBy w' (some mt):=by
 obtain⟨n,hn,hm⟩:=hH.mapT;have hx:Zq (1,(t.n:Int)):=Xdw (.inl rfl) h1;have ok2:=ok.putT hf hl h1 h2;obtain⟨w',hrun,hM,hT⟩:=hm.store (Keyed.of_law Xz.law) underlying120 (by unfold maxLen;omega) (key:=nmV (1,(t.n:Int))) (val:=.agg t.cells) (Xz.keyOf hx) (d:=.held (.agg t.cells)) (ps:=[]) rfl;refine⟨w',hrun,⟨Maps.size (mapD ((Yh t tks).map Xd.key).reverse),?_,?_⟩,hT.grown⟩
 ·rw [Xz.Z6 _ ok2.ksT.1];have:=ok2.lenT;simp;omega
 have e:=Xz.Xft ok.ksT.1 hx (.agg t.cells)
 have e2:mapD (((1,(t.n:Int)),Value.agg t.cells) :: (tks.map Xd.key).reverse.filter (fun p=>decide (p.1≠(1,(t.n:Int)))))=mapD ((Yh t tks).map Xd.key).reverse:=
  (Xz.Xhk ok2.ksT.1 (Xkc ok.incT t).symm).symm
 rw [e2] at e;have hM':=J3 hM;rw [show Lit.string (nmB (1,(t.n:Int)))=nmL (1,(t.n:Int)) from rfl,e] at hM';exact hM'
theorem Tryz.Xu4 (hH:Mm W mt ml tks lks) (ok:Xx tks lks) {t:Xc} (hf:Xah t lks) (hl:lks.length<500) (h1:t.n<Xn) (h2:t.au<Xn) :
  ∃ w',(Instr.mapUpdate 121 (.map (some ml)) (nmV (2,(t.n:Int))) (.agg t.cells)).run prog W=.ok () w'/\(∃ n,n<=1000/\w'.ownsMap prog 114 Yd ml n (mapD ((Yc t lks).map Xc.key).reverse))/\W.grownBy w' (some ml):=by
 obtain⟨n,hn,hm⟩:=hH.mapL;have hx:Zq (2,(t.n:Int)):=Xdw (.inr rfl) h1;have ok2:=ok.putL hf hl h1 h2;obtain⟨w',hrun,hM,hT⟩:=hm.store (Keyed.of_law Xz.law) underlying121 (by unfold maxLen;omega) (key:=nmV (2,(t.n:Int))) (val:=.agg t.cells) (Xz.keyOf hx) (d:=.held (.agg t.cells)) (ps:=[]) rfl;refine⟨w',hrun,⟨Maps.size (mapD ((Yc t lks).map Xc.key).reverse),?_,?_⟩,hT.grown⟩
 ·rw [Xz.Z6 _ ok2.ksL.1];have:=ok2.lenL;simp;omega
 have e:=Xz.Xft ok.ksL.1 hx (.agg t.cells)
 have e2:mapD (((2,(t.n:Int)),Value.agg t.cells) :: (lks.map Xc.key).reverse.filter (fun p=>decide (p.1≠(2,(t.n:Int)))))=mapD ((Yc t lks).map Xc.key).reverse:=
  (Xz.Xhk ok2.ksL.1 (Xjq ok.incL t).symm).symm
 rw [e2] at e;have hM':=J3 hM;rw [show Lit.string (nmB (2,(t.n:Int)))=nmL (2,(t.n:Int)) from rfl,e] at hM';exact hM'
end
end Go.Proofs
namespace Go.Proofs
open Go.RowKit Go.Sort Go.Lib Go.Shelf Go.Maps
def NmA (k:Int) (u:Nat):Prop:=k=1\/k=2\/(k=0/\u=0)
structure Xc7 (t:Xd):Prop where
 a0:0<=t.at_
 a1:t.at_<=18446744073709551615
 r0:0<=t.tr
 r1:t.tr<=1000000000/\NmA t.ak t.au
structure Xdg (t:Xc):Prop where
 a0:0<=t.at_
 a1:t.at_<=18446744073709551615
 r0:0<=t.tr
 r1:t.tr<=1000000000/\NmA t.ak t.au
 l0:0<=t.last
 l1:t.last<=18446744073709551615
 p1:t.pth.length<=24
 pa:Xpo t.pth
structure Tryz.Yo (W:World) (vb mt ml:Nat) (vx:VX) (tm:Int) (tn ln:Nat) (tks:List Xd) (lks:List Xc):Prop where
 va:Tryz.Xq W vb mt ml vx tm tn ln tks lks
 nt:∀ t∈tks,t.n<=tn
 nl:∀ l∈lks,l.n<=ln
 t0:0<=tm
 t1:tm<=18446744073709551615
 okT:∀ t∈tks,Xc7 t
 okL:∀ l∈lks,Xdg l
 mne:mt≠ml
 v9:9<=vb
 m9:9<=mt
 l9:9<=ml
section
variable {W W':World} {vb mt ml:Nat} {vx:VX} {tm:Int} {tn ln:Nat} {tks:List Xd} {lks:List Xc}
theorem Tryz.Yo.below (h:Yo W vb mt ml vx tm tn ln tks lks) (hb:Below W.heap.size W W'):Yo W' vb mt ml vx tm tn ln tks lks:={ h with va:=h.va.below hb }
theorem Tryz.Yo.nine (h:Yo W vb mt ml vx tm tn ln tks lks):9<=W.heap.size:=Nat.le_trans h.v9 (Nat.le_of_lt h.va.v.lt)
theorem Tryz.Yo.nes (h:Yo W vb mt ml vx tm tn ln tks lks):mt≠vb/\ml≠vb:=by
 obtain⟨n1,-,m1⟩:=h.va.held.mapT;obtain⟨n2,-,m2⟩:=h.va.held.mapL;exact⟨BoxN.Xw h.va.v m1,BoxN.Xw h.va.v m2⟩
theorem Tryz.Yo.spared (h:Yo W vb mt ml vx tm tn ln tks lks) {bs:List Nat} (hS:Spares bs W W') (h1:vb∉bs) (h2:mt∉bs) (h3:ml∉bs) (h6:∀ b∈bs,6<=b):Yo W' vb mt ml vx tm tn ln tks lks:=by
 obtain⟨n1,k1,m1⟩:=h.va.held.mapT;obtain⟨n2,k2,m2⟩:=h.va.held.mapL;have hb6:=hS.below (B:=6) h.va.six h6;exact { h with va:=⟨hS.box h.va.v h1,⟨⟨n1,k1,hS.map m1 h2⟩,⟨n2,k2,hS.map m2 h3⟩⟩,h.va.ok,h.va.env.below hb6 (Nat.le_refl _),Nat.le_trans h.va.six hS.size⟩ }
end
def Tryz.Xqo:Int:=1
def Tryz.Xrj:Int:=2
def Tryz.Xuk (vx:VX) (tm:Int) (mt ml:Nat) (tn ln z:Int):Array Value:=Y8 vx tm mt ml (max tn z) ln
def Tryz.Xum (vx:VX) (tm:Int) (mt ml:Nat) (tn ln z:Int):Array Value:=Y8 vx tm mt ml tn (max ln z)
theorem Tryz.Xvs (vb mt ml:Nat) (vx:VX) (tm tn ln z:Int) (w:World) (hV:BoxN w vb 126 (Y8 vx tm mt ml tn ln)) :
  Calls prog 149 #[.pointer (some ⟨vb,0,none⟩),.agg #[.int .i64 Xqo,.int .u64 z]] w fun e w'=>e=.returned (.tuple #[])/\BoxN w' vb 126 (Xuk vx tm mt ml tn ln z)/\Spares [vb] w w':=by
 have c5:=hV.cell 5 (v:=.int .u64 tn) rfl;have f5:=hV.frozen 5;have lV:=hV.lt;unfold Xqo;go_enter func149,ntmps149;go_wp2
 go_region
 go_wp2
 go_end0
 refine⟨rfl,?_,(((Spares.of_below (Below.refl _ w)).set (by simp) _ _).alloc _).drew⟩;exact BoxN.alloc (hV.set 5 (.int .u64 (max tn z))) _
theorem Tryz.Xvv (vb mt ml:Nat) (vx:VX) (tm tn ln z:Int) (w:World) (hV:BoxN w vb 126 (Y8 vx tm mt ml tn ln)) :
  Calls prog 149 #[.pointer (some ⟨vb,0,none⟩),.agg #[.int .i64 Xrj,.int .u64 z]] w fun e w'=>e=.returned (.tuple #[])/\BoxN w' vb 126 (Xum vx tm mt ml tn ln z)/\Spares [vb] w w':=by
 have c5:=hV.cell 6 (v:=.int .u64 ln) rfl;have f5:=hV.frozen 6;have lV:=hV.lt;unfold Xrj;go_enter func149,ntmps149;go_wp2
 go_region
 go_wp2
 go_end0
 refine⟨rfl,?_,(((Spares.of_below (Below.refl _ w)).set (by simp) _ _).alloc _).drew⟩;exact BoxN.alloc (hV.set 6 (.int .u64 (max ln z))) _
theorem Y7 {H:Type} {P:Program} {k:TypeId} {R:Value->Option (DataW H × List MemPlace)} {D:DataW H} {W W':World} {b n:Nat} (h:W.ownsMap P k R b n D) (hb:Below W.heap.size W W'):W'.ownsMap P k R b n D:=
 h.kept (row:=none) ⟨hb.os,hb.tape,hb.output,hb.size,fun k hk _=>hb.block k hk⟩ (by simp)
abbrev Xe8 (vb rb fo mp:Nat) (c0 c1 c2 c3 c4 c5 c6 c7 c8 c9:Value) (W:World):Prop:=W.cell? ⟨vb,fo,none⟩=some (.map (some mp))/\Ug W rb c0 c1 c2 c3 c4 c5 c6 c7 c8 c9
theorem Xe8.below {vb rb fo mp:Nat} {c0 c1 c2 c3 c4 c5 c6 c7 c8 c9:Value} {W W':World} (h:Xe8 vb rb fo mp c0 c1 c2 c3 c4 c5 c6 c7 c8 c9 W) (hb:Below W.heap.size W W'):Xe8 vb rb fo mp c0 c1 c2 c3 c4 c5 c6 c7 c8 c9 W':=⟨cell_later hb h.1,h.2.below hb⟩
theorem Tryz.Xua (vb mt ml:Nat) (vx:VX) (tm:Int) (tn ln:Nat) (tks:List Xd) (lks:List Xc) (w:World) (hV:Yo w vb mt ml vx tm tn ln tks lks) (kind last:Int) (pth:List UInt8) (t:Xd) (hok:Xc7 t) (hf:Xao t tks) (hl:tks.length<500) (h1:t.n<Xn) (h2:t.au<Xn) :
  Calls prog 148 #[.pointer (some ⟨vb,0,none⟩),.agg (Xi kind 1 t.n t.ak t.au t.pd t.at_ t.tr last pth)] w fun e w'=>e=.returned (.tuple #[])/\Yo w' vb mt ml vx tm (max tn t.n) ln (Yh t tks) lks/\Spares [vb,mt] w w':=by
 have hOf:=fun W=>Xtc kind 1 t.n t.ak t.au t.pd t.at_ t.tr last pth W
 have hSt:=fun W (hH:Mm W mt ml tks lks)=>storeT hH hV.va.ok hf hl h1 h2
 unfold nmV Xd.cells at hSt;unfold Xi at hOf ⊢;have bR0:=BoxN.new w 135 #[.int .i64 kind,.int .i64 1,.int .u64 t.n,.int .i64 t.ak,.int .u64 t.au,.bool t.pd,.int .u64 t.at_,.int .i64 t.tr,.int .u64 last,.string ⟨pth.toArray⟩];have hB0:Below w.heap.size w (w.alloc (.cells #[.int .i64 kind,.int .i64 1,.int .u64 t.n,.int .i64 t.ak,.int .u64 t.au,.bool t.pd,.int .u64 t.at_,.int .i64 t.tr,.int .u64 last,.string ⟨pth.toArray⟩] 135)):=(Below.refl _ w).alloc (Nat.le_refl _) _;have hV0:=hV.below hB0;have hU:=Xvs vb mt ml vx tm tn ln t.n _ hV0.va.v;unfold Xqo Xuk at hU;have lV:=hV.va.v.lt;have lH:=hV.va.held.lt;have hne:=hV.nes;go_enter func148,ntmps148
 go_wp2_with (go_at_call 149;refine hU.mono ?_;rintro e w1 ⟨rfl,bV1,hS1⟩;have bR1:=hS1.box bR0 (by simp;omega);have y1:=bR1.cell 1 (v:=.int .i64 1) rfl)
 have hz1:=hS1.size
 have hH1:Mm w1 mt ml tks lks:=by
  obtain⟨⟨n1,k1,m1⟩,⟨n2,k2,m2⟩⟩:=hV0.va.held;exact⟨⟨n1,k1,hS1.map m1 (by simpa using hne.1)⟩,⟨n2,k2,hS1.map m2 (by simpa using hne.2)⟩⟩
 have hP1:Xe8 vb w.heap.size 3 mt (.int .i64 kind) (.int .i64 1) (.int .u64 t.n) (.int .i64 t.ak) (.int .u64 t.au) (.bool t.pd) (.int .u64 t.at_) (.int .i64 t.tr) (.int .u64 last) (.string ⟨pth.toArray⟩) w1.drew:=⟨bV1.cell 3 rfl,bR1.Xc5⟩
 have Hz1:=Xb hz1;clear hz1 hU y1
 go_region_held3 (Xe8 vb w.heap.size 3 mt (.int .i64 kind) (.int .i64 1) (.int .u64 t.n) (.int .i64 t.ak) (.int .u64 t.au) (.bool t.pd) (.int .u64 t.at_) (.int .i64 t.tr) (.int .u64 last) (.string ⟨pth.toArray⟩)) (first
  | with_reducible exact hP1
  | with_reducible exact hP2
  | with_reducible exact hP4
  | with_reducible assumption) (first
  | (go_at_call 187;refine(hOf _).mono ?_;rintro e w2 ⟨rfl,hb2⟩;have hP2:=Xe8.below hP1 hb2;have hB2:Below w1.heap.size w1 w2:=(Below.refl _ w1).drew.trans hb2;obtain⟨w4,hrun,hM4,hg4⟩:=hSt w2 (hH1.keeps (KeepsT.below (bad:=fun _=>false) hB2));have bV4:=(bV1.below hB2 bV1.lt).kept hg4 (by intro e;injection e with e;exact hne.1 e.symm);have bR4:=(bR1.below hB2 bR1.lt).kept hg4 (by intro e;injection e with e;omega);have hP4:Xe8 vb w.heap.size 3 mt (.int .i64 kind) (.int .i64 1) (.int .u64 t.n) (.int .i64 t.ak) (.int .u64 t.au) (.bool t.pd) (.int .u64 t.at_) (.int .i64 t.tr) (.int .u64 last) (.string ⟨pth.toArray⟩) w4:=⟨bV4.cell 3 rfl,bR4.Xc5⟩))
 all_goals
  have hsp:Spares [vb,mt] w w4:=(((Spares.of_below hB0).trans (hS1.mono (by simp))).trans (Spares.of_below hB2)).trans (Spares.X6 hg4 (by simp))
  have hF:Hid (Yo w4 vb mt ml vx tm (max tn t.n) ln (Yh t tks) lks):=Xb (by
   have hb6:=hsp.below (B:=6) hV.va.six (fun b hb=>by
    have h9:=hV.v9;have h9':=hV.m9
    rcases List.mem_cons.1 hb with rfl | hb
    ·omega
    rw [List.mem_singleton.1 hb];omega)
   have hm:((max tn t.n:Nat):Int)=max (tn:Int) t.n:=by omega
   obtain⟨n2,k2,m2⟩:=hH1.mapL;have m4:=(Y7 m2 hB2).kept hg4 (by intro e;injection e with e;exact hV.mne e.symm);refine⟨⟨?_,⟨hM4,⟨n2,k2,m4⟩⟩,hV.va.ok.putT hf hl h1 h2,hV.va.env.below hb6 (Nat.le_refl _),Nat.le_trans hV.va.six hsp.size⟩,fun x hx=>?_,hV.nl,hV.t0,hV.t1,fun x hx=>?_,hV.okL,hV.mne,hV.v9,hV.m9,hV.l9⟩
   ·rw [hm];exact bV4
   ·rcases Zh hV.va.ok.incT hx with rfl | hx
    ·omega
    have:=hV.nt x hx;omega
   rcases Zh hV.va.ok.incT hx with rfl | hx
   ·exact hok
   exact hV.okT x hx)
  clear hrun hM4 hg4 hP4 hP2 hP1 bV4 bR4 bV1 bR1 hSt hOf;go_wp2
  go_end0
  exact⟨rfl,Xa hF,hsp⟩
theorem Tryz.Xtm (vb mt ml:Nat) (vx:VX) (tm:Int) (tn ln:Nat) (tks:List Xd) (lks:List Xc) (w:World) (hV:Yo w vb mt ml vx tm tn ln tks lks) (kind:Int) (t:Xc) (hok:Xdg t) (hf:Xah t lks) (hl:lks.length<500) (h1:t.n<Xn) (h2:t.au<Xn) :
  Calls prog 148 #[.pointer (some ⟨vb,0,none⟩),.agg (Xi kind 2 t.n t.ak t.au t.pd t.at_ t.tr t.last t.pth)] w fun e w'=>e=.returned (.tuple #[])/\Yo w' vb mt ml vx tm tn (max ln t.n) tks (Yc t lks)/\Spares [vb,ml] w w':=by
 have hOf:=fun W=>Xtl kind 2 t.n t.ak t.au t.pd t.at_ t.tr t.last t.pth W
 have hSt:=fun W (hH:Mm W mt ml tks lks)=>Xu4 hH hV.va.ok hf hl h1 h2
 unfold nmV Xc.cells at hSt;unfold Xi at hOf ⊢;have bR0:=BoxN.new w 135 #[.int .i64 kind,.int .i64 2,.int .u64 t.n,.int .i64 t.ak,.int .u64 t.au,.bool t.pd,.int .u64 t.at_,.int .i64 t.tr,.int .u64 t.last,.string ⟨t.pth.toArray⟩];have hB0:Below w.heap.size w (w.alloc (.cells #[.int .i64 kind,.int .i64 2,.int .u64 t.n,.int .i64 t.ak,.int .u64 t.au,.bool t.pd,.int .u64 t.at_,.int .i64 t.tr,.int .u64 t.last,.string ⟨t.pth.toArray⟩] 135)):=(Below.refl _ w).alloc (Nat.le_refl _) _;have hV0:=hV.below hB0;have hU:=Xvv vb mt ml vx tm tn ln t.n _ hV0.va.v;unfold Xrj Xum at hU;have lV:=hV.va.v.lt;have lH:=hV.va.held.lt;have hne:=hV.nes;go_enter func148,ntmps148
 go_wp2_with (go_at_call 149;refine hU.mono ?_;rintro e w1 ⟨rfl,bV1,hS1⟩;have bR1:=hS1.box bR0 (by simp;omega);have y1:=bR1.cell 1 (v:=.int .i64 2) rfl)
 have hz1:=hS1.size
 have hH1:Mm w1 mt ml tks lks:=by
  obtain⟨⟨n1,k1,m1⟩,⟨n2,k2,m2⟩⟩:=hV0.va.held;exact⟨⟨n1,k1,hS1.map m1 (by simpa using hne.1)⟩,⟨n2,k2,hS1.map m2 (by simpa using hne.2)⟩⟩
 have hP1:Xe8 vb w.heap.size 4 ml (.int .i64 kind) (.int .i64 2) (.int .u64 t.n) (.int .i64 t.ak) (.int .u64 t.au) (.bool t.pd) (.int .u64 t.at_) (.int .i64 t.tr) (.int .u64 t.last) (.string ⟨t.pth.toArray⟩) w1.drew:=⟨bV1.cell 4 rfl,bR1.Xc5⟩
 have Hz1:=Xb hz1;clear hz1 hU y1
 go_region_held3 (Xe8 vb w.heap.size 4 ml (.int .i64 kind) (.int .i64 2) (.int .u64 t.n) (.int .i64 t.ak) (.int .u64 t.au) (.bool t.pd) (.int .u64 t.at_) (.int .i64 t.tr) (.int .u64 t.last) (.string ⟨t.pth.toArray⟩)) (first
  | with_reducible exact hP1
  | with_reducible exact hP2
  | with_reducible exact hP4
  | with_reducible assumption) (first
  | (go_at_call 188;refine(hOf _).mono ?_;rintro e w2 ⟨rfl,hb2⟩;have hP2:=Xe8.below hP1 hb2;have hB2:Below w1.heap.size w1 w2:=(Below.refl _ w1).drew.trans hb2;obtain⟨w4,hrun,hM4,hg4⟩:=hSt w2 (hH1.keeps (KeepsT.below (bad:=fun _=>false) hB2));have bV4:=(bV1.below hB2 bV1.lt).kept hg4 (by intro e;injection e with e;exact hne.2 e.symm);have bR4:=(bR1.below hB2 bR1.lt).kept hg4 (by intro e;injection e with e;omega);have hP4:Xe8 vb w.heap.size 4 ml (.int .i64 kind) (.int .i64 2) (.int .u64 t.n) (.int .i64 t.ak) (.int .u64 t.au) (.bool t.pd) (.int .u64 t.at_) (.int .i64 t.tr) (.int .u64 t.last) (.string ⟨t.pth.toArray⟩) w4:=⟨bV4.cell 4 rfl,bR4.Xc5⟩))
 all_goals
  have hsp:Spares [vb,ml] w w4:=(((Spares.of_below hB0).trans (hS1.mono (by simp))).trans (Spares.of_below hB2)).trans (Spares.X6 hg4 (by simp))
  have hF:Hid (Yo w4 vb mt ml vx tm tn (max ln t.n) tks (Yc t lks)):=Xb (by
   have hb6:=hsp.below (B:=6) hV.va.six (fun b hb=>by
    have h9:=hV.v9;have h9':=hV.l9
    rcases List.mem_cons.1 hb with rfl | hb
    ·omega
    rw [List.mem_singleton.1 hb];omega)
   have hm:((max ln t.n:Nat):Int)=max (ln:Int) t.n:=by omega
   obtain⟨n2,k2,m2⟩:=hH1.mapT;have m4:=(Y7 m2 hB2).kept hg4 (by intro e;injection e with e;exact hV.mne e);refine⟨⟨?_,⟨⟨n2,k2,m4⟩,hM4⟩,hV.va.ok.putL hf hl h1 h2,hV.va.env.below hb6 (Nat.le_refl _),Nat.le_trans hV.va.six hsp.size⟩,hV.nt,fun x hx=>?_,hV.t0,hV.t1,hV.okT,fun x hx=>?_,hV.mne,hV.v9,hV.m9,hV.l9⟩
   ·rw [hm];exact bV4
   ·rcases Jd hV.va.ok.incL hx with rfl | hx
    ·omega
    have:=hV.nl x hx;omega
   rcases Jd hV.va.ok.incL hx with rfl | hx
   ·exact hok
   exact hV.okL x hx)
  clear hrun hM4 hg4 hP4 hP2 hP1 bV4 bR4 bV1 bR1 hSt hOf;go_wp2
  go_end0
  exact⟨rfl,Xa hF,hsp⟩
end Go.Proofs
