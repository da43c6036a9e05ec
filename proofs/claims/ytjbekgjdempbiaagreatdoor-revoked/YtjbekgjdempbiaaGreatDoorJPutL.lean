import Derived.Test.YtjbekgjdempbiaaGreatDoorJParse
import Derived.Test.YtjbekgjdempbiaaGreatDoorJRefG
set_option maxRecDepth 100000
set_option maxHeartbeats 8000000
namespace Go.Proofs
open Go.RowKit Go.Sort Go.Lib Go.Shelf
theorem parseM_snoc (M:Nat) (c:UInt8) (h1:48≤c.toNat) (h2:c.toNat≤57):∀(l:List UInt8) (acc u:Nat),Lib.parseUintM M acc l=.ok u→u<1844674407370955162→u*10+(c.toNat-48)≤M→Lib.parseUintM M acc (l ++ [c])=.ok (u*10+(c.toNat-48))
 | [],acc,u,h,hu,hm=>by
  have e:acc=u:=by simpa [Lib.parseUintM] using h
  subst e;simp only [List.nil_append,Lib.parseUintM];rw [if_pos ⟨h1,h2⟩,if_neg (by omega),if_neg (by omega)]
 | d :: l,acc,u,h,hu,hm=>by
  simp only [List.cons_append,Lib.parseUintM] at h ⊢
  split at h
  ·split at h
   ·cases h
   ·split at h
    ·cases h
    ·rename_i a b c'
     rw [if_pos a,if_neg b,if_neg c'];exact parseM_snoc M c h1 h2 l _ u h hu hm
  ·cases h
theorem dig_toNat (d:Nat) (h:d<10):(UInt8.ofNat (48+d)).toNat=48+d:=by simp;omega
theorem parseM_dec (u:Nat) (hu:u≤18446744073709551615):Lib.parseUintM 18446744073709551615 0 (Lib.decDigits u)=.ok u:=by
 induction u using Nat.strongRecOn with
 | ind u ih =>
  by_cases h:u<10
  ·rw [Lib.decDigits_one h]
   have hd:=dig_toNat u h;simp only [Lib.parseUintM,hd];rw [if_pos ⟨by omega,by omega⟩,if_neg (by omega),if_neg (by omega)]
   congr 1
   omega
  ·rw [Lib.decDigits,dif_neg h]
   have hd:=dig_toNat (u % 10) (by omega);have:=parseM_snoc 18446744073709551615 (UInt8.ofNat (48+u % 10)) (by omega) (by omega) _ 0 (u / 10) (ih (u / 10) (by omega) (by omega)) (by omega) (by omega);rw [this,hd]
   congr 1
   omega
theorem dec_ne_nil (u:Nat):Lib.decDigits u ≠ []:=by
 rw [Lib.decDigits]
 split <;> simp
theorem parse_dec (u:Nat) (hu:u<18446744073709551616):Lib.parseUintB 64 (Lib.decDigits u)=.ok u:=by
 unfold Lib.parseUintB;rw [if_neg (dec_ne_nil u)];exact parseM_dec u (by omega)
theorem dec_inj {u v:Nat} (hu:u<18446744073709551616) (hv:v<18446744073709551616) (h:Lib.decDigits u=Lib.decDigits v):u=v:=by
 have h1:=parse_dec u hu;rw [h,parse_dec v hv] at h1;injection h1 with h1;exact h1.symm
def kd (tk:Bool):Int:=if tk then 1 else 2
theorem ThingD.id_nm (t:ThingD):t.id=nmStr (kd t.token) t.n:=by
 cases h:t.token <;> simp [ThingD.id,nmStr,kd,h]
theorem nmStr_inj {a b:Bool} {n m:Nat} (hn:n<u64lim) (hm:m<u64lim) (h:nmStr (kd a) n=nmStr (kd b) m):a=b∧n=m:=by
 cases a <;> cases b <;> simp [nmStr,kd] at h
 ·exact⟨rfl,dec_inj hn hm h⟩
 ·exact⟨rfl,dec_inj hn hm h⟩
theorem parseN_nm (tk:Bool) {n:Nat} (h:n<u64lim):parseN (nmStr (kd tk) n)=(kd tk,(n:Int)):=by
 cases tk
 ·show parseN (108 :: Lib.decDigits n)=_
  simp only [parseN,parse_dec n h];rw [if_pos (show nmStr (kindI 108) n=108 :: Lib.decDigits n from rfl)];rfl
 ·show parseN (116 :: Lib.decDigits n)=_
  simp only [parseN,parse_dec n h];rw [if_pos (show nmStr (kindI 116) n=116 :: Lib.decDigits n from rfl)];rfl
theorem nm_of_parse {s:List UInt8} {tk:Bool} {n:Nat} (h:parseN s=(kd tk,(n:Int))):s=nmStr (kd tk) n:=by
 have h0:kd tk≠0:=by cases tk <;> decide
 match s,h with
 | [],h=>exact absurd (Prod.mk.inj h).1.symm h0
 | c :: r,h =>
  simp only [parseN] at h
  split at h
  ·split at h
   ·rename_i u _ he
    obtain⟨e1,e2⟩:=Prod.mk.inj h
    have:u=n:=by omega
    subst this;rw [← e1,he]
   ·exact absurd (Prod.mk.inj h).1.symm h0
  ·exact absurd (Prod.mk.inj h).1.symm h0
theorem parseN_wf (s:List UInt8):NmWf (parseN s):=by
 match s with
 | []=>exact⟨by decide,by decide⟩
 | c :: r =>
  simp only [parseN]
  split
  ·split
   ·rename_i u hu _
    have h64:=parse_lt hu;refine⟨?_,?_⟩
    ·show (Lit.int .i64 (kindI c)).wf=true
     unfold kindI
     split
     ·decide
     ·split <;> decide
    ·show (Lit.int .u64 (u:Int)).wf=true
     simp [Lit.wf,IntKind.min,IntKind.max,IntKind.bits,IntKind.signed];omega
   ·exact⟨by decide,by decide⟩
  ·exact⟨by decide,by decide⟩
def thT (t:TokE):ThingD:=⟨true,t.n,if t.ak=1 then (t.au:Int) else -1,[],t.at_,0,t.pd,t.tr⟩
def thL (l:LeaE):ThingD:=⟨false,l.n,(l.au:Int),l.pth,l.at_,l.last,l.pd,l.tr⟩
structure Rel (tks:List TokE) (lks:List LeaE) (L:List ThingD):Prop where
 toks:L.filter (fun t=>t.token==true)=tks.map thT
 leas:L.filter (fun t=>t.token==false)=lks.map thL
 akT:∀ t∈tks,t.ak=1∨t.ak=0
 akL:∀ l∈lks,l.ak=1
theorem filter_token_len (L:List ThingD):L.length=(L.filter (fun t=>t.token==true)).length+(L.filter (fun t=>t.token==false)).length:=by
 induction L with
 | nil=>rfl
 | cons x L ih=>cases h:x.token <;> simp [h] at ih ⊢ <;> omega
theorem inj_of_pw {α:Type} {f:α→Nat}:∀ {l:List α},l.Pairwise (fun a b=>f a<f b)→∀ {x y:α},x∈l→y∈l→f x=f y→x=y
 | [],_,_,_,hx,_,_=>by cases hx
 | a :: l,h,x,y,hx,hy,he=>by
  obtain⟨h1,h2⟩:=List.pairwise_cons.1 h
  rcases List.mem_cons.1 hx with rfl | hx' <;> rcases List.mem_cons.1 hy with rfl | hy'
  ·rfl
  ·have:=h1 y hy';omega
  ·have:=h1 x hx';omega
  ·exact inj_of_pw h2 hx' hy' he
section
variable {tks:List TokE} {lks:List LeaE} {L:List ThingD}
theorem Rel.len (h:Rel tks lks L):L.length=tks.length+lks.length:=by
 rw [filter_token_len L,h.toks,h.leas,List.length_map,List.length_map]
theorem Rel.countT (h:Rel tks lks L):countI true L=tks.length:=by rw [countI,h.toks,List.length_map]
theorem Rel.countL (h:Rel tks lks L):countI false L=lks.length:=by rw [countI,h.leas,List.length_map]
theorem Rel.tok_mem (h:Rel tks lks L) {x:ThingD} (hx:x∈L) (ht:x.token=true):∃ t∈tks,thT t=x:=by
 have:x∈L.filter (fun t=>t.token==true):=List.mem_filter.2 ⟨hx,by simp [ht]⟩;rw [h.toks] at this
 simpa using this
theorem Rel.lea_mem (h:Rel tks lks L) {x:ThingD} (hx:x∈L) (ht:x.token=false):∃ t∈lks,thL t=x:=by
 have:x∈L.filter (fun t=>t.token==false):=List.mem_filter.2 ⟨hx,by simp [ht]⟩;rw [h.leas] at this
 simpa using this
theorem Rel.mem_tok (h:Rel tks lks L) {t:TokE} (ht:t∈tks):thT t∈L:=by
 have:thT t∈L.filter (fun t=>t.token==true):=by rw [h.toks];exact List.mem_map.2 ⟨t,ht,rfl⟩
 exact(List.mem_filter.1 this).1
theorem Rel.mem_lea (h:Rel tks lks L) {t:LeaE} (ht:t∈lks):thL t∈L:=by
 have:thL t∈L.filter (fun t=>t.token==false):=by rw [h.leas];exact List.mem_map.2 ⟨t,ht,rfl⟩
 exact(List.mem_filter.1 this).1
theorem Rel.uniq (h:Rel tks lks L) (ok:ListsOk tks lks) {x y:ThingD} (hx:x∈L) (hy:y∈L) (ht:x.token=y.token) (hn:x.n=y.n):x=y:=by
 cases hb:x.token
 ·obtain⟨a,ha,rfl⟩:=h.lea_mem hx hb
  obtain⟨b,hb',rfl⟩:=h.lea_mem hy (ht ▸ hb);rw [inj_of_pw ok.incL ha hb' hn]
 ·obtain⟨a,ha,rfl⟩:=h.tok_mem hx hb
  obtain⟨b,hb',rfl⟩:=h.tok_mem hy (ht ▸ hb);rw [inj_of_pw ok.incT ha hb' hn]
theorem Rel.num (h:Rel tks lks L) (ok:ListsOk tks lks) {x:ThingD} (hx:x∈L):x.n<u64lim:=by
 cases hb:x.token
 ·obtain⟨a,ha,rfl⟩:=h.lea_mem hx hb
  exact(ok.limL a ha).1
 ·obtain⟨a,ha,rfl⟩:=h.tok_mem hx hb
  exact(ok.limT a ha).1
theorem Rel.infos (h:Rel tks lks L) (tm:Int):infosOf tm tks lks=tellI tm L:=by
 unfold infosOf tellI partI;rw [h.toks,h.leas,List.map_map,List.map_map]
 congr 1
 ·refine List.map_congr_left fun t ht=>?_
  rcases h.akT t ht with e | e <;> cases hp:t.pd <;> simp [TokE.info,ThingD.info,ThingD.id,ThingD.state,thT,nmStr,ofStr,e,hp] <;> omega
 ·refine List.map_congr_left fun l hl=>?_
  have e:=h.akL l hl
  cases hp:l.pd <;> simp [LeaE.info,ThingD.info,ThingD.id,ThingD.state,thL,nmStr,ofStr,e,hp]
  ·by_cases hc:tm<l.at_
   ·rw [if_pos hc,if_neg (by omega)]
   ·rw [if_neg hc,if_pos (by omega)]
theorem foldl_min_split:∀(L:List ThingD) (m m':Int),L.foldl (fun m t=>min m t.at_) (min m m')=min ((L.filter (fun t=>t.token==true)).foldl (fun m t=>min m t.at_) m) ((L.filter (fun t=>t.token==false)).foldl (fun m t=>min m t.at_) m')
 | [],_,_=>rfl
 | x :: L,m,m'=>by
  cases h:x.token
  ·have:=foldl_min_split L m (min m' x.at_)
   simp only [List.foldl_cons,List.filter_cons,h];rw [← Int.min_assoc] at this
   simpa using this
  ·have:=foldl_min_split L (min m x.at_) m'
   simp only [List.foldl_cons,List.filter_cons,h];rw [show min (min m x.at_) m'=min (min m m') x.at_ by omega] at this
   simpa using this
theorem foldl_min_start:∀(xs:List InfoD) (m m':Int),xs.foldl (fun m x=>min m x.at_) (min m m')=min m (xs.foldl (fun m x=>min m x.at_) m')
 | [],_,_=>rfl
 | x :: xs,m,m'=>by
  simp only [List.foldl_cons];rw [Int.min_assoc];exact foldl_min_start xs m (min m' x.at_)
theorem Rel.next (h:Rel tks lks L) (tm:Int):minAt (infosOf tm tks lks)=minT L:=by
 have h1:=foldl_min_split L 18446744073709551615 18446744073709551615;rw [h.toks,h.leas,List.foldl_map,List.foldl_map] at h1;rw [show min (18446744073709551615:Int) 18446744073709551615=18446744073709551615 by omega] at h1;rw [minT,h1];unfold minAt infosOf neverI;rw [List.foldl_append,List.foldl_map,List.foldl_map];have h2:=foldl_min_start (lks.map (LeaE.info tm)) (tks.foldl (fun m t=>min m t.info.at_) 18446744073709551615) 18446744073709551615;rw [List.foldl_map,List.foldl_map] at h2
 have h3:min (tks.foldl (fun m t=>min m t.info.at_) 18446744073709551615) 18446744073709551615=tks.foldl (fun m t=>min m t.info.at_) 18446744073709551615:=by
  have h4:=foldl_min_start (tks.map TokE.info) 18446744073709551615 18446744073709551615;rw [List.foldl_map,List.foldl_map,show min (18446744073709551615:Int) 18446744073709551615=18446744073709551615 by omega] at h4;omega
 rw [h3] at h2;exact h2
theorem liveI_hit {tm:Int} {id:List UInt8} {tk:Bool} {i:Nat} {t:ThingD} (hid:t.id=id) (htk:t.token=tk) (hn:t.n<u64lim) (_:liveI tm id tk L=i):parseN id=(kd tk,(t.n:Int)):=by
 rw [← hid,ThingD.id_nm,parseN_nm _ hn,htk]
theorem Rel.live_miss (h:Rel tks lks L) (ok:ListsOk tks lks) {tm:Int} {id:List UInt8} {tk:Bool} (hl:liveI tm id tk L = -1) {x:ThingD} (hx:x∈L) (htk:x.token=tk) (hst:x.state tm=1):parseN id≠(kd tk,(x.n:Int)):=by
 intro hp
 have hid:x.id=id:=by rw [nm_of_parse hp,ThingD.id_nm,htk]
 unfold liveI at hl
 cases he:L.findIdx? (fun t=>t.id==id) with
 | none =>
  have:=List.findIdx?_eq_none_iff.1 he x hx;simp [hid] at this
 | some j =>
  obtain⟨hlt,hj,-⟩:=List.findIdx?_eq_some_iff_getElem.1 he
  have hg:L[j]? = some L[j]:=by simp [hlt]
  have hjm:L[j]∈L:=List.getElem_mem hlt
  have hj':nmStr (kd L[j].token) L[j].n=nmStr (kd x.token) x.n:=by
   rw [← ThingD.id_nm,← ThingD.id_nm,hid]
   simpa using hj
  obtain⟨e1,e2⟩:=nmStr_inj (h.num ok hjm) (h.num ok hx) hj';have e:=h.uniq ok hjm hx e1 e2;rw [he] at hl;simp only [hg,e,htk,hst] at hl;simp at hl
theorem Rel.snocT (h:Rel tks lks L) (t:TokE) (hk:t.ak=1):Rel (tks ++ [t]) lks (L ++ [thT t]):=
 ⟨by rw [List.filter_append,h.toks,List.map_append];rfl,by rw [List.filter_append,h.leas];simp [thT],fun x hx=>by
  rcases List.mem_append.1 hx with hx | hx
  ·exact h.akT x hx
  ·rw [List.mem_singleton.1 hx];exact .inl hk,h.akL⟩
theorem Rel.snocL (h:Rel tks lks L) (t:LeaE) (hk:t.ak=1):Rel tks (lks ++ [t]) (L ++ [thL t]):=
 ⟨by rw [List.filter_append,h.toks];simp [thL],by rw [List.filter_append,h.leas,List.map_append];rfl,h.akT,fun x hx=>by
  rcases List.mem_append.1 hx with hx | hx
  ·exact h.akL x hx
  ·rw [List.mem_singleton.1 hx];exact hk⟩
end
theorem filter_set:∀(L:List ThingD) (i:Nat) (t:ThingD),L[i]? = some t→t.token=false→∃ k,(L.filter (fun t=>t.token==false))[k]? = some t∧∀ y:ThingD,y.token=false→(L.set i y).filter (fun t=>t.token==false)=(L.filter (fun t=>t.token==false)).set k y∧(L.set i y).filter (fun t=>t.token==true)=L.filter (fun t=>t.token==true)
 | [],_,_,h,_=>by simp at h
 | x :: L,0,t,h,ht=>by
  obtain rfl:x=t:=by simpa using h
  exact⟨0,by simp [ht],fun y hy=>by simp [ht,hy]⟩
 | x :: L,i+1,t,h,ht=>by
  obtain⟨k,hk,hy⟩:=filter_set L i t (by simpa using h) ht;cases hx:x.token
  ·refine⟨k+1,by simpa [hx] using hk,fun y hyt=>?_⟩
   obtain⟨h1,h2⟩:=hy y hyt;exact⟨by simpa [hx] using h1,by simpa [hx] using h2⟩
  ·refine⟨k,by simpa [hx] using hk,fun y hyt=>?_⟩
   obtain⟨h1,h2⟩:=hy y hyt;exact⟨by simpa [hx] using h1,by simpa [hx] using h2⟩
theorem Rel.lea_at {tks:List TokE} {lks:List LeaE} {L:List ThingD} (h:Rel tks lks L) {i:Nat} {t:ThingD} (hi:L[i]? = some t) (ht:t.token=false) :
  ∃(k:Nat) (l:LeaE),lks[k]? = some l∧thL l=t∧∀ a:Int,Rel tks (lks.set k { l with at_:=a }) (L.set i { t with at_:=a }):=by
 obtain⟨k,hk,hy⟩:=filter_set L i t hi ht;rw [h.leas,List.getElem?_map] at hk;obtain⟨l,hl,rfl⟩:=Option.map_eq_some_iff.1 hk;refine⟨k,l,hl,rfl,fun a=>?_⟩;obtain⟨h1,h2⟩:=hy { (thL l) with at_:=a } rfl;refine⟨by rw [h2,h.toks],?_,h.akT,fun x hx=>?_⟩
 ·rw [h1,h.leas,List.map_set]
  rfl
 ·rcases List.mem_or_eq_of_mem_set hx with hx | rfl
  ·exact h.akL x hx
  ·exact h.akL l (List.mem_of_getElem? hl)
end Go.Proofs
namespace Go.Proofs
open Go.RowKit Go.Sort Go.Lib Go.Shelf Go.Maps
theorem tellI_le (tm:Int) (L:List ThingD):(tellI tm L).length≤2*L.length:=by
 have h1:=partI_le tm true L;have h2:=partI_le tm false L;simp only [tellI,List.length_append];omega
theorem Tryz.changes (B B' va g cap vc g' cap':Nat) (L L':List ThingD) (tm tn ln tm' tn' ln':Int) (w:World) (h:RVAt B w va g cap L tm tn ln) (h':RVAt B' w vc g' cap' L' tm' tn' ln') :
  Calls prog 113 #[.pointer (some ⟨va,0,none⟩),.pointer (some ⟨vc,0,none⟩)] w fun e w'=>∃ b,e=.returned (.bool b)∧Below w.heap.size w w':=by
 have hA:=rAll B va g cap L tm tn ln w h;have hl:=h.lim;have hl':=h'.lim;have ht:=tellI_le tm L;have ht':=tellI_le tm' L';go_enter func113,ntmps113
 go_wp2_with (first
  | (go_at_call_of 57 (Value.pointer (some ⟨va,0,none⟩));refine hA.mono ?_;rintro e w1 ⟨x,rfl,hr1,hb1⟩)
  | (go_at_call_of 57 (Value.pointer (some ⟨vc,0,none⟩));refine(rAll B' vc g' cap' L' tm' tn' ln' w1 (h'.below hb1)).mono ?_;rintro e w2 ⟨y,rfl,hr2,hb2⟩)
  | (go_at_call 58;refine(sameInfos _ _ _ _ _ _ _ _ w2 (ownsRow_below hr1 hb2) hr2 rfl rfl (by omega) (by omega)).mono ?_;rintro e w3 ⟨b,rfl,hb,hb3⟩))
 go_ret;exact⟨!b,rfl,hb1.trans ((hb2.mono hb1.size).trans (hb3.mono (Nat.le_trans hb1.size hb2.size)))⟩
theorem Tryz.looks (B wb hb va g cap vb mt ml:Nat) (vx:VX) (tm tn ln tn' ln':Int) (tks:List TokE) (lks:List LeaE) (L:List ThingD) (dv rv c1 c2 c3 c4:Value) (w:World) (hW:BoxN w wb 69 #[.pointer (some ⟨hb,0,none⟩),c1,c2,c3,c4]) (hH:BoxN w hb 78 #[dv,rv,.pointer (some ⟨vb,0,none⟩)]) (hV:VaultAt w vb mt ml vx tm tn ln tks lks) (hR:RVAt B w va g cap L tm tn' ln') (hl:Rel tks lks L) :
  Calls prog 38 #[.pointer (some ⟨wb,0,none⟩),.pointer (some ⟨va,0,none⟩)] w fun e w'=>e=.returned (.bool true)∧Below w.heap.size w w':=by
 have hA:=callsIn_wide.1 (hAll0 hb vb mt ml vx tm tn ln tks lks w dv rv hH hV);have hI:=hl.infos tm;have hN:=hl.next tm;rw [hI] at hA hN;have hlim:=hR.lim;have ht:=tellI_le tm L
 have hX:=fun W (b:Below w.heap.size w W)=>hNext hb vb mt ml vx tm tn ln tks lks W dv rv (hH.below b hH.lt) (hV.below b)
 rw [hI,hN] at hX
 have hY:=fun W (b:Below w.heap.size w W)=>rNext B va g cap L tm tn' ln' W (hR.below b)
 have hw0:=fun W (b:Below w.heap.size w W)=>(hW.below b hW.lt).cell 0 (v:=.pointer (some ⟨hb,0,none⟩)) rfl
 have c0:=hw0 w (Below.refl _ _);clear hI hN;generalize minT L=mm at *;go_enter func38,ntmps38
 go_wp2_with (first
  | (go_at_call 24;refine hA.mono ?_;rintro e w1 ⟨x,rfl,hr1,hb1⟩)
  | (go_at_call 57;refine(rAll B va g cap L tm tn' ln' w1 (hR.below hb1)).mono ?_;rintro e w2 ⟨y,rfl,hr2,hb2⟩)
  | (go_at_call 58;refine(sameInfos _ _ _ _ _ _ _ _ w2 (ownsRow_below hr1 hb2) hr2 rfl rfl (by omega) (by omega)).mono ?_;rintro e w3 ⟨b,rfl,hsb,hb3⟩;obtain rfl:=hsb rfl;have hb9:=hb1.trans ((hb2.mono hb1.size).trans (hb3.mono (Nat.le_trans hb1.size hb2.size)));have c9:=hw0 _ hb9)
  | (go_at_call 21;refine(hX _ hb9).mono ?_;rintro e w4 ⟨rfl,hb4⟩)
  | (go_at_call 59;refine(hY _ (hb9.trans (hb4.mono hb9.size))).mono ?_;rintro e w5 ⟨rfl,rfl⟩))
 go_ret;exact⟨rfl,hb9.trans (hb4.mono hb9.size)⟩
theorem Tryz.turned (wb nb:Nat) (k:Int) (tu:Bool) (c0 c1 c2:Value) (sk:Bool) (w:World) (hW:BoxN w wb 69 #[c0,c1,c2,.bool sk,.bool false]) :
  Calls prog 110 #[.pointer (some ⟨wb,0,none⟩),.pointer (some ⟨nb,0,none⟩),.int .i64 k,.int .i64 k,.bool tu] w fun e w'=>e=.returned (.bool true)∧w'=w.setCell ⟨wb,1,none⟩ (.pointer (some ⟨nb,0,none⟩)):=by
 have h1:=hW.cell 1 (v:=c1) rfl;have h4:=hW.cell 4 (v:=.bool false) rfl;have f1:=hW.frozen 1
 by_cases hk:k=0
 ·subst hk
  cases tu
  all_goals
   go_enter func110,ntmps110;go_wp2;go_ret;exact⟨rfl,rfl⟩
 ·have hk':(k==0)=false:=by simpa using hk
  cases tu
  all_goals
   go_enter func110,ntmps110;go_wp2;go_ret;exact⟨by simp,rfl⟩
theorem Tryz.later (a b:Int) (ha:0≤a) (ha1:a≤18446744073709551615) (hb0:0≤b) (hb:b≤18446744073709551615) (w:World) :
  Calls prog 65 #[.int .u64 a,.int .u64 b] w fun e w'=>e=.returned (.int .u64 (plusI a b))∧w'=w:=by
 have hr:Hid (plusI a b=if 18446744073709551615-b<a then 18446744073709551615 else a+b):=hid_intro rfl;generalize plusI a b=r at *
 by_cases h:18446744073709551615-a<b
 ·obtain rfl:r=18446744073709551615:=by rw [hid_elim hr,if_pos (by omega)]
  clear hr;go_enter func65,ntmps65;go_wp2;go_ret;exact⟨rfl,rfl⟩
 ·obtain rfl:r=a+b:=by rw [hid_elim hr,if_neg (by omega)]
  clear hr;go_enter func65,ntmps65;go_wp2;go_ret;exact⟨ret_int (by omega),rfl⟩
theorem Tryz.zeroTok (w:World):(zeroValue 153).run prog w=.ok (.agg #[.int .i64 0,.int .u64 0,.int .u64 0,.int .i64 0,.bool false]) w:=zeroValue153 w
theorem Tryz.zeroLea (w:World):(zeroValue 131).run prog w=.ok (.agg #[.int .i64 0,.int .u64 0,.int .u64 0,.int .i64 0,.bool false,.string ⟨#[]⟩,.int .u64 0]) w:=zeroValue131 w
section
variable {W:World} {vb mt ml:Nat} {vx:VX} {tm tn ln:Int} {tks:List TokE} {lks:List LeaE}
theorem Tryz.VaultAt.lookT (h:VaultAt W vb mt ml vx tm tn ln tks lks) {t:TokE} (ht:t∈tks) :
  (Instr.lookup 120 (.map (some mt)) (nmV (1,(t.n:Int))) true).run prog W=.ok (.tuple #[.agg t.cells,.bool true]) W:=by
 obtain⟨n,_,hm⟩:=h.held.mapT;exact nmType.look_hit h.ok.ksT.1 (wfNm (.inl rfl) (h.ok.limT t ht).1) hm underlying120 (zeroTok _) (ksGet_of_mem h.ok.ksT.1 (List.mem_reverse.2 (List.mem_map.2 ⟨t,ht,rfl⟩)))
theorem Tryz.VaultAt.lookT_no (h:VaultAt W vb mt ml vx tm tn ln tks lks) {x:Int × Int} (hx:NmWf x) (hn:∀ t∈tks,x≠(1,(t.n:Int))) :
  (Instr.lookup 120 (.map (some mt)) (nmV x) true).run prog W=.ok (.tuple #[.agg #[.int .i64 0,.int .u64 0,.int .u64 0,.int .i64 0,.bool false],.bool false]) W:=by
 obtain⟨n,_,hm⟩:=h.held.mapT;refine nmType.look_miss h.ok.ksT.1 hx hm underlying120 (zeroTok _) (ksGet_none.2 fun p hp e=>?_);obtain⟨t,ht,rfl⟩:=List.mem_map.1 (List.mem_reverse.1 hp);exact hn t ht e.symm
theorem Tryz.VaultAt.lookL (h:VaultAt W vb mt ml vx tm tn ln tks lks) {t:LeaE} (ht:t∈lks) :
  (Instr.lookup 121 (.map (some ml)) (nmV (2,(t.n:Int))) true).run prog W=.ok (.tuple #[.agg t.cells,.bool true]) W:=by
 obtain⟨n,_,hm⟩:=h.held.mapL;exact nmType.look_hit h.ok.ksL.1 (wfNm (.inr rfl) (h.ok.limL t ht).1) hm underlying121 (zeroLea _) (ksGet_of_mem h.ok.ksL.1 (List.mem_reverse.2 (List.mem_map.2 ⟨t,ht,rfl⟩)))
theorem Tryz.VaultAt.lookL_no (h:VaultAt W vb mt ml vx tm tn ln tks lks) {x:Int × Int} (hx:NmWf x) (hn:∀ t∈lks,x≠(2,(t.n:Int))) :
  (Instr.lookup 121 (.map (some ml)) (nmV x) true).run prog W=.ok (.tuple #[.agg #[.int .i64 0,.int .u64 0,.int .u64 0,.int .i64 0,.bool false,.string ⟨#[]⟩,.int .u64 0],.bool false]) W:=by
 obtain⟨n,_,hm⟩:=h.held.mapL;refine nmType.look_miss h.ok.ksL.1 hx hm underlying121 (zeroLea _) (ksGet_none.2 fun p hp e=>?_);obtain⟨t,ht,rfl⟩:=List.mem_map.1 (List.mem_reverse.1 hp);exact hn t ht e.symm
end
structure Tryz.LkP (vb c m nb:Nat) (tm:TypeId) (k u:Int) (r:Value) (W:World):Prop where
 mp:W.cell? ⟨vb,c,none⟩=some (.map (some m))
 n0:W.cell? ⟨nb,0,none⟩=some (.int .i64 k)
 n1:W.cell? ⟨nb,1,none⟩=some (.int .u64 u)
 lk:(Instr.lookup tm (.map (some m)) (.agg #[.int .i64 k,.int .u64 u]) true).run Tryz.prog W=.ok r W
theorem Tryz.isLive_any (vb mt:Nat) (x:Int × Int) (ak au at_ tr:Int) (pd b:Bool) (w:World) (hP:∀ W,Below w.heap.size w W→W.cell? ⟨vb,3,none⟩=some (.map (some mt))∧(Instr.lookup 120 (.map (some mt)) (nmV x) true).run prog W=.ok (.tuple #[.agg #[.int .i64 ak,.int .u64 au,.int .u64 at_,.int .i64 tr,.bool pd],.bool b]) W) :
  Calls prog 83 #[.pointer (some ⟨vb,0,none⟩),nmV x] w fun e w'=>e=.returned (.bool (b && !pd))∧Below w.heap.size w w':=by
 have hB0:Below w.heap.size w (w.alloc (.cells #[.int .i64 x.1,.int .u64 x.2] 114)):=(Below.refl _ w).alloc (Nat.le_refl _) _;have bN:=BoxN.new w 114 #[.int .i64 x.1,.int .u64 x.2]
 have hS:∀ W,Below (w.heap.size+1) (w.alloc (.cells #[.int .i64 x.1,.int .u64 x.2] 114)) W→LkP vb 3 mt w.heap.size 120 x.1 x.2 (.tuple #[.agg #[.int .i64 ak,.int .u64 au,.int .u64 at_,.int .i64 tr,.bool pd],.bool b]) W:=fun W hb=>by
  have bN':=bN.below hb (by omega);obtain⟨h1,h2⟩:=hP W (hB0.trans (hb.mono (by omega)));exact⟨h1,bN'.cell 0 rfl,bN'.cell 1 rfl,h2⟩
 have hs0:(w.alloc (.cells #[.int .i64 x.1,.int .u64 x.2] 114)).heap.size=w.heap.size+1:=by simp
 unfold nmV;go_enter func83,ntmps83
 go_wp2_with fail
 generalize w.alloc (.cells #[.int .i64 x.1,.int .u64 x.2] 114)=W1 at *;have hb1:Below (w.heap.size+1) W1 W1.drew:=(Below.refl _ _).drew;refine wp_region_held_drew (S:=LkP vb 3 mt w.heap.size 120 x.1 x.2 (.tuple #[.agg #[.int .i64 ak,.int .u64 au,.int .u64 at_,.int .i64 tr,.bool pd],.bool b])) (by kernel_rfl) (hS _ hb1) (fun hS0=>?_);refine wpAnyH_take (i:=0) (v:=?v0) rfl (by kernel_rfl) (by kernel_rfl) (by kernel_rfl) (fun _ _ _ h=>h) (Or.inl ⟨by rfl,?y0⟩) hS0 ?_
 case y0=>(intro w hSw;obtain⟨q0,q1,q2,q3⟩:=hSw;go_simp;try with_reducible rfl)
 refine wpAnyH_take (i:=1) (v:=?v1) rfl (by kernel_rfl) (by kernel_rfl) (by kernel_rfl) (fun _ _ _ h=>h) (Or.inl ⟨by rfl,?y1⟩) hS0 ?_
 case y1=>(intro w hSw;obtain⟨q0,q1,q2,q3⟩:=hSw;go_simp;try with_reducible rfl)
 refine wpAnyH_take (i:=2) (v:=?v2) rfl (by kernel_rfl) (by kernel_rfl) (by kernel_rfl) (fun _ _ _ h=>h) (Or.inl ⟨by rfl,?y2⟩) hS0 ?_
 case y2=>(intro w hSw;obtain⟨q0,q1,q2,q3⟩:=hSw;go_simp;try with_reducible rfl)
 refine wpAnyH_take (i:=3) (v:=?v3) rfl (by kernel_rfl) (by kernel_rfl) (by kernel_rfl) (fun _ _ _ h=>h) (Or.inl ⟨by rfl,?y3⟩) hS0 ?_
 case y3=>(intro w hSw;obtain⟨q0,q1,q2,q3⟩:=hSw;go_simp;try with_reducible rfl)
 refine wpAnyH_take (i:=4) (v:=?v4) rfl (by kernel_rfl) (by kernel_rfl) (by kernel_rfl) (fun _ _ _ h=>h) (Or.inl ⟨by rfl,?y4⟩) hS0 ?_
 case y4=>(intro w hSw;obtain⟨q0,q1,q2,q3⟩:=hSw;go_simp;try with_reducible rfl)
 refine wpAnyH_take (i:=5) (v:=?v5) rfl (by kernel_rfl) (by kernel_rfl) (by kernel_rfl) (fun _ _ _ h=>h) (Or.inl ⟨by rfl,?y5⟩) hS0 ?_
 case y5=>(intro w hSw;obtain⟨q0,q1,q2,q3⟩:=hSw;go_simp;try with_reducible rfl)
 refine wpAnyH_take (i:=6) (v:=?v6) rfl (by kernel_rfl) (by kernel_rfl) (by kernel_rfl) (fun _ _ _ h=>h) (Or.inl ⟨by rfl,?y6⟩) hS0 ?_
 case y6=>(intro w hSw;obtain⟨q0,q1,q2,q3⟩:=hSw;go_simp;try with_reducible rfl)
 refine wpAnyH_take (i:=7) (v:=?v7) rfl (by kernel_rfl) (by kernel_rfl) (by kernel_rfl) (fun _ _ _ h=>h) (Or.inl ⟨by rfl,?y7⟩) hS0 ?_
 case y7=>(intro w hSw;obtain⟨q0,q1,q2,q3⟩:=hSw;go_simp;try with_reducible rfl)
 refine wpAnyH_take (i:=8) (v:=?v8) rfl (by kernel_rfl) (by kernel_rfl) (by kernel_rfl) (fun _ _ _ h=>h) (Or.inl ⟨by rfl,?y8⟩) hS0 ?_
 case y8=>(intro w hSw;obtain⟨q0,q1,q2,q3⟩:=hSw;go_simp;try with_reducible rfl)
 refine wpAnyH_ready (rs:=[9]) (by kernel_rfl) (by simp) ?_;refine AllReadyH.cons rfl (fun K hK=>?_) AllReadyH.nil;go_simp;refine hK.out _ _ (hS _ (hb1.alloc (by simp [hs0]) _)) (fun hS1=>?_);clear hK K;refine wpAnyH_ready (rs:=[10]) (by kernel_rfl) (by simp) ?_;refine AllReadyH.cons rfl (fun K hK=>?_) AllReadyH.nil;go_simp;have hb2:Below (w.heap.size+1) W1 (W1.alloc (.cells #[.int .i64 ak,.int .u64 au,.int .u64 at_,.int .i64 tr,.bool pd] 153)).drew:=((Below.refl _ _).alloc (by omega) _).drew
 have bT:BoxN (W1.alloc (.cells #[.int .i64 ak,.int .u64 au,.int .u64 at_,.int .i64 tr,.bool pd] 153)).drew (w.heap.size+1) 153 #[.int .i64 ak,.int .u64 au,.int .u64 at_,.int .i64 tr,.bool pd]:=by
  have h:=BoxN.new W1 153 #[.int .i64 ak,.int .u64 au,.int .u64 at_,.int .i64 tr,.bool pd];rw [hs0] at h;exact h
 refine hK.out _ _ (hS _ hb2) (fun hS2=>?_);clear hK K;refine wpAnyH_ready (rs:=[11]) (by kernel_rfl) (by simp) ?_;refine AllReadyH.cons rfl (fun K hK=>?_) AllReadyH.nil;go_simp;refine hK.out _ _ hS2 (fun _=>?_);clear hK K;refine wpAnyH_done (by kernel_rfl) ?_ _;have hBf:Below w.heap.size w (W1.alloc (.cells #[.int .i64 ak,.int .u64 au,.int .u64 at_,.int .i64 tr,.bool pd] 153)).drew:=hB0.trans (hb2.mono (by omega));clear hS hP hS0 hS1 hS2 hb1 hb2 hB0 bN;generalize (W1.alloc (.cells #[.int .i64 ak,.int .u64 au,.int .u64 at_,.int .i64 tr,.bool pd] 153)).drew=W2 at *;have hL:=entryLive (w.heap.size+1) pd W2 (bT.cell 4 rfl);cases b
 ·go_wp2_with (go_at_call 89;fail)
  go_ret;exact⟨rfl,hBf⟩
 ·go_wp2_with (go_at_call 89;refine hL.mono ?_;rintro e w5 ⟨rfl,rfl⟩)
  go_ret;exact⟨by simp,hBf⟩
theorem Tryz.isLive_hit (vb mt ml:Nat) (vx:VX) (tm tn ln:Int) (tks:List TokE) (lks:List LeaE) (w:World) (hV:VaultAt w vb mt ml vx tm tn ln tks lks) (t:TokE) (ht:t∈tks) :
  Calls prog 83 #[.pointer (some ⟨vb,0,none⟩),nmV (1,(t.n:Int))] w fun e w'=>e=.returned (.bool (!t.pd))∧Below w.heap.size w w':=by
 have h:=isLive_any vb mt (1,(t.n:Int)) t.ak t.au t.at_ t.tr t.pd true w (fun W hb=>⟨(hV.below hb).v.cell 3 rfl,(hV.below hb).lookT ht⟩)
 simpa using h
theorem Tryz.isLive_miss (vb mt ml:Nat) (vx:VX) (tm tn ln:Int) (tks:List TokE) (lks:List LeaE) (w:World) (hV:VaultAt w vb mt ml vx tm tn ln tks lks) (x:Int × Int) (hx:NmWf x) (hn:∀ t∈tks,x≠(1,(t.n:Int))) :
  Calls prog 83 #[.pointer (some ⟨vb,0,none⟩),nmV x] w fun e w'=>e=.returned (.bool false)∧Below w.heap.size w w':=by
 have h:=isLive_any vb mt x 0 0 0 0 false false w (fun W hb=>⟨(hV.below hb).v.cell 3 rfl,(hV.below hb).lookT_no hx hn⟩)
 simpa using h
end Go.Proofs
namespace Go.Proofs
open Go.RowKit Go.Sort Go.Lib Go.Shelf Go.Maps Go.WideMaps
def putTok (t:TokE) (l:List TokE):List TokE:=if l.any (fun x=>x.n==t.n) then l.map (fun x=>if x.n=t.n then t else x) else l ++ [t]
def delTok (n:Nat) (l:List TokE):List TokE:=l.filter (fun x=>x.n != n)
theorem keyTok_iff (x t:TokE):(TokE.key x).1=(TokE.key t).1↔x.n=t.n:=by
 simp [TokE.key];omega
theorem putTok_split {t:TokE} {l:List TokE} (hs:l.Pairwise (fun a b=>a.n<b.n)):(∃ a x b,l=a++x :: b∧x.n=t.n∧putTok t l=a++t :: b∧(∀ y∈a++b,y.n≠t.n))∨((∀ y∈l,y.n≠t.n)∧putTok t l=l ++ [t]):=by
 by_cases h:l.any (fun x=>x.n==t.n)=true
 ·obtain⟨x,hx,hn⟩:=List.any_eq_true.1 h
  have hn:x.n=t.n:=by simpa using hn
  obtain⟨a,b,rfl⟩:=List.append_of_mem hx;obtain⟨h1,h2,h3⟩:=List.pairwise_append.1 hs;obtain⟨h4,h5⟩:=List.pairwise_cons.1 h2
  have hne:∀ y∈a++b,y.n≠t.n:=fun y hy=>by
   rcases List.mem_append.1 hy with hy | hy
   ·have:=h3 y hy x (by simp);omega
   ·have:=h4 y hy;omega
  refine .inl ⟨a,x,b,rfl,hn,?_,hne⟩;unfold putTok;rw [if_pos h,List.map_append,List.map_cons,if_pos hn]
  have m:∀ c:List TokE,(∀ y∈c,y.n≠t.n)→c.map (fun x=>if x.n=t.n then t else x)=c:=fun c hc=>by
   conv=>rhs;rw [← List.map_id c]
   exact List.map_congr_left fun y hy=>by simp [hc y hy]
  rw [m a (fun y hy=>hne y (by simp [hy])),m b (fun y hy=>hne y (by simp [hy]))]
 ·have hf:l.any (fun x=>x.n==t.n)=false:=by simpa using h
  refine .inr ⟨fun y hy e=>?_,by unfold putTok;rw [if_neg h]⟩;exact h (List.any_eq_true.2 ⟨y,hy,by simpa using e⟩)
theorem putTok_perm {l:List TokE} (hs:l.Pairwise (fun a b=>a.n<b.n)) (t:TokE):((TokE.key t) :: ((l.map TokE.key).reverse.filter (fun p=>decide (p.1≠(TokE.key t).1)))).Perm ((putTok t l).map TokE.key).reverse:=by
 have keep:∀ c:List TokE,(∀ y∈c,y.n≠t.n)→(c.map TokE.key).reverse.filter (fun p=>decide (p.1≠(TokE.key t).1))=(c.map TokE.key).reverse:=fun c hc=>List.filter_eq_self.2 fun p hp=>by
  obtain⟨y,hy,rfl⟩:=List.mem_map.1 (List.mem_reverse.1 hp)
  simpa using fun e=>hc y hy ((keyTok_iff y t).1 e)
 rcases putTok_split (t:=t) hs with⟨a,x,b,rfl,hn,hp,hne⟩ | ⟨hne,hp⟩
 ·rw [hp]
  simp only [List.map_append,List.map_cons,List.reverse_append,List.reverse_cons,List.filter_append,List.append_assoc];rw [keep a (fun y hy=>hne y (by simp [hy])),keep b (fun y hy=>hne y (by simp [hy]))]
  have e : [TokE.key x].filter (fun p=>decide (p.1≠(TokE.key t).1)) = []:=by
   simp [(keyTok_iff x t).2 hn]
  rw [e,List.nil_append];exact List.perm_middle.symm
 ·rw [hp,keep l hne,List.map_append,List.reverse_append]
  exact List.Perm.refl _
theorem delTok_filter (n:Nat) (l:List TokE) (t:TokE) (ht:t.n=n):(l.map TokE.key).reverse.filter (fun p=>decide (p.1≠(TokE.key t).1))=((delTok n l).map TokE.key).reverse:=by
 unfold delTok;rw [List.filter_reverse,List.filter_map]
 congr 2
 refine List.filter_congr fun x _=>?_
 have:=keyTok_iff x t;rw [ht] at this
 by_cases e:x.n=n
 ·simp [e,this.2 e]
 ·have h2:(TokE.key x).1≠(TokE.key t).1:=fun h=>e (this.1 h)
  simp [e,h2]
theorem putTok_mem {t y:TokE} {l:List TokE} (hs:l.Pairwise (fun a b=>a.n<b.n)) (h:y∈putTok t l):y=t∨y∈l:=by
 rcases putTok_split (t:=t) hs with⟨a,x,b,rfl,hn,hp,hne⟩ | ⟨hne,hp⟩
 ·rw [hp] at h
  simp at h ⊢
  rcases h with h | h | h
  ·exact .inr (.inl h)
  ·exact .inl h
  ·exact .inr (.inr (.inr h))
 ·rw [hp] at h
  simp at h
  rcases h with h | h
  ·exact .inr h
  ·exact .inl h
theorem putTok_len {t:TokE} {l:List TokE} (hs:l.Pairwise (fun a b=>a.n<b.n)):(putTok t l).length≤l.length+1:=by
 rcases putTok_split (t:=t) hs with⟨a,x,b,rfl,hn,hp,hne⟩ | ⟨hne,hp⟩
 ·rw [hp];simp
 ·rw [hp];simp
def FitsTok (t:TokE) (l:List TokE):Prop:=(∃ x∈l,x.n=t.n)∨∀ x∈l,x.n<t.n
theorem putTok_inc {t:TokE} {l:List TokE} (hs:l.Pairwise (fun a b=>a.n<b.n)) (hf:FitsTok t l):(putTok t l).Pairwise (fun a b=>a.n<b.n):=by
 rcases putTok_split (t:=t) hs with⟨a,x,b,rfl,hn,hp,hne⟩ | ⟨hne,hp⟩
 ·rw [hp]
  obtain⟨h1,h2,h3⟩:=List.pairwise_append.1 hs;obtain⟨h4,h5⟩:=List.pairwise_cons.1 h2;refine List.pairwise_append.2 ⟨h1,List.pairwise_cons.2 ⟨fun y hy=>by rw [← hn];exact h4 y hy,h5⟩,fun y hy z hz=>?_⟩
  rcases List.mem_cons.1 hz with rfl | hz
  ·rw [← hn];exact h3 y hy x (by simp)
  ·exact h3 y hy z (List.mem_cons_of_mem _ hz)
 ·rw [hp]
  refine List.pairwise_append.2 ⟨hs,by simp,fun y hy z hz=>?_⟩;rw [List.mem_singleton.1 hz]
  rcases hf with⟨x,hx,e⟩ | h
  ·exact absurd e (hne x hx)
  ·exact h y hy
def putLea (t:LeaE) (l:List LeaE):List LeaE:=if l.any (fun x=>x.n==t.n) then l.map (fun x=>if x.n=t.n then t else x) else l ++ [t]
def delLea (n:Nat) (l:List LeaE):List LeaE:=l.filter (fun x=>x.n != n)
theorem keyLea_iff (x t:LeaE):(LeaE.key x).1=(LeaE.key t).1↔x.n=t.n:=by
 simp [LeaE.key];omega
theorem putLea_split {t:LeaE} {l:List LeaE} (hs:l.Pairwise (fun a b=>a.n<b.n)):(∃ a x b,l=a++x :: b∧x.n=t.n∧putLea t l=a++t :: b∧(∀ y∈a++b,y.n≠t.n))∨((∀ y∈l,y.n≠t.n)∧putLea t l=l ++ [t]):=by
 by_cases h:l.any (fun x=>x.n==t.n)=true
 ·obtain⟨x,hx,hn⟩:=List.any_eq_true.1 h
  have hn:x.n=t.n:=by simpa using hn
  obtain⟨a,b,rfl⟩:=List.append_of_mem hx;obtain⟨h1,h2,h3⟩:=List.pairwise_append.1 hs;obtain⟨h4,h5⟩:=List.pairwise_cons.1 h2
  have hne:∀ y∈a++b,y.n≠t.n:=fun y hy=>by
   rcases List.mem_append.1 hy with hy | hy
   ·have:=h3 y hy x (by simp);omega
   ·have:=h4 y hy;omega
  refine .inl ⟨a,x,b,rfl,hn,?_,hne⟩;unfold putLea;rw [if_pos h,List.map_append,List.map_cons,if_pos hn]
  have m:∀ c:List LeaE,(∀ y∈c,y.n≠t.n)→c.map (fun x=>if x.n=t.n then t else x)=c:=fun c hc=>by
   conv=>rhs;rw [← List.map_id c]
   exact List.map_congr_left fun y hy=>by simp [hc y hy]
  rw [m a (fun y hy=>hne y (by simp [hy])),m b (fun y hy=>hne y (by simp [hy]))]
 ·have hf:l.any (fun x=>x.n==t.n)=false:=by simpa using h
  refine .inr ⟨fun y hy e=>?_,by unfold putLea;rw [if_neg h]⟩;exact h (List.any_eq_true.2 ⟨y,hy,by simpa using e⟩)
theorem putLea_perm {l:List LeaE} (hs:l.Pairwise (fun a b=>a.n<b.n)) (t:LeaE):((LeaE.key t) :: ((l.map LeaE.key).reverse.filter (fun p=>decide (p.1≠(LeaE.key t).1)))).Perm ((putLea t l).map LeaE.key).reverse:=by
 have keep:∀ c:List LeaE,(∀ y∈c,y.n≠t.n)→(c.map LeaE.key).reverse.filter (fun p=>decide (p.1≠(LeaE.key t).1))=(c.map LeaE.key).reverse:=fun c hc=>List.filter_eq_self.2 fun p hp=>by
  obtain⟨y,hy,rfl⟩:=List.mem_map.1 (List.mem_reverse.1 hp)
  simpa using fun e=>hc y hy ((keyLea_iff y t).1 e)
 rcases putLea_split (t:=t) hs with⟨a,x,b,rfl,hn,hp,hne⟩ | ⟨hne,hp⟩
 ·rw [hp]
  simp only [List.map_append,List.map_cons,List.reverse_append,List.reverse_cons,List.filter_append,List.append_assoc];rw [keep a (fun y hy=>hne y (by simp [hy])),keep b (fun y hy=>hne y (by simp [hy]))]
  have e : [LeaE.key x].filter (fun p=>decide (p.1≠(LeaE.key t).1)) = []:=by
   simp [(keyLea_iff x t).2 hn]
  rw [e,List.nil_append];exact List.perm_middle.symm
 ·rw [hp,keep l hne,List.map_append,List.reverse_append]
  exact List.Perm.refl _
theorem delLea_filter (n:Nat) (l:List LeaE) (t:LeaE) (ht:t.n=n):(l.map LeaE.key).reverse.filter (fun p=>decide (p.1≠(LeaE.key t).1))=((delLea n l).map LeaE.key).reverse:=by
 unfold delLea;rw [List.filter_reverse,List.filter_map]
 congr 2
 refine List.filter_congr fun x _=>?_
 have:=keyLea_iff x t;rw [ht] at this
 by_cases e:x.n=n
 ·simp [e,this.2 e]
 ·have h2:(LeaE.key x).1≠(LeaE.key t).1:=fun h=>e (this.1 h)
  simp [e,h2]
theorem putLea_mem {t y:LeaE} {l:List LeaE} (hs:l.Pairwise (fun a b=>a.n<b.n)) (h:y∈putLea t l):y=t∨y∈l:=by
 rcases putLea_split (t:=t) hs with⟨a,x,b,rfl,hn,hp,hne⟩ | ⟨hne,hp⟩
 ·rw [hp] at h
  simp at h ⊢
  rcases h with h | h | h
  ·exact .inr (.inl h)
  ·exact .inl h
  ·exact .inr (.inr (.inr h))
 ·rw [hp] at h
  simp at h
  rcases h with h | h
  ·exact .inr h
  ·exact .inl h
theorem putLea_len {t:LeaE} {l:List LeaE} (hs:l.Pairwise (fun a b=>a.n<b.n)):(putLea t l).length≤l.length+1:=by
 rcases putLea_split (t:=t) hs with⟨a,x,b,rfl,hn,hp,hne⟩ | ⟨hne,hp⟩
 ·rw [hp];simp
 ·rw [hp];simp
def FitsLea (t:LeaE) (l:List LeaE):Prop:=(∃ x∈l,x.n=t.n)∨∀ x∈l,x.n<t.n
theorem putLea_inc {t:LeaE} {l:List LeaE} (hs:l.Pairwise (fun a b=>a.n<b.n)) (hf:FitsLea t l):(putLea t l).Pairwise (fun a b=>a.n<b.n):=by
 rcases putLea_split (t:=t) hs with⟨a,x,b,rfl,hn,hp,hne⟩ | ⟨hne,hp⟩
 ·rw [hp]
  obtain⟨h1,h2,h3⟩:=List.pairwise_append.1 hs;obtain⟨h4,h5⟩:=List.pairwise_cons.1 h2;refine List.pairwise_append.2 ⟨h1,List.pairwise_cons.2 ⟨fun y hy=>by rw [← hn];exact h4 y hy,h5⟩,fun y hy z hz=>?_⟩
  rcases List.mem_cons.1 hz with rfl | hz
  ·rw [← hn];exact h3 y hy x (by simp)
  ·exact h3 y hy z (List.mem_cons_of_mem _ hz)
 ·rw [hp]
  refine List.pairwise_append.2 ⟨hs,by simp,fun y hy z hz=>?_⟩;rw [List.mem_singleton.1 hz]
  rcases hf with⟨x,hx,e⟩ | h
  ·exact absurd e (hne x hx)
  ·exact h y hy
theorem ListsOk.putT {tks:List TokE} {lks:List LeaE} (h:ListsOk tks lks) {t:TokE} (hf:FitsTok t tks) (hl:tks.length<500) (h1:t.n<u64lim) (h2:t.au<u64lim):ListsOk (putTok t tks) lks:=
 ⟨by have:=putTok_len (t:=t) h.incT;omega,h.lenL,putTok_inc h.incT hf,h.incL,fun x hx=>by rcases putTok_mem h.incT hx with rfl | hx;exact⟨h1,h2⟩;exact h.limT x hx,h.limL⟩
theorem ListsOk.putL {tks:List TokE} {lks:List LeaE} (h:ListsOk tks lks) {t:LeaE} (hf:FitsLea t lks) (hl:lks.length<500) (h1:t.n<u64lim) (h2:t.au<u64lim):ListsOk tks (putLea t lks):=
 ⟨h.lenT,by have:=putLea_len (t:=t) h.incL;omega,h.incT,putLea_inc h.incL hf,h.limT,fun x hx=>by rcases putLea_mem h.incL hx with rfl | hx;exact⟨h1,h2⟩;exact h.limL x hx⟩
theorem ListsOk.delT {tks:List TokE} {lks:List LeaE} (h:ListsOk tks lks) (n:Nat):ListsOk (delTok n tks) lks:=
 ⟨Nat.le_trans (List.length_filter_le _ _) h.lenT,h.lenL,h.incT.filter _,h.incL,fun x hx=>h.limT x (List.mem_filter.1 hx).1,h.limL⟩
theorem ListsOk.delL {tks:List TokE} {lks:List LeaE} (h:ListsOk tks lks) (n:Nat):ListsOk tks (delLea n lks):=
 ⟨h.lenT,Nat.le_trans (List.length_filter_le _ _) h.lenL,h.incT,h.incL.filter _,h.limT,fun x hx=>h.limL x (List.mem_filter.1 hx).1⟩
theorem ownsMap_tight {H:Type} {P:Program} {k:TypeId} {R:Value→Option (DataW H × List MemPlace)} {D:DataW H} {W:World} {b n:Nat} (h:W.ownsMap P k R b n D):W.ownsMap P k R b (Maps.size D) D:=by
 obtain⟨es,clock,hb,F,hs,rfl⟩:=h;exact⟨es,clock,hb,F,by simp [Maps.size,length_sorted],rfl⟩
section
variable {W:World} {mt ml:Nat} {tks:List TokE} {lks:List LeaE}
theorem Tryz.storeT (hH:Held W mt ml tks lks) (ok:ListsOk tks lks) {t:TokE} (hf:FitsTok t tks) (hl:tks.length<500) (h1:t.n<u64lim) (h2:t.au<u64lim) :
  ∃ w',(Instr.mapUpdate 120 (.map (some mt)) (nmV (1,(t.n:Int))) (.agg t.cells)).run prog W=.ok () w'∧(∃ n,n≤1000∧w'.ownsMap prog 114 valR mt n (mapD ((putTok t tks).map TokE.key).reverse))∧W.grownBy w' (some mt):=by
 obtain⟨n,hn,hm⟩:=hH.mapT;have hx:NmWf (1,(t.n:Int)):=wfNm (.inl rfl) h1;have ok2:=ok.putT hf hl h1 h2;obtain⟨w',hrun,hM,hT⟩:=hm.store (Keyed.of_law nmType.law) underlying120 (by unfold maxLen;omega) (key:=nmV (1,(t.n:Int))) (val:=.agg t.cells) (nmType.keyOf hx) (d:=.held (.agg t.cells)) (ps:=[]) rfl;refine⟨w',hrun,⟨Maps.size (mapD ((putTok t tks).map TokE.key).reverse),?_,?_⟩,hT.grown⟩
 ·rw [nmType.size_mapD _ ok2.ksT.1];have:=ok2.lenT;simp;omega
 ·have e:=nmType.mapD_put ok.ksT.1 hx (.agg t.cells)
  have e2:mapD (((1,(t.n:Int)),Value.agg t.cells) :: (tks.map TokE.key).reverse.filter (fun p=>decide (p.1≠(1,(t.n:Int)))))=mapD ((putTok t tks).map TokE.key).reverse:=
   (nmType.mapD_perm ok2.ksT.1 (putTok_perm ok.incT t).symm).symm
  rw [e2] at e;have hM':=ownsMap_tight hM;rw [show Lit.string (nmB (1,(t.n:Int)))=nmL (1,(t.n:Int)) from rfl,e] at hM';exact hM'
theorem Tryz.storeL (hH:Held W mt ml tks lks) (ok:ListsOk tks lks) {t:LeaE} (hf:FitsLea t lks) (hl:lks.length<500) (h1:t.n<u64lim) (h2:t.au<u64lim) :
  ∃ w',(Instr.mapUpdate 121 (.map (some ml)) (nmV (2,(t.n:Int))) (.agg t.cells)).run prog W=.ok () w'∧(∃ n,n≤1000∧w'.ownsMap prog 114 valR ml n (mapD ((putLea t lks).map LeaE.key).reverse))∧W.grownBy w' (some ml):=by
 obtain⟨n,hn,hm⟩:=hH.mapL;have hx:NmWf (2,(t.n:Int)):=wfNm (.inr rfl) h1;have ok2:=ok.putL hf hl h1 h2;obtain⟨w',hrun,hM,hT⟩:=hm.store (Keyed.of_law nmType.law) underlying121 (by unfold maxLen;omega) (key:=nmV (2,(t.n:Int))) (val:=.agg t.cells) (nmType.keyOf hx) (d:=.held (.agg t.cells)) (ps:=[]) rfl;refine⟨w',hrun,⟨Maps.size (mapD ((putLea t lks).map LeaE.key).reverse),?_,?_⟩,hT.grown⟩
 ·rw [nmType.size_mapD _ ok2.ksL.1];have:=ok2.lenL;simp;omega
 ·have e:=nmType.mapD_put ok.ksL.1 hx (.agg t.cells)
  have e2:mapD (((2,(t.n:Int)),Value.agg t.cells) :: (lks.map LeaE.key).reverse.filter (fun p=>decide (p.1≠(2,(t.n:Int)))))=mapD ((putLea t lks).map LeaE.key).reverse:=
   (nmType.mapD_perm ok2.ksL.1 (putLea_perm ok.incL t).symm).symm
  rw [e2] at e;have hM':=ownsMap_tight hM;rw [show Lit.string (nmB (2,(t.n:Int)))=nmL (2,(t.n:Int)) from rfl,e] at hM';exact hM'
end
end Go.Proofs
