import Derived.Test.YtjbekgjdempbiaaGreatDoorJState
import Derived.Test.YtjbekgjdempbiaaGreatDoorJMapOps
import Derived.Lib.AtoiErrMem
import Derived.Lib.ParseIntBCases
import Derived.Test.YtjbekgjdempbiaaGreatDoorJNext
set_option maxRecDepth 100000
set_option maxHeartbeats 8000000
namespace Go.Proofs
open Go.RowKit Go.Sort Go.Lib Go.Shelf
def kindI (c:UInt8):Int:=if c=116 then 1 else if c=108 then 2 else 0
def parseN:List UInt8→Int × Int
 | []=>(0,0)
 | c :: r=>match Lib.parseUintB 64 r with
  | .ok u=>if nmStr (kindI c) u=c :: r then (kindI c,(u:Int)) else (0,0)
  | _=>(0,0)
theorem Tryz.kindOf (c:UInt8) (w:World):Calls prog 119 #[.int .u8 c.toNat] w fun e w'=>e=.returned (.int .i64 (kindI c))∧w'=w:=by
 have h256:=c.toNat_lt
 by_cases h1:c=116
 ·subst h1
  go_enter func119,ntmps119;go_wp2;go_ret;exact⟨rfl,rfl⟩
 ·by_cases h2:c=108
  ·subst h2
   go_enter func119,ntmps119;go_wp2;go_ret;exact⟨rfl,rfl⟩
  ·have h1':((c.toNat:Int)==116)=false:=by
    simp;intro h;exact h1 (UInt8.toNat_inj.1 (by simpa using(by exact_mod_cast h:c.toNat=116)))
   have h2':((c.toNat:Int)==108)=false:=by
    simp;intro h;exact h2 (UInt8.toNat_inj.1 (by simpa using(by exact_mod_cast h:c.toNat=108)))
   have hfin:Hid (kindI c=0):=by show _=_;simp [kindI,h1,h2]
   generalize kindI c=r at *;generalize (c.toNat:Int)=z at *;clear h1 h2;go_enter func119,ntmps119;go_wp2;go_ret;exact⟨ret_int (show (0:Int)=r from (show r=0 from hfin).symm),rfl⟩
theorem bytes_tail (c:UInt8) (r:List UInt8):(⟨(c :: r).toArray⟩:ByteArray).extract 1 (r.length+1)=⟨r.toArray⟩:=by
 apply ByteArray.ext;rw [ByteArray.data_extract];simp
theorem parse_lt {r:List UInt8} {u:Nat} (h:Lib.parseUintB 64 r=.ok u):u<18446744073709551616:=by
 have:=Lib.parseUintB_le h;omega
theorem Tryz.parseBelow {w w':World} {s:ByteArray} (h:w'=w∨w'=Lib.bytesWorld w 5 s):Below w.heap.size w w':=by
 rcases h with rfl | rfl
 ·exact Below.refl _ _
 ·exact Lib.bytesWorld_below _ _ _
theorem Tryz.parse_nil (w:World):Calls prog 63 #[.string ⟨#[]⟩] w fun e w'=>e=.returned (.agg #[.int .i64 0,.int .u64 0])∧Below w.heap.size w w':=by
 go_enter func63,ntmps63;go_wp2;exact bodyPost_ret (v:=.agg #[.int .i64 0,.int .u64 0]) (by simp [results,results63,go_sem]) rfl ⟨rfl,(Below.refl _ _).alloc (Nat.le_refl _) _⟩
theorem Tryz.parse_ok (c:UInt8) (r:List UInt8) (u:Nat) (hp:Lib.parseUintB 64 r=.ok u) (hl:r.length≤1000000) (w:World) (hE:Env w) (h6:6≤w.heap.size) :
  Calls prog 63 #[.string ⟨(c :: r).toArray⟩] w fun e w'=>e=.returned (nmV (parseN (c :: r)))∧Below w.heap.size w w':=by
 have hpu:=fun W=>Any.strconv_ParseUint_10_at64_ok laysPu14 ⟨r.toArray⟩ (by simp [ByteArray.size];omega) u hp W
 change ∀ W,Calls prog 118 _ _ _ at hpu
 have hk:=fun W=>kindOf c W
 have hx:(⟨(c :: r).toArray⟩:ByteArray).extract 1 (r.length+1)=⟨r.toArray⟩:=bytes_tail c r;have hE1:Env (w.alloc (.cells #[.int .i64 0,.int .u64 0] 114)):=hE.below ((Below.refl _ w).alloc (Nat.le_refl _) _) h6;have hu64:u<18446744073709551616:=parse_lt hp
 have hS:=fun W hW h6=>nameString (kindI c) u hu64 W hW h6
 have hpn:Hid (parseN (c :: r)=if nmStr (kindI c) u=c :: r then (kindI c,(u:Int)) else (0,0)):=by show _=_;simp [parseN,hp]
 generalize parseN (c :: r)=pn at *;generalize kindI c=kc at *;go_enter func63,ntmps63
 go_wp2_with (first
  | (go_at_call 118;refine(hpu _).mono ?_;rintro e w1 ⟨rfl,hw1⟩;replace hw1:=parseBelow hw1)
  | (go_at_call 119;refine(hk _).mono ?_;rintro e w' ⟨rfl,rfl⟩))
 have hs1:=hw1.size;simp only [World.size_alloc] at hs1
 have hEW:=((hE1.below hw1 (by simp;omega)).below ((Below.refl _ _).alloc (Nat.le_refl _) (.cells #[.int .i64 kc,.int .u64 u] 114)) (by omega))
 have hb1:=((Below.refl w.heap.size w).alloc (Nat.le_refl _) (.cells #[.int .i64 0,.int .u64 0] 114)).trans (hw1.mono (by simp));have bR:=((BoxN.new w 114 #[.int .i64 0,.int .u64 0]).below hw1 (by simp)).alloc (.cells #[.int .i64 kc,.int .u64 u] 114);have bX:=BoxN.new w' 114 #[.int .i64 kc,.int .u64 u];refine(hS _ hEW (by simp;omega)).mono ?_;rintro e w2 ⟨rfl,hb2⟩;have hbF:=hb1.trans (((Below.refl _ _).alloc (by omega) (.cells #[.int .i64 kc,.int .u64 u] 114)).trans (hb2.mono (by simp;omega)));replace bR:=bR.below hb2 (by simp;omega);replace bX:=bX.below hb2 (by simp);have r0:=bR.cell 0 (v:=.int .i64 0) rfl;have r1:=bR.cell 1 (v:=.int .u64 0) rfl;have f0:=bR.frozen 0;have f1:=bR.frozen 1;have x0:=bX.cell 0 (v:=.int .i64 kc) rfl;have x1:=bX.cell 1 (v:=.int .u64 u) rfl;clear hS hpu hk hEW hE1 hE hb1;generalize nmStr kc u=tx at *
 by_cases hq:tx=c :: r
 ·have hq':(tx==c :: r)=true:=by simp [hq]
  have hfin:Hid (pn=(kc,(u:Int))):=by have h:=hpn;simp only [Hid] at h ⊢;rw [h,if_pos hq]
  clear hq hpn;go_wp2;refine bodyPost_ret (v:=.agg #[.int .i64 kc,.int .u64 u]) (by simp [results,results63,go_sem, *]) rfl ⟨by rw [show pn=_ from hfin];rfl,?_⟩;exact(hbF.setCell (p:=⟨w.heap.size,0,none⟩) (Nat.le_refl _) _).setCell (p:=⟨w.heap.size,1,none⟩) (Nat.le_refl _) _
 ·have hq':(tx==c :: r)=false:=by simp [hq]
  have hfin:Hid (pn=(0,0)):=by have h:=hpn;simp only [Hid] at h ⊢;rw [h,if_neg hq]
  clear hq hpn;go_wp2;refine bodyPost_ret (v:=.agg #[.int .i64 0,.int .u64 0]) (by simp [results,results63,go_sem, *]) rfl ⟨by rw [show pn=_ from hfin];rfl,?_⟩;exact(hbF.setCell (p:=⟨w.heap.size,0,none⟩) (Nat.le_refl _) _).setCell (p:=⟨w.heap.size,1,none⟩) (Nat.le_refl _) _
theorem Tryz.parse_bad (c:UInt8) (r:List UInt8) (hp:∀ u,Lib.parseUintB 64 r ≠ .ok u) (hl:r.length≤1000000) (w:World) (hE:Env w) (h6:6≤w.heap.size) :
  Calls prog 63 #[.string ⟨(c :: r).toArray⟩] w fun e w'=>e=.returned (nmV (parseN (c :: r)))∧Below w.heap.size w w':=by
 have hx:(⟨(c :: r).toArray⟩:ByteArray).extract 1 (r.length+1)=⟨r.toArray⟩:=bytes_tail c r;have hE1:Env (w.alloc (.cells #[.int .i64 0,.int .u64 0] 114)):=hE.below ((Below.refl _ w).alloc (Nat.le_refl _) _) h6
 have hpu:Calls prog 118 #[.string ⟨r.toArray⟩,.int .i64 10,.int .i64 64] (w.alloc (.cells #[.int .i64 0,.int .u64 0] 114)) fun e w'=>∃(z:Int) (tp:TypeId) (p:Value),e=.returned (.tuple #[.int .u64 z,.iface tp p])∧Below (w.heap.size+1) (w.alloc (.cells #[.int .i64 0,.int .u64 0] 114)) w':=by
  have hsz:(⟨r.toArray⟩:ByteArray).size≤281474976710656:=by simp [ByteArray.size];omega
  cases hpp:Lib.parseUintB 64 r with
  | ok u=>exact absurd hpp (hp u)
  | range =>
   obtain⟨tp,p,hv⟩:=hE1.rng;have h:=Any.strconv_ParseUint_10_at64_range_var laysPu14 ⟨r.toArray⟩ hsz hpp tp p _ hv
   exact h.mono fun e w' ⟨N,h1,_,_,h4⟩=>⟨_,_,_,h1,by simpa using h4⟩
  | _ =>
   obtain⟨tp,p,hv⟩:=hE1.syn;have h:=Any.strconv_ParseUint_10_at64_syntax_var laysPu14 ⟨r.toArray⟩ hsz hpp tp p _ hv
   exact h.mono fun e w' ⟨N,h1,_,_,h4⟩=>⟨_,_,_,h1,by simpa using h4⟩
 have hk:=fun W=>kindOf c W
 have hpn:Hid (parseN (c :: r)=(0,0)):=by
  show _=_
  cases hh:Lib.parseUintB 64 r with
  | ok u=>exact absurd hh (hp u)
  | _=>simp only [parseN,hh]
 generalize parseN (c :: r)=pn at *;generalize kindI c=kc at *;clear hp;go_enter func63,ntmps63
 go_wp2_with (first
  | (go_at_call 118;refine hpu.mono ?_;rintro e w1 ⟨z,tp,p,rfl,hw1⟩;have bR:=(BoxN.new w 114 #[.int .i64 0,.int .u64 0]).below hw1 (by simp);have hlt:=bR.lt;have r0:=bR.cell 0 (v:=.int .i64 0) rfl;have r1:=bR.cell 1 (v:=.int .u64 0) rfl;have f0:=bR.frozen 0;have f1:=bR.frozen 1)
  | (go_at_call 119;refine(hk _).mono ?_;rintro e w' ⟨rfl,rfl⟩))
 refine bodyPost_ret (v:=.agg #[.int .i64 0,.int .u64 0]) (by simp [results,results63,go_sem, *]) rfl ⟨by rw [show pn=_ from hpn];rfl,?_⟩;have hbF:=((Below.refl w.heap.size w).alloc (Nat.le_refl _) (.cells #[.int .i64 0,.int .u64 0] 114)).trans (hw1.mono (by omega));exact((hbF.setCell (p:=⟨w.heap.size,0,none⟩) (Nat.le_refl _) _).setCell (p:=⟨w.heap.size,1,none⟩) (Nat.le_refl _) _).alloc (by simp;omega) _
theorem Tryz.parse (s:ByteArray) (hl:s.size≤1000000) (w:World) (hE:Env w) (h6:6≤w.heap.size) :
  Calls prog 63 #[.string s] w fun e w'=>e=.returned (nmV (parseN s.data.toList))∧Below w.heap.size w w':=by
 obtain⟨⟨l⟩⟩:=s
 cases l with
 | nil=>exact parse_nil w
 | cons c r =>
  have hl':r.length≤1000000:=by simp [ByteArray.size] at hl;omega
  cases hp:Lib.parseUintB 64 r with
  | ok u=>exact parse_ok c r u hp hl' w hE h6
  | _=>exact parse_bad c r (by rw [hp];simp) hl' w hE h6
theorem parseM_snoc (M:Nat) (c:UInt8) (h1:48≤c.toNat) (h2:c.toNat≤57):∀(l:List UInt8) (acc u:Nat),Lib.parseUintM M acc l=.ok u→u<1844674407370955162→u*10+(c.toNat-48)≤M→Lib.parseUintM M acc (l ++ [c])=.ok (u*10+(c.toNat-48))
 | [],acc,u,h,hu,hm=>by
  have e:acc=u:=by simpa [Lib.parseUintM] using h
  subst e;simp only [List.nil_append,Lib.parseUintM];rw [if_pos ⟨h1,h2⟩,if_neg (by omega),if_neg (by omega)]
 | d :: l,acc,u,h,hu,hm=>by
  simp only [List.cons_append,Lib.parseUintM] at h ⊢
  split at h
  ·split at h
   ·cases h
   ·split at h
    ·cases h
    ·rename_i a b c'
     rw [if_pos a,if_neg b,if_neg c'];exact parseM_snoc M c h1 h2 l _ u h hu hm
  ·cases h
theorem dig_toNat (d:Nat) (h:d<10):(UInt8.ofNat (48+d)).toNat=48+d:=by simp;omega
theorem parseM_dec (u:Nat) (hu:u≤18446744073709551615):Lib.parseUintM 18446744073709551615 0 (Lib.decDigits u)=.ok u:=by
 induction u using Nat.strongRecOn with
 | ind u ih =>
  by_cases h:u<10
  ·rw [Lib.decDigits_one h]
   have hd:=dig_toNat u h;simp only [Lib.parseUintM,hd];rw [if_pos ⟨by omega,by omega⟩,if_neg (by omega),if_neg (by omega)]
   congr 1
   omega
  ·rw [Lib.decDigits,dif_neg h]
   have hd:=dig_toNat (u % 10) (by omega);have:=parseM_snoc 18446744073709551615 (UInt8.ofNat (48+u % 10)) (by omega) (by omega) _ 0 (u / 10) (ih (u / 10) (by omega) (by omega)) (by omega) (by omega);rw [this,hd]
   congr 1
   omega
theorem dec_ne_nil (u:Nat):Lib.decDigits u ≠ []:=by
 rw [Lib.decDigits]
 split <;> simp
theorem parse_dec (u:Nat) (hu:u<18446744073709551616):Lib.parseUintB 64 (Lib.decDigits u)=.ok u:=by
 unfold Lib.parseUintB;rw [if_neg (dec_ne_nil u)];exact parseM_dec u (by omega)
def kd (tk:Bool):Int:=if tk then 1 else 2
theorem parseN_nm (tk:Bool) {n:Nat} (h:n<u64lim):parseN (nmStr (kd tk) n)=(kd tk,(n:Int)):=by
 cases tk
 ·show parseN (108 :: Lib.decDigits n)=_
  simp only [parseN,parse_dec n h];rw [if_pos (show nmStr (kindI 108) n=108 :: Lib.decDigits n from rfl)];rfl
 ·show parseN (116 :: Lib.decDigits n)=_
  simp only [parseN,parse_dec n h];rw [if_pos (show nmStr (kindI 116) n=116 :: Lib.decDigits n from rfl)];rfl
def thT (t:TokE):ThingD:=⟨true,t.n,if t.ak=1 then (t.au:Int) else -1,[],t.at_,0,t.pd,t.tr⟩
def thL (l:LeaE):ThingD:=⟨false,l.n,(l.au:Int),l.pth,l.at_,l.last,l.pd,l.tr⟩
structure Rel (tks:List TokE) (lks:List LeaE) (L:List ThingD):Prop where
 toks:L.filter (fun t=>t.token==true)=tks.map thT
 leas:L.filter (fun t=>t.token==false)=lks.map thL
 akT:∀ t∈tks,t.ak=1∨t.ak=0
 akL:∀ l∈lks,l.ak=1
section
variable {tks:List TokE} {lks:List LeaE} {L:List ThingD}
theorem Rel.tok_mem (h:Rel tks lks L) {x:ThingD} (hx:x∈L) (ht:x.token=true):∃ t∈tks,thT t=x:=by
 have:x∈L.filter (fun t=>t.token==true):=List.mem_filter.2 ⟨hx,by simp [ht]⟩;rw [h.toks] at this
 simpa using this
theorem Rel.lea_mem (h:Rel tks lks L) {x:ThingD} (hx:x∈L) (ht:x.token=false):∃ t∈lks,thL t=x:=by
 have:x∈L.filter (fun t=>t.token==false):=List.mem_filter.2 ⟨hx,by simp [ht]⟩;rw [h.leas] at this
 simpa using this
theorem Rel.num (h:Rel tks lks L) (ok:ListsOk tks lks) {x:ThingD} (hx:x∈L):x.n<u64lim:=by
 cases hb:x.token
 ·obtain⟨a,ha,rfl⟩:=h.lea_mem hx hb
  exact(ok.limL a ha).1
 ·obtain⟨a,ha,rfl⟩:=h.tok_mem hx hb
  exact(ok.limT a ha).1
end
end Go.Proofs
namespace Go.Proofs
open Go.RowKit Go.Sort Go.Lib Go.Shelf Go.Maps
theorem Tryz.later (a b:Int) (ha:0≤a) (ha1:a≤18446744073709551615) (hb0:0≤b) (hb:b≤18446744073709551615) (w:World) :
  Calls prog 65 #[.int .u64 a,.int .u64 b] w fun e w'=>e=.returned (.int .u64 (plusI a b))∧w'=w:=by
 have hr:Hid (plusI a b=if 18446744073709551615-b<a then 18446744073709551615 else a+b):=hid_intro rfl;generalize plusI a b=r at *
 by_cases h:18446744073709551615-a<b
 ·obtain rfl:r=18446744073709551615:=by rw [hid_elim hr,if_pos (by omega)]
  clear hr;go_enter func65,ntmps65;go_wp2;go_ret;exact⟨rfl,rfl⟩
 ·obtain rfl:r=a+b:=by rw [hid_elim hr,if_neg (by omega)]
  clear hr;go_enter func65,ntmps65;go_wp2;go_ret;exact⟨ret_int (by omega),rfl⟩
theorem Tryz.zeroTok (w:World):(zeroValue 153).run prog w=.ok (.agg #[.int .i64 0,.int .u64 0,.int .u64 0,.int .i64 0,.bool false]) w:=zeroValue153 w
theorem Tryz.zeroLea (w:World):(zeroValue 131).run prog w=.ok (.agg #[.int .i64 0,.int .u64 0,.int .u64 0,.int .i64 0,.bool false,.string ⟨#[]⟩,.int .u64 0]) w:=zeroValue131 w
section
variable {W:World} {vb mt ml:Nat} {vx:VX} {tm tn ln:Int} {tks:List TokE} {lks:List LeaE}
theorem Tryz.VaultAt.lookT (h:VaultAt W vb mt ml vx tm tn ln tks lks) {t:TokE} (ht:t∈tks) :
  (Instr.lookup 120 (.map (some mt)) (nmV (1,(t.n:Int))) true).run prog W=.ok (.tuple #[.agg t.cells,.bool true]) W:=by
 obtain⟨n,_,hm⟩:=h.held.mapT;exact nmType.look_hit h.ok.ksT.1 (wfNm (.inl rfl) (h.ok.limT t ht).1) hm underlying120 (zeroTok _) (ksGet_of_mem h.ok.ksT.1 (List.mem_reverse.2 (List.mem_map.2 ⟨t,ht,rfl⟩)))
theorem Tryz.VaultAt.lookT_no (h:VaultAt W vb mt ml vx tm tn ln tks lks) {x:Int × Int} (hx:NmWf x) (hn:∀ t∈tks,x≠(1,(t.n:Int))) :
  (Instr.lookup 120 (.map (some mt)) (nmV x) true).run prog W=.ok (.tuple #[.agg #[.int .i64 0,.int .u64 0,.int .u64 0,.int .i64 0,.bool false],.bool false]) W:=by
 obtain⟨n,_,hm⟩:=h.held.mapT;refine nmType.look_miss h.ok.ksT.1 hx hm underlying120 (zeroTok _) (ksGet_none.2 fun p hp e=>?_);obtain⟨t,ht,rfl⟩:=List.mem_map.1 (List.mem_reverse.1 hp);exact hn t ht e.symm
theorem Tryz.VaultAt.lookL (h:VaultAt W vb mt ml vx tm tn ln tks lks) {t:LeaE} (ht:t∈lks) :
  (Instr.lookup 121 (.map (some ml)) (nmV (2,(t.n:Int))) true).run prog W=.ok (.tuple #[.agg t.cells,.bool true]) W:=by
 obtain⟨n,_,hm⟩:=h.held.mapL;exact nmType.look_hit h.ok.ksL.1 (wfNm (.inr rfl) (h.ok.limL t ht).1) hm underlying121 (zeroLea _) (ksGet_of_mem h.ok.ksL.1 (List.mem_reverse.2 (List.mem_map.2 ⟨t,ht,rfl⟩)))
theorem Tryz.VaultAt.lookL_no (h:VaultAt W vb mt ml vx tm tn ln tks lks) {x:Int × Int} (hx:NmWf x) (hn:∀ t∈lks,x≠(2,(t.n:Int))) :
  (Instr.lookup 121 (.map (some ml)) (nmV x) true).run prog W=.ok (.tuple #[.agg #[.int .i64 0,.int .u64 0,.int .u64 0,.int .i64 0,.bool false,.string ⟨#[]⟩,.int .u64 0],.bool false]) W:=by
 obtain⟨n,_,hm⟩:=h.held.mapL;refine nmType.look_miss h.ok.ksL.1 hx hm underlying121 (zeroLea _) (ksGet_none.2 fun p hp e=>?_);obtain⟨t,ht,rfl⟩:=List.mem_map.1 (List.mem_reverse.1 hp);exact hn t ht e.symm
theorem Tryz.VaultAt.alloc (h:VaultAt W vb mt ml vx tm tn ln tks lks) (o:Obj):VaultAt (W.alloc o) vb mt ml vx tm tn ln tks lks:=h.below ((Below.refl _ W).alloc (Nat.le_refl _) o)
end
structure Tryz.LkP (vb c m nb:Nat) (tm:TypeId) (k u:Int) (r:Value) (W:World):Prop where
 mp:W.cell? ⟨vb,c,none⟩=some (.map (some m))
 n0:W.cell? ⟨nb,0,none⟩=some (.int .i64 k)
 n1:W.cell? ⟨nb,1,none⟩=some (.int .u64 u)
 lk:(Instr.lookup tm (.map (some m)) (.agg #[.int .i64 k,.int .u64 u]) true).run Tryz.prog W=.ok r W
theorem Tryz.isLive_any (vb mt:Nat) (x:Int × Int) (ak au at_ tr:Int) (pd b:Bool) (w:World) (hP:∀ W,Below w.heap.size w W→W.cell? ⟨vb,3,none⟩=some (.map (some mt))∧(Instr.lookup 120 (.map (some mt)) (nmV x) true).run prog W=.ok (.tuple #[.agg #[.int .i64 ak,.int .u64 au,.int .u64 at_,.int .i64 tr,.bool pd],.bool b]) W) :
  Calls prog 83 #[.pointer (some ⟨vb,0,none⟩),nmV x] w fun e w'=>e=.returned (.bool (b && !pd))∧Below w.heap.size w w':=by
 have hB0:Below w.heap.size w (w.alloc (.cells #[.int .i64 x.1,.int .u64 x.2] 114)):=(Below.refl _ w).alloc (Nat.le_refl _) _;have bN:=BoxN.new w 114 #[.int .i64 x.1,.int .u64 x.2]
 have hS:∀ W,Below (w.heap.size+1) (w.alloc (.cells #[.int .i64 x.1,.int .u64 x.2] 114)) W→LkP vb 3 mt w.heap.size 120 x.1 x.2 (.tuple #[.agg #[.int .i64 ak,.int .u64 au,.int .u64 at_,.int .i64 tr,.bool pd],.bool b]) W:=fun W hb=>by
  have bN':=bN.below hb (by omega);obtain⟨h1,h2⟩:=hP W (hB0.trans (hb.mono (by omega)));exact⟨h1,bN'.cell 0 rfl,bN'.cell 1 rfl,h2⟩
 have hs0:(w.alloc (.cells #[.int .i64 x.1,.int .u64 x.2] 114)).heap.size=w.heap.size+1:=by simp
 unfold nmV;go_enter func83,ntmps83
 go_wp2_with fail
 generalize w.alloc (.cells #[.int .i64 x.1,.int .u64 x.2] 114)=W1 at *;have hb1:Below (w.heap.size+1) W1 W1.drew:=(Below.refl _ _).drew;refine wp_region_held_drew (S:=LkP vb 3 mt w.heap.size 120 x.1 x.2 (.tuple #[.agg #[.int .i64 ak,.int .u64 au,.int .u64 at_,.int .i64 tr,.bool pd],.bool b])) (by kernel_rfl) (hS _ hb1) (fun hS0=>?_);refine wpAnyH_take (i:=0) (v:=?v0) rfl (by kernel_rfl) (by kernel_rfl) (by kernel_rfl) (fun _ _ _ h=>h) (Or.inl ⟨by rfl,?y0⟩) hS0 ?_
 case y0=>(intro w hSw;obtain⟨q0,q1,q2,q3⟩:=hSw;go_simp;try with_reducible rfl)
 refine wpAnyH_take (i:=1) (v:=?v1) rfl (by kernel_rfl) (by kernel_rfl) (by kernel_rfl) (fun _ _ _ h=>h) (Or.inl ⟨by rfl,?y1⟩) hS0 ?_
 case y1=>(intro w hSw;obtain⟨q0,q1,q2,q3⟩:=hSw;go_simp;try with_reducible rfl)
 refine wpAnyH_take (i:=2) (v:=?v2) rfl (by kernel_rfl) (by kernel_rfl) (by kernel_rfl) (fun _ _ _ h=>h) (Or.inl ⟨by rfl,?y2⟩) hS0 ?_
 case y2=>(intro w hSw;obtain⟨q0,q1,q2,q3⟩:=hSw;go_simp;try with_reducible rfl)
 refine wpAnyH_take (i:=3) (v:=?v3) rfl (by kernel_rfl) (by kernel_rfl) (by kernel_rfl) (fun _ _ _ h=>h) (Or.inl ⟨by rfl,?y3⟩) hS0 ?_
 case y3=>(intro w hSw;obtain⟨q0,q1,q2,q3⟩:=hSw;go_simp;try with_reducible rfl)
 refine wpAnyH_take (i:=4) (v:=?v4) rfl (by kernel_rfl) (by kernel_rfl) (by kernel_rfl) (fun _ _ _ h=>h) (Or.inl ⟨by rfl,?y4⟩) hS0 ?_
 case y4=>(intro w hSw;obtain⟨q0,q1,q2,q3⟩:=hSw;go_simp;try with_reducible rfl)
 refine wpAnyH_take (i:=5) (v:=?v5) rfl (by kernel_rfl) (by kernel_rfl) (by kernel_rfl) (fun _ _ _ h=>h) (Or.inl ⟨by rfl,?y5⟩) hS0 ?_
 case y5=>(intro w hSw;obtain⟨q0,q1,q2,q3⟩:=hSw;go_simp;try with_reducible rfl)
 refine wpAnyH_take (i:=6) (v:=?v6) rfl (by kernel_rfl) (by kernel_rfl) (by kernel_rfl) (fun _ _ _ h=>h) (Or.inl ⟨by rfl,?y6⟩) hS0 ?_
 case y6=>(intro w hSw;obtain⟨q0,q1,q2,q3⟩:=hSw;go_simp;try with_reducible rfl)
 refine wpAnyH_take (i:=7) (v:=?v7) rfl (by kernel_rfl) (by kernel_rfl) (by kernel_rfl) (fun _ _ _ h=>h) (Or.inl ⟨by rfl,?y7⟩) hS0 ?_
 case y7=>(intro w hSw;obtain⟨q0,q1,q2,q3⟩:=hSw;go_simp;try with_reducible rfl)
 refine wpAnyH_take (i:=8) (v:=?v8) rfl (by kernel_rfl) (by kernel_rfl) (by kernel_rfl) (fun _ _ _ h=>h) (Or.inl ⟨by rfl,?y8⟩) hS0 ?_
 case y8=>(intro w hSw;obtain⟨q0,q1,q2,q3⟩:=hSw;go_simp;try with_reducible rfl)
 refine wpAnyH_ready (rs:=[9]) (by kernel_rfl) (by simp) ?_;refine AllReadyH.cons rfl (fun K hK=>?_) AllReadyH.nil;go_simp;refine hK.out _ _ (hS _ (hb1.alloc (by simp [hs0]) _)) (fun hS1=>?_);clear hK K;refine wpAnyH_ready (rs:=[10]) (by kernel_rfl) (by simp) ?_;refine AllReadyH.cons rfl (fun K hK=>?_) AllReadyH.nil;go_simp;have hb2:Below (w.heap.size+1) W1 (W1.alloc (.cells #[.int .i64 ak,.int .u64 au,.int .u64 at_,.int .i64 tr,.bool pd] 153)).drew:=((Below.refl _ _).alloc (by omega) _).drew
 have bT:BoxN (W1.alloc (.cells #[.int .i64 ak,.int .u64 au,.int .u64 at_,.int .i64 tr,.bool pd] 153)).drew (w.heap.size+1) 153 #[.int .i64 ak,.int .u64 au,.int .u64 at_,.int .i64 tr,.bool pd]:=by
  have h:=BoxN.new W1 153 #[.int .i64 ak,.int .u64 au,.int .u64 at_,.int .i64 tr,.bool pd];rw [hs0] at h;exact h
 refine hK.out _ _ (hS _ hb2) (fun hS2=>?_);clear hK K;refine wpAnyH_ready (rs:=[11]) (by kernel_rfl) (by simp) ?_;refine AllReadyH.cons rfl (fun K hK=>?_) AllReadyH.nil;go_simp;refine hK.out _ _ hS2 (fun _=>?_);clear hK K;refine wpAnyH_done (by kernel_rfl) ?_ _;have hBf:Below w.heap.size w (W1.alloc (.cells #[.int .i64 ak,.int .u64 au,.int .u64 at_,.int .i64 tr,.bool pd] 153)).drew:=hB0.trans (hb2.mono (by omega));clear hS hP hS0 hS1 hS2 hb1 hb2 hB0 bN;generalize (W1.alloc (.cells #[.int .i64 ak,.int .u64 au,.int .u64 at_,.int .i64 tr,.bool pd] 153)).drew=W2 at *;have hL:=entryLive (w.heap.size+1) pd W2 (bT.cell 4 rfl);cases b
 ·go_wp2_with (go_at_call 89;fail)
  go_ret;exact⟨rfl,hBf⟩
 ·go_wp2_with (go_at_call 89;refine hL.mono ?_;rintro e w5 ⟨rfl,rfl⟩)
  go_ret;exact⟨by simp,hBf⟩
theorem Tryz.isLive_hit (vb mt ml:Nat) (vx:VX) (tm tn ln:Int) (tks:List TokE) (lks:List LeaE) (w:World) (hV:VaultAt w vb mt ml vx tm tn ln tks lks) (t:TokE) (ht:t∈tks) :
  Calls prog 83 #[.pointer (some ⟨vb,0,none⟩),nmV (1,(t.n:Int))] w fun e w'=>e=.returned (.bool (!t.pd))∧Below w.heap.size w w':=by
 have h:=isLive_any vb mt (1,(t.n:Int)) t.ak t.au t.at_ t.tr t.pd true w (fun W hb=>⟨(hV.below hb).v.cell 3 rfl,(hV.below hb).lookT ht⟩)
 simpa using h
end Go.Proofs
