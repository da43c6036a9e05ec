import Derived.Test.YtjbekgjdempbiaaGreatDoorJRefH
import Derived.Deep.RegionHeldLaw
import Derived.Deep.RegionLaw
import Derived.Deep.AppendLies
import Derived.Deep.RegionHeld3
import Derived.Test.YtjbekgjdempbiaaGreatDoorJStr
import Derived.Test.YtjbekgjdempbiaaGreatDoorJMapOps
import Derived.Lib.AtoiErrMem
import Derived.Lib.ParseIntBCases
set_option maxRecDepth 100000
set_option maxHeartbeats 8000000
namespace Go.Proofs
open Go.RowKit Go.Sort Go.Lib Go.Shelf
def newTok (k m:Nat):ThingD:=⟨true,k,(m:Int),[],18446744073709551615,0,false,0⟩
abbrev cells3 (g vb i:Nat) (sl:Value) (k m:Nat) (W:World):Prop:=
 W.cell? ⟨vb,0,none⟩=some sl∧W.cell? ⟨vb,2,none⟩=some (.int .i64 k)∧W.cell? ⟨g,i*8+1,none⟩=some (.int .i64 m)
theorem cells3.below {g vb i:Nat} {sl:Value} {k m:Nat} {W W':World} (h:cells3 g vb i sl k m W) (hb:Below W.heap.size W W'):cells3 g vb i sl k m W':=
 ⟨cell_later hb h.1,cell_later hb h.2.1,cell_later hb h.2.2⟩
def newLea (k m:Nat) (pth:List UInt8) (a l:Int):ThingD:=⟨false,k,(m:Int),pth,a,l,false,0⟩
abbrev cells4 (g vb i:Nat) (sl:Value) (tm:Int) (k m:Nat) (W:World):Prop:=
 W.cell? ⟨vb,0,none⟩=some sl∧W.cell? ⟨vb,1,none⟩=some (.int .u64 tm)∧W.cell? ⟨vb,3,none⟩=some (.int .i64 k)∧W.cell? ⟨g,i*8+1,none⟩=some (.int .i64 m)
theorem cells4.below {g vb i:Nat} {sl:Value} {tm:Int} {k m:Nat} {W W':World} (h:cells4 g vb i sl tm k m W) (hb:Below W.heap.size W W'):cells4 g vb i sl tm k m W':=
 ⟨cell_later hb h.1,cell_later hb h.2.1,cell_later hb h.2.2.1,cell_later hb h.2.2.2⟩
end Go.Proofs
namespace Go.Proofs
open Go.RowKit Go.Sort Go.Lib Go.Shelf Go.Maps
attribute [local go_sem] Oper.semAt_some
def neverI:Int:=18446744073709551615
def minAt (xs:List InfoD):Int:=xs.foldl (fun m x=>min m x.at_) neverI
end Go.Proofs
namespace Go.Proofs
open Go.RowKit Go.Sort Go.Lib Go.Shelf
def kindI (c:UInt8):Int:=if c=116 then 1 else if c=108 then 2 else 0
def parseN:List UInt8→Int × Int
 | []=>(0,0)
 | c :: r=>match Lib.parseUintB 64 r with
  | .ok u=>if nmStr (kindI c) u=c :: r then (kindI c,(u:Int)) else (0,0)
  | _=>(0,0)
theorem Tryz.kindOf (c:UInt8) (w:World):Calls prog 119 #[.int .u8 c.toNat] w fun e w'=>e=.returned (.int .i64 (kindI c))∧w'=w:=by
 have h256:=c.toNat_lt
 by_cases h1:c=116
 ·subst h1
  go_enter func119,ntmps119;go_wp2;go_ret;exact⟨rfl,rfl⟩
 ·by_cases h2:c=108
  ·subst h2
   go_enter func119,ntmps119;go_wp2;go_ret;exact⟨rfl,rfl⟩
  ·have h1':((c.toNat:Int)==116)=false:=by
    simp;intro h;exact h1 (UInt8.toNat_inj.1 (by simpa using(by exact_mod_cast h:c.toNat=116)))
   have h2':((c.toNat:Int)==108)=false:=by
    simp;intro h;exact h2 (UInt8.toNat_inj.1 (by simpa using(by exact_mod_cast h:c.toNat=108)))
   have hfin:Hid (kindI c=0):=by show _=_;simp [kindI,h1,h2]
   generalize kindI c=r at *;generalize (c.toNat:Int)=z at *;clear h1 h2;go_enter func119,ntmps119;go_wp2;go_ret;exact⟨ret_int (show (0:Int)=r from (show r=0 from hfin).symm),rfl⟩
theorem bytes_tail (c:UInt8) (r:List UInt8):(⟨(c :: r).toArray⟩:ByteArray).extract 1 (r.length+1)=⟨r.toArray⟩:=by
 apply ByteArray.ext;rw [ByteArray.data_extract];simp
theorem parse_lt {r:List UInt8} {u:Nat} (h:Lib.parseUintB 64 r=.ok u):u<18446744073709551616:=by
 have:=Lib.parseUintB_le h;omega
theorem Tryz.parseBelow {w w':World} {s:ByteArray} (h:w'=w∨w'=Lib.bytesWorld w 5 s):Below w.heap.size w w':=by
 rcases h with rfl | rfl
 ·exact Below.refl _ _
 ·exact Lib.bytesWorld_below _ _ _
theorem Tryz.parse_nil (w:World):Calls prog 63 #[.string ⟨#[]⟩] w fun e w'=>e=.returned (.agg #[.int .i64 0,.int .u64 0])∧Below w.heap.size w w':=by
 go_enter func63,ntmps63;go_wp2;exact bodyPost_ret (v:=.agg #[.int .i64 0,.int .u64 0]) (by simp [results,results63,go_sem]) rfl ⟨rfl,(Below.refl _ _).alloc (Nat.le_refl _) _⟩
theorem Tryz.parse_ok (c:UInt8) (r:List UInt8) (u:Nat) (hp:Lib.parseUintB 64 r=.ok u) (hl:r.length≤1000000) (w:World) (hE:Env w) (h6:6≤w.heap.size) :
  Calls prog 63 #[.string ⟨(c :: r).toArray⟩] w fun e w'=>e=.returned (nmV (parseN (c :: r)))∧Below w.heap.size w w':=by
 have hpu:=fun W=>Any.strconv_ParseUint_10_at64_ok laysPu14 ⟨r.toArray⟩ (by simp [ByteArray.size];omega) u hp W
 change ∀ W,Calls prog 118 _ _ _ at hpu
 have hk:=fun W=>kindOf c W
 have hx:(⟨(c :: r).toArray⟩:ByteArray).extract 1 (r.length+1)=⟨r.toArray⟩:=bytes_tail c r;have hE1:Env (w.alloc (.cells #[.int .i64 0,.int .u64 0] 114)):=hE.below ((Below.refl _ w).alloc (Nat.le_refl _) _) h6;have hu64:u<18446744073709551616:=parse_lt hp
 have hS:=fun W hW h6=>nameString (kindI c) u hu64 W hW h6
 have hpn:Hid (parseN (c :: r)=if nmStr (kindI c) u=c :: r then (kindI c,(u:Int)) else (0,0)):=by show _=_;simp [parseN,hp]
 generalize parseN (c :: r)=pn at *;generalize kindI c=kc at *;go_enter func63,ntmps63
 go_wp2_with (first
  | (go_at_call 118;refine(hpu _).mono ?_;rintro e w1 ⟨rfl,hw1⟩;replace hw1:=parseBelow hw1)
  | (go_at_call 119;refine(hk _).mono ?_;rintro e w' ⟨rfl,rfl⟩))
 have hs1:=hw1.size;simp only [World.size_alloc] at hs1
 have hEW:=((hE1.below hw1 (by simp;omega)).below ((Below.refl _ _).alloc (Nat.le_refl _) (.cells #[.int .i64 kc,.int .u64 u] 114)) (by omega))
 have hb1:=((Below.refl w.heap.size w).alloc (Nat.le_refl _) (.cells #[.int .i64 0,.int .u64 0] 114)).trans (hw1.mono (by simp));have bR:=((BoxN.new w 114 #[.int .i64 0,.int .u64 0]).below hw1 (by simp)).alloc (.cells #[.int .i64 kc,.int .u64 u] 114);have bX:=BoxN.new w' 114 #[.int .i64 kc,.int .u64 u];refine(hS _ hEW (by simp;omega)).mono ?_;rintro e w2 ⟨rfl,hb2⟩;have hbF:=hb1.trans (((Below.refl _ _).alloc (by omega) (.cells #[.int .i64 kc,.int .u64 u] 114)).trans (hb2.mono (by simp;omega)));replace bR:=bR.below hb2 (by simp;omega);replace bX:=bX.below hb2 (by simp);have r0:=bR.cell 0 (v:=.int .i64 0) rfl;have r1:=bR.cell 1 (v:=.int .u64 0) rfl;have f0:=bR.frozen 0;have f1:=bR.frozen 1;have x0:=bX.cell 0 (v:=.int .i64 kc) rfl;have x1:=bX.cell 1 (v:=.int .u64 u) rfl;clear hS hpu hk hEW hE1 hE hb1;generalize nmStr kc u=tx at *
 by_cases hq:tx=c :: r
 ·have hq':(tx==c :: r)=true:=by simp [hq]
  have hfin:Hid (pn=(kc,(u:Int))):=by have h:=hpn;simp only [Hid] at h ⊢;rw [h,if_pos hq]
  clear hq hpn;go_wp2;refine bodyPost_ret (v:=.agg #[.int .i64 kc,.int .u64 u]) (by simp [results,results63,go_sem, *]) rfl ⟨by rw [show pn=_ from hfin];rfl,?_⟩;exact(hbF.setCell (p:=⟨w.heap.size,0,none⟩) (Nat.le_refl _) _).setCell (p:=⟨w.heap.size,1,none⟩) (Nat.le_refl _) _
 ·have hq':(tx==c :: r)=false:=by simp [hq]
  have hfin:Hid (pn=(0,0)):=by have h:=hpn;simp only [Hid] at h ⊢;rw [h,if_neg hq]
  clear hq hpn;go_wp2;refine bodyPost_ret (v:=.agg #[.int .i64 0,.int .u64 0]) (by simp [results,results63,go_sem, *]) rfl ⟨by rw [show pn=_ from hfin];rfl,?_⟩;exact(hbF.setCell (p:=⟨w.heap.size,0,none⟩) (Nat.le_refl _) _).setCell (p:=⟨w.heap.size,1,none⟩) (Nat.le_refl _) _
theorem Tryz.parse_bad (c:UInt8) (r:List UInt8) (hp:∀ u,Lib.parseUintB 64 r ≠ .ok u) (hl:r.length≤1000000) (w:World) (hE:Env w) (h6:6≤w.heap.size) :
  Calls prog 63 #[.string ⟨(c :: r).toArray⟩] w fun e w'=>e=.returned (nmV (parseN (c :: r)))∧Below w.heap.size w w':=by
 have hx:(⟨(c :: r).toArray⟩:ByteArray).extract 1 (r.length+1)=⟨r.toArray⟩:=bytes_tail c r;have hE1:Env (w.alloc (.cells #[.int .i64 0,.int .u64 0] 114)):=hE.below ((Below.refl _ w).alloc (Nat.le_refl _) _) h6
 have hpu:Calls prog 118 #[.string ⟨r.toArray⟩,.int .i64 10,.int .i64 64] (w.alloc (.cells #[.int .i64 0,.int .u64 0] 114)) fun e w'=>∃(z:Int) (tp:TypeId) (p:Value),e=.returned (.tuple #[.int .u64 z,.iface tp p])∧Below (w.heap.size+1) (w.alloc (.cells #[.int .i64 0,.int .u64 0] 114)) w':=by
  have hsz:(⟨r.toArray⟩:ByteArray).size≤281474976710656:=by simp [ByteArray.size];omega
  cases hpp:Lib.parseUintB 64 r with
  | ok u=>exact absurd hpp (hp u)
  | range =>
   obtain⟨tp,p,hv⟩:=hE1.rng;have h:=Any.strconv_ParseUint_10_at64_range_var laysPu14 ⟨r.toArray⟩ hsz hpp tp p _ hv
   exact h.mono fun e w' ⟨N,h1,_,_,h4⟩=>⟨_,_,_,h1,by simpa using h4⟩
  | _ =>
   obtain⟨tp,p,hv⟩:=hE1.syn;have h:=Any.strconv_ParseUint_10_at64_syntax_var laysPu14 ⟨r.toArray⟩ hsz hpp tp p _ hv
   exact h.mono fun e w' ⟨N,h1,_,_,h4⟩=>⟨_,_,_,h1,by simpa using h4⟩
 have hk:=fun W=>kindOf c W
 have hpn:Hid (parseN (c :: r)=(0,0)):=by
  show _=_
  cases hh:Lib.parseUintB 64 r with
  | ok u=>exact absurd hh (hp u)
  | _=>simp only [parseN,hh]
 generalize parseN (c :: r)=pn at *;generalize kindI c=kc at *;clear hp;go_enter func63,ntmps63
 go_wp2_with (first
  | (go_at_call 118;refine hpu.mono ?_;rintro e w1 ⟨z,tp,p,rfl,hw1⟩;have bR:=(BoxN.new w 114 #[.int .i64 0,.int .u64 0]).below hw1 (by simp);have hlt:=bR.lt;have r0:=bR.cell 0 (v:=.int .i64 0) rfl;have r1:=bR.cell 1 (v:=.int .u64 0) rfl;have f0:=bR.frozen 0;have f1:=bR.frozen 1)
  | (go_at_call 119;refine(hk _).mono ?_;rintro e w' ⟨rfl,rfl⟩))
 refine bodyPost_ret (v:=.agg #[.int .i64 0,.int .u64 0]) (by simp [results,results63,go_sem, *]) rfl ⟨by rw [show pn=_ from hpn];rfl,?_⟩;have hbF:=((Below.refl w.heap.size w).alloc (Nat.le_refl _) (.cells #[.int .i64 0,.int .u64 0] 114)).trans (hw1.mono (by omega));exact((hbF.setCell (p:=⟨w.heap.size,0,none⟩) (Nat.le_refl _) _).setCell (p:=⟨w.heap.size,1,none⟩) (Nat.le_refl _) _).alloc (by simp;omega) _
theorem Tryz.parse (s:ByteArray) (hl:s.size≤1000000) (w:World) (hE:Env w) (h6:6≤w.heap.size) :
  Calls prog 63 #[.string s] w fun e w'=>e=.returned (nmV (parseN s.data.toList))∧Below w.heap.size w w':=by
 obtain⟨⟨l⟩⟩:=s
 cases l with
 | nil=>exact parse_nil w
 | cons c r =>
  have hl':r.length≤1000000:=by simp [ByteArray.size] at hl;omega
  cases hp:Lib.parseUintB 64 r with
  | ok u=>exact parse_ok c r u hp hl' w hE h6
  | _=>exact parse_bad c r (by rw [hp];simp) hl' w hE h6
theorem parseM_snoc (M:Nat) (c:UInt8) (h1:48≤c.toNat) (h2:c.toNat≤57):∀(l:List UInt8) (acc u:Nat),Lib.parseUintM M acc l=.ok u→u<1844674407370955162→u*10+(c.toNat-48)≤M→Lib.parseUintM M acc (l ++ [c])=.ok (u*10+(c.toNat-48))
 | [],acc,u,h,hu,hm=>by
  have e:acc=u:=by simpa [Lib.parseUintM] using h
  subst e;simp only [List.nil_append,Lib.parseUintM];rw [if_pos ⟨h1,h2⟩,if_neg (by omega),if_neg (by omega)]
 | d :: l,acc,u,h,hu,hm=>by
  simp only [List.cons_append,Lib.parseUintM] at h ⊢
  split at h
  ·split at h
   ·cases h
   ·split at h
    ·cases h
    ·rename_i a b c'
     rw [if_pos a,if_neg b,if_neg c'];exact parseM_snoc M c h1 h2 l _ u h hu hm
  ·cases h
theorem dig_toNat (d:Nat) (h:d<10):(UInt8.ofNat (48+d)).toNat=48+d:=by simp;omega
theorem parseM_dec (u:Nat) (hu:u≤18446744073709551615):Lib.parseUintM 18446744073709551615 0 (Lib.decDigits u)=.ok u:=by
 induction u using Nat.strongRecOn with
 | ind u ih =>
  by_cases h:u<10
  ·rw [Lib.decDigits_one h]
   have hd:=dig_toNat u h;simp only [Lib.parseUintM,hd];rw [if_pos ⟨by omega,by omega⟩,if_neg (by omega),if_neg (by omega)]
   congr 1
   omega
  ·rw [Lib.decDigits,dif_neg h]
   have hd:=dig_toNat (u % 10) (by omega);have:=parseM_snoc 18446744073709551615 (UInt8.ofNat (48+u % 10)) (by omega) (by omega) _ 0 (u / 10) (ih (u / 10) (by omega) (by omega)) (by omega) (by omega);rw [this,hd]
   congr 1
   omega
theorem dec_ne_nil (u:Nat):Lib.decDigits u ≠ []:=by
 rw [Lib.decDigits]
 split <;> simp
theorem parse_dec (u:Nat) (hu:u<18446744073709551616):Lib.parseUintB 64 (Lib.decDigits u)=.ok u:=by
 unfold Lib.parseUintB;rw [if_neg (dec_ne_nil u)];exact parseM_dec u (by omega)
theorem dec_inj {u v:Nat} (hu:u<18446744073709551616) (hv:v<18446744073709551616) (h:Lib.decDigits u=Lib.decDigits v):u=v:=by
 have h1:=parse_dec u hu;rw [h,parse_dec v hv] at h1;injection h1 with h1;exact h1.symm
def kd (tk:Bool):Int:=if tk then 1 else 2
theorem ThingD.id_nm (t:ThingD):t.id=nmStr (kd t.token) t.n:=by
 cases h:t.token <;> simp [ThingD.id,nmStr,kd,h]
theorem nmStr_inj {a b:Bool} {n m:Nat} (hn:n<u64lim) (hm:m<u64lim) (h:nmStr (kd a) n=nmStr (kd b) m):a=b∧n=m:=by
 cases a <;> cases b <;> simp [nmStr,kd] at h
 ·exact⟨rfl,dec_inj hn hm h⟩
 ·exact⟨rfl,dec_inj hn hm h⟩
theorem parseN_nm (tk:Bool) {n:Nat} (h:n<u64lim):parseN (nmStr (kd tk) n)=(kd tk,(n:Int)):=by
 cases tk
 ·show parseN (108 :: Lib.decDigits n)=_
  simp only [parseN,parse_dec n h];rw [if_pos (show nmStr (kindI 108) n=108 :: Lib.decDigits n from rfl)];rfl
 ·show parseN (116 :: Lib.decDigits n)=_
  simp only [parseN,parse_dec n h];rw [if_pos (show nmStr (kindI 116) n=116 :: Lib.decDigits n from rfl)];rfl
def thT (t:TokE):ThingD:=⟨true,t.n,if t.ak=1 then (t.au:Int) else -1,[],t.at_,0,t.pd,t.tr⟩
def thL (l:LeaE):ThingD:=⟨false,l.n,(l.au:Int),l.pth,l.at_,l.last,l.pd,l.tr⟩
structure Rel (tks:List TokE) (lks:List LeaE) (L:List ThingD):Prop where
 toks:L.filter (fun t=>t.token==true)=tks.map thT
 leas:L.filter (fun t=>t.token==false)=lks.map thL
 akT:∀ t∈tks,t.ak=1∨t.ak=0
 akL:∀ l∈lks,l.ak=1
theorem filter_token_len (L:List ThingD):L.length=(L.filter (fun t=>t.token==true)).length+(L.filter (fun t=>t.token==false)).length:=by
 induction L with
 | nil=>rfl
 | cons x L ih=>cases h:x.token <;> simp [h] at ih ⊢ <;> omega
theorem inj_of_pw {α:Type} {f:α→Nat}:∀ {l:List α},l.Pairwise (fun a b=>f a<f b)→∀ {x y:α},x∈l→y∈l→f x=f y→x=y
 | [],_,_,_,hx,_,_=>by cases hx
 | a :: l,h,x,y,hx,hy,he=>by
  obtain⟨h1,h2⟩:=List.pairwise_cons.1 h
  rcases List.mem_cons.1 hx with rfl | hx' <;> rcases List.mem_cons.1 hy with rfl | hy'
  ·rfl
  ·have:=h1 y hy';omega
  ·have:=h1 x hx';omega
  ·exact inj_of_pw h2 hx' hy' he
section
variable {tks:List TokE} {lks:List LeaE} {L:List ThingD}
theorem Rel.len (h:Rel tks lks L):L.length=tks.length+lks.length:=by
 rw [filter_token_len L,h.toks,h.leas,List.length_map,List.length_map]
theorem Rel.tok_mem (h:Rel tks lks L) {x:ThingD} (hx:x∈L) (ht:x.token=true):∃ t∈tks,thT t=x:=by
 have:x∈L.filter (fun t=>t.token==true):=List.mem_filter.2 ⟨hx,by simp [ht]⟩;rw [h.toks] at this
 simpa using this
theorem Rel.lea_mem (h:Rel tks lks L) {x:ThingD} (hx:x∈L) (ht:x.token=false):∃ t∈lks,thL t=x:=by
 have:x∈L.filter (fun t=>t.token==false):=List.mem_filter.2 ⟨hx,by simp [ht]⟩;rw [h.leas] at this
 simpa using this
theorem Rel.mem_tok (h:Rel tks lks L) {t:TokE} (ht:t∈tks):thT t∈L:=by
 have:thT t∈L.filter (fun t=>t.token==true):=by rw [h.toks];exact List.mem_map.2 ⟨t,ht,rfl⟩
 exact(List.mem_filter.1 this).1
theorem Rel.mem_lea (h:Rel tks lks L) {t:LeaE} (ht:t∈lks):thL t∈L:=by
 have:thL t∈L.filter (fun t=>t.token==false):=by rw [h.leas];exact List.mem_map.2 ⟨t,ht,rfl⟩
 exact(List.mem_filter.1 this).1
theorem Rel.uniq (h:Rel tks lks L) (ok:ListsOk tks lks) {x y:ThingD} (hx:x∈L) (hy:y∈L) (ht:x.token=y.token) (hn:x.n=y.n):x=y:=by
 cases hb:x.token
 ·obtain⟨a,ha,rfl⟩:=h.lea_mem hx hb
  obtain⟨b,hb',rfl⟩:=h.lea_mem hy (ht ▸ hb);rw [inj_of_pw ok.incL ha hb' hn]
 ·obtain⟨a,ha,rfl⟩:=h.tok_mem hx hb
  obtain⟨b,hb',rfl⟩:=h.tok_mem hy (ht ▸ hb);rw [inj_of_pw ok.incT ha hb' hn]
theorem Rel.num (h:Rel tks lks L) (ok:ListsOk tks lks) {x:ThingD} (hx:x∈L):x.n<u64lim:=by
 cases hb:x.token
 ·obtain⟨a,ha,rfl⟩:=h.lea_mem hx hb
  exact(ok.limL a ha).1
 ·obtain⟨a,ha,rfl⟩:=h.tok_mem hx hb
  exact(ok.limT a ha).1
theorem foldl_min_split:∀(L:List ThingD) (m m':Int),L.foldl (fun m t=>min m t.at_) (min m m')=min ((L.filter (fun t=>t.token==true)).foldl (fun m t=>min m t.at_) m) ((L.filter (fun t=>t.token==false)).foldl (fun m t=>min m t.at_) m')
 | [],_,_=>rfl
 | x :: L,m,m'=>by
  cases h:x.token
  ·have:=foldl_min_split L m (min m' x.at_)
   simp only [List.foldl_cons,List.filter_cons,h];rw [← Int.min_assoc] at this
   simpa using this
  ·have:=foldl_min_split L (min m x.at_) m'
   simp only [List.foldl_cons,List.filter_cons,h];rw [show min (min m x.at_) m'=min (min m m') x.at_ by omega] at this
   simpa using this
theorem foldl_min_start:∀(xs:List InfoD) (m m':Int),xs.foldl (fun m x=>min m x.at_) (min m m')=min m (xs.foldl (fun m x=>min m x.at_) m')
 | [],_,_=>rfl
 | x :: xs,m,m'=>by
  simp only [List.foldl_cons];rw [Int.min_assoc];exact foldl_min_start xs m (min m' x.at_)
theorem Rel.next (h:Rel tks lks L) (tm:Int):minAt (infosOf tm tks lks)=minT L:=by
 have h1:=foldl_min_split L 18446744073709551615 18446744073709551615;rw [h.toks,h.leas,List.foldl_map,List.foldl_map] at h1;rw [show min (18446744073709551615:Int) 18446744073709551615=18446744073709551615 by omega] at h1;rw [minT,h1];unfold minAt infosOf neverI;rw [List.foldl_append,List.foldl_map,List.foldl_map];have h2:=foldl_min_start (lks.map (LeaE.info tm)) (tks.foldl (fun m t=>min m t.info.at_) 18446744073709551615) 18446744073709551615;rw [List.foldl_map,List.foldl_map] at h2
 have h3:min (tks.foldl (fun m t=>min m t.info.at_) 18446744073709551615) 18446744073709551615=tks.foldl (fun m t=>min m t.info.at_) 18446744073709551615:=by
  have h4:=foldl_min_start (tks.map TokE.info) 18446744073709551615 18446744073709551615;rw [List.foldl_map,List.foldl_map,show min (18446744073709551615:Int) 18446744073709551615=18446744073709551615 by omega] at h4;omega
 rw [h3] at h2;exact h2
end
end Go.Proofs
