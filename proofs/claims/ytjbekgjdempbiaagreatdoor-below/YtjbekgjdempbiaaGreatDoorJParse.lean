import Derived.Test.YtjbekgjdempbiaaGreatDoorJRefG
import Derived.Deep.RegionHeldLaw
import Derived.Deep.RegionLaw
import Derived.Deep.AppendLies
import Derived.Deep.RegionHeld3
import Derived.Test.YtjbekgjdempbiaaGreatDoorJRefA
import Derived.Test.YtjbekgjdempbiaaGreatDoorJMapOps
import Derived.Lib.AtoiErrMem
import Derived.Lib.ParseIntBCases
set_option maxRecDepth 100000
set_option maxHeartbeats 8000000
namespace Go.Proofs
open Go.RowKit Go.Sort Go.Lib Go.Shelf
def issueE (tm:Int) (id pth:List UInt8) (ttl most:Int) (L:List ThingD):Int:=
 if liveI tm id true L<0 then 1 else if pathI pth=false then 2 else if ttl=0∨most<ttl then 3 else if countI false L=14 then 4 else 0
def newTok (k m:Nat):ThingD:=⟨true,k,(m:Int),[],18446744073709551615,0,false,0⟩
abbrev cells3 (g vb i:Nat) (sl:Value) (k m:Nat) (W:World):Prop:=
 W.cell? ⟨vb,0,none⟩=some sl∧W.cell? ⟨vb,2,none⟩=some (.int .i64 k)∧W.cell? ⟨g,i*8+1,none⟩=some (.int .i64 m)
theorem cells3.below {g vb i:Nat} {sl:Value} {k m:Nat} {W W':World} (h:cells3 g vb i sl k m W) (hb:Below W.heap.size W W'):cells3 g vb i sl k m W':=
 ⟨cell_later hb h.1,cell_later hb h.2.1,cell_later hb h.2.2⟩
def newLea (k m:Nat) (pth:List UInt8) (a l:Int):ThingD:=⟨false,k,(m:Int),pth,a,l,false,0⟩
abbrev cells4 (g vb i:Nat) (sl:Value) (tm:Int) (k m:Nat) (W:World):Prop:=
 W.cell? ⟨vb,0,none⟩=some sl∧W.cell? ⟨vb,1,none⟩=some (.int .u64 tm)∧W.cell? ⟨vb,3,none⟩=some (.int .i64 k)∧W.cell? ⟨g,i*8+1,none⟩=some (.int .i64 m)
theorem cells4.below {g vb i:Nat} {sl:Value} {tm:Int} {k m:Nat} {W W':World} (h:cells4 g vb i sl tm k m W) (hb:Below W.heap.size W W'):cells4 g vb i sl tm k m W':=
 ⟨cell_later hb h.1,cell_later hb h.2.1,cell_later hb h.2.2.1,cell_later hb h.2.2.2⟩
end Go.Proofs
namespace Go.Proofs
open Go.RowKit Go.Sort Go.Lib Go.Shelf Go.Maps
attribute [local go_sem] Oper.semAt_some
def neverI:Int:=18446744073709551615
def minAt (xs:List InfoD):Int:=xs.foldl (fun m x=>min m x.at_) neverI
end Go.Proofs
namespace Go.Proofs
open Go.RowKit Go.Sort Go.Lib Go.Shelf
def kindI (c:UInt8):Int:=if c=116 then 1 else if c=108 then 2 else 0
def parseN:List UInt8→Int × Int
 | []=>(0,0)
 | c :: r=>match Lib.parseUintB 64 r with
  | .ok u=>if nmStr (kindI c) u=c :: r then (kindI c,(u:Int)) else (0,0)
  | _=>(0,0)
theorem Tryz.kindOf (c:UInt8) (w:World):Calls prog 119 #[.int .u8 c.toNat] w fun e w'=>e=.returned (.int .i64 (kindI c))∧w'=w:=by
 have h256:=c.toNat_lt
 by_cases h1:c=116
 ·subst h1
  go_enter func119,ntmps119;go_wp2;go_ret;exact⟨rfl,rfl⟩
 ·by_cases h2:c=108
  ·subst h2
   go_enter func119,ntmps119;go_wp2;go_ret;exact⟨rfl,rfl⟩
  ·have h1':((c.toNat:Int)==116)=false:=by
    simp;intro h;exact h1 (UInt8.toNat_inj.1 (by simpa using(by exact_mod_cast h:c.toNat=116)))
   have h2':((c.toNat:Int)==108)=false:=by
    simp;intro h;exact h2 (UInt8.toNat_inj.1 (by simpa using(by exact_mod_cast h:c.toNat=108)))
   have hfin:Hid (kindI c=0):=by show _=_;simp [kindI,h1,h2]
   generalize kindI c=r at *;generalize (c.toNat:Int)=z at *;clear h1 h2;go_enter func119,ntmps119;go_wp2;go_ret;exact⟨ret_int (show (0:Int)=r from (show r=0 from hfin).symm),rfl⟩
theorem bytes_tail (c:UInt8) (r:List UInt8):(⟨(c :: r).toArray⟩:ByteArray).extract 1 (r.length+1)=⟨r.toArray⟩:=by
 apply ByteArray.ext;rw [ByteArray.data_extract];simp
theorem parse_lt {r:List UInt8} {u:Nat} (h:Lib.parseUintB 64 r=.ok u):u<18446744073709551616:=by
 have:=Lib.parseUintB_le h;omega
theorem Tryz.parseBelow {w w':World} {s:ByteArray} (h:w'=w∨w'=Lib.bytesWorld w 5 s):Below w.heap.size w w':=by
 rcases h with rfl | rfl
 ·exact Below.refl _ _
 ·exact Lib.bytesWorld_below _ _ _
theorem Tryz.parse_nil (w:World):Calls prog 63 #[.string ⟨#[]⟩] w fun e w'=>e=.returned (.agg #[.int .i64 0,.int .u64 0])∧Below w.heap.size w w':=by
 go_enter func63,ntmps63;go_wp2;exact bodyPost_ret (v:=.agg #[.int .i64 0,.int .u64 0]) (by simp [results,results63,go_sem]) rfl ⟨rfl,(Below.refl _ _).alloc (Nat.le_refl _) _⟩
theorem Tryz.parse_ok (c:UInt8) (r:List UInt8) (u:Nat) (hp:Lib.parseUintB 64 r=.ok u) (hl:r.length≤1000000) (w:World) (hE:Env w) (h6:6≤w.heap.size) :
  Calls prog 63 #[.string ⟨(c :: r).toArray⟩] w fun e w'=>e=.returned (nmV (parseN (c :: r)))∧Below w.heap.size w w':=by
 have hpu:=fun W=>Any.strconv_ParseUint_10_at64_ok laysPu14 ⟨r.toArray⟩ (by simp [ByteArray.size];omega) u hp W
 change ∀ W,Calls prog 118 _ _ _ at hpu
 have hk:=fun W=>kindOf c W
 have hx:(⟨(c :: r).toArray⟩:ByteArray).extract 1 (r.length+1)=⟨r.toArray⟩:=bytes_tail c r;have hE1:Env (w.alloc (.cells #[.int .i64 0,.int .u64 0] 114)):=hE.below ((Below.refl _ w).alloc (Nat.le_refl _) _) h6;have hu64:u<18446744073709551616:=parse_lt hp
 have hS:=fun W hW h6=>nameString (kindI c) u hu64 W hW h6
 have hpn:Hid (parseN (c :: r)=if nmStr (kindI c) u=c :: r then (kindI c,(u:Int)) else (0,0)):=by show _=_;simp [parseN,hp]
 generalize parseN (c :: r)=pn at *;generalize kindI c=kc at *;go_enter func63,ntmps63
 go_wp2_with (first
  | (go_at_call 118;refine(hpu _).mono ?_;rintro e w1 ⟨rfl,hw1⟩;replace hw1:=parseBelow hw1)
  | (go_at_call 119;refine(hk _).mono ?_;rintro e w' ⟨rfl,rfl⟩))
 have hs1:=hw1.size;simp only [World.size_alloc] at hs1
 have hEW:=((hE1.below hw1 (by simp;omega)).below ((Below.refl _ _).alloc (Nat.le_refl _) (.cells #[.int .i64 kc,.int .u64 u] 114)) (by omega))
 have hb1:=((Below.refl w.heap.size w).alloc (Nat.le_refl _) (.cells #[.int .i64 0,.int .u64 0] 114)).trans (hw1.mono (by simp));have bR:=((BoxN.new w 114 #[.int .i64 0,.int .u64 0]).below hw1 (by simp)).alloc (.cells #[.int .i64 kc,.int .u64 u] 114);have bX:=BoxN.new w' 114 #[.int .i64 kc,.int .u64 u];refine(hS _ hEW (by simp;omega)).mono ?_;rintro e w2 ⟨rfl,hb2⟩;have hbF:=hb1.trans (((Below.refl _ _).alloc (by omega) (.cells #[.int .i64 kc,.int .u64 u] 114)).trans (hb2.mono (by simp;omega)));replace bR:=bR.below hb2 (by simp;omega);replace bX:=bX.below hb2 (by simp);have r0:=bR.cell 0 (v:=.int .i64 0) rfl;have r1:=bR.cell 1 (v:=.int .u64 0) rfl;have f0:=bR.frozen 0;have f1:=bR.frozen 1;have x0:=bX.cell 0 (v:=.int .i64 kc) rfl;have x1:=bX.cell 1 (v:=.int .u64 u) rfl;clear hS hpu hk hEW hE1 hE hb1;generalize nmStr kc u=tx at *
 by_cases hq:tx=c :: r
 ·have hq':(tx==c :: r)=true:=by simp [hq]
  have hfin:Hid (pn=(kc,(u:Int))):=by have h:=hpn;simp only [Hid] at h ⊢;rw [h,if_pos hq]
  clear hq hpn;go_wp2;refine bodyPost_ret (v:=.agg #[.int .i64 kc,.int .u64 u]) (by simp [results,results63,go_sem, *]) rfl ⟨by rw [show pn=_ from hfin];rfl,?_⟩;exact(hbF.setCell (p:=⟨w.heap.size,0,none⟩) (Nat.le_refl _) _).setCell (p:=⟨w.heap.size,1,none⟩) (Nat.le_refl _) _
 ·have hq':(tx==c :: r)=false:=by simp [hq]
  have hfin:Hid (pn=(0,0)):=by have h:=hpn;simp only [Hid] at h ⊢;rw [h,if_neg hq]
  clear hq hpn;go_wp2;refine bodyPost_ret (v:=.agg #[.int .i64 0,.int .u64 0]) (by simp [results,results63,go_sem, *]) rfl ⟨by rw [show pn=_ from hfin];rfl,?_⟩;exact(hbF.setCell (p:=⟨w.heap.size,0,none⟩) (Nat.le_refl _) _).setCell (p:=⟨w.heap.size,1,none⟩) (Nat.le_refl _) _
theorem Tryz.parse_bad (c:UInt8) (r:List UInt8) (hp:∀ u,Lib.parseUintB 64 r ≠ .ok u) (hl:r.length≤1000000) (w:World) (hE:Env w) (h6:6≤w.heap.size) :
  Calls prog 63 #[.string ⟨(c :: r).toArray⟩] w fun e w'=>e=.returned (nmV (parseN (c :: r)))∧Below w.heap.size w w':=by
 have hx:(⟨(c :: r).toArray⟩:ByteArray).extract 1 (r.length+1)=⟨r.toArray⟩:=bytes_tail c r;have hE1:Env (w.alloc (.cells #[.int .i64 0,.int .u64 0] 114)):=hE.below ((Below.refl _ w).alloc (Nat.le_refl _) _) h6
 have hpu:Calls prog 118 #[.string ⟨r.toArray⟩,.int .i64 10,.int .i64 64] (w.alloc (.cells #[.int .i64 0,.int .u64 0] 114)) fun e w'=>∃(z:Int) (tp:TypeId) (p:Value),e=.returned (.tuple #[.int .u64 z,.iface tp p])∧Below (w.heap.size+1) (w.alloc (.cells #[.int .i64 0,.int .u64 0] 114)) w':=by
  have hsz:(⟨r.toArray⟩:ByteArray).size≤281474976710656:=by simp [ByteArray.size];omega
  cases hpp:Lib.parseUintB 64 r with
  | ok u=>exact absurd hpp (hp u)
  | range =>
   obtain⟨tp,p,hv⟩:=hE1.rng;have h:=Any.strconv_ParseUint_10_at64_range_var laysPu14 ⟨r.toArray⟩ hsz hpp tp p _ hv
   exact h.mono fun e w' ⟨N,h1,_,_,h4⟩=>⟨_,_,_,h1,by simpa using h4⟩
  | _ =>
   obtain⟨tp,p,hv⟩:=hE1.syn;have h:=Any.strconv_ParseUint_10_at64_syntax_var laysPu14 ⟨r.toArray⟩ hsz hpp tp p _ hv
   exact h.mono fun e w' ⟨N,h1,_,_,h4⟩=>⟨_,_,_,h1,by simpa using h4⟩
 have hk:=fun W=>kindOf c W
 have hpn:Hid (parseN (c :: r)=(0,0)):=by
  show _=_
  cases hh:Lib.parseUintB 64 r with
  | ok u=>exact absurd hh (hp u)
  | _=>simp only [parseN,hh]
 generalize parseN (c :: r)=pn at *;generalize kindI c=kc at *;clear hp;go_enter func63,ntmps63
 go_wp2_with (first
  | (go_at_call 118;refine hpu.mono ?_;rintro e w1 ⟨z,tp,p,rfl,hw1⟩;have bR:=(BoxN.new w 114 #[.int .i64 0,.int .u64 0]).below hw1 (by simp);have hlt:=bR.lt;have r0:=bR.cell 0 (v:=.int .i64 0) rfl;have r1:=bR.cell 1 (v:=.int .u64 0) rfl;have f0:=bR.frozen 0;have f1:=bR.frozen 1)
  | (go_at_call 119;refine(hk _).mono ?_;rintro e w' ⟨rfl,rfl⟩))
 refine bodyPost_ret (v:=.agg #[.int .i64 0,.int .u64 0]) (by simp [results,results63,go_sem, *]) rfl ⟨by rw [show pn=_ from hpn];rfl,?_⟩;have hbF:=((Below.refl w.heap.size w).alloc (Nat.le_refl _) (.cells #[.int .i64 0,.int .u64 0] 114)).trans (hw1.mono (by omega));exact((hbF.setCell (p:=⟨w.heap.size,0,none⟩) (Nat.le_refl _) _).setCell (p:=⟨w.heap.size,1,none⟩) (Nat.le_refl _) _).alloc (by simp;omega) _
theorem Tryz.parse (s:ByteArray) (hl:s.size≤1000000) (w:World) (hE:Env w) (h6:6≤w.heap.size) :
  Calls prog 63 #[.string s] w fun e w'=>e=.returned (nmV (parseN s.data.toList))∧Below w.heap.size w w':=by
 obtain⟨⟨l⟩⟩:=s
 cases l with
 | nil=>exact parse_nil w
 | cons c r =>
  have hl':r.length≤1000000:=by simp [ByteArray.size] at hl;omega
  cases hp:Lib.parseUintB 64 r with
  | ok u=>exact parse_ok c r u hp hl' w hE h6
  | _=>exact parse_bad c r (by rw [hp];simp) hl' w hE h6
end Go.Proofs
