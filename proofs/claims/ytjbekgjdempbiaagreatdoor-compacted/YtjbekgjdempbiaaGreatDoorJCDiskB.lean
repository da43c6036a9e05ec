import Derived.Test.YtjbekgjdempbiaaGreatDoorJLInfo
import Derived.Test.YtjbekgjdempbiaaGreatDoorJMapN
import Derived.Test.YtjbekgjdempbiaaGreatDoorJBox
import Derived.Lib.AtoiErrMem
import Derived.Lib.ParseIntBCases
import Derived.Test.YtjbekgjdempbiaaGreatDoorJSets
import Derived.Carry
import Derived.Lib.ItoaNum
import Derived.Laws.RangeAny
import Derived.Lib.ItoaLen
import Derived.Deep.RegionHeldLaw
import Derived.Deep.RegionLaw
import Derived.Deep.AppendLies
import Derived.Deep.RegionHeld3
import Derived.RangeFuncBox
set_option maxRecDepth 100000
set_option maxHeartbeats 8000000
namespace Go.Proofs
open Go.RowKit Go.Sort Go.Lib Go.Shelf
def kindI (c:UInt8):Int:=if c=116 then 1 else if c=108 then 2 else 0
def parseN:List UInt8->Int × Int
 | []=>(0,0)
 | c :: r=>match Lib.parseUintB 64 r with
  | .ok u=>if nmStr (kindI c) u=c :: r then (kindI c,(u:Int)) else (0,0)
  | _=>(0,0)
theorem Tryz.kindOf (c:UInt8) (w:World):Calls prog 119 #[.int .u8 c.toNat] w fun e w'=>e=.returned (.int .i64 (kindI c))/\w'=w:=by
 have h256:=c.toNat_lt
 by_cases h1:c=116
 ·subst h1
  go_enter func119,ntmps119;go_wp2;go_ret;exact⟨rfl,rfl⟩
 by_cases h2:c=108
 ·subst h2
  go_enter func119,ntmps119;go_wp2;go_ret;exact⟨rfl,rfl⟩
 have h1':((c.toNat:Int)==116)=false:=by
  simp;intro h;exact h1 (UInt8.toNat_inj.1 (by simpa using(by exact_mod_cast h:c.toNat=116)))
 have h2':((c.toNat:Int)==108)=false:=by
  simp;intro h;exact h2 (UInt8.toNat_inj.1 (by simpa using(by exact_mod_cast h:c.toNat=108)))
 have hfin:Hid (kindI c=0):=by show _=_;simp [kindI,h1,h2]
 generalize kindI c=r at *;generalize (c.toNat:Int)=z at *;clear h1 h2;go_enter func119,ntmps119;go_wp2;go_ret;exact⟨Yj (show (0:Int)=r from (show r=0 from hfin).symm),rfl⟩
theorem Xbz (c:UInt8) (r:List UInt8):(⟨(c :: r).toArray⟩:ByteArray).extract 1 (r.length+1)=⟨r.toArray⟩:=by
 apply ByteArray.ext;rw [ByteArray.data_extract];simp
theorem Xme {r:List UInt8} {u:Nat} (h:Lib.parseUintB 64 r=.ok u):u<18446744073709551616:=by
 have:=Lib.parseUintB_le h;omega
theorem Tryz.Xbf {w w':World} {s:ByteArray} (h:w'=w\/w'=Lib.bytesWorld w 5 s):Below w.heap.size w w':=by
 rcases h with rfl | rfl
 ·exact Below.refl _ _
 exact Lib.bytesWorld_below _ _ _
theorem Tryz.Xji (w:World):Calls prog 63 #[.string ⟨#[]⟩] w fun e w'=>e=.returned (.agg #[.int .i64 0,.int .u64 0])/\Below w.heap.size w w':=by
 go_enter func63,ntmps63;go_wp2;exact bodyPost_ret (v:=.agg #[.int .i64 0,.int .u64 0]) (by simp [results,results63,go_sem]) rfl ⟨rfl,(Below.refl _ _).alloc (Nat.le_refl _) _⟩
theorem Tryz.Xkp (c:UInt8) (r:List UInt8) (u:Nat) (hp:Lib.parseUintB 64 r=.ok u) (hl:r.length<=1000000) (w:World) (hE:Env w) (h6:6<=w.heap.size) :
  Calls prog 63 #[.string ⟨(c :: r).toArray⟩] w fun e w'=>e=.returned (nmV (parseN (c :: r)))/\Below w.heap.size w w':=by
 have hpu:=fun W=>Any.strconv_ParseUint_10_at64_ok Jz ⟨r.toArray⟩ (by simp [ByteArray.size];omega) u hp W
 change ∀ W,Calls prog 118 _ _ _ at hpu
 have hk:=fun W=>kindOf c W
 have hx:(⟨(c :: r).toArray⟩:ByteArray).extract 1 (r.length+1)=⟨r.toArray⟩:=Xbz c r;have hE1:Env (w.alloc (.cells #[.int .i64 0,.int .u64 0] 114)):=hE.below ((Below.refl _ w).alloc (Nat.le_refl _) _) h6;have hu64:u<18446744073709551616:=Xme hp
 have hS:=fun W hW h6=>Zb (kindI c) u hu64 W hW h6
 have hpn:Hid (parseN (c :: r)=if nmStr (kindI c) u=c :: r then (kindI c,(u:Int)) else (0,0)):=by show _=_;simp [parseN,hp]
 generalize parseN (c :: r)=pn at *;generalize kindI c=kc at *;go_enter func63,ntmps63
 go_wp2_with (first
  | (go_at_call 118;refine(hpu _).mono ?_;rintro e w1 ⟨rfl,hw1⟩;replace hw1:=Xbf hw1)
  | (go_at_call 119;refine(hk _).mono ?_;rintro e w' ⟨rfl,rfl⟩))
 have hs1:=hw1.size;simp only [World.size_alloc] at hs1
 have hEW:=((hE1.below hw1 (by simp;omega)).below ((Below.refl _ _).alloc (Nat.le_refl _) (.cells #[.int .i64 kc,.int .u64 u] 114)) (by omega))
 have hb1:=((Below.refl w.heap.size w).alloc (Nat.le_refl _) (.cells #[.int .i64 0,.int .u64 0] 114)).trans (hw1.mono (by simp));have bR:=((BoxN.new w 114 #[.int .i64 0,.int .u64 0]).below hw1 (by simp)).alloc (.cells #[.int .i64 kc,.int .u64 u] 114);have bX:=BoxN.new w' 114 #[.int .i64 kc,.int .u64 u];refine(hS _ hEW (by simp;omega)).mono ?_;rintro e w2 ⟨rfl,hb2⟩;have hbF:=hb1.trans (((Below.refl _ _).alloc (by omega) (.cells #[.int .i64 kc,.int .u64 u] 114)).trans (hb2.mono (by simp;omega)));replace bR:=bR.below hb2 (by simp;omega);replace bX:=bX.below hb2 (by simp);have r0:=bR.cell 0 (v:=.int .i64 0) rfl;have r1:=bR.cell 1 (v:=.int .u64 0) rfl;have f0:=bR.frozen 0;have f1:=bR.frozen 1;have x0:=bX.cell 0 (v:=.int .i64 kc) rfl;have x1:=bX.cell 1 (v:=.int .u64 u) rfl;clear hS hpu hk hEW hE1 hE hb1;generalize nmStr kc u=tx at *
 by_cases hq:tx=c :: r
 focus
  have hq':(tx==c :: r)=true:=by simp [hq]
  have hfin:Hid (pn=(kc,(u:Int))):=by have h:=hpn;simp only [Hid] at h ⊢;rw [h,if_pos hq]
  clear hq hpn;go_wp2;refine bodyPost_ret (v:=.agg #[.int .i64 kc,.int .u64 u]) (by simp [results,results63,go_sem, *]) rfl ⟨by rw [show pn=_ from hfin];rfl,?_⟩
 rotate_left
 focus
  have hq':(tx==c :: r)=false:=by simp [hq]
  have hfin:Hid (pn=(0,0)):=by have h:=hpn;simp only [Hid] at h ⊢;rw [h,if_neg hq]
  clear hq hpn;go_wp2;refine bodyPost_ret (v:=.agg #[.int .i64 0,.int .u64 0]) (by simp [results,results63,go_sem, *]) rfl ⟨by rw [show pn=_ from hfin];rfl,?_⟩
 rotate_left
 all_goals
  exact(hbF.setCell (p:=⟨w.heap.size,0,none⟩) (Nat.le_refl _) _).setCell (p:=⟨w.heap.size,1,none⟩) (Nat.le_refl _) _
theorem Tryz.Xit (c:UInt8) (r:List UInt8) (hp:∀ u,Lib.parseUintB 64 r ≠ .ok u) (hl:r.length<=1000000) (w:World) (hE:Env w) (h6:6<=w.heap.size) :
  Calls prog 63 #[.string ⟨(c :: r).toArray⟩] w fun e w'=>e=.returned (nmV (parseN (c :: r)))/\Below w.heap.size w w':=by
 have hx:(⟨(c :: r).toArray⟩:ByteArray).extract 1 (r.length+1)=⟨r.toArray⟩:=Xbz c r;have hE1:Env (w.alloc (.cells #[.int .i64 0,.int .u64 0] 114)):=hE.below ((Below.refl _ w).alloc (Nat.le_refl _) _) h6
 have hpu:Calls prog 118 #[.string ⟨r.toArray⟩,.int .i64 10,.int .i64 64] (w.alloc (.cells #[.int .i64 0,.int .u64 0] 114)) fun e w'=>∃(z:Int) (tp:TypeId) (p:Value),e=.returned (.tuple #[.int .u64 z,.iface tp p])/\Below (w.heap.size+1) (w.alloc (.cells #[.int .i64 0,.int .u64 0] 114)) w':=by
  have hsz:(⟨r.toArray⟩:ByteArray).size<=281474976710656:=by simp [ByteArray.size];omega
  cases hpp:Lib.parseUintB 64 r with
  | ok u=>exact absurd hpp (hp u)
  | range =>
   obtain⟨tp,p,hv⟩:=hE1.rng;have h:=Any.strconv_ParseUint_10_at64_range_var Jz ⟨r.toArray⟩ hsz hpp tp p _ hv
   exact h.mono fun e w' ⟨N,h1,_,_,h4⟩=>⟨_,_,_,h1,by simpa using h4⟩
  | _ =>
   obtain⟨tp,p,hv⟩:=hE1.syn;have h:=Any.strconv_ParseUint_10_at64_syntax_var Jz ⟨r.toArray⟩ hsz hpp tp p _ hv
   exact h.mono fun e w' ⟨N,h1,_,_,h4⟩=>⟨_,_,_,h1,by simpa using h4⟩
 have hk:=fun W=>kindOf c W
 have hpn:Hid (parseN (c :: r)=(0,0)):=by
  show _=_
  cases hh:Lib.parseUintB 64 r with
  | ok u=>exact absurd hh (hp u)
  | _=>simp only [parseN,hh]
 generalize parseN (c :: r)=pn at *;generalize kindI c=kc at *;clear hp;go_enter func63,ntmps63
 go_wp2_with (first
  | (go_at_call 118;refine hpu.mono ?_;rintro e w1 ⟨z,tp,p,rfl,hw1⟩;have bR:=(BoxN.new w 114 #[.int .i64 0,.int .u64 0]).below hw1 (by simp);have hlt:=bR.lt;have r0:=bR.cell 0 (v:=.int .i64 0) rfl;have r1:=bR.cell 1 (v:=.int .u64 0) rfl;have f0:=bR.frozen 0;have f1:=bR.frozen 1)
  | (go_at_call 119;refine(hk _).mono ?_;rintro e w' ⟨rfl,rfl⟩))
 refine bodyPost_ret (v:=.agg #[.int .i64 0,.int .u64 0]) (by simp [results,results63,go_sem, *]) rfl ⟨by rw [show pn=_ from hpn];rfl,?_⟩;have hbF:=((Below.refl w.heap.size w).alloc (Nat.le_refl _) (.cells #[.int .i64 0,.int .u64 0] 114)).trans (hw1.mono (by omega));exact((hbF.setCell (p:=⟨w.heap.size,0,none⟩) (Nat.le_refl _) _).setCell (p:=⟨w.heap.size,1,none⟩) (Nat.le_refl _) _).alloc (by simp;omega) _
theorem Tryz.parse (s:ByteArray) (hl:s.size<=1000000) (w:World) (hE:Env w) (h6:6<=w.heap.size) :
  Calls prog 63 #[.string s] w fun e w'=>e=.returned (nmV (parseN s.data.toList))/\Below w.heap.size w w':=by
 obtain⟨⟨l⟩⟩:=s
 cases l with
 | nil=>exact Xji w
 | cons c r =>
  have hl':r.length<=1000000:=by simp [ByteArray.size] at hl;omega
  cases hp:Lib.parseUintB 64 r with
  | ok u=>exact Xkp c r u hp hl' w hE h6
  | _=>exact Xit c r (by rw [hp];simp) hl' w hE h6
end Go.Proofs
namespace Go.Proofs
open Go.RowKit Go.Sort Go.Maps Go.WideMaps
def jName:List UInt8:=[106,111,117,114,110,97,108]
def Zx (b:Nat):Value:=.pointer (some ⟨b,0,none⟩)
def fileN (n:Nat):List UInt8:=if n=0 then jName else jName++Lib.decDigits n
def Yc (fm:List UInt8):Option Nat->DataW Value
 | none=>.map []
 | some b=>.map [(.string fm,.held (Zx b))]
theorem M5 (fm:List UInt8):(Lit.string fm).sameKey (.string fm)=true:=by simp [Lit.sameKey]
theorem Xju (fm:List UInt8) (o:Option Nat) (b:Nat):(Yc fm o).put (.string fm) (.held (Zx b))=Yc fm (some b):=by
 cases o
 ·rfl
 simp [Yc,DataW.put,M5];rfl
theorem J0 (fm:List UInt8) (o:Option Nat):Maps.has (Yc fm o) (.string fm)=o.isSome:=by
 cases o
 ·rfl
 simp [Yc,Maps.has,M5]
theorem Mm (fm:List UInt8) (o:Option Nat) (z:DataW Value):(Yc fm o).atKey (.string fm) z=(match o with | some b=>.held (Zx b) | none=>z):=by
 cases o
 ·rfl
 simp [Yc,DataW.atKey,M5]
theorem Tryz.Xje {fm:List UInt8} (h:fm.length<=100):keyOf prog 9 (.string ⟨fm.toArray⟩)=some (.string fm):=by
 have:=keyOf_string_mk (P:=prog) (k:=9) (s:=⟨fm.toArray⟩) underlying9 (by unfold maxLen;simp [ByteArray.size];omega)
 simpa using this
theorem Tryz.Xgz (w:World):(zeroValue 101).run prog w=.ok (.pointer none) w:=zeroValue101 w
theorem Tryz.Xae:Keyed prog 9:=string_keyed underlying9
section
variable {W:World} {m n:Nat} {fm:List UInt8}
theorem Tryz.Xk0 {b:Nat} (hn:fm.length<=100) (h:W.ownsMap prog 9 X8 m n (Yc fm (some b))) :
  (Instr.lookup 97 (.map (some m)) (.string ⟨fm.toArray⟩) true).run prog W=.ok (.tuple #[Zx b,.bool true]) W:=by
 obtain⟨v,ps,hrun,hv⟩:=h.look_ok Xae underlying97 (Xgz W) (zd:=.held (.pointer none)) (zp:=[]) rfl (Xje hn);rw [Mm] at hv;rw [hrun,J0,Zq hv];rfl
theorem Tryz.Xb3 (hn:fm.length<=100) (h:W.ownsMap prog 9 X8 m n (Yc fm none)) :
  (Instr.lookup 97 (.map (some m)) (.string ⟨fm.toArray⟩) true).run prog W=.ok (.tuple #[.pointer none,.bool false]) W:=by
 obtain⟨v,ps,hrun,hv⟩:=h.look_ok Xae underlying97 (Xgz W) (zd:=.held (.pointer none)) (zp:=[]) rfl (Xje hn);rw [Mm] at hv;rw [hrun,J0,Zq hv];rfl
theorem Tryz.Xgn {o:Option Nat} (hnm:fm.length<=100) (h:W.ownsMap prog 9 X8 m n (Yc fm o)) (hn:n<=1000) (b:Nat) :
  ∃ w',(Instr.mapUpdate 97 (.map (some m)) (.string ⟨fm.toArray⟩) (Zx b)).run prog W=.ok () w'/\w'.ownsMap prog 9 X8 m 1 (Yc fm (some b))/\W.grownBy w' (some m):=by
 obtain⟨w',hrun,hM,hT⟩:=h.store Xae underlying97 (by unfold maxLen;omega) (Xje hnm) (val:=Zx b) (d:=.held (Zx b)) (ps:=[]) rfl;rw [Xju] at hM;refine⟨w',hrun,?_,hT.grown⟩;obtain⟨es,clock,hb,F,hs,hD⟩:=hM;refine⟨es,clock,hb,F,?_,hD⟩
 have:Maps.size (Yc fm (some b))=es.size:=by rw [hD];simp [Maps.size,length_sorted]
 rw [<- this];exact Nat.le_refl 1
end
theorem Tryz.Xno (db:Nat) (m1 m2 p:Value) (l f:Int) (w:World) (hD:BoxN w db 100 #[m1,m2,p,.int .i64 l,.int .i64 f,.bool false]) (hl:l<0) (hl1 : -1000000000<=l) (hf:f<0) (hf1 : -1000000000<=f) :
  Calls prog 314 #[.pointer (some ⟨db,0,none⟩)] w fun e w'=>e=.returned .nilIface/\w'=((w.setCell ⟨db,3,none⟩ (.int .i64 (l-1))).setCell ⟨db,4,none⟩ (.int .i64 (f-1))):=by
 have d3:=hD.cell 3 (v:=.int .i64 l) rfl;have d4:=hD.cell 4 (v:=.int .i64 f) rfl;have d5:=hD.cell 5 (v:=.bool false) rfl;have f3:=hD.frozen 3;have f4:=hD.frozen 4
 have e1:(l==0)=false:=by rw [beq_eq_false_iff_ne];omega
 have e2:(f==0)=false:=by rw [beq_eq_false_iff_ne];omega
 go_enter func314,ntmps314;go_wp2;go_ret;exact⟨rfl,rfl⟩
def Jn (o:Option (Nat × List UInt8)):List UInt8:=(o.map (·.2)).getD []
def Fl (o:Option (Nat × List UInt8)) (c:List UInt8):Prop:=Jn o=c/\(c = []->o=none)
theorem Fl.none:Fl none []:=⟨rfl,fun _=>rfl⟩
theorem Fl.some {b:Nat} {c:List UInt8} (h:c ≠ []):Fl (some (b,c)) c:=⟨rfl,fun e=>absurd e h⟩
theorem Xjy (a b:List UInt8):(⟨a.toArray⟩:ByteArray) ++ ⟨b.toArray⟩=⟨(a++b).toArray⟩:=by
 apply ByteArray.ext;simp
theorem Tryz.dDo {fm:List UInt8} (hnm:fm.length<=100) (m n:Nat) (o:Option (Nat × List UInt8)) (data:List UInt8) (w:World) (hM:w.ownsMap prog 9 X8 m n (Yc fm (o.map (·.1)))) (hn:n<=1000) (hs:∀ p,o=some p->BoxN w p.1 9 #[.string ⟨p.2.toArray⟩]) (hl:(Jn o).length+data.length<=1000000000000) :
  Calls prog 98 #[.map (some m),.agg #[.int .i64 2,.string ⟨fm.toArray⟩,.string ⟨data.toArray⟩]] w fun e w'=>e=.returned (.tuple #[])/\∃ b,w.heap.size<=b/\w'.ownsMap prog 9 X8 m 1 (Yc fm (some b))/\BoxN w' b 9 #[.string ⟨(Jn o++data).toArray⟩]/\Spares [m] w w':=by
 cases o with
 | none =>
  have hM1:=(hM.alloc (.cells #[.int .i64 2,.string ⟨fm.toArray⟩,.string ⟨data.toArray⟩] 172)).alloc (.cells #[.string ⟨data.toArray⟩] 9);have hL:=Xb3 hnm hM1;obtain⟨w2,hrun,hM2,hg2⟩:=Xgn hnm hM1 hn (w.heap.size+1);have b1:=BoxN.new (w.alloc (.cells #[.int .i64 2,.string ⟨fm.toArray⟩,.string ⟨data.toArray⟩] 172)) 9 #[.string ⟨data.toArray⟩];rw [World.size_alloc] at b1;have b2:=b1.kept hg2 (by intro e;injection e with e;have:=hM.lt;omega);have hsp:Spares [m] w w2:=(Spares.of_below (Ub w _ _)).trans (Spares.X4 hg2 (by simp));unfold Zx at hrun;go_enter func98,ntmps98;go_wp2
  go_end0
  exact⟨rfl,w.heap.size+1,by omega,hM2,b2,hsp⟩
 | some p =>
  obtain⟨pb,old⟩:=p;have hS:=hs _ rfl;have c0:=hS.cell 0 (v:=.string ⟨old.toArray⟩) rfl;have lt:pb<w.heap.size:=hS.lt;have hlen:old.length+data.length<=1000000000000:=hl
  have hfit:(((⟨old.toArray⟩:ByteArray).size+(⟨data.toArray⟩:ByteArray).size:Nat):Int)<=9223372036854775807:=by simp [ByteArray.size];omega
  have hM1:=(hM.alloc (.cells #[.int .i64 2,.string ⟨fm.toArray⟩,.string ⟨data.toArray⟩] 172)).alloc (.cells #[.string ⟨data.toArray⟩] 9);have hL:=Xk0 hnm hM1;unfold Zx at hL;go_enter func98,ntmps98;go_wp2
  go_region
  have hM3:=(hM.alloc (.cells #[.int .i64 2,.string ⟨fm.toArray⟩,.string ⟨data.toArray⟩] 172)).alloc (.cells #[.string ((⟨old.toArray⟩:ByteArray)++(⟨data.toArray⟩:ByteArray))] 9);obtain⟨w2,hrun,hM2,hg2⟩:=Xgn (W:=((w.alloc (.cells #[.int .i64 2,.string ⟨fm.toArray⟩,.string ⟨data.toArray⟩] 172)).alloc (.cells #[.string ((⟨old.toArray⟩:ByteArray)++(⟨data.toArray⟩:ByteArray))] 9)).drew) hnm hM3 hn (w.heap.size+1);have b1:=BoxN.new (w.alloc (.cells #[.int .i64 2,.string ⟨fm.toArray⟩,.string ⟨data.toArray⟩] 172)) 9 #[.string ((⟨old.toArray⟩:ByteArray)++(⟨data.toArray⟩:ByteArray))];rw [World.size_alloc] at b1;have b2:=BoxN.kept (W:=((w.alloc (.cells #[.int .i64 2,.string ⟨fm.toArray⟩,.string ⟨data.toArray⟩] 172)).alloc (.cells #[.string ((⟨old.toArray⟩:ByteArray)++(⟨data.toArray⟩:ByteArray))] 9)).drew) b1 hg2 (by intro e;injection e with e;have:=hM.lt;omega);have hsp:Spares [m] w w2:=((Spares.of_below (Ub w _ _)).drew).trans (Spares.X4 hg2 (by simp));unfold Zx at hrun;rw [Xjy] at b2;have B2:=Xb b2;clear hL hM1 hM3 b1 b2 hfit;go_wp2
  go_end0
  exact⟨rfl,w.heap.size+1,by omega,hM2,Xa B2,hsp⟩
theorem BoxN.Xl {H:Type} {P:Program} {k:TypeId} {R:Value->Option (DataW H × List MemPlace)} {D:DataW H} {W:World} {B b n:Nat} {t:TypeId} {cs:Array Value} (h:BoxN W B t cs) (hm:W.ownsMap P k R b n D):b≠B:=by
 rintro rfl;obtain⟨es,clock,hb,_⟩:=hm;have e:=hb.symm.trans h;cases e
structure Tryz.Xk (fm:List UInt8) (W:World) (db md mn:Nat) (fd fn:Option (Nat × List UInt8)) (p:Value) (l f:Int):Prop where
 box:BoxN W db 100 #[.map (some md),.map (some mn),p,.int .i64 l,.int .i64 f,.bool false]
 dm:∃ n,n<=1000/\W.ownsMap Tryz.prog 9 X8 md n (Yc fm (fd.map (·.1)))
 nm:∃ n,n<=1000/\W.ownsMap Tryz.prog 9 X8 mn n (Yc fm (fn.map (·.1)))
 sd:∀ q,fd=some q->BoxN W q.1 9 #[.string ⟨q.2.toArray⟩]
 sn:∀ q,fn=some q->BoxN W q.1 9 #[.string ⟨q.2.toArray⟩]
 ne:md≠mn
 nl:fm.length<=100
section
variable {fm:List UInt8} {W W':World} {db md mn:Nat} {fd fn:Option (Nat × List UInt8)} {p:Value} {l f:Int}
theorem Tryz.Xk.lt (h:Xk fm W db md mn fd fn p l f):db<W.heap.size/\md<W.heap.size/\mn<W.heap.size:=by
 obtain⟨n,_,hm⟩:=h.dm;obtain⟨n',_,hm'⟩:=h.nm;exact⟨h.box.lt,hm.lt,hm'.lt⟩
theorem Tryz.Xk.nes (h:Xk fm W db md mn fd fn p l f):md≠db/\mn≠db:=by
 obtain⟨n,_,hm⟩:=h.dm;obtain⟨n',_,hm'⟩:=h.nm;exact⟨h.box.Xl hm,h.box.Xl hm'⟩
theorem Tryz.Xk.spared (h:Xk fm W db md mn fd fn p l f) {bs:List Nat} (hS:Spares bs W W') (h1:db∉bs) (h2:md∉bs) (h3:mn∉bs) (h4:∀ q,fd=some q->q.1∉bs) (h5:∀ q,fn=some q->q.1∉bs):Xk fm W' db md mn fd fn p l f:=by
 obtain⟨n,hn,hm⟩:=h.dm;obtain⟨n',hn',hm'⟩:=h.nm;exact⟨hS.box h.box h1,⟨n,hn,hS.map hm h2⟩,⟨n',hn',hS.map hm' h3⟩,fun q hq=>hS.box (h.sd q hq) (h4 q hq),fun q hq=>hS.box (h.sn q hq) (h5 q hq),h.ne,h.nl⟩
theorem Tryz.Xk.below (h:Xk fm W db md mn fd fn p l f) (hb:Below W.heap.size W W'):Xk fm W' db md mn fd fn p l f:=
 h.spared (bs:=[]) (Spares.of_below hb) (by simp) (by simp) (by simp) (by simp) (by simp)
theorem Tryz.Xk.cells (h:Xk fm W db md mn fd fn p l f) {p':Value} {l' f':Int} (hS:Spares [db] W W') (hb:BoxN W' db 100 #[.map (some md),.map (some mn),p',.int .i64 l',.int .i64 f',.bool false]):Xk fm W' db md mn fd fn p' l' f':=by
 obtain⟨n,hn,hm⟩:=h.dm;obtain⟨n',hn',hm'⟩:=h.nm
 have s:∀ {q:Nat} {s:List UInt8},BoxN W q 9 #[.string ⟨s.toArray⟩]->BoxN W' q 9 #[.string ⟨s.toArray⟩]:=fun hq=>hS.box hq (by simpa using hq.ne h.box (by decide))
 exact⟨hb,⟨n,hn,hS.map hm (by simpa using h.nes.1)⟩,⟨n',hn',hS.map hm' (by simpa using h.nes.2)⟩,fun q hq=>s (h.sd q hq),fun q hq=>s (h.sn q hq),h.ne,h.nl⟩
end
end Go.Proofs
namespace Go.Proofs
open Go.RowKit Go.Sort Go.Lib Go.Shelf
theorem Xal (w:World) (o o':Obj) (s:ByteArray) (p:Nat):(((w.alloc o).alloc o').alloc (.stringIter s p)).iterPos (w.heap.size+2)=p:=by
 have:=World.iterPos_iter ((w.alloc o).alloc o') s p
 simpa [World.iter] using this
def Xg1 (h:Int) (c:UInt8):Int:=IntKind.u64.wrap (bits BinOp.xor IntKind.u64 h (c.toNat:Int)*1099511628211)
def sumI (s:List UInt8):Int:=s.foldl Xg1 14695981039346656037
theorem Xjf (h:Int) (c:UInt8):0<=Xg1 h c/\Xg1 h c<=18446744073709551615:=by
 unfold Xg1;generalize bits BinOp.xor IntKind.u64 h (c.toNat:Int)*1099511628211=z;simp [IntKind.wrap,IntKind.signed,IntKind.bits];omega
theorem Xab (s:List UInt8):0<=sumI s/\sumI s<=18446744073709551615:=by
 have:∀(s:List UInt8) (h:Int),0<=h/\h<=18446744073709551615->0<=s.foldl Xg1 h/\s.foldl Xg1 h<=18446744073709551615:=fun s=>by
  induction s with
  | nil=>exact fun h hh=>hh
  | cons c s ih=>exact fun h _=>ih _ (Xjf h c)
 exact this s _ (by omega)
theorem Xkr {s:List UInt8} {k:Nat} {c:UInt8} (h:s[k]? = some c):sumI (s.take (k+1))=Xg1 (sumI (s.take k)) c:=by
 unfold sumI;rw [List.take_add_one,h];simp
theorem Tryz.Xku (s:List UInt8) (w:World) (hs:s.length<=1000000000000) (ha:∀ b∈s,b.toNat<128) :
  Calls prog 177 #[.string ⟨s.toArray⟩] w fun e w'=>e=.returned (.agg #[.int .u64 (s.length:Int),.int .u64 (sumI s)])/\Below w.heap.size w w':=by
 go_enter func177,ntmps177;go_wp2;unfold World.iter
 go_loopw [] (fun wr=>∃(k:Nat) (a b:Int),(k<=s.length/\Hid (a=k/\b=sumI (s.take k)))/\wr=(((w.alloc (.cells #[.int .u64 0,.int .u64 0] 269)).alloc (.cells #[.int .u64 a,.int .u64 b] 269)).alloc (.stringIter ⟨s.toArray⟩ k))) (fun wr=>s.length-wr.iterPos (w.heap.size+2))
 case atStart=>exact⟨0,_,_,⟨Nat.zero_le _,Xb ⟨rfl,rfl⟩⟩,rfl⟩
 case round =>
  obtain⟨k,a,b,⟨hk,hab⟩,rfl⟩:=hrel
  by_cases hkl:k<s.length
  ·obtain⟨c,hc⟩:∃ c,s[k]? = some c:=⟨s[k],by simp [hkl]⟩
   have hck:((⟨s.toArray⟩:ByteArray)[k]'(by simpa [ByteArray.size] using hkl))=c:=by
    have h1:s[k]'hkl=c:=by simpa [hkl] using hc
    rw [<- h1];rfl
   have hks:k<(⟨s.toArray⟩:ByteArray).size:=by simpa [ByteArray.size] using hkl
   have h128:c.toNat<128:=ha c (List.mem_of_getElem? hc)
   have hnx:=fun ty=>run_next_ascii (P:=prog) ((w.alloc (.cells #[.int .u64 0,.int .u64 0] 269)).alloc (.cells #[.int .u64 a,.int .u64 b] 269)) ⟨s.toArray⟩ k ty hks (by rw [hck];exact h128)
   simp only [hck,World.size_alloc] at hnx
   obtain⟨r,hr⟩:∃ r:Int,(c.toNat:Int)=r:=⟨_,rfl⟩
   rw [hr] at hnx;unfold World.iter at hnx;have Hr:=Xb hr
   have hr0:0<=r:=by omega
   have hr1:r<128:=by omega
   have HT:=Xb (Xkr hc);clear hr;go_wp2;refine⟨⟨k+1,_,_,⟨by omega,Xb ⟨?_,?_⟩⟩,rfl⟩,?_⟩
   ·rw [(Xa hab).1]
    have:(k:Int)<=1000000000000:=by omega
    simp [IntKind.wrap,IntKind.signed,IntKind.bits];omega
   ·rw [Xa HT,(Xa hab).2,<- Xa Hr]
    rfl
   rw [Xal,Xal];omega
  obtain rfl:k=s.length:=by omega
  have hks:¬ s.length<(⟨s.toArray⟩:ByteArray).size:=by simp [ByteArray.size]
  have hnx:=fun ty=>run_next_end (P:=prog) ((w.alloc (.cells #[.int .u64 0,.int .u64 0] 269)).alloc (.cells #[.int .u64 a,.int .u64 b] 269)) ⟨s.toArray⟩ s.length ty hks
  simp only [World.size_alloc] at hnx;unfold World.iter at hnx;obtain⟨e1,e2⟩:=Xa hab;rw [List.take_length] at e2;have HZ:=Xb e2;clear e2 hab;subst e1;go_wp2;exact bodyPost_ret (v:=.agg #[.int .u64 (s.length:Int),.int .u64 b]) (by simp [results,results177,go_sem]) rfl ⟨by rw [Xa HZ],(Ub w _ _).alloc (by simp;omega) _⟩
def lineL (t:List UInt8):List UInt8:=10 :: (Lib.decDigits t.length++32 :: (Lib.decDigits (sumI t).toNat++32 :: t))
theorem Mw (t:List UInt8) (h:t.length<=1000000000000):(lineL t).length<=t.length+43:=by
 have e1:=X1 t.length (by omega);have e2:=X1 (sumI t).toNat (by have:=Xab t;omega);simp [lineL];omega
theorem Tryz.Xl2 (t:List UInt8) (w:World) (hE:Env w) (h6:6<=w.heap.size) (hs:t.length<=1000000000000) (ha:∀ b∈t,b.toNat<128) :
  Calls prog 144 #[.string ⟨t.toArray⟩] w fun e w'=>e=.returned (.string ⟨(lineL t).toArray⟩)/\Below w.heap.size w w':=by
 have hM:=Xku t w hs ha;have hrg:=Xab t;have hd1:=X1 t.length (by omega);have hd2:=X1 (sumI t).toNat (by omega);have hL:lineL t=10 :: (Lib.decDigits t.length++32 :: (Lib.decDigits (sumI t).toNat++32 :: t)):=rfl
 have hU1:=fun W hE=>U9 t.length (by omega) W hE
 have hU2:=fun W hE=>U9 (sumI t).toNat (by omega) W hE
 obtain⟨zs,hzs⟩:∃ zs:Nat,sumI t=(zs:Int):=⟨(sumI t).toNat,by omega⟩
 rw [hzs] at hM hU2 hL hd2;simp only [Int.toNat_natCast] at hU2 hL hd2;generalize lineL t=res at *;generalize Lib.decDigits t.length=s1 at *;generalize Lib.decDigits zs=s2 at *
 obtain⟨n,hn⟩:∃ n,t.length=n:=⟨_,rfl⟩
 rw [hn] at hM hU1 hs;have HL:=Xb hL
 have hsz1:(⟨s1.toArray⟩:ByteArray).size=s1.length:=by simp [ByteArray.size]
 have hsz2:(⟨s2.toArray⟩:ByteArray).size=s2.length:=by simp [ByteArray.size]
 have hsz3:(⟨t.toArray⟩:ByteArray).size=n:=by simp [ByteArray.size,hn]
 clear hL hrg hzs hn
 have hx0:∀(a b:Int) (W:World),(Instr.index 269 (.agg #[.int .u64 a,.int .u64 b]) (.int .i64 0)).run prog W=.ok (.int .u64 a) W:=fun _ _ _=>by kernel_rfl
 have hx1:∀(a b:Int) (W:World),(Instr.index 269 (.agg #[.int .u64 a,.int .u64 b]) (.int .i64 1)).run prog W=.ok (.int .u64 b) W:=fun _ _ _=>by kernel_rfl
 go_enter func144,ntmps144
 go_wp2_with (go_at_call 177;refine hM.mono ?_;rintro e w1 ⟨rfl,hb1⟩)
 refine wp_loop_rounds 3 ?_;rw [rounds_succ]
 go_wp2_with (go_at_call_of 122 (Value.int .u64 (n:Int));refine(hU1 _ (hE.below hb1 h6)).mono ?_;rintro e w2 ⟨rfl,hb2⟩)
 rw [rounds_succ];have hb3:=hb1.trans (hb2.mono hb1.size)
 go_wp2_with (go_at_call_of 122 (Value.int .u64 (zs:Int));refine(hU2 _ (hE.below hb3 h6)).mono ?_;rintro e w3 ⟨rfl,hb4⟩)
 rw [rounds_succ];go_wp2;go_ret;exact⟨V6 (by rw [Xa HL];apply ByteArray.ext;simp),hb3.trans (hb4.mono hb3.size)⟩
theorem M0 (n:Nat) (hn:n<18446744073709551616):(fileN n).length<=27:=by
 unfold fileN
 split
 ·decide
 have:(Lib.decDigits n).length<=20:=by rw [Lib.decDigits_length];exact Lib.nDigits_le20 n hn
 simp [jName];omega
theorem Tryz.Xb5 (n:Nat) (hn:n<18446744073709551616) (w:World) (hE:Env w):Calls prog 175 #[.int .u64 (n:Int)] w fun e w'=>e=.returned (.string ⟨(fileN n).toArray⟩)/\Below w.heap.size w w':=by
 by_cases h0:n=0
 ·subst h0
  go_enter func175,ntmps175;go_wp2;go_ret;exact⟨rfl,Below.refl _ _⟩
 have hU:=U9 n hn w hE
 have hd:(Lib.decDigits n).length<=20:=by rw [Lib.decDigits_length];exact Lib.nDigits_le20 n hn
 have e0:((n:Int)==0)=false:=by rw [beq_eq_false_iff_ne];omega
 have hL:(fileN n)=jName++Lib.decDigits n:=by unfold fileN;rw [if_neg h0]
 generalize Lib.decDigits n=ds at *;generalize fileN n=res at *
 have hsz:(⟨ds.toArray⟩:ByteArray).size=ds.length:=by simp [ByteArray.size]
 have HL:=Xb hL;clear hL;go_enter func175,ntmps175
 go_wp2_with (go_at_call 122;refine hU.mono ?_;rintro e w1 ⟨rfl,hb1⟩)
 go_ret;exact⟨V6 (by rw [Xa HL];apply ByteArray.ext;simp [jName]),hb1⟩
end Go.Proofs
namespace Go.Proofs
open Go.RowKit Go.Sort Go.Maps Go.WideMaps
theorem Vb {w w':World} (h:Xz w w'):Below w.heap.size w w':=by
 obtain⟨q,os,rfl⟩:=h;refine⟨rfl,rfl,rfl,by simp [grow,World.drewN],fun k hk=>?_⟩
 show (w.heap++os)[k]? = w.heap[k]?
 rw [Array.getElem?_append_left hk]
theorem Xfs (w:World) (b i:Nat) (v:Value):w.grownBy (w.setCell ⟨b,i,none⟩ v) (some b):=⟨rfl,rfl,rfl,by simp,fun j _ hne=>Yh _ _ _ _ _ (fun e=>hne (by rw [e]))⟩
theorem Tryz.Xkb:(prog.info? 172).map (fun i=>(i.zero,i.size,i.bytes))=some (some (.agg #[.int .i64 0,.string ⟨#[]⟩,.string ⟨#[]⟩]),3,40):=by kernel_rfl
theorem Tryz.Un (db:Nat) (m1 m2 p:Value) (l f:Int) (w:World) (hD:BoxN w db 100 #[m1,m2,p,.int .i64 l,.int .i64 f,.bool false]) (hl:l<0) (hl1 : -1000000000<=l) (hf:f<0) (hf1 : -1000000000<=f) :
  Calls prog 314 #[.pointer (some ⟨db,0,none⟩)] w fun e w'=>e=.returned .nilIface/\BoxN w' db 100 #[m1,m2,p,.int .i64 (l-1),.int .i64 (f-1),.bool false]/\Spares [db] w w':=
 (Xno db m1 m2 p l f w hD hl hl1 hf hf1).mono (by
  rintro e w' ⟨rfl,rfl⟩
  exact⟨rfl,(hD.set 3 _).set 4 _,((Spares.of_below (Below.refl _ _)).set (by simp) _ _).set (by simp) _ _⟩)
theorem Tryz.dTell {fm:List UInt8} (db md mn:Nat) (fd fn:Option (Nat × List UInt8)) (l f:Int) (data:List UInt8) (w:World) (hD:Xk fm w db md mn fd fn (.slice none 0 0) l f) (hl:l<0) (hl1 : -1000000000<=l) (hf:f<0) (hf1 : -1000000000<=f) (hlen:(Jn fn).length+data.length<=1000000000000) :
  Calls prog 313 #[.pointer (some ⟨db,0,none⟩),.agg #[.int .i64 2,.string ⟨fm.toArray⟩,.string ⟨data.toArray⟩]] w fun e w'=>e=.returned .nilIface/\∃ b g cap,w.heap.size<=b/\w.heap.size<=g/\Xk fm w' db md mn fd (some (b,Jn fn++data)) (.slice (some ⟨g,0,none⟩) 1 cap) (l-1) (f-1) /\
   w'.ownsRow w.heap.size 172 3 (.slice (some ⟨g,0,none⟩) 1 cap) 1 [.int .i64 2,.string ⟨fm.toArray⟩,.string ⟨data.toArray⟩]/\Spares [db,mn] w w':=by
 obtain⟨i0,hi,hz0,hz1,hz2⟩:=info_parts Xkb;have lD:=hD.lt;have hD0:=hD.below ((Below.refl _ w).alloc (Nat.le_refl _) (.cells #[.int .i64 2,.string ⟨fm.toArray⟩,.string ⟨data.toArray⟩] 172));have hW:=Un db _ _ _ l f _ hD0.box hl hl1 hf hf1;have bO0:=BoxN.new w 172 #[.int .i64 2,.string ⟨fm.toArray⟩,.string ⟨data.toArray⟩];go_enter func313,ntmps313
 go_wp2_with (go_at_call 314;refine hW.mono ?_;rintro e W1 ⟨rfl,bD1,hS1⟩)
 have hD1:=hD0.cells hS1 bD1;have bO:=hS1.box bO0 (by simp;omega);have hs1:Spares [db,mn] w W1:=((Spares.of_below (Below.refl _ w)).alloc _).trans (hS1.mono (by simp))
 have hz1s:w.heap.size+1<=W1.heap.size:=by have:=hS1.size;simpa using this
 clear hW hD0 bD1 hS1 bO0;have d1:=hD1.box.cell 1 (v:=.map (some mn)) rfl;have o0:=bO.cell 0 (v:=.int .i64 2) rfl;have o1:=bO.cell 1 (v:=.string ⟨fm.toArray⟩) rfl;have o2:=bO.cell 2 (v:=.string ⟨data.toArray⟩) rfl;obtain⟨nn,hnn,hM⟩:=hD1.nm;have hDo:=dDo hD1.nl mn nn fn data W1.drew.drew hM hnn hD1.sn hlen
 have key:∀(v:Value) (bl:Bool),(Instr.lookup 97 (.map (some mn)) (.string ⟨fm.toArray⟩) true).run prog W1=.ok (.tuple #[v,.bool bl]) W1->True:=fun _ _ _=>trivial
 obtain⟨pv,bl,hL⟩:∃(pv:Value) (bl:Bool),(Instr.lookup 97 (.map (some mn)) (.string ⟨fm.toArray⟩) true).run prog W1.drew=.ok (.tuple #[pv,.bool bl]) W1.drew:=by
  cases fn with
  | none=>exact⟨_,_,Xb3 hD1.nl (W:=W1.drew) hM⟩
  | some q=>exact⟨_,_,Xk0 hD1.nl (W:=W1.drew) hM⟩
 clear key;have Hlen:=Xb hlen;have Hz:=Xb hz1s;clear hlen hz1s;cases bl
 all_goals
  go_region
  go_wp2
  go_region_with (go_at_call 98;refine hDo.mono ?_;rintro e W2 ⟨rfl,b,hb,hM2,bS2,hS2⟩)
  all_goals
   have hz:=Xa Hz
   have hb':w.heap.size<=b:=by have:W1.drew.drew.heap.size=W1.heap.size:=rfl;omega
   have bD2:=hS2.box (W:=W1.drew.drew) hD1.box (by simpa using Ne.symm hD1.nes.2);have bO2:=hS2.box (W:=W1.drew.drew) bO (by have:=hM.lt;have:=lD.2.2;simp;omega);obtain⟨n1,hn1,hMd⟩:=hD1.dm;have hMd2:=hS2.map (W:=W1.drew.drew) hMd (by simpa using hD1.ne)
   have hsd2:∀ q,fd=some q->BoxN W2 q.1 9 #[.string ⟨q.2.toArray⟩]:=fun q hq=>hS2.box (W:=W1.drew.drew) (hD1.sd q hq) (by have:=BoxN.Xl (hD1.sd q hq) hM;simpa using Ne.symm this)
   have hs2:Spares [db,mn] w W2:=hs1.drew.drew.trans (hS2.mono (bs':=[db,mn]) (by simp));have hz2s:=hS2.size
   have hz2s:w.heap.size+1<=W2.heap.size:=by have:W1.drew.drew.heap.size=W1.heap.size:=rfl;omega
   have HD:=Xb (show Xk fm W2 db md mn fd (some (b,Jn fn++data)) (.slice none 0 0) (l-1) (f-1) from ⟨bD2,⟨n1,hn1,hMd2⟩,⟨1,by omega,hM2⟩,hsd2,fun q hq=>by cases hq;exact bS2,hD1.ne,hD1.nl⟩);have v0:=bD2.cell 2 (v:=.slice none 0 0) rfl;have fv0:=bD2.frozen 2;have lv:=bD2.lt;have y0:=bO2.cell 0 (v:=.int .i64 2) rfl;have y1:=bO2.cell 1 (v:=.string ⟨fm.toArray⟩) rfl;have y2:=bO2.cell 2 (v:=.string ⟨data.toArray⟩) rfl;clear hDo hL d1 o0 o1 o2 hM hS2 hM2 bS2 hMd hMd2 hsd2;go_wp2
   go_region_law ((refine step_append_lies _ (by rfl) _ _ _ (by rfl) w.heap.size 172 i0 _ 3 40 underlying98 hi hz0 hz1 hz2 rfl (by decide) _ _ _ (by rfl) (World.ownsRow_nil _ _ _ _) ⟨W2.heap.size,0,none⟩ 1 1 [.int .i64 2,.string ⟨fm.toArray⟩,.string ⟨data.toArray⟩] (by rfl) rfl (World.news_of_block (heap_alloc_new _ _)) (by simp [Value.oneCell']) (by omega) (by unfold maxLen;omega) (by omega) (by simp;omega) _ rfl ?_;intro g' cap' w3 hown' hgrow hat hlt;have bV3:=(bD2.below (n₀:=W2.heap.size) (by first | exact Vb ((Xz.refl W2).alloc _) | exact Vb (((Xz.refl W2).drew).alloc _)) bD2.lt).kept hgrow (by simp [Value.ownBlock]);have d0:=bV3.cell 2 (v:=.slice none 0 0) rfl;have d1:=bV3.frozen 2))
 all_goals
  have hD2:=Xa HD
  have hg2:W2.heap.size<=g':=by
   rcases hat with e | e
   ·simp [Value.ownBlock] at e
   have:g'=W2.heap.size+1:=by simpa using e
   omega
  have hS3:Spares [db,mn] w w3:=((hs2.alloc _).drew).trans ⟨hgrow.os,hgrow.tape,hgrow.output,hgrow.size,fun k hk _=>hgrow.block k hk (by simp [Value.ownBlock])⟩;have hB3:Below W2.heap.size W2 w3:=((Below.refl _ W2).alloc (Nat.le_refl _) _).drew.grown hgrow (by simp) (by simp [Value.ownBlock]);have hD3:=hD2.below hB3;have bN:=bV3.set 2 (.slice (some ⟨g',0,none⟩) 1 cap');have hD4:=hD3.cells ((Spares.of_below (Below.refl _ w3)).set (bs:=[db]) (by simp) 2 (.slice (some ⟨g',0,none⟩) 1 cap')) bN;have hR4:=hown'.kept (Xfs w3 db 2 (.slice (some ⟨g',0,none⟩) 1 cap')) (.inr (by simp [Value.ownBlock];omega));have hS4:=hS3.set (b:=db) (by simp) 2 (.slice (some ⟨g',0,none⟩) 1 cap');have HH:=Xb (And.intro hD4 (And.intro hR4 hS4));clear hD4 hR4 hS4 bN hD3 hB3 hS3 hown' hgrow hat hlt bV3 d0 d1 v0 fv0 y0 y1 y2;generalize (w3.setCell ⟨db,2,none⟩ (.slice (some ⟨g',0,none⟩) 1 cap'))=W4 at *;go_wp2;go_ret;exact⟨rfl,b,g',cap',hb',by omega,(Xa HH).1,(Xa HH).2.1,(Xa HH).2.2⟩
end Go.Proofs
