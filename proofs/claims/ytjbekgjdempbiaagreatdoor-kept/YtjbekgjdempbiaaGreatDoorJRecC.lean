import Derived.Test.YtjbekgjdempbiaaGreatDoorProg
import Derived.Test.YtjbekgjdempbiaaGreatDoorJBox
import Derived.WalkKit
import Derived.WalkSpells
import Derived.Deep.RegionHeld3
import Derived.Maps.OwnSet
import Derived.Test.YtjbekgjdempbiaaGreatDoorJLInfo
import Derived.Test.YtjbekgjdempbiaaGreatDoorJMapN
import Derived.Lib.AtoiErrMem
import Derived.Lib.ParseIntBCases
import Derived.Deep.DeepCutAuto
import Derived.Laws.RangeAny
import Derived.Test.YtjbekgjdempbiaaGreatDoorJLay2
import Derived.Lib.Join
set_option maxRecDepth 100000
set_option maxHeartbeats 8000000
namespace Go.Proofs
open Go.RowKit Go.Sort
def Yn (a b c d:Int):Value:=.agg #[.int .i64 a,.int .i64 b,.int .i64 c,.int .i64 d]
theorem BoxN.ne {W:World} {B B':Nat} {t t':TypeId} {cs cs':Array Value} (h:BoxN W B t cs) (h':BoxN W B' t' cs') (hne:t≠t'):B≠B':=by
 rintro rfl;have e:some (Obj.cells cs t (0,0))=some (Obj.cells cs' t' (0,0)):=h.symm.trans h';simp at e;exact hne e.2
theorem Tryz.Xtg (w:World):Calls prog 16 #[] w fun e w'=>e=.returned (Yn (-1) (-1) 0 0)/\Below w.heap.size w w':=by
 unfold Yn;go_enter func16,ntmps16;go_wp2;exact bodyPost_ret (v:=.agg #[.int .i64 (-1),.int .i64 (-1),.int .i64 0,.int .i64 0]) (by simp [results,results16,go_sem]) rfl ⟨rfl,(Below.refl _ _).alloc (Nat.le_refl _) _⟩
theorem Yt (w:World) (db i k:Nat) (v:Value) (hd:k≠db):(w.setCell ⟨db,i,none⟩ v).heap[k]? = w.heap[k]?:=by
 show (w.heap.modify db _)[k]? = _
 rw [Array.getElem?_modify,if_neg (fun e=>hd e.symm)]
theorem Xgs (w:World) (db i i':Nat) (v v':Value) (o:Obj):w.grownBy (((w.setCell ⟨db,i,none⟩ v).setCell ⟨db,i',none⟩ v').alloc o).drew (some db):=
 ⟨rfl,rfl,rfl,by simp [World.drew],fun k hk hne=>by
  have hd:k≠db:=fun e=>hne (by rw [e])
  show (((w.setCell ⟨db,i,none⟩ v).setCell ⟨db,i',none⟩ v').heap.push o)[k]? = _
  rw [Array.getElem?_push_lt (by simpa using hk),<- Array.getElem?_eq_getElem]
  rw [Yt _ _ _ _ _ hd,Yt _ _ _ _ _ hd]⟩
abbrev Tryz.Uj (hb db fb:Nat) (a b:Int) (W:World):Prop:=
 (W.cell? ⟨hb,0,none⟩=some (.pointer (some ⟨db,0,none⟩))/\W.cell? ⟨fb,0,none⟩=some (.int .i64 a)/\W.cell? ⟨fb,1,none⟩=some (.int .i64 b)) /\
 (W.cell? ⟨db,3,none⟩=some (X5 W ⟨db,3,none⟩)/\W.cell? ⟨db,4,none⟩=some (X5 W ⟨db,4,none⟩))/\W.frozen? ⟨db,3,none⟩=false/\W.frozen? ⟨db,4,none⟩=false
theorem Tryz.Uj.start {W:World} {hb db fb:Nat} {a b c d:Int} {cs ds:Array Value} (hs:W.heap.size=fb) (hH:BoxN W hb 78 cs) (h0:cs[0]? = some (.pointer (some ⟨db,0,none⟩))) (hD:BoxN W db 100 ds) (h6:ds.size=6) :
  Uj hb db fb a b (W.alloc (.cells #[.int .i64 a,.int .i64 b,.int .i64 c,.int .i64 d] 29)).drew:=by
 subst hs;have bF:=BoxN.new W 29 #[.int .i64 a,.int .i64 b,.int .i64 c,.int .i64 d];have bH:=hH.alloc (.cells #[.int .i64 a,.int .i64 b,.int .i64 c,.int .i64 d] 29);have bD:=hD.alloc (.cells #[.int .i64 a,.int .i64 b,.int .i64 c,.int .i64 d] 29);exact⟨⟨bH.cell 0 h0,bF.cell 0 rfl,bF.cell 1 rfl⟩,⟨Xg (by have h:=bD.cell 3 (v:=ds[3]) (by simp [h6]);show ((W.alloc _).cell? _).isSome;rw [h];rfl),Xg (by have h:=bD.cell 4 (v:=ds[4]) (by simp [h6]);show ((W.alloc _).cell? _).isSome;rw [h];rfl)⟩,bD.frozen 3,bD.frozen 4⟩
theorem Tryz.Uj.Xsj {w:World} {hb db:Nat} {a b c d:Int} {c1 c2 m1 m2 p l f dn:Value} (hH:BoxN w hb 78 #[.pointer (some ⟨db,0,none⟩),c1,c2]) (hD:BoxN w db 100 #[m1,m2,p,l,f,dn]) (hne:hb≠db) (i:Nat) (v:Value) :
  Uj hb db w.heap.size a b ((w.setCell ⟨db,i,none⟩ v).alloc (.cells #[.int .i64 a,.int .i64 b,.int .i64 c,.int .i64 d] 29)).drew:=
 Uj.start (by simp) (hH.other hne i v) rfl (hD.set i v) (by simp)
theorem Tryz.Uj.Xsk {w:World} {hb db:Nat} {a b c d:Int} {c1 c2 m1 m2 p l f dn:Value} (hH:BoxN w hb 78 #[.pointer (some ⟨db,0,none⟩),c1,c2]) (hD:BoxN w db 100 #[m1,m2,p,l,f,dn]) (hne:hb≠db) (i:Nat) (v:Value) (i':Nat) (v':Value) :
  Uj hb db w.heap.size a b (((w.setCell ⟨db,i,none⟩ v).setCell ⟨db,i',none⟩ v').alloc (.cells #[.int .i64 a,.int .i64 b,.int .i64 c,.int .i64 d] 29)).drew:=
 Uj.start (by simp) ((hH.other hne i v).other hne i' v') rfl ((hD.set i v).set i' v') (by simp)
theorem Tryz.before (hb db:Nat) (c1 c2 m1 m2 p l f dn:Value) (a b c d:Int) (w:World) (hH:BoxN w hb 78 #[.pointer (some ⟨db,0,none⟩),c1,c2]) (hD:BoxN w db 100 #[m1,m2,p,l,f,dn]) :
  Calls prog 40 #[.pointer (some ⟨hb,0,none⟩),Yn a b c d] w fun e w'=>e=.returned (.tuple #[])/\BoxN w' db 100 #[m1,m2,p,.int .i64 a,.int .i64 b,dn]/\w.grownBy w' (some db):=by
 have lH:=hH.lt;have lD:=hD.lt;have hne:=hH.ne hD (by decide);unfold Yn;go_enter func40,ntmps40;go_wp2
 go_region_held3 (Uj hb db w.heap.size a b) (first
  | with_reducible exact Uj.start rfl hH rfl hD rfl
  | with_reducible exact Uj.Xsj hH hD hne _ _
  | with_reducible exact Uj.Xsk hH hD hne _ _ _ _
  | with_reducible assumption) (fail)
 all_goals
  go_wp2
  go_end0
  exact⟨rfl,((hD.set 3 _).set 4 _).alloc _,Xgs _ _ _ _ _ _ _⟩
theorem Tryz.after (hb db:Nat) (c1 c2 m1 m2 p l f:Value) (a b c d:Int) (w:World) (hH:BoxN w hb 78 #[.pointer (some ⟨db,0,none⟩),c1,c2]) (hD:BoxN w db 100 #[m1,m2,p,l,f,.bool false]) :
  Calls prog 42 #[.pointer (some ⟨hb,0,none⟩),Yn a b c d] w fun e w'=>e=.returned (.tuple #[])/\BoxN w' db 100 #[m1,m2,p,.int .i64 (-1),.int .i64 (-1),.bool false]/\w.grownBy w' (some db):=by
 have h0:=hH.cell 0 (v:=.pointer (some ⟨db,0,none⟩)) rfl;have d5:=hD.cell 5 (v:=.bool false) rfl;have lH:=hH.lt;have lD:=hD.lt;have hne:=hH.ne hD (by decide);unfold Yn;go_enter func42,ntmps42;go_wp2
 go_region_held3 (Uj hb db w.heap.size a b) (first
  | with_reducible exact Uj.start rfl hH rfl hD rfl
  | with_reducible exact Uj.Xsj hH hD hne _ _
  | with_reducible exact Uj.Xsk hH hD hne _ _ _ _
  | with_reducible assumption) (fail)
 all_goals
  go_wp2
  go_end0
  exact⟨rfl,((hD.set 3 _).set 4 _).alloc _,Xgs _ _ _ _ _ _ _⟩
structure Spares (bs:List Nat) (W W':World):Prop where
 os:W'.os=W.os
 tape:W'.tape=W.tape
 output:W'.output=W.output
 size:W.heap.size<=W'.heap.size
 block:∀ k,k<W.heap.size->k∉bs->W'.heap[k]? = W.heap[k]?
section
variable {W W' W'':World} {bs:List Nat}
theorem Spares.of_below (h:Below W.heap.size W W'):Spares bs W W':=⟨h.os,h.tape,h.output,h.size,fun k hk _=>h.block k hk⟩
theorem Spares.X6 {b:Nat} (h:W.grownBy W' (some b)) (hb:b∈bs):Spares bs W W':=⟨h.os,h.tape,h.output,h.size,fun k hk hn=>h.block k hk (fun e=>hn (by injection e with e;rw [e];exact hb))⟩
theorem Spares.trans (h:Spares bs W W') (h':Spares bs W' W''):Spares bs W W'':=⟨h'.os.trans h.os,h'.tape.trans h.tape,h'.output.trans h.output,Nat.le_trans h.size h'.size,fun k hk hn=>(h'.block k (Nat.lt_of_lt_of_le hk h.size) hn).trans (h.block k hk hn)⟩
theorem Spares.mono {bs':List Nat} (h:Spares bs W W') (hs:∀ b∈bs,b∈bs'):Spares bs' W W':=⟨h.os,h.tape,h.output,h.size,fun k hk hn=>h.block k hk (fun e=>hn (hs k e))⟩
theorem Spares.box {B:Nat} {t:TypeId} {cs:Array Value} (h:Spares bs W W') (hB:BoxN W B t cs) (hn:B∉bs):BoxN W' B t cs:=(h.block B hB.lt hn).trans hB
theorem Spares.map {H:Type} {P:Program} {k:TypeId} {R:Value->Option (DataW H × List MemPlace)} {D:DataW H} {b n:Nat} (h:Spares bs W W') (hm:W.ownsMap P k R b n D) (hn:b∉bs):W'.ownsMap P k R b n D:=by
 have hl:=hm.lt;obtain⟨es,clock,hb,F,hs,hD⟩:=hm;exact⟨es,clock,(h.block b hl hn).trans hb,F,hs,hD⟩
theorem Spares.row {base size n g cap:Nat} {e:TypeId} {xs:List Value} (h:Spares bs W W') (hr:W.ownsRow base e size (.slice (some ⟨g,0,none⟩) n cap) n xs) (hn:g∉bs):W'.ownsRow base e size (.slice (some ⟨g,0,none⟩) n cap) n xs:=by
 obtain⟨h1,⟨e1,-⟩ | ⟨g',cap',cur,e1,e2,e3,e4⟩⟩:=hr
 ·cases e1
 cases e1;exact⟨h1,.inr ⟨g,cap,cur,rfl,e2,Spares.box (t:=e) (cs:=cur) h e3 hn,e4⟩⟩
theorem Spares.below {B:Nat} (h:Spares bs W W') (hB:B<=W.heap.size) (hn:∀ b∈bs,B<=b):Below B W W':=⟨h.os,h.tape,h.output,h.size,fun k hk=>h.block k (by omega) (fun e=>by have:=hn k e;omega)⟩
end
theorem Spares.set {bs:List Nat} {W W':World} (h:Spares bs W W') {b:Nat} (hb:b∈bs) (i:Nat) (v:Value):Spares bs W (W'.setCell ⟨b,i,none⟩ v):=
 ⟨h.os,h.tape,h.output,by simpa using h.size,fun k hk hn=>by rw [Yt _ _ _ _ _ (fun e=>hn (by rw [e];exact hb))];exact h.block k hk hn⟩
theorem Spares.alloc {bs:List Nat} {W W':World} (h:Spares bs W W') (o:Obj):Spares bs W (W'.alloc o):=h.trans (Spares.of_below ((Below.refl _ _).alloc (Nat.le_refl _) o))
theorem Spares.drew {bs:List Nat} {W W':World} (h:Spares bs W W'):Spares bs W W'.drew:=h.trans (Spares.of_below ((Below.refl _ _).drew))
end Go.Proofs
namespace Go.Proofs
open Go.RowKit Go.Sort Go.Lib Go.Shelf
def kindI (c:UInt8):Int:=if c=116 then 1 else if c=108 then 2 else 0
def parseN:List UInt8->Int × Int
 | []=>(0,0)
 | c :: r=>match Lib.parseUintB 64 r with
  | .ok u=>if nmStr (kindI c) u=c :: r then (kindI c,(u:Int)) else (0,0)
  | _=>(0,0)
theorem Tryz.kindOf (c:UInt8) (w:World):Calls prog 119 #[.int .u8 c.toNat] w fun e w'=>e=.returned (.int .i64 (kindI c))/\w'=w:=by
 have h256:=c.toNat_lt
 by_cases h1:c=116
 ·subst h1
  go_enter func119,ntmps119;go_wp2;go_ret;exact⟨rfl,rfl⟩
 by_cases h2:c=108
 ·subst h2
  go_enter func119,ntmps119;go_wp2;go_ret;exact⟨rfl,rfl⟩
 have h1':((c.toNat:Int)==116)=false:=by
  simp;intro h;exact h1 (UInt8.toNat_inj.1 (by simpa using(by exact_mod_cast h:c.toNat=116)))
 have h2':((c.toNat:Int)==108)=false:=by
  simp;intro h;exact h2 (UInt8.toNat_inj.1 (by simpa using(by exact_mod_cast h:c.toNat=108)))
 have hfin:Hid (kindI c=0):=by show _=_;simp [kindI,h1,h2]
 generalize kindI c=r at *;generalize (c.toNat:Int)=z at *;clear h1 h2;go_enter func119,ntmps119;go_wp2;go_ret;exact⟨Yy (show (0:Int)=r from (show r=0 from hfin).symm),rfl⟩
theorem Xex (c:UInt8) (r:List UInt8):(⟨(c :: r).toArray⟩:ByteArray).extract 1 (r.length+1)=⟨r.toArray⟩:=by
 apply ByteArray.ext;rw [ByteArray.data_extract];simp
theorem Xj0 {r:List UInt8} {u:Nat} (h:Lib.parseUintB 64 r=.ok u):u<18446744073709551616:=by
 have:=Lib.parseUintB_le h;omega
theorem Tryz.Xfe {w w':World} {s:ByteArray} (h:w'=w\/w'=Lib.bytesWorld w 5 s):Below w.heap.size w w':=by
 rcases h with rfl | rfl
 ·exact Below.refl _ _
 exact Lib.bytesWorld_below _ _ _
theorem Tryz.Xn6 (w:World):Calls prog 63 #[.string ⟨#[]⟩] w fun e w'=>e=.returned (.agg #[.int .i64 0,.int .u64 0])/\Below w.heap.size w w':=by
 go_enter func63,ntmps63;go_wp2;exact bodyPost_ret (v:=.agg #[.int .i64 0,.int .u64 0]) (by simp [results,results63,go_sem]) rfl ⟨rfl,(Below.refl _ _).alloc (Nat.le_refl _) _⟩
theorem Tryz.Xp4 (c:UInt8) (r:List UInt8) (u:Nat) (hp:Lib.parseUintB 64 r=.ok u) (hl:r.length<=1000000) (w:World) (hE:Env w) (h6:6<=w.heap.size) :
  Calls prog 63 #[.string ⟨(c :: r).toArray⟩] w fun e w'=>e=.returned (nmV (parseN (c :: r)))/\Below w.heap.size w w':=by
 have hpu:=fun W=>Any.strconv_ParseUint_10_at64_ok Vq ⟨r.toArray⟩ (by simp [ByteArray.size];omega) u hp W
 change ∀ W,Calls prog 118 _ _ _ at hpu
 have hk:=fun W=>kindOf c W
 have hx:(⟨(c :: r).toArray⟩:ByteArray).extract 1 (r.length+1)=⟨r.toArray⟩:=Xex c r;have hE1:Env (w.alloc (.cells #[.int .i64 0,.int .u64 0] 114)):=hE.below ((Below.refl _ w).alloc (Nat.le_refl _) _) h6;have hu64:u<18446744073709551616:=Xj0 hp
 have hS:=fun W hW h6=>Zg (kindI c) u hu64 W hW h6
 have hpn:Hid (parseN (c :: r)=if nmStr (kindI c) u=c :: r then (kindI c,(u:Int)) else (0,0)):=by show _=_;simp [parseN,hp]
 generalize parseN (c :: r)=pn at *;generalize kindI c=kc at *;go_enter func63,ntmps63
 go_wp2_with (first
  | (go_at_call 118;refine(hpu _).mono ?_;rintro e w1 ⟨rfl,hw1⟩;replace hw1:=Xfe hw1)
  | (go_at_call 119;refine(hk _).mono ?_;rintro e w' ⟨rfl,rfl⟩))
 have hs1:=hw1.size;simp only [World.size_alloc] at hs1
 have hEW:=((hE1.below hw1 (by simp;omega)).below ((Below.refl _ _).alloc (Nat.le_refl _) (.cells #[.int .i64 kc,.int .u64 u] 114)) (by omega))
 have hb1:=((Below.refl w.heap.size w).alloc (Nat.le_refl _) (.cells #[.int .i64 0,.int .u64 0] 114)).trans (hw1.mono (by simp));have bR:=((BoxN.new w 114 #[.int .i64 0,.int .u64 0]).below hw1 (by simp)).alloc (.cells #[.int .i64 kc,.int .u64 u] 114);have bX:=BoxN.new w' 114 #[.int .i64 kc,.int .u64 u];refine(hS _ hEW (by simp;omega)).mono ?_;rintro e w2 ⟨rfl,hb2⟩;have hbF:=hb1.trans (((Below.refl _ _).alloc (by omega) (.cells #[.int .i64 kc,.int .u64 u] 114)).trans (hb2.mono (by simp;omega)));replace bR:=bR.below hb2 (by simp;omega);replace bX:=bX.below hb2 (by simp);have r0:=bR.cell 0 (v:=.int .i64 0) rfl;have r1:=bR.cell 1 (v:=.int .u64 0) rfl;have f0:=bR.frozen 0;have f1:=bR.frozen 1;have x0:=bX.cell 0 (v:=.int .i64 kc) rfl;have x1:=bX.cell 1 (v:=.int .u64 u) rfl;clear hS hpu hk hEW hE1 hE hb1;generalize nmStr kc u=tx at *
 by_cases hq:tx=c :: r
 focus
  have hq':(tx==c :: r)=true:=by simp [hq]
  have hfin:Hid (pn=(kc,(u:Int))):=by have h:=hpn;simp only [Hid] at h ⊢;rw [h,if_pos hq]
  clear hq hpn;go_wp2;refine bodyPost_ret (v:=.agg #[.int .i64 kc,.int .u64 u]) (by simp [results,results63,go_sem, *]) rfl ⟨by rw [show pn=_ from hfin];rfl,?_⟩
 rotate_left
 focus
  have hq':(tx==c :: r)=false:=by simp [hq]
  have hfin:Hid (pn=(0,0)):=by have h:=hpn;simp only [Hid] at h ⊢;rw [h,if_neg hq]
  clear hq hpn;go_wp2;refine bodyPost_ret (v:=.agg #[.int .i64 0,.int .u64 0]) (by simp [results,results63,go_sem, *]) rfl ⟨by rw [show pn=_ from hfin];rfl,?_⟩
 rotate_left
 all_goals
  exact(hbF.setCell (p:=⟨w.heap.size,0,none⟩) (Nat.le_refl _) _).setCell (p:=⟨w.heap.size,1,none⟩) (Nat.le_refl _) _
theorem Tryz.Xnz (c:UInt8) (r:List UInt8) (hp:∀ u,Lib.parseUintB 64 r ≠ .ok u) (hl:r.length<=1000000) (w:World) (hE:Env w) (h6:6<=w.heap.size) :
  Calls prog 63 #[.string ⟨(c :: r).toArray⟩] w fun e w'=>e=.returned (nmV (parseN (c :: r)))/\Below w.heap.size w w':=by
 have hx:(⟨(c :: r).toArray⟩:ByteArray).extract 1 (r.length+1)=⟨r.toArray⟩:=Xex c r;have hE1:Env (w.alloc (.cells #[.int .i64 0,.int .u64 0] 114)):=hE.below ((Below.refl _ w).alloc (Nat.le_refl _) _) h6
 have hpu:Calls prog 118 #[.string ⟨r.toArray⟩,.int .i64 10,.int .i64 64] (w.alloc (.cells #[.int .i64 0,.int .u64 0] 114)) fun e w'=>∃(z:Int) (tp:TypeId) (p:Value),e=.returned (.tuple #[.int .u64 z,.iface tp p])/\Below (w.heap.size+1) (w.alloc (.cells #[.int .i64 0,.int .u64 0] 114)) w':=by
  have hsz:(⟨r.toArray⟩:ByteArray).size<=281474976710656:=by simp [ByteArray.size];omega
  cases hpp:Lib.parseUintB 64 r with
  | ok u=>exact absurd hpp (hp u)
  | range =>
   obtain⟨tp,p,hv⟩:=hE1.rng;have h:=Any.strconv_ParseUint_10_at64_range_var Vq ⟨r.toArray⟩ hsz hpp tp p _ hv
   exact h.mono fun e w' ⟨N,h1,_,_,h4⟩=>⟨_,_,_,h1,by simpa using h4⟩
  | _ =>
   obtain⟨tp,p,hv⟩:=hE1.syn;have h:=Any.strconv_ParseUint_10_at64_syntax_var Vq ⟨r.toArray⟩ hsz hpp tp p _ hv
   exact h.mono fun e w' ⟨N,h1,_,_,h4⟩=>⟨_,_,_,h1,by simpa using h4⟩
 have hk:=fun W=>kindOf c W
 have hpn:Hid (parseN (c :: r)=(0,0)):=by
  show _=_
  cases hh:Lib.parseUintB 64 r with
  | ok u=>exact absurd hh (hp u)
  | _=>simp only [parseN,hh]
 generalize parseN (c :: r)=pn at *;generalize kindI c=kc at *;clear hp;go_enter func63,ntmps63
 go_wp2_with (first
  | (go_at_call 118;refine hpu.mono ?_;rintro e w1 ⟨z,tp,p,rfl,hw1⟩;have bR:=(BoxN.new w 114 #[.int .i64 0,.int .u64 0]).below hw1 (by simp);have hlt:=bR.lt;have r0:=bR.cell 0 (v:=.int .i64 0) rfl;have r1:=bR.cell 1 (v:=.int .u64 0) rfl;have f0:=bR.frozen 0;have f1:=bR.frozen 1)
  | (go_at_call 119;refine(hk _).mono ?_;rintro e w' ⟨rfl,rfl⟩))
 refine bodyPost_ret (v:=.agg #[.int .i64 0,.int .u64 0]) (by simp [results,results63,go_sem, *]) rfl ⟨by rw [show pn=_ from hpn];rfl,?_⟩;have hbF:=((Below.refl w.heap.size w).alloc (Nat.le_refl _) (.cells #[.int .i64 0,.int .u64 0] 114)).trans (hw1.mono (by omega));exact((hbF.setCell (p:=⟨w.heap.size,0,none⟩) (Nat.le_refl _) _).setCell (p:=⟨w.heap.size,1,none⟩) (Nat.le_refl _) _).alloc (by simp;omega) _
theorem Tryz.parse (s:ByteArray) (hl:s.size<=1000000) (w:World) (hE:Env w) (h6:6<=w.heap.size) :
  Calls prog 63 #[.string s] w fun e w'=>e=.returned (nmV (parseN s.data.toList))/\Below w.heap.size w w':=by
 obtain⟨⟨l⟩⟩:=s
 cases l with
 | nil=>exact Xn6 w
 | cons c r =>
  have hl':r.length<=1000000:=by simp [ByteArray.size] at hl;omega
  cases hp:Lib.parseUintB 64 r with
  | ok u=>exact Xp4 c r u hp hl' w hE h6
  | _=>exact Xnz c r (by rw [hp];simp) hl' w hE h6
end Go.Proofs
namespace Go.Proofs
open Go.RowKit Go.Sort
theorem BoxN.Xut {W:World} {q:Nat} {t:TypeId} {c0 c1 c2 c3 c4:Value} (h:BoxN W q t #[c0,c1,c2,c3,c4]):(W.cell? ⟨q,0,none⟩=some c0/\W.cell? ⟨q,1,none⟩=some c1/\W.cell? ⟨q,2,none⟩=some c2/\W.cell? ⟨q,3,none⟩=some c3/\W.cell? ⟨q,4,none⟩=some c4)/\(W.frozen? ⟨q,0,none⟩=false/\W.frozen? ⟨q,1,none⟩=false/\W.frozen? ⟨q,2,none⟩=false/\W.frozen? ⟨q,3,none⟩=false/\W.frozen? ⟨q,4,none⟩=false):=
 ⟨⟨h.cell 0 rfl,h.cell 1 rfl,h.cell 2 rfl,h.cell 3 rfl,h.cell 4 rfl⟩,⟨h.frozen 0,h.frozen 1,h.frozen 2,h.frozen 3,h.frozen 4⟩⟩
theorem BoxN.sets5 {W:World} {q:Nat} {t:TypeId} {c0 c1 c2 c3 c4:Value} (h:BoxN W q t #[c0,c1,c2,c3,c4]) (v0 v1 v2 v3 v4:Value):BoxN (((((W.setCell ⟨q,0,none⟩ v0).setCell ⟨q,1,none⟩ v1).setCell ⟨q,2,none⟩ v2).setCell ⟨q,3,none⟩ v3).setCell ⟨q,4,none⟩ v4) q t #[v0,v1,v2,v3,v4]:=by
 have h1:BoxN (W.setCell ⟨q,0,none⟩ v0) q t #[v0,c1,c2,c3,c4]:=h.set 0 v0;have h2:BoxN ((W.setCell ⟨q,0,none⟩ v0).setCell ⟨q,1,none⟩ v1) q t #[v0,v1,c2,c3,c4]:=h1.set 1 v1;have h3:BoxN (((W.setCell ⟨q,0,none⟩ v0).setCell ⟨q,1,none⟩ v1).setCell ⟨q,2,none⟩ v2) q t #[v0,v1,v2,c3,c4]:=h2.set 2 v2;have h4:BoxN ((((W.setCell ⟨q,0,none⟩ v0).setCell ⟨q,1,none⟩ v1).setCell ⟨q,2,none⟩ v2).setCell ⟨q,3,none⟩ v3) q t #[v0,v1,v2,v3,c4]:=h3.set 3 v3;have h5:BoxN (((((W.setCell ⟨q,0,none⟩ v0).setCell ⟨q,1,none⟩ v1).setCell ⟨q,2,none⟩ v2).setCell ⟨q,3,none⟩ v3).setCell ⟨q,4,none⟩ v4) q t #[v0,v1,v2,v3,v4]:=h4.set 4 v4;exact h5
theorem Xl7 {B:Nat} {w W:World} (hb:Below B w W) {q:Nat} (hq:B<=q) (v0 v1 v2 v3 v4:Value):Below B w (((((W.setCell ⟨q,0,none⟩ v0).setCell ⟨q,1,none⟩ v1).setCell ⟨q,2,none⟩ v2).setCell ⟨q,3,none⟩ v3).setCell ⟨q,4,none⟩ v4):=(((((hb.setCell (p:=⟨q,0,none⟩) hq v0).setCell (p:=⟨q,1,none⟩) hq v1).setCell (p:=⟨q,2,none⟩) hq v2).setCell (p:=⟨q,3,none⟩) hq v3).setCell (p:=⟨q,4,none⟩) hq v4)
abbrev Xqy (W:World) (rb:Nat):Prop:=
 (W.cell? ⟨rb,0,none⟩=some (X5 W ⟨rb,0,none⟩)/\W.cell? ⟨rb,1,none⟩=some (X5 W ⟨rb,1,none⟩)/\W.cell? ⟨rb,2,none⟩=some (X5 W ⟨rb,2,none⟩)/\W.cell? ⟨rb,3,none⟩=some (X5 W ⟨rb,3,none⟩)/\W.cell? ⟨rb,4,none⟩=some (X5 W ⟨rb,4,none⟩)) /\
 (W.frozen? ⟨rb,0,none⟩=false/\W.frozen? ⟨rb,1,none⟩=false/\W.frozen? ⟨rb,2,none⟩=false/\W.frozen? ⟨rb,3,none⟩=false/\W.frozen? ⟨rb,4,none⟩=false)
theorem Xqy.set {W:World} {rb:Nat} (h:Xqy W rb) (a:Addr) (v:Value):Xqy (W.setCell a v) rb:=by
 obtain⟨⟨c0,c1,c2,c3,c4⟩,f0,f1,f2,f3,f4⟩:=h
 have g:∀ i,(W.cell? ⟨rb,i,none⟩).isSome->((W.setCell a v).cell? ⟨rb,i,none⟩).isSome:=fun i hi=>by
  obtain⟨x,hx⟩:=Option.isSome_iff_exists.1 hi;obtain⟨y,hy⟩:=cell?_setCell_some (w:=W) (p:=a) (x:=v) hx;rw [hy];rfl
 have f:∀ i,(W.setCell a v).frozen? ⟨rb,i,none⟩=W.frozen? ⟨rb,i,none⟩:=fun i=>World.frozen?_setCell _ _ _ _
 exact⟨⟨Xg (g 0 (by rw [c0];rfl)),Xg (g 1 (by rw [c1];rfl)),Xg (g 2 (by rw [c2];rfl)),Xg (g 3 (by rw [c3];rfl)),Xg (g 4 (by rw [c4];rfl))⟩,(f 0).trans f0,(f 1).trans f1,(f 2).trans f2,(f 3).trans f3,(f 4).trans f4⟩
theorem Xqy.sets {W:World} {rb:Nat} (h:Xqy W rb) (v0 v1 v2 v3 v4:Value):(((((W.setCell ⟨rb,0,none⟩ v0).setCell ⟨rb,1,none⟩ v1).setCell ⟨rb,2,none⟩ v2).setCell ⟨rb,3,none⟩ v3).setCell ⟨rb,4,none⟩ v4).cell? ⟨rb,0,none⟩=some v0/\(((((W.setCell ⟨rb,0,none⟩ v0).setCell ⟨rb,1,none⟩ v1).setCell ⟨rb,2,none⟩ v2).setCell ⟨rb,3,none⟩ v3).setCell ⟨rb,4,none⟩ v4).cell? ⟨rb,1,none⟩=some v1/\(((((W.setCell ⟨rb,0,none⟩ v0).setCell ⟨rb,1,none⟩ v1).setCell ⟨rb,2,none⟩ v2).setCell ⟨rb,3,none⟩ v3).setCell ⟨rb,4,none⟩ v4).cell? ⟨rb,2,none⟩=some v2/\(((((W.setCell ⟨rb,0,none⟩ v0).setCell ⟨rb,1,none⟩ v1).setCell ⟨rb,2,none⟩ v2).setCell ⟨rb,3,none⟩ v3).setCell ⟨rb,4,none⟩ v4).cell? ⟨rb,3,none⟩=some v3/\(((((W.setCell ⟨rb,0,none⟩ v0).setCell ⟨rb,1,none⟩ v1).setCell ⟨rb,2,none⟩ v2).setCell ⟨rb,3,none⟩ v3).setCell ⟨rb,4,none⟩ v4).cell? ⟨rb,4,none⟩=some v4:=by
 have o:∀(V:World) (i j:Nat) (v:Value),i≠j->(V.setCell ⟨rb,i,none⟩ v).cell? ⟨rb,j,none⟩=V.cell? ⟨rb,j,none⟩:=fun V i j v _=>World.cell?_setCell_other _ _ _ _ (by simp)
 have h0:=h;have h1:=h0.set ⟨rb,0,none⟩ v0;have h2:=h1.set ⟨rb,1,none⟩ v1;have h3:=h2.set ⟨rb,2,none⟩ v2;have h4:=h3.set ⟨rb,3,none⟩ v3;have s0:=World.cell?_setCell_same _ _ v0 h0.1.1;have s1:=World.cell?_setCell_same _ _ v1 h1.1.2.1;have s2:=World.cell?_setCell_same _ _ v2 h2.1.2.2.1;have s3:=World.cell?_setCell_same _ _ v3 h3.1.2.2.2.1;have s4:=World.cell?_setCell_same _ _ v4 h4.1.2.2.2.2;refine⟨?_,?_,?_,?_,s4⟩
 ·rw [o _ 4 0 _ (by omega),o _ 3 0 _ (by omega),o _ 2 0 _ (by omega),o _ 1 0 _ (by omega),s0]
 ·rw [o _ 4 1 _ (by omega),o _ 3 1 _ (by omega),o _ 2 1 _ (by omega),s1]
 ·rw [o _ 4 2 _ (by omega),o _ 3 2 _ (by omega),s2]
 rw [o _ 4 3 _ (by omega),s3]
theorem BoxN.open7 {W:World} {q:Nat} {t:TypeId} {c0 c1 c2 c3 c4 c5 c6:Value} (h:BoxN W q t #[c0,c1,c2,c3,c4,c5,c6]):(W.cell? ⟨q,0,none⟩=some c0/\W.cell? ⟨q,1,none⟩=some c1/\W.cell? ⟨q,2,none⟩=some c2/\W.cell? ⟨q,3,none⟩=some c3/\W.cell? ⟨q,4,none⟩=some c4/\W.cell? ⟨q,5,none⟩=some c5/\W.cell? ⟨q,6,none⟩=some c6)/\(W.frozen? ⟨q,0,none⟩=false/\W.frozen? ⟨q,1,none⟩=false/\W.frozen? ⟨q,2,none⟩=false/\W.frozen? ⟨q,3,none⟩=false/\W.frozen? ⟨q,4,none⟩=false/\W.frozen? ⟨q,5,none⟩=false/\W.frozen? ⟨q,6,none⟩=false):=
 ⟨⟨h.cell 0 rfl,h.cell 1 rfl,h.cell 2 rfl,h.cell 3 rfl,h.cell 4 rfl,h.cell 5 rfl,h.cell 6 rfl⟩,⟨h.frozen 0,h.frozen 1,h.frozen 2,h.frozen 3,h.frozen 4,h.frozen 5,h.frozen 6⟩⟩
theorem BoxN.sets7 {W:World} {q:Nat} {t:TypeId} {c0 c1 c2 c3 c4 c5 c6:Value} (h:BoxN W q t #[c0,c1,c2,c3,c4,c5,c6]) (v0 v1 v2 v3 v4 v5 v6:Value):BoxN (((((((W.setCell ⟨q,0,none⟩ v0).setCell ⟨q,1,none⟩ v1).setCell ⟨q,2,none⟩ v2).setCell ⟨q,3,none⟩ v3).setCell ⟨q,4,none⟩ v4).setCell ⟨q,5,none⟩ v5).setCell ⟨q,6,none⟩ v6) q t #[v0,v1,v2,v3,v4,v5,v6]:=by
 have h1:BoxN (W.setCell ⟨q,0,none⟩ v0) q t #[v0,c1,c2,c3,c4,c5,c6]:=h.set 0 v0;have h2:BoxN ((W.setCell ⟨q,0,none⟩ v0).setCell ⟨q,1,none⟩ v1) q t #[v0,v1,c2,c3,c4,c5,c6]:=h1.set 1 v1;have h3:BoxN (((W.setCell ⟨q,0,none⟩ v0).setCell ⟨q,1,none⟩ v1).setCell ⟨q,2,none⟩ v2) q t #[v0,v1,v2,c3,c4,c5,c6]:=h2.set 2 v2;have h4:BoxN ((((W.setCell ⟨q,0,none⟩ v0).setCell ⟨q,1,none⟩ v1).setCell ⟨q,2,none⟩ v2).setCell ⟨q,3,none⟩ v3) q t #[v0,v1,v2,v3,c4,c5,c6]:=h3.set 3 v3;have h5:BoxN (((((W.setCell ⟨q,0,none⟩ v0).setCell ⟨q,1,none⟩ v1).setCell ⟨q,2,none⟩ v2).setCell ⟨q,3,none⟩ v3).setCell ⟨q,4,none⟩ v4) q t #[v0,v1,v2,v3,v4,c5,c6]:=h4.set 4 v4;have h6:BoxN ((((((W.setCell ⟨q,0,none⟩ v0).setCell ⟨q,1,none⟩ v1).setCell ⟨q,2,none⟩ v2).setCell ⟨q,3,none⟩ v3).setCell ⟨q,4,none⟩ v4).setCell ⟨q,5,none⟩ v5) q t #[v0,v1,v2,v3,v4,v5,c6]:=h5.set 5 v5;have h7:BoxN (((((((W.setCell ⟨q,0,none⟩ v0).setCell ⟨q,1,none⟩ v1).setCell ⟨q,2,none⟩ v2).setCell ⟨q,3,none⟩ v3).setCell ⟨q,4,none⟩ v4).setCell ⟨q,5,none⟩ v5).setCell ⟨q,6,none⟩ v6) q t #[v0,v1,v2,v3,v4,v5,v6]:=h6.set 6 v6;exact h7
abbrev Xcf (W:World) (rb:Nat):Prop:=
 (W.cell? ⟨rb,0,none⟩=some (X5 W ⟨rb,0,none⟩)/\W.cell? ⟨rb,1,none⟩=some (X5 W ⟨rb,1,none⟩)/\W.cell? ⟨rb,2,none⟩=some (X5 W ⟨rb,2,none⟩)/\W.cell? ⟨rb,3,none⟩=some (X5 W ⟨rb,3,none⟩)/\W.cell? ⟨rb,4,none⟩=some (X5 W ⟨rb,4,none⟩)/\W.cell? ⟨rb,5,none⟩=some (X5 W ⟨rb,5,none⟩)/\W.cell? ⟨rb,6,none⟩=some (X5 W ⟨rb,6,none⟩)) /\
 (W.frozen? ⟨rb,0,none⟩=false/\W.frozen? ⟨rb,1,none⟩=false/\W.frozen? ⟨rb,2,none⟩=false/\W.frozen? ⟨rb,3,none⟩=false/\W.frozen? ⟨rb,4,none⟩=false/\W.frozen? ⟨rb,5,none⟩=false/\W.frozen? ⟨rb,6,none⟩=false)
theorem Xcf.below {W W':World} {rb:Nat} (h:Xcf W rb) (hb:Below W.heap.size W W'):Xcf W' rb:=by
 have hlt:rb<W.heap.size:=World.block_lt_of_cell? _ _ h.1.1
 have c:∀ i,W'.cell? ⟨rb,i,none⟩=W.cell? ⟨rb,i,none⟩:=fun i=>hb.cell (p:=⟨rb,i,none⟩) hlt
 have f:∀ i,W'.frozen? ⟨rb,i,none⟩=W.frozen? ⟨rb,i,none⟩:=fun i=>hb.frozen (p:=⟨rb,i,none⟩) hlt
 have e:∀ i,X5 W' ⟨rb,i,none⟩=X5 W ⟨rb,i,none⟩:=fun i=>by unfold X5;rw [c i]
 simp only [Xcf,c,f,e];exact h
theorem Xcf.mk {W:World} {rb:Nat} (h:∀ i,i<7->(W.cell? ⟨rb,i,none⟩).isSome) (f:∀ i,i<7->W.frozen? ⟨rb,i,none⟩=false):Xcf W rb:=
 ⟨⟨Xg (h 0 (by omega)),Xg (h 1 (by omega)),Xg (h 2 (by omega)),Xg (h 3 (by omega)),Xg (h 4 (by omega)),Xg (h 5 (by omega)),Xg (h 6 (by omega))⟩,f 0 (by omega),f 1 (by omega),f 2 (by omega),f 3 (by omega),f 4 (by omega),f 5 (by omega),f 6 (by omega)⟩
theorem BoxN.row7 {W:World} {q:Nat} {t:TypeId} {c0 c1 c2 c3 c4 c5 c6:Value} (h:BoxN W q t #[c0,c1,c2,c3,c4,c5,c6]):Xcf W q:=by
 refine Xcf.mk (fun i hi=>?_) (fun i _=>h.frozen i);rw [h.cell i (v:=#[c0,c1,c2,c3,c4,c5,c6][i]) (by simp [hi])];rfl
theorem Xcf.set {W:World} {rb:Nat} (h:Xcf W rb) (a:Addr) (v:Value):Xcf (W.setCell a v) rb:=by
 obtain⟨⟨c0,c1,c2,c3,c4,c5,c6⟩,f0,f1,f2,f3,f4,f5,f6⟩:=h
 have g:∀ i,(W.cell? ⟨rb,i,none⟩).isSome->((W.setCell a v).cell? ⟨rb,i,none⟩).isSome:=fun i hi=>by
  obtain⟨x,hx⟩:=Option.isSome_iff_exists.1 hi;obtain⟨y,hy⟩:=cell?_setCell_some (w:=W) (p:=a) (x:=v) hx;rw [hy];rfl
 have f:∀ i,(W.setCell a v).frozen? ⟨rb,i,none⟩=W.frozen? ⟨rb,i,none⟩:=fun i=>World.frozen?_setCell _ _ _ _
 exact⟨⟨Xg (g 0 (by rw [c0];rfl)),Xg (g 1 (by rw [c1];rfl)),Xg (g 2 (by rw [c2];rfl)),Xg (g 3 (by rw [c3];rfl)),Xg (g 4 (by rw [c4];rfl)),Xg (g 5 (by rw [c5];rfl)),Xg (g 6 (by rw [c6];rfl))⟩,(f 0).trans f0,(f 1).trans f1,(f 2).trans f2,(f 3).trans f3,(f 4).trans f4,(f 5).trans f5,(f 6).trans f6⟩
theorem Xcf.sets {W:World} {rb:Nat} (h:Xcf W rb) (v0 v1 v2 v3 v4 v5 v6:Value):(((((((W.setCell ⟨rb,0,none⟩ v0).setCell ⟨rb,1,none⟩ v1).setCell ⟨rb,2,none⟩ v2).setCell ⟨rb,3,none⟩ v3).setCell ⟨rb,4,none⟩ v4).setCell ⟨rb,5,none⟩ v5).setCell ⟨rb,6,none⟩ v6).cell? ⟨rb,0,none⟩=some v0/\(((((((W.setCell ⟨rb,0,none⟩ v0).setCell ⟨rb,1,none⟩ v1).setCell ⟨rb,2,none⟩ v2).setCell ⟨rb,3,none⟩ v3).setCell ⟨rb,4,none⟩ v4).setCell ⟨rb,5,none⟩ v5).setCell ⟨rb,6,none⟩ v6).cell? ⟨rb,1,none⟩=some v1/\(((((((W.setCell ⟨rb,0,none⟩ v0).setCell ⟨rb,1,none⟩ v1).setCell ⟨rb,2,none⟩ v2).setCell ⟨rb,3,none⟩ v3).setCell ⟨rb,4,none⟩ v4).setCell ⟨rb,5,none⟩ v5).setCell ⟨rb,6,none⟩ v6).cell? ⟨rb,2,none⟩=some v2/\(((((((W.setCell ⟨rb,0,none⟩ v0).setCell ⟨rb,1,none⟩ v1).setCell ⟨rb,2,none⟩ v2).setCell ⟨rb,3,none⟩ v3).setCell ⟨rb,4,none⟩ v4).setCell ⟨rb,5,none⟩ v5).setCell ⟨rb,6,none⟩ v6).cell? ⟨rb,3,none⟩=some v3/\(((((((W.setCell ⟨rb,0,none⟩ v0).setCell ⟨rb,1,none⟩ v1).setCell ⟨rb,2,none⟩ v2).setCell ⟨rb,3,none⟩ v3).setCell ⟨rb,4,none⟩ v4).setCell ⟨rb,5,none⟩ v5).setCell ⟨rb,6,none⟩ v6).cell? ⟨rb,4,none⟩=some v4/\(((((((W.setCell ⟨rb,0,none⟩ v0).setCell ⟨rb,1,none⟩ v1).setCell ⟨rb,2,none⟩ v2).setCell ⟨rb,3,none⟩ v3).setCell ⟨rb,4,none⟩ v4).setCell ⟨rb,5,none⟩ v5).setCell ⟨rb,6,none⟩ v6).cell? ⟨rb,5,none⟩=some v5/\(((((((W.setCell ⟨rb,0,none⟩ v0).setCell ⟨rb,1,none⟩ v1).setCell ⟨rb,2,none⟩ v2).setCell ⟨rb,3,none⟩ v3).setCell ⟨rb,4,none⟩ v4).setCell ⟨rb,5,none⟩ v5).setCell ⟨rb,6,none⟩ v6).cell? ⟨rb,6,none⟩=some v6:=by
 have o:∀(V:World) (i j:Nat) (v:Value),i≠j->(V.setCell ⟨rb,i,none⟩ v).cell? ⟨rb,j,none⟩=V.cell? ⟨rb,j,none⟩:=fun V i j v _=>World.cell?_setCell_other _ _ _ _ (by simp)
 have h0:=h;have h1:=h0.set ⟨rb,0,none⟩ v0;have h2:=h1.set ⟨rb,1,none⟩ v1;have h3:=h2.set ⟨rb,2,none⟩ v2;have h4:=h3.set ⟨rb,3,none⟩ v3;have h5:=h4.set ⟨rb,4,none⟩ v4;have h6:=h5.set ⟨rb,5,none⟩ v5;have s0:=World.cell?_setCell_same _ _ v0 h0.1.1;have s1:=World.cell?_setCell_same _ _ v1 h1.1.2.1;have s2:=World.cell?_setCell_same _ _ v2 h2.1.2.2.1;have s3:=World.cell?_setCell_same _ _ v3 h3.1.2.2.2.1;have s4:=World.cell?_setCell_same _ _ v4 h4.1.2.2.2.2.1;have s5:=World.cell?_setCell_same _ _ v5 h5.1.2.2.2.2.2.1;have s6:=World.cell?_setCell_same _ _ v6 h6.1.2.2.2.2.2.2;refine⟨?_,?_,?_,?_,?_,?_,s6⟩
 ·rw [o _ 6 0 _ (by omega),o _ 5 0 _ (by omega),o _ 4 0 _ (by omega),o _ 3 0 _ (by omega),o _ 2 0 _ (by omega),o _ 1 0 _ (by omega),s0]
 ·rw [o _ 6 1 _ (by omega),o _ 5 1 _ (by omega),o _ 4 1 _ (by omega),o _ 3 1 _ (by omega),o _ 2 1 _ (by omega),s1]
 ·rw [o _ 6 2 _ (by omega),o _ 5 2 _ (by omega),o _ 4 2 _ (by omega),o _ 3 2 _ (by omega),s2]
 ·rw [o _ 6 3 _ (by omega),o _ 5 3 _ (by omega),o _ 4 3 _ (by omega),s3]
 ·rw [o _ 6 4 _ (by omega),o _ 5 4 _ (by omega),s4]
 rw [o _ 6 5 _ (by omega),s5]
theorem BoxN.Xmv {W:World} {q:Nat} {t:TypeId} {c0 c1 c2 c3 c4 c5 c6 c7 c8 c9:Value} (h:BoxN W q t #[c0,c1,c2,c3,c4,c5,c6,c7,c8,c9]):(W.cell? ⟨q,0,none⟩=some c0/\W.cell? ⟨q,1,none⟩=some c1/\W.cell? ⟨q,2,none⟩=some c2/\W.cell? ⟨q,3,none⟩=some c3/\W.cell? ⟨q,4,none⟩=some c4/\W.cell? ⟨q,5,none⟩=some c5/\W.cell? ⟨q,6,none⟩=some c6/\W.cell? ⟨q,7,none⟩=some c7/\W.cell? ⟨q,8,none⟩=some c8/\W.cell? ⟨q,9,none⟩=some c9)/\(W.frozen? ⟨q,0,none⟩=false/\W.frozen? ⟨q,1,none⟩=false/\W.frozen? ⟨q,2,none⟩=false/\W.frozen? ⟨q,3,none⟩=false/\W.frozen? ⟨q,4,none⟩=false/\W.frozen? ⟨q,5,none⟩=false/\W.frozen? ⟨q,6,none⟩=false/\W.frozen? ⟨q,7,none⟩=false/\W.frozen? ⟨q,8,none⟩=false/\W.frozen? ⟨q,9,none⟩=false):=
 ⟨⟨h.cell 0 rfl,h.cell 1 rfl,h.cell 2 rfl,h.cell 3 rfl,h.cell 4 rfl,h.cell 5 rfl,h.cell 6 rfl,h.cell 7 rfl,h.cell 8 rfl,h.cell 9 rfl⟩,⟨h.frozen 0,h.frozen 1,h.frozen 2,h.frozen 3,h.frozen 4,h.frozen 5,h.frozen 6,h.frozen 7,h.frozen 8,h.frozen 9⟩⟩
theorem BoxN.sets10 {W:World} {q:Nat} {t:TypeId} {c0 c1 c2 c3 c4 c5 c6 c7 c8 c9:Value} (h:BoxN W q t #[c0,c1,c2,c3,c4,c5,c6,c7,c8,c9]) (v0 v1 v2 v3 v4 v5 v6 v7 v8 v9:Value):BoxN ((((((((((W.setCell ⟨q,0,none⟩ v0).setCell ⟨q,1,none⟩ v1).setCell ⟨q,2,none⟩ v2).setCell ⟨q,3,none⟩ v3).setCell ⟨q,4,none⟩ v4).setCell ⟨q,5,none⟩ v5).setCell ⟨q,6,none⟩ v6).setCell ⟨q,7,none⟩ v7).setCell ⟨q,8,none⟩ v8).setCell ⟨q,9,none⟩ v9) q t #[v0,v1,v2,v3,v4,v5,v6,v7,v8,v9]:=by
 have h1:BoxN (W.setCell ⟨q,0,none⟩ v0) q t #[v0,c1,c2,c3,c4,c5,c6,c7,c8,c9]:=h.set 0 v0;have h2:BoxN ((W.setCell ⟨q,0,none⟩ v0).setCell ⟨q,1,none⟩ v1) q t #[v0,v1,c2,c3,c4,c5,c6,c7,c8,c9]:=h1.set 1 v1;have h3:BoxN (((W.setCell ⟨q,0,none⟩ v0).setCell ⟨q,1,none⟩ v1).setCell ⟨q,2,none⟩ v2) q t #[v0,v1,v2,c3,c4,c5,c6,c7,c8,c9]:=h2.set 2 v2;have h4:BoxN ((((W.setCell ⟨q,0,none⟩ v0).setCell ⟨q,1,none⟩ v1).setCell ⟨q,2,none⟩ v2).setCell ⟨q,3,none⟩ v3) q t #[v0,v1,v2,v3,c4,c5,c6,c7,c8,c9]:=h3.set 3 v3;have h5:BoxN (((((W.setCell ⟨q,0,none⟩ v0).setCell ⟨q,1,none⟩ v1).setCell ⟨q,2,none⟩ v2).setCell ⟨q,3,none⟩ v3).setCell ⟨q,4,none⟩ v4) q t #[v0,v1,v2,v3,v4,c5,c6,c7,c8,c9]:=h4.set 4 v4;have h6:BoxN ((((((W.setCell ⟨q,0,none⟩ v0).setCell ⟨q,1,none⟩ v1).setCell ⟨q,2,none⟩ v2).setCell ⟨q,3,none⟩ v3).setCell ⟨q,4,none⟩ v4).setCell ⟨q,5,none⟩ v5) q t #[v0,v1,v2,v3,v4,v5,c6,c7,c8,c9]:=h5.set 5 v5;have h7:BoxN (((((((W.setCell ⟨q,0,none⟩ v0).setCell ⟨q,1,none⟩ v1).setCell ⟨q,2,none⟩ v2).setCell ⟨q,3,none⟩ v3).setCell ⟨q,4,none⟩ v4).setCell ⟨q,5,none⟩ v5).setCell ⟨q,6,none⟩ v6) q t #[v0,v1,v2,v3,v4,v5,v6,c7,c8,c9]:=h6.set 6 v6;have h8:BoxN ((((((((W.setCell ⟨q,0,none⟩ v0).setCell ⟨q,1,none⟩ v1).setCell ⟨q,2,none⟩ v2).setCell ⟨q,3,none⟩ v3).setCell ⟨q,4,none⟩ v4).setCell ⟨q,5,none⟩ v5).setCell ⟨q,6,none⟩ v6).setCell ⟨q,7,none⟩ v7) q t #[v0,v1,v2,v3,v4,v5,v6,v7,c8,c9]:=h7.set 7 v7;have h9:BoxN (((((((((W.setCell ⟨q,0,none⟩ v0).setCell ⟨q,1,none⟩ v1).setCell ⟨q,2,none⟩ v2).setCell ⟨q,3,none⟩ v3).setCell ⟨q,4,none⟩ v4).setCell ⟨q,5,none⟩ v5).setCell ⟨q,6,none⟩ v6).setCell ⟨q,7,none⟩ v7).setCell ⟨q,8,none⟩ v8) q t #[v0,v1,v2,v3,v4,v5,v6,v7,v8,c9]:=h8.set 8 v8;have h10:BoxN ((((((((((W.setCell ⟨q,0,none⟩ v0).setCell ⟨q,1,none⟩ v1).setCell ⟨q,2,none⟩ v2).setCell ⟨q,3,none⟩ v3).setCell ⟨q,4,none⟩ v4).setCell ⟨q,5,none⟩ v5).setCell ⟨q,6,none⟩ v6).setCell ⟨q,7,none⟩ v7).setCell ⟨q,8,none⟩ v8).setCell ⟨q,9,none⟩ v9) q t #[v0,v1,v2,v3,v4,v5,v6,v7,v8,v9]:=h9.set 9 v9;exact h10
theorem Xkl {B:Nat} {w W:World} (hb:Below B w W) {q:Nat} (hq:B<=q) (v0 v1 v2 v3 v4 v5 v6 v7 v8 v9:Value):Below B w ((((((((((W.setCell ⟨q,0,none⟩ v0).setCell ⟨q,1,none⟩ v1).setCell ⟨q,2,none⟩ v2).setCell ⟨q,3,none⟩ v3).setCell ⟨q,4,none⟩ v4).setCell ⟨q,5,none⟩ v5).setCell ⟨q,6,none⟩ v6).setCell ⟨q,7,none⟩ v7).setCell ⟨q,8,none⟩ v8).setCell ⟨q,9,none⟩ v9):=((((((((((hb.setCell (p:=⟨q,0,none⟩) hq v0).setCell (p:=⟨q,1,none⟩) hq v1).setCell (p:=⟨q,2,none⟩) hq v2).setCell (p:=⟨q,3,none⟩) hq v3).setCell (p:=⟨q,4,none⟩) hq v4).setCell (p:=⟨q,5,none⟩) hq v5).setCell (p:=⟨q,6,none⟩) hq v6).setCell (p:=⟨q,7,none⟩) hq v7).setCell (p:=⟨q,8,none⟩) hq v8).setCell (p:=⟨q,9,none⟩) hq v9)
abbrev Ui (W:World) (rb:Nat):Prop:=
 (W.cell? ⟨rb,0,none⟩=some (X5 W ⟨rb,0,none⟩)/\W.cell? ⟨rb,1,none⟩=some (X5 W ⟨rb,1,none⟩)/\W.cell? ⟨rb,2,none⟩=some (X5 W ⟨rb,2,none⟩)/\W.cell? ⟨rb,3,none⟩=some (X5 W ⟨rb,3,none⟩)/\W.cell? ⟨rb,4,none⟩=some (X5 W ⟨rb,4,none⟩)/\W.cell? ⟨rb,5,none⟩=some (X5 W ⟨rb,5,none⟩)/\W.cell? ⟨rb,6,none⟩=some (X5 W ⟨rb,6,none⟩)/\W.cell? ⟨rb,7,none⟩=some (X5 W ⟨rb,7,none⟩)/\W.cell? ⟨rb,8,none⟩=some (X5 W ⟨rb,8,none⟩)/\W.cell? ⟨rb,9,none⟩=some (X5 W ⟨rb,9,none⟩)) /\
 (W.frozen? ⟨rb,0,none⟩=false/\W.frozen? ⟨rb,1,none⟩=false/\W.frozen? ⟨rb,2,none⟩=false/\W.frozen? ⟨rb,3,none⟩=false/\W.frozen? ⟨rb,4,none⟩=false/\W.frozen? ⟨rb,5,none⟩=false/\W.frozen? ⟨rb,6,none⟩=false/\W.frozen? ⟨rb,7,none⟩=false/\W.frozen? ⟨rb,8,none⟩=false/\W.frozen? ⟨rb,9,none⟩=false)
theorem Ui.below {W W':World} {rb:Nat} (h:Ui W rb) (hb:Below W.heap.size W W'):Ui W' rb:=by
 have hlt:rb<W.heap.size:=World.block_lt_of_cell? _ _ h.1.1
 have c:∀ i,W'.cell? ⟨rb,i,none⟩=W.cell? ⟨rb,i,none⟩:=fun i=>hb.cell (p:=⟨rb,i,none⟩) hlt
 have f:∀ i,W'.frozen? ⟨rb,i,none⟩=W.frozen? ⟨rb,i,none⟩:=fun i=>hb.frozen (p:=⟨rb,i,none⟩) hlt
 have e:∀ i,X5 W' ⟨rb,i,none⟩=X5 W ⟨rb,i,none⟩:=fun i=>by unfold X5;rw [c i]
 simp only [Ui,c,f,e];exact h
theorem Ui.mk {W:World} {rb:Nat} (h:∀ i,i<10->(W.cell? ⟨rb,i,none⟩).isSome) (f:∀ i,i<10->W.frozen? ⟨rb,i,none⟩=false):Ui W rb:=
 ⟨⟨Xg (h 0 (by omega)),Xg (h 1 (by omega)),Xg (h 2 (by omega)),Xg (h 3 (by omega)),Xg (h 4 (by omega)),Xg (h 5 (by omega)),Xg (h 6 (by omega)),Xg (h 7 (by omega)),Xg (h 8 (by omega)),Xg (h 9 (by omega))⟩,f 0 (by omega),f 1 (by omega),f 2 (by omega),f 3 (by omega),f 4 (by omega),f 5 (by omega),f 6 (by omega),f 7 (by omega),f 8 (by omega),f 9 (by omega)⟩
theorem BoxN.row10 {W:World} {q:Nat} {t:TypeId} {c0 c1 c2 c3 c4 c5 c6 c7 c8 c9:Value} (h:BoxN W q t #[c0,c1,c2,c3,c4,c5,c6,c7,c8,c9]):Ui W q:=by
 refine Ui.mk (fun i hi=>?_) (fun i _=>h.frozen i);rw [h.cell i (v:=#[c0,c1,c2,c3,c4,c5,c6,c7,c8,c9][i]) (by simp [hi])];rfl
theorem Ui.set {W:World} {rb:Nat} (h:Ui W rb) (a:Addr) (v:Value):Ui (W.setCell a v) rb:=by
 obtain⟨⟨c0,c1,c2,c3,c4,c5,c6,c7,c8,c9⟩,f0,f1,f2,f3,f4,f5,f6,f7,f8,f9⟩:=h
 have g:∀ i,(W.cell? ⟨rb,i,none⟩).isSome->((W.setCell a v).cell? ⟨rb,i,none⟩).isSome:=fun i hi=>by
  obtain⟨x,hx⟩:=Option.isSome_iff_exists.1 hi;obtain⟨y,hy⟩:=cell?_setCell_some (w:=W) (p:=a) (x:=v) hx;rw [hy];rfl
 have f:∀ i,(W.setCell a v).frozen? ⟨rb,i,none⟩=W.frozen? ⟨rb,i,none⟩:=fun i=>World.frozen?_setCell _ _ _ _
 exact⟨⟨Xg (g 0 (by rw [c0];rfl)),Xg (g 1 (by rw [c1];rfl)),Xg (g 2 (by rw [c2];rfl)),Xg (g 3 (by rw [c3];rfl)),Xg (g 4 (by rw [c4];rfl)),Xg (g 5 (by rw [c5];rfl)),Xg (g 6 (by rw [c6];rfl)),Xg (g 7 (by rw [c7];rfl)),Xg (g 8 (by rw [c8];rfl)),Xg (g 9 (by rw [c9];rfl))⟩,(f 0).trans f0,(f 1).trans f1,(f 2).trans f2,(f 3).trans f3,(f 4).trans f4,(f 5).trans f5,(f 6).trans f6,(f 7).trans f7,(f 8).trans f8,(f 9).trans f9⟩
theorem Ui.sets {W:World} {rb:Nat} (h:Ui W rb) (v0 v1 v2 v3 v4 v5 v6 v7 v8 v9:Value):((((((((((W.setCell ⟨rb,0,none⟩ v0).setCell ⟨rb,1,none⟩ v1).setCell ⟨rb,2,none⟩ v2).setCell ⟨rb,3,none⟩ v3).setCell ⟨rb,4,none⟩ v4).setCell ⟨rb,5,none⟩ v5).setCell ⟨rb,6,none⟩ v6).setCell ⟨rb,7,none⟩ v7).setCell ⟨rb,8,none⟩ v8).setCell ⟨rb,9,none⟩ v9).cell? ⟨rb,0,none⟩=some v0/\((((((((((W.setCell ⟨rb,0,none⟩ v0).setCell ⟨rb,1,none⟩ v1).setCell ⟨rb,2,none⟩ v2).setCell ⟨rb,3,none⟩ v3).setCell ⟨rb,4,none⟩ v4).setCell ⟨rb,5,none⟩ v5).setCell ⟨rb,6,none⟩ v6).setCell ⟨rb,7,none⟩ v7).setCell ⟨rb,8,none⟩ v8).setCell ⟨rb,9,none⟩ v9).cell? ⟨rb,1,none⟩=some v1/\((((((((((W.setCell ⟨rb,0,none⟩ v0).setCell ⟨rb,1,none⟩ v1).setCell ⟨rb,2,none⟩ v2).setCell ⟨rb,3,none⟩ v3).setCell ⟨rb,4,none⟩ v4).setCell ⟨rb,5,none⟩ v5).setCell ⟨rb,6,none⟩ v6).setCell ⟨rb,7,none⟩ v7).setCell ⟨rb,8,none⟩ v8).setCell ⟨rb,9,none⟩ v9).cell? ⟨rb,2,none⟩=some v2/\((((((((((W.setCell ⟨rb,0,none⟩ v0).setCell ⟨rb,1,none⟩ v1).setCell ⟨rb,2,none⟩ v2).setCell ⟨rb,3,none⟩ v3).setCell ⟨rb,4,none⟩ v4).setCell ⟨rb,5,none⟩ v5).setCell ⟨rb,6,none⟩ v6).setCell ⟨rb,7,none⟩ v7).setCell ⟨rb,8,none⟩ v8).setCell ⟨rb,9,none⟩ v9).cell? ⟨rb,3,none⟩=some v3/\((((((((((W.setCell ⟨rb,0,none⟩ v0).setCell ⟨rb,1,none⟩ v1).setCell ⟨rb,2,none⟩ v2).setCell ⟨rb,3,none⟩ v3).setCell ⟨rb,4,none⟩ v4).setCell ⟨rb,5,none⟩ v5).setCell ⟨rb,6,none⟩ v6).setCell ⟨rb,7,none⟩ v7).setCell ⟨rb,8,none⟩ v8).setCell ⟨rb,9,none⟩ v9).cell? ⟨rb,4,none⟩=some v4/\((((((((((W.setCell ⟨rb,0,none⟩ v0).setCell ⟨rb,1,none⟩ v1).setCell ⟨rb,2,none⟩ v2).setCell ⟨rb,3,none⟩ v3).setCell ⟨rb,4,none⟩ v4).setCell ⟨rb,5,none⟩ v5).setCell ⟨rb,6,none⟩ v6).setCell ⟨rb,7,none⟩ v7).setCell ⟨rb,8,none⟩ v8).setCell ⟨rb,9,none⟩ v9).cell? ⟨rb,5,none⟩=some v5/\((((((((((W.setCell ⟨rb,0,none⟩ v0).setCell ⟨rb,1,none⟩ v1).setCell ⟨rb,2,none⟩ v2).setCell ⟨rb,3,none⟩ v3).setCell ⟨rb,4,none⟩ v4).setCell ⟨rb,5,none⟩ v5).setCell ⟨rb,6,none⟩ v6).setCell ⟨rb,7,none⟩ v7).setCell ⟨rb,8,none⟩ v8).setCell ⟨rb,9,none⟩ v9).cell? ⟨rb,6,none⟩=some v6/\((((((((((W.setCell ⟨rb,0,none⟩ v0).setCell ⟨rb,1,none⟩ v1).setCell ⟨rb,2,none⟩ v2).setCell ⟨rb,3,none⟩ v3).setCell ⟨rb,4,none⟩ v4).setCell ⟨rb,5,none⟩ v5).setCell ⟨rb,6,none⟩ v6).setCell ⟨rb,7,none⟩ v7).setCell ⟨rb,8,none⟩ v8).setCell ⟨rb,9,none⟩ v9).cell? ⟨rb,7,none⟩=some v7/\((((((((((W.setCell ⟨rb,0,none⟩ v0).setCell ⟨rb,1,none⟩ v1).setCell ⟨rb,2,none⟩ v2).setCell ⟨rb,3,none⟩ v3).setCell ⟨rb,4,none⟩ v4).setCell ⟨rb,5,none⟩ v5).setCell ⟨rb,6,none⟩ v6).setCell ⟨rb,7,none⟩ v7).setCell ⟨rb,8,none⟩ v8).setCell ⟨rb,9,none⟩ v9).cell? ⟨rb,8,none⟩=some v8/\((((((((((W.setCell ⟨rb,0,none⟩ v0).setCell ⟨rb,1,none⟩ v1).setCell ⟨rb,2,none⟩ v2).setCell ⟨rb,3,none⟩ v3).setCell ⟨rb,4,none⟩ v4).setCell ⟨rb,5,none⟩ v5).setCell ⟨rb,6,none⟩ v6).setCell ⟨rb,7,none⟩ v7).setCell ⟨rb,8,none⟩ v8).setCell ⟨rb,9,none⟩ v9).cell? ⟨rb,9,none⟩=some v9:=by
 have o:∀(V:World) (i j:Nat) (v:Value),i≠j->(V.setCell ⟨rb,i,none⟩ v).cell? ⟨rb,j,none⟩=V.cell? ⟨rb,j,none⟩:=fun V i j v _=>World.cell?_setCell_other _ _ _ _ (by simp)
 have h0:=h;have h1:=h0.set ⟨rb,0,none⟩ v0;have h2:=h1.set ⟨rb,1,none⟩ v1;have h3:=h2.set ⟨rb,2,none⟩ v2;have h4:=h3.set ⟨rb,3,none⟩ v3;have h5:=h4.set ⟨rb,4,none⟩ v4;have h6:=h5.set ⟨rb,5,none⟩ v5;have h7:=h6.set ⟨rb,6,none⟩ v6;have h8:=h7.set ⟨rb,7,none⟩ v7;have h9:=h8.set ⟨rb,8,none⟩ v8;have s0:=World.cell?_setCell_same _ _ v0 h0.1.1;have s1:=World.cell?_setCell_same _ _ v1 h1.1.2.1;have s2:=World.cell?_setCell_same _ _ v2 h2.1.2.2.1;have s3:=World.cell?_setCell_same _ _ v3 h3.1.2.2.2.1;have s4:=World.cell?_setCell_same _ _ v4 h4.1.2.2.2.2.1;have s5:=World.cell?_setCell_same _ _ v5 h5.1.2.2.2.2.2.1;have s6:=World.cell?_setCell_same _ _ v6 h6.1.2.2.2.2.2.2.1;have s7:=World.cell?_setCell_same _ _ v7 h7.1.2.2.2.2.2.2.2.1;have s8:=World.cell?_setCell_same _ _ v8 h8.1.2.2.2.2.2.2.2.2.1;have s9:=World.cell?_setCell_same _ _ v9 h9.1.2.2.2.2.2.2.2.2.2;refine⟨?_,?_,?_,?_,?_,?_,?_,?_,?_,s9⟩
 ·rw [o _ 9 0 _ (by omega),o _ 8 0 _ (by omega),o _ 7 0 _ (by omega),o _ 6 0 _ (by omega),o _ 5 0 _ (by omega),o _ 4 0 _ (by omega),o _ 3 0 _ (by omega),o _ 2 0 _ (by omega),o _ 1 0 _ (by omega),s0]
 ·rw [o _ 9 1 _ (by omega),o _ 8 1 _ (by omega),o _ 7 1 _ (by omega),o _ 6 1 _ (by omega),o _ 5 1 _ (by omega),o _ 4 1 _ (by omega),o _ 3 1 _ (by omega),o _ 2 1 _ (by omega),s1]
 ·rw [o _ 9 2 _ (by omega),o _ 8 2 _ (by omega),o _ 7 2 _ (by omega),o _ 6 2 _ (by omega),o _ 5 2 _ (by omega),o _ 4 2 _ (by omega),o _ 3 2 _ (by omega),s2]
 ·rw [o _ 9 3 _ (by omega),o _ 8 3 _ (by omega),o _ 7 3 _ (by omega),o _ 6 3 _ (by omega),o _ 5 3 _ (by omega),o _ 4 3 _ (by omega),s3]
 ·rw [o _ 9 4 _ (by omega),o _ 8 4 _ (by omega),o _ 7 4 _ (by omega),o _ 6 4 _ (by omega),o _ 5 4 _ (by omega),s4]
 ·rw [o _ 9 5 _ (by omega),o _ 8 5 _ (by omega),o _ 7 5 _ (by omega),o _ 6 5 _ (by omega),s5]
 ·rw [o _ 9 6 _ (by omega),o _ 8 6 _ (by omega),o _ 7 6 _ (by omega),s6]
 ·rw [o _ 9 7 _ (by omega),o _ 8 7 _ (by omega),s7]
 rw [o _ 9 8 _ (by omega),s8]
theorem M5 (w:World) (o o':Obj):Below w.heap.size w ((w.alloc o).alloc o'):=((Below.refl _ w).alloc (Nat.le_refl _) _).alloc (by simp) _
structure Yf where
 kind:Int
 nk:Int
 nn:Nat
 ak:Int
 an:Nat
 pd:Bool
 at_:Int
 tr:Int
 last:Int
 pth:List UInt8
def Xi (kind nk nn ak an:Int) (pd:Bool) (at_ tr last:Int) (pth:List UInt8):Array Value:=#[.int .i64 kind,.int .i64 nk,.int .u64 nn,.int .i64 ak,.int .u64 an,.bool pd,.int .u64 at_,.int .i64 tr,.int .u64 last,.string ⟨pth.toArray⟩]
def Yf.cells (r:Yf):Array Value:=Xi r.kind r.nk r.nn r.ak r.an r.pd r.at_ r.tr r.last r.pth
abbrev Ug (W:World) (rb:Nat) (c0 c1 c2 c3 c4 c5 c6 c7 c8 c9:Value):Prop:=(W.cell? ⟨rb,0,none⟩=some c0/\W.cell? ⟨rb,1,none⟩=some c1/\W.cell? ⟨rb,2,none⟩=some c2/\W.cell? ⟨rb,3,none⟩=some c3/\W.cell? ⟨rb,4,none⟩=some c4/\W.cell? ⟨rb,5,none⟩=some c5/\W.cell? ⟨rb,6,none⟩=some c6/\W.cell? ⟨rb,7,none⟩=some c7/\W.cell? ⟨rb,8,none⟩=some c8/\W.cell? ⟨rb,9,none⟩=some c9)
section
variable {W W':World} {rb:Nat} {c0 c1 c2 c3 c4 c5 c6 c7 c8 c9:Value}
theorem Ug.below (h:Ug W rb c0 c1 c2 c3 c4 c5 c6 c7 c8 c9) (hb:Below W.heap.size W W'):Ug W' rb c0 c1 c2 c3 c4 c5 c6 c7 c8 c9:=by
 have hlt:rb<W.heap.size:=World.block_lt_of_cell? _ _ h.1
 have c:∀ i,W'.cell? ⟨rb,i,none⟩=W.cell? ⟨rb,i,none⟩:=fun i=>hb.cell (p:=⟨rb,i,none⟩) hlt
 simp only [Ug,c];exact h
theorem Ug.set (h:Ug W rb c0 c1 c2 c3 c4 c5 c6 c7 c8 c9) {q:Nat} (_:rb≠q) (j:Nat) (v:Value):Ug (W.setCell ⟨q,j,none⟩ v) rb c0 c1 c2 c3 c4 c5 c6 c7 c8 c9:=by
 have c:∀ i,(W.setCell ⟨q,j,none⟩ v).cell? ⟨rb,i,none⟩=W.cell? ⟨rb,i,none⟩:=fun i=>World.cell?_setCell_other _ _ _ _ (by simp)
 simp only [Ug,c];exact h
theorem BoxN.Xc5 {t:TypeId} (h:BoxN W rb t #[c0,c1,c2,c3,c4,c5,c6,c7,c8,c9]):Ug W rb c0 c1 c2 c3 c4 c5 c6 c7 c8 c9:=h.Xmv.1
end
theorem Tryz.Xmz (kind nk nn ak an:Int) (pd:Bool) (at_ tr last:Int) (pth:List UInt8) (w:World) :
  Calls prog 216 #[.agg (Xi kind nk nn ak an pd at_ tr last pth)] w fun e w'=>e=.returned (.agg #[.int .i64 ak,.int .u64 an,.int .u64 at_,.int .i64 tr,.bool pd])/\Below w.heap.size w w':=by
 unfold Xi;go_enter func216,ntmps216;go_wp2;exact bodyPost_ret (v:=.agg #[.int .i64 ak,.int .u64 an,.int .u64 at_,.int .i64 tr,.bool pd]) (by simp [results,results216,go_sem]) rfl ⟨rfl,M5 _ _ _⟩
theorem Tryz.Xtc (kind nk nn ak an:Int) (pd:Bool) (at_ tr last:Int) (pth:List UInt8) (w:World) :
  Calls prog 187 #[.agg (Xi kind nk nn ak an pd at_ tr last pth)] w fun e w'=>e=.returned (.agg #[.int .i64 ak,.int .u64 an,.int .u64 at_,.int .i64 tr,.bool pd])/\Below w.heap.size w w':=by
 have hE:=fun W=>Xmz kind nk nn ak an pd at_ tr last pth W
 unfold Xi at hE ⊢;have b0:=BoxN.new (w.alloc (.cells #[.int .i64 kind,.int .i64 nk,.int .u64 nn,.int .i64 ak,.int .u64 an,.bool pd,.int .u64 at_,.int .i64 tr,.int .u64 last,.string ⟨pth.toArray⟩] 135)) 153 #[.int .i64 0,.int .u64 0,.int .u64 0,.int .i64 0,.bool false];rw [World.size_alloc] at b0;go_enter func187,ntmps187
 go_wp2_with (go_at_call 216;refine(hE _).mono ?_;rintro e w1 ⟨rfl,hb1⟩;have hb:=(M5 w _ _).trans (hb1.mono (by simp;omega));have bR:=b0.below hb1 (by simp);obtain⟨⟨r0,r1,r2,r3,r4⟩,f0,f1,f2,f3,f4⟩:=bR.Xut)
 have bF:=bR.sets5 (.int .i64 ak) (.int .u64 an) (.int .u64 at_) (.int .i64 tr) (.bool pd);have hB:=Xl7 hb (q:=w.heap.size+1) (by omega) (.int .i64 ak) (.int .u64 an) (.int .u64 at_) (.int .i64 tr) (.bool pd);obtain⟨⟨g0,g1,g2,g3,g4⟩,-⟩:=bF.Xut;clear r0 r1 r2 r3 r4;exact bodyPost_ret (v:=.agg #[.int .i64 ak,.int .u64 an,.int .u64 at_,.int .i64 tr,.bool pd]) (by simp [results,results187,go_sem,g0,g1,g2,g3,g4]) rfl ⟨rfl,hB⟩
abbrev Xco (w0:World) (rb nb:Nat) (c0 c1 c2 c3 c4 c5 c6 c7 c8 c9:Value) (W:World):Prop:=Ug W rb c0 c1 c2 c3 c4 c5 c6 c7 c8 c9/\Xcf W nb/\Below w0.heap.size w0 W
section
variable {w0 W W':World} {rb nb:Nat} {c0 c1 c2 c3 c4 c5 c6 c7 c8 c9:Value}
theorem Xco.below (h:Xco w0 rb nb c0 c1 c2 c3 c4 c5 c6 c7 c8 c9 W) (hb:Below W.heap.size W W'):Xco w0 rb nb c0 c1 c2 c3 c4 c5 c6 c7 c8 c9 W':=⟨h.1.below hb,h.2.1.below hb,h.2.2.trans (hb.mono h.2.2.size)⟩
theorem Xco.drew (h:Xco w0 rb nb c0 c1 c2 c3 c4 c5 c6 c7 c8 c9 W):Xco w0 rb nb c0 c1 c2 c3 c4 c5 c6 c7 c8 c9 W.drew:=⟨h.1,h.2.1,h.2.2.drew⟩
theorem Xco.set (h:Xco w0 rb nb c0 c1 c2 c3 c4 c5 c6 c7 c8 c9 W) (hn:rb≠nb) (hw:w0.heap.size<=nb) (j:Nat) (v:Value):Xco w0 rb nb c0 c1 c2 c3 c4 c5 c6 c7 c8 c9 (W.setCell ⟨nb,j,none⟩ v):=⟨h.1.set hn j v,h.2.1.set _ v,h.2.2.setCell (p:=⟨nb,j,none⟩) hw v⟩
end
theorem Tryz.Xtl (kind nk nn ak an:Int) (pd:Bool) (at_ tr last:Int) (pth:List UInt8) (w:World) :
  Calls prog 188 #[.agg (Xi kind nk nn ak an pd at_ tr last pth)] w fun e w'=>e=.returned (.agg #[.int .i64 ak,.int .u64 an,.int .u64 at_,.int .i64 tr,.bool pd,.string ⟨pth.toArray⟩,.int .u64 last])/\Below w.heap.size w w':=by
 have hE:=fun W=>Xmz kind nk nn ak an pd at_ tr last pth W
 unfold Xi at hE ⊢;have b0:=BoxN.new (w.alloc (.cells #[.int .i64 kind,.int .i64 nk,.int .u64 nn,.int .i64 ak,.int .u64 an,.bool pd,.int .u64 at_,.int .i64 tr,.int .u64 last,.string ⟨pth.toArray⟩] 135)) 131 #[.int .i64 0,.int .u64 0,.int .u64 0,.int .i64 0,.bool false,.string ⟨#[]⟩,.int .u64 0];have bq:=(BoxN.new w 135 #[.int .i64 kind,.int .i64 nk,.int .u64 nn,.int .i64 ak,.int .u64 an,.bool pd,.int .u64 at_,.int .i64 tr,.int .u64 last,.string ⟨pth.toArray⟩]).alloc (.cells #[.int .i64 0,.int .u64 0,.int .u64 0,.int .i64 0,.bool false,.string ⟨#[]⟩,.int .u64 0] 131);rw [World.size_alloc] at b0;have hS0:=Xco.drew ⟨bq.Xc5,b0.row7,M5 w _ _⟩;go_enter func188,ntmps188
 go_wp2_with fail
 go_region_held3 (Xco w w.heap.size (w.heap.size+1) (.int .i64 kind) (.int .i64 nk) (.int .u64 nn) (.int .i64 ak) (.int .u64 an) (.bool pd) (.int .u64 at_) (.int .i64 tr) (.int .u64 last) (.string ⟨pth.toArray⟩)) (first
  | with_reducible exact hS0
  | with_reducible exact Xco.below (by assumption) (by assumption)
  | with_reducible assumption
  | with_reducible exact(((((((Xco.set (by assumption) (by omega) (by omega) 0 _).set (by omega) (by omega) 1 _).set (by omega) (by omega) 2 _).set (by omega) (by omega) 3 _).set (by omega) (by omega) 4 _).set (by omega) (by omega) 5 _).set (by omega) (by omega) 6 _)) (first
  | (go_at_call 216;refine(hE _).mono ?_;rintro e w1 ⟨rfl,hb1⟩))
 all_goals
  go_wp2
  rename_i hI
  have hBF:=hI.2.2;have bR:BoxN w1 (w.heap.size+1) 131 #[.int .i64 0,.int .u64 0,.int .u64 0,.int .i64 0,.bool false,.string ⟨#[]⟩,.int .u64 0]:=(hb1.block (w.heap.size+1) (by simp [World.drew])).trans b0;have bF:=bR.sets7 (.int .i64 ak) (.int .u64 an) (.int .u64 at_) (.int .i64 tr) (.bool pd) (.string ⟨pth.toArray⟩) (.int .u64 last);obtain⟨⟨g0,g1,g2,g3,g4,g5,g6⟩,-⟩:=bF.open7;clear hI;exact bodyPost_ret (v:=.agg #[.int .i64 ak,.int .u64 an,.int .u64 at_,.int .i64 tr,.bool pd,.string ⟨pth.toArray⟩,.int .u64 last]) (by simp [results,results188,go_sem,g0,g1,g2,g3,g4,g5,g6]) rfl ⟨rfl,hBF⟩
theorem Tryz.now (vb:Nat) (tm:Int) (w:World) (hT:w.cell? ⟨vb,2,none⟩=some (.int .u64 tm)) :
  Calls prog 121 #[.pointer (some ⟨vb,0,none⟩)] w fun e w'=>e=.returned (.agg (Xi 0 0 0 0 0 false tm 0 0 []))/\Below w.heap.size w w':=by
 unfold Xi;have lt:vb<w.heap.size:=World.block_lt_of_cell? _ _ hT;go_enter func121,ntmps121;go_wp2;exact bodyPost_ret (v:=.agg #[.int .i64 0,.int .i64 0,.int .u64 0,.int .i64 0,.int .u64 0,.bool false,.int .u64 tm,.int .i64 0,.int .u64 0,.string ⟨#[]⟩]) (by simp [results,results121,go_sem]) rfl ⟨rfl,(Below.refl _ w).alloc (Nat.le_refl _) _⟩
theorem Tryz.Xac (b:Nat) (k u ak au at_ tr:Int) (pd:Bool) (w:World)
  (h0:w.cell? ⟨b,0,none⟩=some (.int .i64 ak)) (h1:w.cell? ⟨b,1,none⟩=some (.int .u64 au)) (h2:w.cell? ⟨b,2,none⟩=some (.int .u64 at_)) (h3:w.cell? ⟨b,3,none⟩=some (.int .i64 tr)) (h4:w.cell? ⟨b,4,none⟩=some (.bool pd)) :
  Calls prog 84 #[.pointer (some ⟨b,0,none⟩),.agg #[.int .i64 k,.int .u64 u]] w fun e w'=>e=.returned (.agg (Xi 1 k u ak au pd at_ tr 0 []))/\Below w.heap.size w w':=by
 unfold Xi;have lt:b<w.heap.size:=World.block_lt_of_cell? _ _ h0;go_enter func84,ntmps84;go_wp2
 go_region
 go_wp2;exact bodyPost_ret (v:=.agg #[.int .i64 1,.int .i64 k,.int .u64 u,.int .i64 ak,.int .u64 au,.bool pd,.int .u64 at_,.int .i64 tr,.int .u64 0,.string ⟨#[]⟩]) (by simp [results,results84,go_sem]) rfl ⟨rfl,(M5 w _ _).drew⟩
abbrev LrP (w0:World) (nb b rb:Nat) (k u ak au at_ tr:Int) (pd:Bool) (pth:List UInt8) (last:Int) (W:World):Prop:=
 (W.cell? ⟨nb,0,none⟩=some (.int .i64 k)/\W.cell? ⟨nb,1,none⟩=some (.int .u64 u)) /\
 (W.cell? ⟨b,0,none⟩=some (.int .i64 ak)/\W.cell? ⟨b,1,none⟩=some (.int .u64 au)/\W.cell? ⟨b,2,none⟩=some (.int .u64 at_)/\W.cell? ⟨b,3,none⟩=some (.int .i64 tr)/\W.cell? ⟨b,4,none⟩=some (.bool pd)/\W.cell? ⟨b,5,none⟩=some (.string ⟨pth.toArray⟩)/\W.cell? ⟨b,6,none⟩=some (.int .u64 last)) /\
 Ui W rb/\Below w0.heap.size w0 W
section
variable {w0 W W':World} {nb b rb:Nat} {k u ak au at_ tr:Int} {pd:Bool} {pth:List UInt8} {last:Int}
theorem LrP.below (h:LrP w0 nb b rb k u ak au at_ tr pd pth last W) (hb:Below W.heap.size W W'):LrP w0 nb b rb k u ak au at_ tr pd pth last W':=by
 obtain⟨⟨n0,n1⟩,⟨c0,c1,c2,c3,c4,c5,c6⟩,hr,hB⟩:=h;exact⟨⟨cell_later hb n0,cell_later hb n1⟩,⟨cell_later hb c0,cell_later hb c1,cell_later hb c2,cell_later hb c3,cell_later hb c4,cell_later hb c5,cell_later hb c6⟩,hr.below hb,hB.trans (hb.mono hB.size)⟩
theorem LrP.drew (h:LrP w0 nb b rb k u ak au at_ tr pd pth last W):LrP w0 nb b rb k u ak au at_ tr pd pth last W.drew:=⟨h.1,h.2.1,h.2.2.1,h.2.2.2.drew⟩
theorem LrP.set (h:LrP w0 nb b rb k u ak au at_ tr pd pth last W) (q:Nat) (hn:nb≠q) (hb:b≠q) (hw:w0.heap.size<=q) (j:Nat) (v:Value):LrP w0 nb b rb k u ak au at_ tr pd pth last (W.setCell ⟨q,j,none⟩ v):=by
 obtain⟨⟨n0,n1⟩,⟨c0,c1,c2,c3,c4,c5,c6⟩,hr,hB⟩:=h
 have o:∀(p i:Nat),p≠q->(W.setCell ⟨q,j,none⟩ v).cell? ⟨p,i,none⟩=W.cell? ⟨p,i,none⟩:=fun p i hp=>World.cell?_setCell_other _ _ _ _ (by simp)
 exact⟨⟨(o _ _ hn).trans n0,(o _ _ hn).trans n1⟩,⟨(o _ _ hb).trans c0,(o _ _ hb).trans c1,(o _ _ hb).trans c2,(o _ _ hb).trans c3,(o _ _ hb).trans c4,(o _ _ hb).trans c5,(o _ _ hb).trans c6⟩,hr.set _ v,hB.setCell (p:=⟨q,j,none⟩) hw v⟩
theorem LrP.sets10 (h:LrP w0 nb b rb k u ak au at_ tr pd pth last W) (q:Nat) (hn:nb≠q) (hb:b≠q) (hw:w0.heap.size<=q) (v0 v1 v2 v3 v4 v5 v6 v7 v8 v9:Value) :
  LrP w0 nb b rb k u ak au at_ tr pd pth last ((((((((((W.setCell ⟨q,0,none⟩ v0).setCell ⟨q,1,none⟩ v1).setCell ⟨q,2,none⟩ v2).setCell ⟨q,3,none⟩ v3).setCell ⟨q,4,none⟩ v4).setCell ⟨q,5,none⟩ v5).setCell ⟨q,6,none⟩ v6).setCell ⟨q,7,none⟩ v7).setCell ⟨q,8,none⟩ v8).setCell ⟨q,9,none⟩ v9):=by
 have h0:=h.set q hn hb hw 0 v0;have h1:=h0.set q hn hb hw 1 v1;have h2:=h1.set q hn hb hw 2 v2;have h3:=h2.set q hn hb hw 3 v3;have h4:=h3.set q hn hb hw 4 v4;have h5:=h4.set q hn hb hw 5 v5;have h6:=h5.set q hn hb hw 6 v6;have h7:=h6.set q hn hb hw 7 v7;have h8:=h7.set q hn hb hw 8 v8;exact h8.set q hn hb hw 9 v9
end
theorem Tryz.Uq (b:Nat) (k u ak au at_ tr:Int) (pd:Bool) (pth:List UInt8) (last:Int) (w:World)
  (h0:w.cell? ⟨b,0,none⟩=some (.int .i64 ak)) (h1:w.cell? ⟨b,1,none⟩=some (.int .u64 au)) (h2:w.cell? ⟨b,2,none⟩=some (.int .u64 at_)) (h3:w.cell? ⟨b,3,none⟩=some (.int .i64 tr)) (h4:w.cell? ⟨b,4,none⟩=some (.bool pd)) (h5:w.cell? ⟨b,5,none⟩=some (.string ⟨pth.toArray⟩)) (h6:w.cell? ⟨b,6,none⟩=some (.int .u64 last)) :
  Calls prog 67 #[.pointer (some ⟨b,0,none⟩),.agg #[.int .i64 k,.int .u64 u]] w fun e w'=>e=.returned (.agg (Xi 1 k u ak au pd at_ tr last pth))/\Below w.heap.size w w':=by
 have lt:b<w.heap.size:=World.block_lt_of_cell? _ _ h0
 have hE:=fun W (hI:LrP w w.heap.size b (w.heap.size+1) k u ak au at_ tr pd pth last W)=>Xac b k u ak au at_ tr pd W hI.2.1.1 hI.2.1.2.1 hI.2.1.2.2.1 hI.2.1.2.2.2.1 hI.2.1.2.2.2.2.1
 unfold Xi at hE ⊢;have b0:=BoxN.new (w.alloc (.cells #[.int .i64 k,.int .u64 u] 114)) 135 #[.int .i64 0,.int .i64 0,.int .u64 0,.int .i64 0,.int .u64 0,.bool false,.int .u64 0,.int .i64 0,.int .u64 0,.string ⟨#[]⟩];have bn:=(BoxN.new w 114 #[.int .i64 k,.int .u64 u]).alloc (.cells #[.int .i64 0,.int .i64 0,.int .u64 0,.int .i64 0,.int .u64 0,.bool false,.int .u64 0,.int .i64 0,.int .u64 0,.string ⟨#[]⟩] 135);rw [World.size_alloc] at b0;have hb2:=M5 w (.cells #[.int .i64 k,.int .u64 u] 114) (.cells #[.int .i64 0,.int .i64 0,.int .u64 0,.int .i64 0,.int .u64 0,.bool false,.int .u64 0,.int .i64 0,.int .u64 0,.string ⟨#[]⟩] 135);have hS0:LrP w w.heap.size b (w.heap.size+1) k u ak au at_ tr pd pth last _:=LrP.drew ⟨⟨bn.cell 0 rfl,bn.cell 1 rfl⟩,⟨cell_later hb2 h0,cell_later hb2 h1,cell_later hb2 h2,cell_later hb2 h3,cell_later hb2 h4,cell_later hb2 h5,cell_later hb2 h6⟩,b0.row10,hb2⟩;go_enter func67,ntmps67
 go_wp2_with fail
 go_cut [5] (fun t5 wx=>∃ q:Nat,t5=.pointer (some ⟨q,0,none⟩)/\BoxN wx q 135 #[.int .i64 1,.int .i64 k,.int .u64 u,.int .i64 ak,.int .u64 au,.bool pd,.int .u64 at_,.int .i64 tr,.int .u64 0,.string ⟨#[]⟩]/\Ui wx (w.heap.size+1)/\(wx.cell? ⟨b,5,none⟩=some (.string ⟨pth.toArray⟩)/\wx.cell? ⟨b,6,none⟩=some (.int .u64 last))/\Below w.heap.size w wx/\w.heap.size+1<q)
 case first =>
  go_region_held3 (LrP w w.heap.size b (w.heap.size+1) k u ak au at_ tr pd pth last) (first
   | with_reducible exact hS0
   | with_reducible exact LrP.below (by assumption) (by assumption)
   | with_reducible assumption
   | with_reducible exact LrP.sets10 (by assumption) _ (by omega) (by omega) (by omega) _ _ _ _ _ _ _ _ _ _
   | with_reducible exact LrP.below (Xa hK2) ((Below.refl _ _).alloc (Nat.le_refl _) _)
   | with_reducible exact LrP.below (by assumption) ((Below.refl _ _).alloc (Nat.le_refl _) _)) (first
   | (go_at_call 84;refine(hE _ (by assumption)).mono ?_;rintro e w2 ⟨rfl,hbS2⟩;have hK2:=Xb (LrP.below (show LrP w w.heap.size b (w.heap.size+1) k u ak au at_ tr pd pth last _ from by assumption) hbS2);obtain⟨hc2,hf2⟩:=Xui hbS2;have hz2:=hbS2.size))
  ·go_wp2_with fail
   go_meet
   case rel =>
    have hI2:=Xa hK2;have hB2:=hI2.2.2.2.alloc hI2.2.2.2.size (.cells #[.int .i64 1,.int .i64 k,.int .u64 u,.int .i64 ak,.int .u64 au,.bool pd,.int .u64 at_,.int .i64 tr,.int .u64 0,.string ⟨#[]⟩] 135);simp at hz2;exact⟨_,rfl,BoxN.new _ _ _,hI2.2.2.1.below ((Below.refl _ _).alloc (Nat.le_refl _) _),⟨cell_later hB2 h5,cell_later hB2 h6⟩,hB2,by omega⟩
  all_goals
   go_wp2_with fail
   go_meet
   case rel =>
    have hI2:=Xa hK2
    have b9:=(BoxN.new ((w.alloc (.cells #[.int .i64 k,.int .u64 u] 114)).alloc (.cells #[.int .i64 0,.int .i64 0,.int .u64 0,.int .i64 0,.int .u64 0,.bool false,.int .u64 0,.int .i64 0,.int .u64 0,.string ⟨#[]⟩] 135)) 135 #[.int .i64 0,.int .i64 0,.int .u64 0,.int .i64 0,.int .u64 0,.bool false,.int .u64 0,.int .i64 0,.int .u64 0,.string ⟨#[]⟩])
    simp only [World.size_alloc] at b9;have b1:BoxN w2 (w.heap.size+1+1) 135 #[.int .i64 0,.int .i64 0,.int .u64 0,.int .i64 0,.int .u64 0,.bool false,.int .u64 0,.int .i64 0,.int .u64 0,.string ⟨#[]⟩]:=(hbS2.block (w.heap.size+1+1) (by simp)).trans b9;have bF:=b1.sets10 (.int .i64 1) (.int .i64 k) (.int .u64 u) (.int .i64 ak) (.int .u64 au) (.bool pd) (.int .u64 at_) (.int .i64 tr) (.int .u64 0) (.string ⟨#[]⟩);have hI3:=hI2.sets10 (w.heap.size+1+1) (by omega) (by omega) (by omega) (.int .i64 1) (.int .i64 k) (.int .u64 u) (.int .i64 ak) (.int .u64 au) (.bool pd) (.int .u64 at_) (.int .i64 tr) (.int .u64 0) (.string ⟨#[]⟩);exact⟨_,rfl,bF,hI3.2.2.1,⟨cell_later hI3.2.2.2 h5,cell_later hI3.2.2.2 h6⟩,hI3.2.2.2,by omega⟩
 case rest =>
  obtain⟨q,rfl,bq,hr,⟨h5',h6'⟩,hB,hq⟩:=hcut;obtain⟨⟨q0,q1,q2,q3,q4,q5,q6,q7,q8,q9⟩,qf⟩:=bq.Xmv;have qf8:=bq.frozen 8;have qf9:=bq.frozen 9
  have hne:q≠w.heap.size+1:=by omega
  clear qf hS0 hb2 bn b0 hE;go_wp2
  go_region
  have bq8:=bq.set 9 (.string ⟨pth.toArray⟩);have bq9:BoxN ((wc.setCell ⟨q,9,none⟩ (.string ⟨pth.toArray⟩)).setCell ⟨q,8,none⟩ (.int .u64 last)).drew q 135 #[.int .i64 1,.int .i64 k,.int .u64 u,.int .i64 ak,.int .u64 au,.bool pd,.int .u64 at_,.int .i64 tr,.int .u64 last,.string ⟨pth.toArray⟩]:=bq8.set 8 (.int .u64 last);have hr9:Ui ((wc.setCell ⟨q,9,none⟩ (.string ⟨pth.toArray⟩)).setCell ⟨q,8,none⟩ (.int .u64 last)).drew (w.heap.size+1):=(hr.set ⟨q,9,none⟩ _).set ⟨q,8,none⟩ _;have hB9:=((hB.setCell (p:=⟨q,9,none⟩) (by simp;omega) (.string ⟨pth.toArray⟩)).setCell (p:=⟨q,8,none⟩) (by simp;omega) (.int .u64 last)).drew;clear q0 q1 q2 q3 q4 q5 q6 q7 q8 q9 qf8 qf9 bq8 bq hr hB h5' h6';generalize ((wc.setCell ⟨q,9,none⟩ (.string ⟨pth.toArray⟩)).setCell ⟨q,8,none⟩ (.int .u64 last)).drew=W9 at *;obtain⟨⟨q0,q1,q2,q3,q4,q5,q6,q7,q8,q9⟩,-⟩:=bq9.Xmv;have hrow:=Xb hr9;obtain⟨⟨r0,r1,r2,r3,r4,r5,r6,r7,r8,r9⟩,f0,f1,f2,f3,f4,f5,f6,f7,f8,f9⟩:=hr9;go_wp2;have hr9:=Xa hrow;have hBF:=Xkl hB9 (q:=w.heap.size+1) (by omega) (.int .i64 1) (.int .i64 k) (.int .u64 u) (.int .i64 ak) (.int .u64 au) (.bool pd) (.int .u64 at_) (.int .i64 tr) (.int .u64 last) (.string ⟨pth.toArray⟩);obtain⟨g0,g1,g2,g3,g4,g5,g6,g7,g8,g9⟩:=hr9.sets (.int .i64 1) (.int .i64 k) (.int .u64 u) (.int .i64 ak) (.int .u64 au) (.bool pd) (.int .u64 at_) (.int .i64 tr) (.int .u64 last) (.string ⟨pth.toArray⟩);clear r0 r1 r2 r3 r4 r5 r6 r7 r8 r9 q0 q1 q2 q3 q4 q5 q6 q7 q8 q9;exact bodyPost_ret (v:=.agg #[.int .i64 1,.int .i64 k,.int .u64 u,.int .i64 ak,.int .u64 au,.bool pd,.int .u64 at_,.int .i64 tr,.int .u64 last,.string ⟨pth.toArray⟩]) (by simp [results,results67,go_sem,g0,g1,g2,g3,g4,g5,g6,g7,g8,g9]) rfl ⟨rfl,hBF⟩
end Go.Proofs
namespace Go.Proofs
open Go.RowKit Go.Sort Go.Lib Go.Shelf
theorem Xdk (w:World) (o o':Obj) (s:ByteArray) (p:Nat):(((w.alloc o).alloc o').alloc (.stringIter s p)).iterPos (w.heap.size+2)=p:=by
 have:=World.iterPos_iter ((w.alloc o).alloc o') s p
 simpa [World.iter] using this
def Xl8 (h:Int) (c:UInt8):Int:=IntKind.u64.wrap (bits BinOp.xor IntKind.u64 h (c.toNat:Int)*1099511628211)
def sumI (s:List UInt8):Int:=s.foldl Xl8 14695981039346656037
theorem Xn8 (h:Int) (c:UInt8):0<=Xl8 h c/\Xl8 h c<=18446744073709551615:=by
 unfold Xl8;generalize bits BinOp.xor IntKind.u64 h (c.toNat:Int)*1099511628211=z;simp [IntKind.wrap,IntKind.signed,IntKind.bits];omega
theorem Xcq (s:List UInt8):0<=sumI s/\sumI s<=18446744073709551615:=by
 have:∀(s:List UInt8) (h:Int),0<=h/\h<=18446744073709551615->0<=s.foldl Xl8 h/\s.foldl Xl8 h<=18446744073709551615:=fun s=>by
  induction s with
  | nil=>exact fun h hh=>hh
  | cons c s ih=>exact fun h _=>ih _ (Xn8 h c)
 exact this s _ (by omega)
theorem Xpp {s:List UInt8} {k:Nat} {c:UInt8} (h:s[k]? = some c):sumI (s.take (k+1))=Xl8 (sumI (s.take k)) c:=by
 unfold sumI;rw [List.take_add_one,h];simp
theorem Tryz.Xql (s:List UInt8) (w:World) (hs:s.length<=1000000000000) (ha:∀ b∈s,b.toNat<128) :
  Calls prog 177 #[.string ⟨s.toArray⟩] w fun e w'=>e=.returned (.agg #[.int .u64 (s.length:Int),.int .u64 (sumI s)])/\Below w.heap.size w w':=by
 go_enter func177,ntmps177;go_wp2;unfold World.iter
 go_loopw [] (fun wr=>∃(k:Nat) (a b:Int),(k<=s.length/\Hid (a=k/\b=sumI (s.take k)))/\wr=(((w.alloc (.cells #[.int .u64 0,.int .u64 0] 269)).alloc (.cells #[.int .u64 a,.int .u64 b] 269)).alloc (.stringIter ⟨s.toArray⟩ k))) (fun wr=>s.length-wr.iterPos (w.heap.size+2))
 case atStart=>exact⟨0,_,_,⟨Nat.zero_le _,Xb ⟨rfl,rfl⟩⟩,rfl⟩
 case round =>
  obtain⟨k,a,b,⟨hk,hab⟩,rfl⟩:=hrel
  by_cases hkl:k<s.length
  ·obtain⟨c,hc⟩:∃ c,s[k]? = some c:=⟨s[k],by simp [hkl]⟩
   have hck:((⟨s.toArray⟩:ByteArray)[k]'(by simpa [ByteArray.size] using hkl))=c:=by
    have h1:s[k]'hkl=c:=by simpa [hkl] using hc
    rw [<- h1];rfl
   have hks:k<(⟨s.toArray⟩:ByteArray).size:=by simpa [ByteArray.size] using hkl
   have h128:c.toNat<128:=ha c (List.mem_of_getElem? hc)
   have hnx:=fun ty=>run_next_ascii (P:=prog) ((w.alloc (.cells #[.int .u64 0,.int .u64 0] 269)).alloc (.cells #[.int .u64 a,.int .u64 b] 269)) ⟨s.toArray⟩ k ty hks (by rw [hck];exact h128)
   simp only [hck,World.size_alloc] at hnx
   obtain⟨r,hr⟩:∃ r:Int,(c.toNat:Int)=r:=⟨_,rfl⟩
   rw [hr] at hnx;unfold World.iter at hnx;have Hr:=Xb hr
   have hr0:0<=r:=by omega
   have hr1:r<128:=by omega
   have HT:=Xb (Xpp hc);clear hr;go_wp2;refine⟨⟨k+1,_,_,⟨by omega,Xb ⟨?_,?_⟩⟩,rfl⟩,?_⟩
   ·rw [(Xa hab).1]
    have:(k:Int)<=1000000000000:=by omega
    simp [IntKind.wrap,IntKind.signed,IntKind.bits];omega
   ·rw [Xa HT,(Xa hab).2,<- Xa Hr]
    rfl
   rw [Xdk,Xdk];omega
  obtain rfl:k=s.length:=by omega
  have hks:¬ s.length<(⟨s.toArray⟩:ByteArray).size:=by simp [ByteArray.size]
  have hnx:=fun ty=>run_next_end (P:=prog) ((w.alloc (.cells #[.int .u64 0,.int .u64 0] 269)).alloc (.cells #[.int .u64 a,.int .u64 b] 269)) ⟨s.toArray⟩ s.length ty hks
  simp only [World.size_alloc] at hnx;unfold World.iter at hnx;obtain⟨e1,e2⟩:=Xa hab;rw [List.take_length] at e2;have HZ:=Xb e2;clear e2 hab;subst e1;go_wp2;exact bodyPost_ret (v:=.agg #[.int .u64 (s.length:Int),.int .u64 b]) (by simp [results,results177,go_sem]) rfl ⟨by rw [Xa HZ],(M5 w _ _).alloc (by simp;omega) _⟩
def lineL (t:List UInt8):List UInt8:=10 :: (Lib.decDigits t.length++32 :: (Lib.decDigits (sumI t).toNat++32 :: t))
theorem Xgr (t:List UInt8) (h:t.length<=1000000000000):(lineL t).length<=t.length+43:=by
 have e1:=Yb t.length (by omega);have e2:=Yb (sumI t).toNat (by have:=Xcq t;omega);simp [lineL];omega
theorem Tryz.Xuy (t:List UInt8) (w:World) (hE:Env w) (h6:6<=w.heap.size) (hs:t.length<=1000000000000) (ha:∀ b∈t,b.toNat<128) :
  Calls prog 144 #[.string ⟨t.toArray⟩] w fun e w'=>e=.returned (.string ⟨(lineL t).toArray⟩)/\Below w.heap.size w w':=by
 have hM:=Xql t w hs ha;have hrg:=Xcq t;have hd1:=Yb t.length (by omega);have hd2:=Yb (sumI t).toNat (by omega);have hL:lineL t=10 :: (Lib.decDigits t.length++32 :: (Lib.decDigits (sumI t).toNat++32 :: t)):=rfl
 have hU1:=fun W hE=>Xb3 t.length (by omega) W hE
 have hU2:=fun W hE=>Xb3 (sumI t).toNat (by omega) W hE
 obtain⟨zs,hzs⟩:∃ zs:Nat,sumI t=(zs:Int):=⟨(sumI t).toNat,by omega⟩
 rw [hzs] at hM hU2 hL hd2;simp only [Int.toNat_natCast] at hU2 hL hd2;generalize lineL t=res at *;generalize Lib.decDigits t.length=s1 at *;generalize Lib.decDigits zs=s2 at *
 obtain⟨n,hn⟩:∃ n,t.length=n:=⟨_,rfl⟩
 rw [hn] at hM hU1 hs;have HL:=Xb hL
 have hsz1:(⟨s1.toArray⟩:ByteArray).size=s1.length:=by simp [ByteArray.size]
 have hsz2:(⟨s2.toArray⟩:ByteArray).size=s2.length:=by simp [ByteArray.size]
 have hsz3:(⟨t.toArray⟩:ByteArray).size=n:=by simp [ByteArray.size,hn]
 clear hL hrg hzs hn
 have hx0:∀(a b:Int) (W:World),(Instr.index 269 (.agg #[.int .u64 a,.int .u64 b]) (.int .i64 0)).run prog W=.ok (.int .u64 a) W:=fun _ _ _=>by kernel_rfl
 have hx1:∀(a b:Int) (W:World),(Instr.index 269 (.agg #[.int .u64 a,.int .u64 b]) (.int .i64 1)).run prog W=.ok (.int .u64 b) W:=fun _ _ _=>by kernel_rfl
 go_enter func144,ntmps144
 go_wp2_with (go_at_call 177;refine hM.mono ?_;rintro e w1 ⟨rfl,hb1⟩)
 refine wp_loop_rounds 3 ?_;rw [rounds_succ]
 go_wp2_with (go_at_call_of 122 (Value.int .u64 (n:Int));refine(hU1 _ (hE.below hb1 h6)).mono ?_;rintro e w2 ⟨rfl,hb2⟩)
 rw [rounds_succ];have hb3:=hb1.trans (hb2.mono hb1.size)
 go_wp2_with (go_at_call_of 122 (Value.int .u64 (zs:Int));refine(hU2 _ (hE.below hb3 h6)).mono ?_;rintro e w3 ⟨rfl,hb4⟩)
 rw [rounds_succ];go_wp2;go_ret;exact⟨Mb (by rw [Xa HL];apply ByteArray.ext;simp),hb3.trans (hb4.mono hb3.size)⟩
theorem Tryz.Xci (w:World):Calls prog 175 #[.int .u64 0] w fun e w'=>e=.returned (.string ⟨#[106,111,117,114,110,97,108]⟩)/\w'=w:=by
 go_enter func175,ntmps175;go_wp2;go_ret;exact⟨rfl,rfl⟩
structure Yf.Ok (r:Yf):Prop where
 k0 : -9223372036854775808<=r.kind
 k1:r.kind<=9223372036854775807
 n1:r.nn<18446744073709551616
 a1:r.an<18446744073709551616
 t0:0<=r.at_
 t1:r.at_<=18446744073709551615
 r0 : -9223372036854775808<=r.tr
 r1:r.tr<=9223372036854775807
 l0:0<=r.last
 l1:r.last<=18446744073709551615
 p1:r.pth.length<=1000
def Ji (r:Yf):List (List UInt8):=[Lib.itoa r.kind,nmStr r.nk r.nn,nmStr r.ak r.an,Lib.formatBool r.pd,Lib.decDigits r.at_.toNat,Lib.itoa r.tr,Lib.decDigits r.last.toNat,r.pth]
def recStr (r:Yf):List UInt8:=Lib.join (Ji r) [32]
theorem Xi2 (n:Int) (h0 : -9223372036854775808<=n) (h1:n<=9223372036854775807):(Lib.itoa n).length<=21:=by
 unfold Lib.itoa
 split
 ·have:=Yb n.natAbs (by omega)
  simp;omega
 have:=Yb n.toNat (by omega);omega
theorem Xas (k:Int) (u:Nat) (hu:u<18446744073709551616):(nmStr k u).length<=21:=by
 have:=Yb u hu;unfold nmStr
 split
 ·simp;omega
 split
 ·simp;omega
 simp
theorem Xbh {r:Yf} (h:r.Ok):(recStr r).length<=1200:=by
 have e1:=Xi2 _ h.k0 h.k1;have e2:=Xas r.nk r.nn h.n1;have e3:=Xas r.ak r.an h.a1
 have e4:(Lib.formatBool r.pd).length<=5:=by cases r.pd <;> decide
 have e5:=Yb r.at_.toNat (by have:=h.t0;have:=h.t1;omega);have e6:=Xi2 _ h.r0 h.r1;have e7:=Yb r.last.toNat (by have:=h.l0;have:=h.l1;omega);have e8:=h.p1;unfold recStr Ji;rw [Lib.join_length];simp [Lib.lens];omega
theorem Tryz.Xvj:Builder.Extra prog Xb2 where
 sizeBuilder:=by kernel_rfl
 liesBuilder:=by kernel_rfl
 t5:=by kernel_rfl
 a5:=fun _=>by kernel_rfl
 z5:=fun _=>by kernel_rfl
 v5:=fun _=>by kernel_rfl
 infoByte:=by kernel_rfl
 cellsByte:=by kernel_rfl
 sizeByte:=by kernel_rfl
 neB5:=by decide
theorem Tryz.join (bk o c:Nat) (xs:List ByteArray) (sep:ByteArray) (w:World) (hcells:∀(j:Nat) x,xs[j]? = some x->w.cell? ⟨bk,o+j,none⟩=some (.string x)) (hbk:bk<w.heap.size) (hN:xs.length<=140737488355328) (hcap:xs.length<=c) (hlen:(Lib.join (xs.map (·.data.toList)) sep.data.toList).length<=140737488355328) :
  Calls prog 179 #[.slice (some ⟨bk,o,none⟩) xs.length c,.string sep] w fun e w'=>e=.returned (.string ⟨(Lib.join (xs.map (·.data.toList)) sep.data.toList).toArray⟩)/\Below w.heap.size w w':=
 Any.strings_Join Xrx Xvj bk o c xs sep w hcells hbk hN hcap hlen
theorem Tryz.itoa (n:Int) (h0 : -9223372036854775808<=n) (h1:n<=9223372036854775807) (w:World) (hE:Env w) :
  Calls prog 205 #[.int .i64 n] w fun e w'=>e=.returned (.string ⟨(Lib.itoa n).toArray⟩)/\Below w.heap.size w w':=
 (Any.strconv_Itoa Xri n h0 h1 w hE.tab).mono fun _ _ ⟨h1,k,os,h2⟩=>⟨h1,Xp.below ⟨k,os,h2⟩⟩
theorem Tryz.Xne (b:Bool) (w:World):Calls prog 206 #[.bool b] w fun e w'=>e=.returned (.string ⟨(Lib.formatBool b).toArray⟩)/\Below w.heap.size w w':=
 (Any.strconv_FormatBool Xvp b w).mono fun _ _ ⟨h1,h2⟩=>⟨h1,by rw [h2];exact Below.refl _ _⟩
abbrev Tryz.Vu (w0:World) (rb:Nat) (c0 c1 c2 c3 c4 c5 c6 c7 c8 c9:Value) (W:World):Prop:=Ug W rb c0 c1 c2 c3 c4 c5 c6 c7 c8 c9/\Env W/\6<=W.heap.size/\Below w0.heap.size w0 W
section
variable {w0 W W':World} {rb:Nat} {c0 c1 c2 c3 c4 c5 c6 c7 c8 c9:Value}
theorem Tryz.Vu.below (h:Vu w0 rb c0 c1 c2 c3 c4 c5 c6 c7 c8 c9 W) (hb:Below W.heap.size W W'):Vu w0 rb c0 c1 c2 c3 c4 c5 c6 c7 c8 c9 W':=⟨h.1.below hb,h.2.1.below hb h.2.2.1,Nat.le_trans h.2.2.1 hb.size,h.2.2.2.trans (hb.mono h.2.2.2.size)⟩
theorem Tryz.Vu.drew (h:Vu w0 rb c0 c1 c2 c3 c4 c5 c6 c7 c8 c9 W):Vu w0 rb c0 c1 c2 c3 c4 c5 c6 c7 c8 c9 W.drew:=h.below (Xp.below (Xp.refl W).drew)
theorem Tryz.Vu.alloc (h:Vu w0 rb c0 c1 c2 c3 c4 c5 c6 c7 c8 c9 W) (o:Obj):Vu w0 rb c0 c1 c2 c3 c4 c5 c6 c7 c8 c9 (W.alloc o):=h.below ((Below.refl _ _).alloc (Nat.le_refl _) _)
end
theorem Xj3 (W:World) (t:TypeId) (a b c d e f g h:ByteArray):∀(j:Nat) x,[a,b,c,d,e,f,g,h][j]? = some x->(W.alloc (.cells #[.string a,.string b,.string c,.string d,.string e,.string f,.string g,.string h] t)).cell? ⟨W.heap.size,0+j,none⟩=some (.string x):=by
 intro j x hj;have bN:=BoxN.new W t #[.string a,.string b,.string c,.string d,.string e,.string f,.string g,.string h]
 match j,hj with
 | 0,hj=>simp at hj;subst hj;exact bN.cell 0 rfl
 | 1,hj=>simp at hj;subst hj;exact bN.cell 1 rfl
 | 2,hj=>simp at hj;subst hj;exact bN.cell 2 rfl
 | 3,hj=>simp at hj;subst hj;exact bN.cell 3 rfl
 | 4,hj=>simp at hj;subst hj;exact bN.cell 4 rfl
 | 5,hj=>simp at hj;subst hj;exact bN.cell 5 rfl
 | 6,hj=>simp at hj;subst hj;exact bN.cell 6 rfl
 | 7,hj=>simp at hj;subst hj;exact bN.cell 7 rfl
 | (k+8),hj=>simp at hj
theorem Tryz.Xg4 (r:Yf) (hr:r.Ok) (w:World) (hE:Env w) (h6:6<=w.heap.size) :
  Calls prog 178 #[.agg r.cells] w fun e w'=>e=.returned (.string ⟨(recStr r).toArray⟩)/\Below w.heap.size w w':=by
 have hlen:=Xbh hr;have hr':=hr;obtain⟨kind,nk,nn,ak,an,pd,at_,tr,last,pth⟩:=r;obtain⟨k0,k1,n1,a1,t0,t1,r0,r1,l0,l1,p1⟩:=hr;simp only at k0 k1 n1 a1 t0 t1 r0 r1 l0 l1 p1
 obtain⟨ta,rfl⟩:∃ ta:Nat,at_=(ta:Int):=⟨at_.toNat,by omega⟩
 obtain⟨tl,rfl⟩:∃ tl:Nat,last=(tl:Int):=⟨last.toNat,by omega⟩
 have hI1:=fun W hE=>itoa kind k0 k1 W hE
 have hI2:=fun W hE=>itoa tr r0 r1 W hE
 have hN1:=fun W hE h6=>Zg nk nn n1 W hE h6
 have hN2:=fun W hE h6=>Zg ak an a1 W hE h6
 have hB1:=fun W=>Xne pd W
 have hU1:=fun W hE=>Xb3 ta (by omega) W hE
 have hU2:=fun W hE=>Xb3 tl (by omega) W hE
 unfold recStr Ji at hlen ⊢;simp only [Int.toNat_natCast] at hlen ⊢;generalize Lib.itoa kind=s0 at *;generalize nmStr nk nn=s1 at *;generalize nmStr ak an=s2 at *;generalize Lib.formatBool pd=s3 at *;generalize Lib.decDigits ta=s4 at *;generalize Lib.itoa tr=s5 at *;generalize Lib.decDigits tl=s6 at *
 have hJ:=fun W=>join W.heap.size 0 8 [⟨s0.toArray⟩,⟨s1.toArray⟩,⟨s2.toArray⟩,⟨s3.toArray⟩,⟨s4.toArray⟩,⟨s5.toArray⟩,⟨s6.toArray⟩,⟨pth.toArray⟩] ⟨#[32]⟩ _ (Xj3 W 9 _ _ _ _ _ _ _ _) (by simp) (by simp) (by simp) (by simp;omega)
 simp only [List.map_cons,List.map_nil,List.length_cons,List.length_nil,Nat.reduceAdd] at hJ;generalize Lib.join [s0,s1,s2,s3,s4,s5,s6,pth] [32]=res at *;unfold Yf.cells Xi;simp only
 have bq:=(BoxN.new w 135 #[.int .i64 kind,.int .i64 nk,.int .u64 nn,.int .i64 ak,.int .u64 an,.bool pd,.int .u64 ta,.int .i64 tr,.int .u64 tl,.string ⟨pth.toArray⟩])
 have hb0:Below w.heap.size w (w.alloc (.cells #[.int .i64 kind,.int .i64 nk,.int .u64 nn,.int .i64 ak,.int .u64 an,.bool pd,.int .u64 ta,.int .i64 tr,.int .u64 tl,.string ⟨pth.toArray⟩] 135)):=(Below.refl _ _).alloc (Nat.le_refl _) _;have hS0:Vu w w.heap.size _ _ _ _ _ _ _ _ _ _ _:=Vu.drew ⟨bq.Xc5,hE.below hb0 h6,by simp;omega,hb0⟩;clear k0 k1 n1 a1 t0 t1 r0 r1 l0 l1 p1 hr' hlen;go_enter func178,ntmps178
 go_wp2_with fail
 go_region_held3 (Vu w w.heap.size (.int .i64 kind) (.int .i64 nk) (.int .u64 nn) (.int .i64 ak) (.int .u64 an) (.bool pd) (.int .u64 ta) (.int .i64 tr) (.int .u64 tl) (.string ⟨pth.toArray⟩)) (first
  | with_reducible exact hS0
  | with_reducible exact Vu.below (by assumption) (by assumption)
  | with_reducible assumption
  | with_reducible exact Vu.alloc (by assumption) _) (first
  | (go_at_call_of 205 (Value.int .i64 kind);refine(hI1 _ (show Vu w w.heap.size (.int .i64 kind) (.int .i64 nk) (.int .u64 nn) (.int .i64 ak) (.int .u64 an) (.bool pd) (.int .u64 ta) (.int .i64 tr) (.int .u64 tl) (.string ⟨pth.toArray⟩) _ from by assumption).2.1).mono ?_;rintro e w1 ⟨rfl,hbS1⟩)
  | (go_at_call_of 68 (Value.int .u64 (nn:Int));have hQ:=(show Vu w w.heap.size (.int .i64 kind) (.int .i64 nk) (.int .u64 nn) (.int .i64 ak) (.int .u64 an) (.bool pd) (.int .u64 ta) (.int .i64 tr) (.int .u64 tl) (.string ⟨pth.toArray⟩) _ from by assumption);refine(hN1 _ hQ.2.1 hQ.2.2.1).mono ?_;clear hQ;rintro e w2 ⟨rfl,hbS2⟩)
  | (go_at_call_of 68 (Value.int .u64 (an:Int));have hQ:=(show Vu w w.heap.size (.int .i64 kind) (.int .i64 nk) (.int .u64 nn) (.int .i64 ak) (.int .u64 an) (.bool pd) (.int .u64 ta) (.int .i64 tr) (.int .u64 tl) (.string ⟨pth.toArray⟩) _ from by assumption);refine(hN2 _ hQ.2.1 hQ.2.2.1).mono ?_;clear hQ;rintro e w3 ⟨rfl,hbS3⟩)
  | (go_at_call 206;refine(hB1 _).mono ?_;rintro e w4 ⟨rfl,hbS4⟩)
  | (go_at_call_of 122 (Value.int .u64 (ta:Int));refine(hU1 _ (show Vu w w.heap.size (.int .i64 kind) (.int .i64 nk) (.int .u64 nn) (.int .i64 ak) (.int .u64 an) (.bool pd) (.int .u64 ta) (.int .i64 tr) (.int .u64 tl) (.string ⟨pth.toArray⟩) _ from by assumption).2.1).mono ?_;rintro e w5 ⟨rfl,hbS5⟩)
  | (go_at_call_of 205 (Value.int .i64 tr);refine(hI2 _ (show Vu w w.heap.size (.int .i64 kind) (.int .i64 nk) (.int .u64 nn) (.int .i64 ak) (.int .u64 an) (.bool pd) (.int .u64 ta) (.int .i64 tr) (.int .u64 tl) (.string ⟨pth.toArray⟩) _ from by assumption).2.1).mono ?_;rintro e w6 ⟨rfl,hbS6⟩)
  | (go_at_call_of 122 (Value.int .u64 (tl:Int));refine(hU2 _ (show Vu w w.heap.size (.int .i64 kind) (.int .i64 nk) (.int .u64 nn) (.int .i64 ak) (.int .u64 an) (.bool pd) (.int .u64 ta) (.int .i64 tr) (.int .u64 tl) (.string ⟨pth.toArray⟩) _ from by assumption).2.1).mono ?_;rintro e w7 ⟨rfl,hbS7⟩)
  | (go_at_call 179;refine(hJ _).mono ?_;rintro e w8 ⟨rfl,hbS8⟩))
 all_goals
  go_wp2
  rename_i hI
  go_ret;exact⟨rfl,hI.2.2.2⟩
def Zi (W:World) (g:Nat) (rs:List Yf):Prop:=∀ i r,rs[i]? = some r->∀ j v,r.cells[j]? = some v->W.cell? ⟨g,i*10+j,none⟩=some v
theorem Zi.below {W W':World} {g B:Nat} {rs:List Yf} (h:Zi W g rs) (hb:Below B W W') (hg:g<B):Zi W' g rs:=fun i r hr j v hv=>(hb.cell (p:=⟨g,i*10+j,none⟩) hg).trans (h i r hr j v hv)
def Zv (rs:List Yf):List (List UInt8):=rs.map recStr
def recTxt (rs:List Yf):List UInt8:=Lib.join (Zv rs) [59]
def Xoo (s:List UInt8):Value:=.string ⟨s.toArray⟩
def txs (rs:List Yf) (k:Nat):List Value:=(rs.take k).map (fun r=>Xoo (recStr r))++List.replicate (rs.length-k) (.string ⟨#[]⟩)
theorem Xtt (rs:List Yf) (k:Nat) (hk:k<=rs.length):(txs rs k).length=rs.length:=by simp [txs];omega
theorem Xt2 {rs:List Yf} {k:Nat} {r:Yf} (h:rs[k]? = some r):(txs rs k).set k (Xoo (recStr r))=txs rs (k+1):=by
 have hk:k<rs.length:=(List.getElem?_eq_some_iff.1 h).1;unfold txs;rw [List.take_add_one,h,List.set_append,if_neg (by simp;omega)]
 have e1:k-((rs.take k).map (fun r=>Xoo (recStr r))).length=0:=by simp;omega
 obtain⟨m,hm⟩:∃ m,rs.length-k=m+1:=⟨rs.length-k-1,by omega⟩
 rw [e1,hm,List.replicate_succ,List.set_cons_zero,show rs.length-(k+1)=m by omega];simp
theorem Xt4 (rs:List Yf):txs rs rs.length=rs.map (fun r=>Xoo (recStr r)):=by simp [txs]
theorem Zx (rs:List Yf) (h:∀ r∈rs,r.Ok):(recTxt rs).length<=1201*rs.length:=by
 unfold recTxt Zv
 cases rs with
 | nil=>simp [Lib.join]
 | cons r rs =>
  rw [List.map_cons,Lib.join_length]
  have:∀ l:List Yf,(∀ r∈l,r.Ok)->Lib.lens (l.map recStr)<=1200*l.length:=fun l=>by
   induction l with
   | nil=>intro _;simp [Lib.lens]
   | cons x l ih =>
    intro hx;have h1:=Xbh (hx x (by simp));have h2:=ih (fun y hy=>hx y (List.mem_cons_of_mem _ hy));simp only [Lib.lens,List.map_cons,List.sum_cons,List.length_cons] at h2 ⊢;omega
  have h3:=this (r :: rs) h;rw [List.map_cons] at h3;simp only [List.length_cons,List.length_map,List.length_nil] at h3 ⊢;omega
theorem Xie:∀ l:List (List UInt8),(l.map (fun s=>(⟨s.toArray⟩:ByteArray))).map (·.data.toList)=l
 | []=>rfl
 | x :: l=>by rw [List.map_cons,List.map_cons,Xie l]
theorem Tryz.Xb6:(prog.info? 9).map (fun i=>(i.zero,i.size,i.bytes))=some (some (.string ⟨#[]⟩),1,16):=by kernel_rfl
theorem Tryz.Xtd (g cap:Nat) (rs:List Yf) (w:World) (hR:Zi w g rs) (hg:g<w.heap.size) (hok:∀ r∈rs,r.Ok) (hn:rs.length<=1000) (hE:Env w) (h6:6<=w.heap.size) :
  Calls prog 145 #[.slice (some ⟨g,0,none⟩) rs.length cap] w fun e w'=>e=.returned (.string ⟨(recTxt rs).toArray⟩)/\Below w.heap.size w w':=by
 have hlen:=Zx rs hok
 have hSt:=fun(r:Yf) hr W hE h6=>Xg4 r hr W hE h6
 obtain⟨n,hnn⟩:∃ n,rs.length=n:=⟨_,rfl⟩
 rw [hnn] at hn hlen ⊢;have Hn:=Xb hnn;clear hnn;obtain⟨i0,hi,hz0,hz1,hz2⟩:=info_parts Xb6;have hmk:=run_makeSlice (P:=prog) w 40 9 i0 _ underlying40 hi hz0 .i64 .i64 n n (by omega) (Int.le_refl _) (by rw [hz1];omega) (by rw [hz2];omega) (by omega);rw [hz1] at hmk;simp only [Int.toNat_natCast,Nat.mul_one] at hmk
 have hmc:madeCells (Value.string ⟨#[]⟩).cells n=(txs rs 0).toArray:=by
  rw [<- Xa Hn];apply Array.ext
  ·rw [size_madeCells];simp [txs]
  intro j h1 h2;simp [txs,madeCells,Value.cells];rw [Nat.mod_one];rfl
 rw [hmc] at hmk;have bT:=BoxN.new w 9 (txs rs 0).toArray;have hb0:Below w.heap.size w (w.alloc (.cells (txs rs 0).toArray 9)):=(Below.refl _ _).alloc (Nat.le_refl _) _;clear hmc;generalize w.alloc (.cells (txs rs 0).toArray 9)=w0 at *;go_enter func145,ntmps145;go_wp2
 go_loopw [11] (fun i wr=>∃ k:Nat,k<=n/\i=.int .i64 k/\BoxN wr w.heap.size 9 (txs rs k).toArray/\Below w.heap.size w wr) (fun i _=>n-(intOf i).toNat)
 case atStart=>exact⟨0,Nat.zero_le _,rfl,bT,hb0⟩
 case round =>
  obtain⟨k,hk,rfl,bk,hbk⟩:=hrel
  by_cases hkn:k<n
  ·obtain⟨r,hr⟩:∃ r,rs[k]? = some r:=⟨rs[k]'(by have:=Xa Hn;omega),by simp [Xa Hn,hkn]⟩
   have hrk:=(hR.below hbk hg) k r hr;have hS1:=hSt r (hok r (List.mem_of_getElem? hr));have hset:=Xb (Xt2 hr)
   have hlt:k<(txs rs k).length:=by rw [Xtt _ _ (by have:=Xa Hn;omega)];have:=Xa Hn;omega
   obtain⟨old,hold⟩:∃ v,(txs rs k)[k]? = some v:=⟨(txs rs k)[k],by simp [hlt]⟩
   have c0:=bk.cell k (v:=old) (by simpa using hold);have f0:=bk.frozen k;generalize recStr r=st at *;obtain⟨kind,nk,nn,ak,an,pd,at_,tr,last,pth⟩:=r;unfold Yf.cells Xi at hrk hS1;simp only at hrk hS1;have x0:=hrk 0 _ rfl;have x1:=hrk 1 _ rfl;have x2:=hrk 2 _ rfl;have x3:=hrk 3 _ rfl;have x4:=hrk 4 _ rfl;have x5:=hrk 5 _ rfl;have x6:=hrk 6 _ rfl;have x7:=hrk 7 _ rfl;have x8:=hrk 8 _ rfl;have x9:=hrk 9 _ rfl;simp only [Nat.add_zero] at x0;clear hrk hSt hR hlt hmk;have hbA:=hbk.alloc hbk.size (.cells #[.int .i64 kind,.int .i64 nk,.int .u64 nn,.int .i64 ak,.int .u64 an,.bool pd,.int .u64 at_,.int .i64 tr,.int .u64 last,.string ⟨pth.toArray⟩] 135);have bA:=bk.alloc (.cells #[.int .i64 kind,.int .i64 nk,.int .u64 nn,.int .i64 ak,.int .u64 an,.bool pd,.int .u64 at_,.int .i64 tr,.int .u64 last,.string ⟨pth.toArray⟩] 135);have hEA:=hE.below hbA h6
   have h6A:6<=(wr.alloc (.cells #[.int .i64 kind,.int .i64 nk,.int .u64 nn,.int .i64 ak,.int .u64 an,.bool pd,.int .u64 at_,.int .i64 tr,.int .u64 last,.string ⟨pth.toArray⟩] 135)).heap.size:=by have:=hbA.size;omega
   go_wp2_with (go_at_call 178;refine(hS1 _ hEA h6A).mono ?_;rintro e w2 ⟨rfl,hb2⟩;have b2:=bA.below hb2 bA.lt;have c2:=b2.cell k (v:=old) (by simpa using hold);have f2:=b2.frozen k)
   have hb3:=(hbA.trans (hb2.mono hbA.size)).setCell (p:=⟨w.heap.size,k,none⟩) (Nat.le_refl _) (.string ⟨st.toArray⟩)
   have b3:BoxN (w2.setCell ⟨w.heap.size,k,none⟩ (.string ⟨st.toArray⟩)) w.heap.size 9 (txs rs (k+1)).toArray:=by
    have:=b2.set k (.string ⟨st.toArray⟩);rw [<- show (txs rs k).set k (Xoo st)=txs rs (k+1) from Xa hset]
    simpa [Xoo] using this
   have HB:=Xb (And.intro b3 hb3);clear b3 hb3 c2 f2 b2 hb2 hbA bA hEA h6A bk hbk c0 f0;generalize (w2.setCell ⟨w.heap.size,k,none⟩ (.string ⟨st.toArray⟩))=w3 at *
   go_roundw
   case rel=>exact⟨k+1,by omega,rfl,(Xa HB).1,(Xa HB).2⟩
   case measure=>simp [intOf];omega
  obtain rfl:k=n:=by omega
  have hJ:=join w.heap.size 0 k ((Zv rs).map (fun s=>⟨s.toArray⟩)) ⟨#[59]⟩ wr (fun j x hx=>by
   have hx':(txs rs k)[j]? = some (.string x):=by
    rw [<- Xa Hn,Xt4];simp [Zv] at hx ⊢;obtain⟨a,h1,h2⟩:=hx;exact⟨a,h1,by rw [<- h2];rfl⟩
   have:=bk.cell j (v:=.string x) (by simpa using hx')
   rwa [Nat.zero_add]) bk.lt (by have:=Xa Hn;simp [Zv];omega) (by have:=Xa Hn;simp [Zv];omega) (by
   have e:=Xie (Zv rs);rw [e]
   show (recTxt rs).length<=_
   omega)
  have e:=Xie (Zv rs)
  have e2:((Zv rs).map (fun s=>(⟨s.toArray⟩:ByteArray))).length=k:=by rw [<- Xa Hn];simp [Zv]
  rw [e,e2] at hJ
  change Calls _ _ _ _ (fun e w'=>e=.returned (.string ⟨(recTxt rs).toArray⟩)/\_) at hJ
  obtain⟨res,hres⟩:∃ res,recTxt rs=res:=⟨_,rfl⟩
  rw [hres] at hJ;have Hres:=Xb hres;clear hres hlen;clear e e2 hR hSt hmk hok
  go_wp2_with (go_at_call 179;refine hJ.mono ?_;rintro e w2 ⟨rfl,hb2⟩)
  go_ret;exact⟨by rw [Xa Hres];rfl,hbk.trans (hb2.mono hbk.size)⟩
end Go.Proofs
