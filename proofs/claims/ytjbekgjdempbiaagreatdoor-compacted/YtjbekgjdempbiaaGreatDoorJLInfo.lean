import Derived.Test.YtjbekgjdempbiaaGreatDoorJLay
import Derived.Test.YtjbekgjdempbiaaGreatDoorJMapN
import Derived.Lib.ItoaMem
import Derived.Lib.Walk
import Derived.WalkKit
import Derived.WalkSmall
import Derived.WalkSpells
import Derived.BigCall
import Derived.BigGuard
import Derived.Test.YtjbekgjdempbiaaGreatDoorJBox
import Derived.Deep.RegionHeld3
import Derived.Deep.DeepCutAuto
set_option maxRecDepth 100000
set_option maxHeartbeats 8000000
namespace Go.Proofs
open Go.RowKit Go.Sort Go.Lib Go.Shelf
structure Tryz.Env (w:World):Prop where
 tab:Lib.TabIs Tryz.prog w "internal/strconv.uint64pow10" .u64 Lib.pow10Tab
 syn:∃ tp p,w.var? Tryz.prog "strconv.ErrSyntax" = some #[.iface tp p]
 rng:∃ tp p,w.var? Tryz.prog "strconv.ErrRange" = some #[.iface tp p]
theorem Tryz.gTab:prog.globalNamed "internal/strconv.uint64pow10" = some 3:=by kernel_rfl
theorem Tryz.gSyn:prog.globalNamed "strconv.ErrSyntax" = some 1:=by kernel_rfl
theorem Tryz.gRng:prog.globalNamed "strconv.ErrRange" = some 2:=by kernel_rfl
theorem Tryz.Env.below {w w':World} {B:Nat} (h:Env w) (hb:Below B w w') (hB:6<=B):Env w':=by
 obtain⟨h1,⟨t2,p2,h2⟩,⟨t3,p3,h3⟩⟩:=h;exact⟨var?_below hb gTab (by omega) h1,⟨t2,p2,var?_below hb gSyn (by omega) h2⟩,⟨t3,p3,var?_below hb gRng (by omega) h3⟩⟩
theorem Xz.below {w w':World} (h:Xz w w'):Below w.heap.size w w':=by
 obtain⟨q,os,rfl⟩:=h;refine⟨rfl,rfl,rfl,by simp [grow,World.drewN],fun k hk=>?_⟩
 show (w.heap++os)[k]? = w.heap[k]?
 rw [Array.getElem?_append_left hk]
theorem Xcm (w:World) (T:TypeId) (nd:Nat) (hs:nd<=24):Holds (fun(b:UInt8)=>Value.int .u8 (b.toNat:Int)) (w.alloc (.cells Lib.zeros24 T)) w.heap.size 0 (Array.replicate nd (0:UInt8)):=fun j hj=>by
 have hj':j<nd:=by simpa using hj
 refine⟨?_,World.frozen?_alloc_new _ _ _ _⟩;rw [World.cell?_alloc_new,Lib.zeros24_at _ (by omega),getElem!_pos _ j hj];simp
theorem Tryz.Xlw (u:Nat) (hu:u<100) (w:World) :
  Calls prog 164 #[.int .u64 u,.int .i64 10] w fun e w'=>e=.returned (.string ⟨(Lib.decDigits u).toArray⟩)/\w'=w:=by
 have hs:=fun W=>Any.internal_strconv_small Xmx u hu W
 change ∀ W,Calls prog 195 _ _ _ at hs
 have hlt:(u:Int)<100:=by omega
 go_enter func164,ntmps164
 go_wp2_with (go_at_call 195;refine(hs _).mono ?_;rintro e w' ⟨rfl,rfl⟩)
 go_ret;exact⟨rfl,rfl⟩
theorem Tryz.Xmc (u:Nat) (hu:100<=u) (hu64:u<18446744073709551616) (w:World) (hE:Env w) :
  Calls prog 164 #[.int .u64 u,.int .i64 10] w fun e w'=>e=.returned (.string ⟨(Lib.decDigits u).toArray⟩)/\Below w.heap.size w w':=by
 have hge:¬ (u:Int)<100:=by omega
 have hnd20:Lib.nDigits u<=20:=by have:=Lib.numDigits_eq u (by omega) hu64;split at this <;> omega
 have hal:prog.arrayLen 291=24:=by simp [Program.arrayLen,underlying291]
 have hsl:∀ W,(Instr.sliceAt 291 (.pointer (some ⟨w.heap.size,0,none⟩)) none (some (.int .i64 (Lib.nDigits u:Int))) none).run prog W=.ok (.slice (some ⟨w.heap.size,0,none⟩) (Lib.nDigits u) 24) W:=fun W=>by
  rw [run_sliceAt_array_h W 291 ⟨w.heap.size,0,none⟩ (by simp [Program.arrayLen,Program.elem,underlying291]) .i64 (Lib.nDigits u:Int) (by omega) (by rw [hal];omega)];go_simp
 have hH0:=Xcm w 291 (Lib.nDigits u) (by omega);have hnum:=Any.internal_strconv_numDigits Xk5 u (by omega) hu64 _ (Lib.tabIs_alloc hE.tab (.cells Lib.zeros24 291))
 change Calls prog 196 _ _ _ at hnum
 have hfmt:=Any.internal_strconv_formatBase10 Xmu w.heap.size 0 24 u (Array.replicate (Lib.nDigits u) 0) (w.alloc (.cells Lib.zeros24 291)) hH0 (by rw [Array.size_replicate];exact Lib.lt_pow_nDigits u) hu64 (by rw [Array.size_replicate];omega)
 change Calls prog 197 _ _ _ at hfmt
 rw [Array.size_replicate] at hfmt;have HH0:=Lib.hid hH0;clear hH0 hal;go_enter func164,ntmps164
 go_wp2_with (first
  | (go_at_call 196;refine hnum.mono ?_;rintro e w' ⟨rfl,rfl⟩))
 refine hfmt.mono ?_;rintro e w' ⟨rfl,k,v',dk,rfl,hF⟩
 have hcv:(convert 267 9 (.slice (some ⟨w.heap.size,0,none⟩) (Lib.nDigits u) 24)).run prog ((putRow (fun(b:UInt8)=>Value.int .u8 (b.toNat:Int)) (w.alloc (.cells Lib.zeros24 291)) w.heap.size 0 dk).drewN k)=.ok (.string ⟨(Lib.decDigits u).toArray⟩) ((putRow (fun(b:UInt8)=>Value.int .u8 (b.toNat:Int)) (w.alloc (.cells Lib.zeros24 291)) w.heap.size 0 dk).drewN k):=by
  have h:=run_convert_bytes_back (P:=prog) ((putRow (fun(b:UInt8)=>Value.int .u8 (b.toNat:Int)) (w.alloc (.cells Lib.zeros24 291)) w.heap.size 0 dk).drewN k) 267 9 5 ⟨w.heap.size,0,none⟩ 24 (Lib.decDigits u) underlying267 underlying5 underlying9 (fun j hj=>by
   rw [Lib.row_is_numeral hF j hj,Lib.add_plain,World.cell?_drewN]
   exact cell?_putRow (fun(b:UInt8)=>Value.int .u8 (b.toNat:Int)) _ w.heap.size 0 _ dk HH0.out (by rw [hF.size,Array.size_replicate]) j (by rw [hF.size];rw [Lib.decDigits_length] at hj;exact hj))
  rw [Lib.decDigits_length] at h;exact h
 have hfin:Hid (Below w.heap.size w ((putRow (fun(b:UInt8)=>Value.int .u8 (b.toNat:Int)) (w.alloc (.cells Lib.zeros24 291)) w.heap.size 0 dk).drewN k)):=by
  rw [alloc_eq_grow];obtain⟨os',_,e⟩:=putRow_grow_new (fun(b:UInt8)=>Value.int .u8 (b.toNat:Int)) w #[.cells Lib.zeros24 291] w.heap.size 0 dk (Nat.le_refl _);rw [e];exact Xz.below ⟨k,os',rfl⟩
 go_wp2;go_ret;exact⟨rfl,hfin⟩
def nmStr (k:Int) (u:Nat):List UInt8:=if k=1 then 116 :: Lib.decDigits u else if k=2 then 108 :: Lib.decDigits u else []
theorem Tryz.fmt (u:Nat) (hu64:u<18446744073709551616) (w:World) (hE:Env w) :
  Calls prog 164 #[.int .u64 u,.int .i64 10] w fun e w'=>e=.returned (.string ⟨(Lib.decDigits u).toArray⟩)/\Below w.heap.size w w':=by
 by_cases h:u<100
 ·exact(Xlw u h w).mono fun _ _ ⟨h1,h2⟩=>⟨h1,by rw [h2];exact Below.refl _ _⟩
 exact Xmc u (by omega) hu64 w hE
theorem Tryz.U9 (u:Nat) (hu64:u<18446744073709551616) (w:World) (hE:Env w) :
  Calls prog 122 #[.int .u64 u,.int .i64 10] w fun e w'=>e=.returned (.string ⟨(Lib.decDigits u).toArray⟩)/\Below w.heap.size w w':=by
 have hs:=fmt u hu64 w hE;generalize Lib.decDigits u=ds at *;go_enter func122,ntmps122
 go_wp2_with (go_at_call 164;refine hs.mono ?_;rintro e w' ⟨rfl,hb⟩)
 go_ret;exact⟨rfl,hb⟩
theorem V6 {a b:ByteArray} (h:a=b):Ending.returned (.string a)=.returned (.string b):=by rw [h]
theorem Xcb (c:UInt8) (ds:List UInt8):(⟨#[c]⟩:ByteArray) ++ ⟨ds.toArray⟩=⟨(c :: ds).toArray⟩:=by
 apply ByteArray.ext;simp
theorem X1 (u:Nat) (hu64:u<18446744073709551616):(Lib.decDigits u).length<=20:=by
 rw [Lib.decDigits_length]
 by_cases h:u=0
 ·subst h;rw [<- Lib.decDigits_length,Lib.decDigits];simp
 have:=Lib.numDigits_eq u (by omega) hu64;split at this <;> omega
theorem Tryz.Zb (k:Int) (u:Nat) (hu64:u<18446744073709551616) (w:World) (hE:Env w) (h6:6<=w.heap.size) :
  Calls prog 68 #[.agg #[.int .i64 k,.int .u64 u]] w fun e w'=>e=.returned (.string ⟨(nmStr k u).toArray⟩)/\Below w.heap.size w w':=by
 have hB0:Below w.heap.size w (w.alloc (.cells #[.int .i64 k,.int .u64 u] 114)):=(Below.refl _ w).alloc (Nat.le_refl _) _;have hs:=U9 u hu64 (w.alloc (.cells #[.int .i64 k,.int .u64 u] 114)) (hE.below hB0 h6);have hl:=X1 u hu64
 by_cases h1:k=1
 ·have hfin:Hid (nmStr k u=116 :: Lib.decDigits u):=by show _=_;simp [nmStr,h1]
  have h1':(k==1)=true:=by simp [h1]
  generalize Lib.decDigits u=ds at *;generalize nmStr k u=r at *;clear h1;go_enter func68,ntmps68
  go_wp2_with (go_at_call 122;refine hs.mono ?_;rintro e w' ⟨rfl,hb⟩)
  go_ret;exact⟨V6 (b:=⟨r.toArray⟩) ((Xcb 116 ds).trans (by rw [show r=116 :: ds from hfin])),hB0.trans (hb.mono (by simp))⟩
 have h1':(k==1)=false:=by simp [h1]
 by_cases h2:k=2
 ·have hfin:Hid (nmStr k u=108 :: Lib.decDigits u):=by show _=_;simp [nmStr,h2]
  have h2':(k==2)=true:=by simp [h2]
  generalize Lib.decDigits u=ds at *;generalize nmStr k u=r at *;clear h1 h2;go_enter func68,ntmps68
  go_wp2_with (go_at_call 122;refine hs.mono ?_;rintro e w' ⟨rfl,hb⟩)
  go_ret;exact⟨V6 (b:=⟨r.toArray⟩) ((Xcb 108 ds).trans (by rw [show r=108 :: ds from hfin])),hB0.trans (hb.mono (by simp))⟩
 have hfin:Hid (nmStr k u = []):=by show _=_;simp [nmStr,h1,h2]
 have h2':(k==2)=false:=by simp [h2]
 generalize nmStr k u=r at *;clear h1 h2 hs hl;go_enter func68,ntmps68;go_wp2;go_ret;exact⟨V6 (a:=⟨#[]⟩) (b:=⟨r.toArray⟩) (by rw [show r = [] from hfin]),hB0⟩
theorem Tryz.Vd (b:Nat) (pd:Bool) (w:World) (h4:w.cell? ⟨b,4,none⟩=some (.bool pd)):Calls prog 89 #[.pointer (some ⟨b,0,none⟩)] w fun e w'=>e=.returned (.bool !pd)/\w'=w:=by
 go_enter func89,ntmps89;go_wp2;go_ret;exact⟨rfl,rfl⟩
theorem Tryz.Xaa (b:Nat) (pd:Bool) (at_ tm:Int) (w:World) (h4:w.cell? ⟨b,4,none⟩=some (.bool pd)) (h2:w.cell? ⟨b,2,none⟩=some (.int .u64 at_)) :
  Calls prog 91 #[.pointer (some ⟨b,0,none⟩),.int .u64 tm] w fun e w'=>e=.returned (.bool (!pd&&decide (tm<at_)))/\w'=w:=by
 have hl:=fun W h=>Vd b pd W h
 cases pd with
 | true =>
  go_enter func91,ntmps91
  go_wp2_with (go_at_call 89;refine(hl _ h4).mono ?_;rintro e w' ⟨rfl,rfl⟩)
  go_ret;exact⟨rfl,rfl⟩
 | false =>
  go_enter func91,ntmps91
  go_wp2_with (go_at_call 89;refine(hl _ h4).mono ?_;rintro e w' ⟨rfl,rfl⟩)
  go_ret;exact⟨by simp,rfl⟩
def Ym (id:List UInt8) (st:Int) (at_:Int) (tr:Int) (tok pth:List UInt8):Array Value:=#[.string ⟨id.toArray⟩,.int .i64 st,.int .u64 at_,.int .i64 tr,.string ⟨tok.toArray⟩,.string ⟨pth.toArray⟩]
abbrev Jo (W:World) (rb:Nat):Prop:=
 (W.cell? ⟨rb,0,none⟩=some (Xq W ⟨rb,0,none⟩)/\W.cell? ⟨rb,1,none⟩=some (Xq W ⟨rb,1,none⟩)/\W.cell? ⟨rb,2,none⟩=some (Xq W ⟨rb,2,none⟩)/\W.cell? ⟨rb,3,none⟩=some (Xq W ⟨rb,3,none⟩)/\W.cell? ⟨rb,4,none⟩=some (Xq W ⟨rb,4,none⟩)/\W.cell? ⟨rb,5,none⟩=some (Xq W ⟨rb,5,none⟩)) /\
 (W.frozen? ⟨rb,0,none⟩=false/\W.frozen? ⟨rb,1,none⟩=false/\W.frozen? ⟨rb,2,none⟩=false/\W.frozen? ⟨rb,3,none⟩=false/\W.frozen? ⟨rb,4,none⟩=false/\W.frozen? ⟨rb,5,none⟩=false)
theorem Jo.below {W W':World} {rb:Nat} (h:Jo W rb) (hb:Below W.heap.size W W'):Jo W' rb:=by
 have hlt:rb<W.heap.size:=World.block_lt_of_cell? _ _ h.1.1
 have c:∀ i,W'.cell? ⟨rb,i,none⟩=W.cell? ⟨rb,i,none⟩:=fun i=>hb.cell (p:=⟨rb,i,none⟩) hlt
 have f:∀ i,W'.frozen? ⟨rb,i,none⟩=W.frozen? ⟨rb,i,none⟩:=fun i=>hb.frozen (p:=⟨rb,i,none⟩) hlt
 have e:∀ i,Xq W' ⟨rb,i,none⟩=Xq W ⟨rb,i,none⟩:=fun i=>by unfold Xq;rw [c i]
 simp only [Jo,c,f,e];exact h
theorem Jo.mk {W:World} {rb:Nat} (h:∀ i,i<6->(W.cell? ⟨rb,i,none⟩).isSome) (f:∀ i,i<6->W.frozen? ⟨rb,i,none⟩=false):Jo W rb:=
 ⟨⟨Xg (h 0 (by omega)),Xg (h 1 (by omega)),Xg (h 2 (by omega)),Xg (h 3 (by omega)),Xg (h 4 (by omega)),Xg (h 5 (by omega))⟩,f 0 (by omega),f 1 (by omega),f 2 (by omega),f 3 (by omega),f 4 (by omega),f 5 (by omega)⟩
theorem Jo.some {W:World} {rb:Nat} (h:Jo W rb):(∀ i,i<6->(W.cell? ⟨rb,i,none⟩).isSome)/\(∀ i,i<6->W.frozen? ⟨rb,i,none⟩=false):=by
 obtain⟨⟨c0,c1,c2,c3,c4,c5⟩,f0,f1,f2,f3,f4,f5⟩:=h;refine⟨fun i hi=>?_,fun i hi=>?_⟩
 ·match i,hi with
  | 0,_=>rw [c0];rfl
  | 1,_=>rw [c1];rfl
  | 2,_=>rw [c2];rfl
  | 3,_=>rw [c3];rfl
  | 4,_=>rw [c4];rfl
  | 5,_=>rw [c5];rfl
 match i,hi with
 | 0,_=>exact f0
 | 1,_=>exact f1
 | 2,_=>exact f2
 | 3,_=>exact f3
 | 4,_=>exact f4
 | 5,_=>exact f5
theorem Jo.set {W:World} {rb:Nat} (h:Jo W rb) (a:Addr) (v:Value):Jo (W.setCell a v) rb:=by
 obtain⟨hs,hf⟩:=h.some;refine Jo.mk (fun i hi=>?_) (fun i hi=>by rw [World.frozen?_setCell];exact hf i hi);obtain⟨x,hx⟩:=Option.isSome_iff_exists.1 (hs i hi);obtain⟨y,hy⟩:=cell?_setCell_some (w:=W) (p:=a) (x:=v) hx;rw [hy];rfl
theorem Jo.new (W:World) (t:TypeId) (c0 c1 c2 c3 c4 c5:Value):Jo (W.alloc (.cells #[c0,c1,c2,c3,c4,c5] t)) W.heap.size:=by
 have hb:=BoxN.new W t #[c0,c1,c2,c3,c4,c5];refine Jo.mk (fun i hi=>?_) (fun i _=>hb.frozen i);rw [hb.cell i (v:=#[c0,c1,c2,c3,c4,c5][i]) (by simp [hi])];rfl
abbrev Tryz.Y9 (w0:World) (nb b rb:Nat) (k:Int) (u:Nat) (ak:Int) (au:Nat) (at_ tr:Int) (W:World):Prop:=
 (W.cell? ⟨nb,0,none⟩=some (.int .i64 k)/\W.cell? ⟨nb,1,none⟩=some (.int .u64 u)/\W.cell? ⟨b,0,none⟩=some (.int .i64 ak)/\W.cell? ⟨b,1,none⟩=some (.int .u64 au)/\W.cell? ⟨b,2,none⟩=some (.int .u64 at_)/\W.cell? ⟨b,3,none⟩=some (.int .i64 tr)) /\
 Jo W rb/\Env W/\6<=W.heap.size/\Below w0.heap.size w0 W
theorem Tryz.Y9.below {w0 W W':World} {nb b rb:Nat} {k:Int} {u:Nat} {ak:Int} {au:Nat} {at_ tr:Int} (h:Y9 w0 nb b rb k u ak au at_ tr W) (hb:Below W.heap.size W W'):Y9 w0 nb b rb k u ak au at_ tr W':=by
 obtain⟨⟨c0,c1,c2,c3,c4,c5⟩,hr,hE,h6,hB⟩:=h;exact⟨⟨cell_later hb c0,cell_later hb c1,cell_later hb c2,cell_later hb c3,cell_later hb c4,cell_later hb c5⟩,hr.below hb,hE.below hb h6,Nat.le_trans h6 hb.size,hB.trans (hb.mono hB.size)⟩
abbrev Tryz.Yx (w0:World) (nb b rb:Nat) (k:Int) (u:Nat) (ak:Int) (au:Nat) (at_ tr:Int) (pd:Bool) (W:World):Prop:=
 Y9 w0 nb b rb k u ak au at_ tr W/\W.cell? ⟨b,4,none⟩=some (.bool pd)
theorem Tryz.Yx.below {w0 W W':World} {nb b rb:Nat} {k:Int} {u:Nat} {ak:Int} {au:Nat} {at_ tr:Int} {pd:Bool} (h:Yx w0 nb b rb k u ak au at_ tr pd W) (hb:Below W.heap.size W W'):Yx w0 nb b rb k u ak au at_ tr pd W':=⟨h.1.below hb,cell_later hb h.2⟩
theorem Tryz.Y9.drew {w0 W:World} {nb b rb:Nat} {k:Int} {u:Nat} {ak:Int} {au:Nat} {at_ tr:Int} (h:Y9 w0 nb b rb k u ak au at_ tr W):Y9 w0 nb b rb k u ak au at_ tr W.drew:=h.below (Xz.below (Xz.refl W).drew)
theorem Tryz.Y9.set {w0 W:World} {nb b rb:Nat} {k:Int} {u:Nat} {ak:Int} {au:Nat} {at_ tr:Int} (h:Y9 w0 nb b rb k u ak au at_ tr W) (hn:nb≠rb) (hb:b≠rb) (hr:w0.heap.size<=rb) (hr6:6<=w0.heap.size) (i:Nat) (v:Value):Y9 w0 nb b rb k u ak au at_ tr (W.setCell ⟨rb,i,none⟩ v):=by
 obtain⟨⟨c0,c1,c2,c3,c4,c5⟩,hrow,hE,h6,hB⟩:=h
 have o:∀(q j:Nat),q≠rb->(W.setCell ⟨rb,i,none⟩ v).cell? ⟨q,j,none⟩=W.cell? ⟨q,j,none⟩:=fun q j hq=>World.cell?_setCell_other _ _ _ _ (by simp)
 have hB':=hB.setCell (p:=⟨rb,i,none⟩) hr v;refine⟨⟨(o _ _ hn).trans c0,(o _ _ hn).trans c1,(o _ _ hb).trans c2,(o _ _ hb).trans c3,(o _ _ hb).trans c4,(o _ _ hb).trans c5⟩,hrow.set _ _,?_,?_,hB'⟩
 ·exact hE.below ((Below.refl w0.heap.size W).setCell (p:=⟨rb,i,none⟩) hr v) hr6
 have:=hB'.size;omega
theorem Tryz.Yx.set {w0 W:World} {nb b rb:Nat} {k:Int} {u:Nat} {ak:Int} {au:Nat} {at_ tr:Int} {pd:Bool} (h:Yx w0 nb b rb k u ak au at_ tr pd W) (hn:nb≠rb) (hb:b≠rb) (hr:w0.heap.size<=rb) (hr6:6<=w0.heap.size) (i:Nat) (v:Value):Yx w0 nb b rb k u ak au at_ tr pd (W.setCell ⟨rb,i,none⟩ v):=
 ⟨h.1.set hn hb hr hr6 i v,(World.cell?_setCell_other _ _ _ _ (by simp)).trans h.2⟩
theorem Tryz.Y9.start {w:World} {b:Nat} {k:Int} {u:Nat} {ak:Int} {au:Nat} {at_ tr:Int} (hE:Env w) (h6:6<=w.heap.size)
  (h0:w.cell? ⟨b,0,none⟩=some (.int .i64 ak)) (h1:w.cell? ⟨b,1,none⟩=some (.int .u64 au)) (h2:w.cell? ⟨b,2,none⟩=some (.int .u64 at_)) (h3:w.cell? ⟨b,3,none⟩=some (.int .i64 tr)) (c0 c1 c2 c3 c4 c5:Value) :
  Y9 w w.heap.size b (w.heap.size+1) k u ak au at_ tr ((w.alloc (.cells #[.int .i64 k,.int .u64 u] 114)).alloc (.cells #[c0,c1,c2,c3,c4,c5] 49)):=by
 have hb1:Below w.heap.size w (w.alloc (.cells #[.int .i64 k,.int .u64 u] 114)):=(Below.refl _ w).alloc (Nat.le_refl _) _;have hb2:Below w.heap.size w ((w.alloc (.cells #[.int .i64 k,.int .u64 u] 114)).alloc (.cells #[c0,c1,c2,c3,c4,c5] 49)):=hb1.alloc (by simp) _;have bn:=(BoxN.new w 114 #[.int .i64 k,.int .u64 u]).alloc (.cells #[c0,c1,c2,c3,c4,c5] 49);have hr:=Jo.new (w.alloc (.cells #[.int .i64 k,.int .u64 u] 114)) 49 c0 c1 c2 c3 c4 c5;rw [World.size_alloc] at hr;exact⟨⟨bn.cell 0 rfl,bn.cell 1 rfl,cell_later hb2 h0,cell_later hb2 h1,cell_later hb2 h2,cell_later hb2 h3⟩,hr,hE.below hb2 h6,by simp;omega,hb2⟩
theorem Tryz.Yx.start {w:World} {b:Nat} {k:Int} {u:Nat} {ak:Int} {au:Nat} {at_ tr:Int} {pd:Bool} (hE:Env w) (h6:6<=w.heap.size)
  (h0:w.cell? ⟨b,0,none⟩=some (.int .i64 ak)) (h1:w.cell? ⟨b,1,none⟩=some (.int .u64 au)) (h2:w.cell? ⟨b,2,none⟩=some (.int .u64 at_)) (h3:w.cell? ⟨b,3,none⟩=some (.int .i64 tr)) (h4:w.cell? ⟨b,4,none⟩=some (.bool pd)) (c0 c1 c2 c3 c4 c5:Value) :
  Yx w w.heap.size b (w.heap.size+1) k u ak au at_ tr pd ((w.alloc (.cells #[.int .i64 k,.int .u64 u] 114)).alloc (.cells #[c0,c1,c2,c3,c4,c5] 49)).drew:=
 ⟨(Y9.start hE h6 h0 h1 h2 h3 c0 c1 c2 c3 c4 c5).drew,cell_later (Xz.below (((Xz.refl w).alloc _).alloc _).drew) h4⟩
theorem Xba {W:World} {rb:Nat} (h:Jo W rb) (v0 v1 v2 v3 v4 v5:Value) :
  ((((((W.setCell ⟨rb,0,none⟩ v0).setCell ⟨rb,1,none⟩ v1).setCell ⟨rb,2,none⟩ v2).setCell ⟨rb,3,none⟩ v3).setCell ⟨rb,4,none⟩ v4).setCell ⟨rb,5,none⟩ v5).cell? ⟨rb,0,none⟩=some v0 /\
  ((((((W.setCell ⟨rb,0,none⟩ v0).setCell ⟨rb,1,none⟩ v1).setCell ⟨rb,2,none⟩ v2).setCell ⟨rb,3,none⟩ v3).setCell ⟨rb,4,none⟩ v4).setCell ⟨rb,5,none⟩ v5).cell? ⟨rb,1,none⟩=some v1 /\
  ((((((W.setCell ⟨rb,0,none⟩ v0).setCell ⟨rb,1,none⟩ v1).setCell ⟨rb,2,none⟩ v2).setCell ⟨rb,3,none⟩ v3).setCell ⟨rb,4,none⟩ v4).setCell ⟨rb,5,none⟩ v5).cell? ⟨rb,2,none⟩=some v2 /\
  ((((((W.setCell ⟨rb,0,none⟩ v0).setCell ⟨rb,1,none⟩ v1).setCell ⟨rb,2,none⟩ v2).setCell ⟨rb,3,none⟩ v3).setCell ⟨rb,4,none⟩ v4).setCell ⟨rb,5,none⟩ v5).cell? ⟨rb,3,none⟩=some v3 /\
  ((((((W.setCell ⟨rb,0,none⟩ v0).setCell ⟨rb,1,none⟩ v1).setCell ⟨rb,2,none⟩ v2).setCell ⟨rb,3,none⟩ v3).setCell ⟨rb,4,none⟩ v4).setCell ⟨rb,5,none⟩ v5).cell? ⟨rb,4,none⟩=some v4 /\
  ((((((W.setCell ⟨rb,0,none⟩ v0).setCell ⟨rb,1,none⟩ v1).setCell ⟨rb,2,none⟩ v2).setCell ⟨rb,3,none⟩ v3).setCell ⟨rb,4,none⟩ v4).setCell ⟨rb,5,none⟩ v5).cell? ⟨rb,5,none⟩=some v5:=by
 have h0:=h;have h1:=h0.set ⟨rb,0,none⟩ v0;have h2:=h1.set ⟨rb,1,none⟩ v1;have h3:=h2.set ⟨rb,2,none⟩ v2;have h4:=h3.set ⟨rb,3,none⟩ v3;have h5:=h4.set ⟨rb,4,none⟩ v4;have s0:=World.cell?_setCell_same _ _ v0 h0.1.1;have s1:=World.cell?_setCell_same _ _ v1 h1.1.2.1;have s2:=World.cell?_setCell_same _ _ v2 h2.1.2.2.1;have s3:=World.cell?_setCell_same _ _ v3 h3.1.2.2.2.1;have s4:=World.cell?_setCell_same _ _ v4 h4.1.2.2.2.2.1;have s5:=World.cell?_setCell_same _ _ v5 h5.1.2.2.2.2.2
 have o:∀(V:World) (i j:Nat) (v:Value),i≠j->(V.setCell ⟨rb,i,none⟩ v).cell? ⟨rb,j,none⟩=V.cell? ⟨rb,j,none⟩:=fun V i j v _=>World.cell?_setCell_other _ _ _ _ (by simp)
 refine⟨?_,?_,?_,?_,?_,s5⟩
 ·rw [o _ 5 0 _ (by omega),o _ 4 0 _ (by omega),o _ 3 0 _ (by omega),o _ 2 0 _ (by omega),o _ 1 0 _ (by omega),s0]
 ·rw [o _ 5 1 _ (by omega),o _ 4 1 _ (by omega),o _ 3 1 _ (by omega),o _ 2 1 _ (by omega),s1]
 ·rw [o _ 5 2 _ (by omega),o _ 4 2 _ (by omega),o _ 3 2 _ (by omega),s2]
 ·rw [o _ 5 3 _ (by omega),o _ 4 3 _ (by omega),s3]
 rw [o _ 5 4 _ (by omega),s4]
theorem Tryz.Xdb (b:Nat) (k:Int) (u:Nat) (ak:Int) (au:Nat) (at_ tr:Int) (lv:Bool) (hu:u<18446744073709551616) (hau:au<18446744073709551616) (w:World) (hE:Env w) (h6:6<=w.heap.size)
  (h0:w.cell? ⟨b,0,none⟩=some (.int .i64 ak)) (h1:w.cell? ⟨b,1,none⟩=some (.int .u64 au)) (h2:w.cell? ⟨b,2,none⟩=some (.int .u64 at_)) (h3:w.cell? ⟨b,3,none⟩=some (.int .i64 tr)) (hb:b<w.heap.size) :
  Calls prog 138 #[.pointer (some ⟨b,0,none⟩),.agg #[.int .i64 k,.int .u64 u],.bool lv] w fun e w'=>e=.returned (.agg (Ym (nmStr k u) (if lv then 1 else 2) at_ tr (nmStr ak au) []))/\Below w.heap.size w w':=by
 have hS1:=fun W (hI:Y9 w w.heap.size b (w.heap.size+1) k u ak au at_ tr W)=>Zb k u hu W hI.2.2.1 hI.2.2.2.1
 have hS2:=fun W (hI:Y9 w w.heap.size b (w.heap.size+1) k u ak au at_ tr W)=>Zb ak au hau W hI.2.2.1 hI.2.2.2.1
 generalize nmStr k u=s1 at *;generalize nmStr ak au=s2 at *
 cases lv with
 | true =>
  go_enter func138,ntmps138
  go_wp2_with fail
  go_region_held3 (Y9 w w.heap.size b (w.heap.size+1) k u ak au at_ tr) (first
   | with_reducible exact(Y9.start hE h6 h0 h1 h2 h3 _ _ _ _ _ _).drew
   | with_reducible exact Y9.below (by assumption) (by assumption)
   | with_reducible exact((((((Y9.set (by assumption) (by omega) (by omega) (by omega) h6 0 _).set (by omega) (by omega) (by omega) h6 1 _).set (by omega) (by omega) (by omega) h6 2 _).set (by omega) (by omega) (by omega) h6 3 _).set (by omega) (by omega) (by omega) h6 4 _).set (by omega) (by omega) (by omega) h6 5 _)) (first
   | (go_at_call_of 68 (Value.int .u64 (u:Int));refine(hS1 _ (by assumption)).mono ?_;rintro e w1 ⟨rfl,hbS1⟩)
   | (go_at_call_of 68 (Value.int .u64 (au:Int));refine(hS2 _ (by assumption)).mono ?_;rintro e w2 ⟨rfl,hbS2⟩))
  go_wp2
  rename_i hI
  have hBF:=hI.2.2.2.2;have hR:=Jo.new (w.alloc (.cells #[.int .i64 k,.int .u64 u] 114)) 49 (.string ⟨#[]⟩) (.int .i64 0) (.int .u64 0) (.int .i64 0) (.string ⟨#[]⟩) (.string ⟨#[]⟩);rw [World.size_alloc] at hR;obtain⟨g0,g1,g2,g3,g4,g5⟩:=Xba (((hR.below (Xz.below (Xz.refl _).drew)).below hbS1).below hbS2) (.string ⟨s1.toArray⟩) (.int .i64 1) (.int .u64 at_) (.int .i64 tr) (.string ⟨s2.toArray⟩) (.string ⟨#[]⟩);clear hI hS1 hS2 h0 h1 h2 h3 hR hbS1 hbS2;exact bodyPost_ret (v:=.agg (Ym s1 1 at_ tr s2 [])) (by simp [results,results138,go_sem,g0,g1,g2,g3,g4,g5,Ym]) rfl ⟨rfl,hBF⟩
 | false =>
  go_enter func138,ntmps138
  go_wp2_with fail
  go_region_held3 (Y9 w w.heap.size b (w.heap.size+1) k u ak au at_ tr) (first
   | with_reducible exact(Y9.start hE h6 h0 h1 h2 h3 _ _ _ _ _ _).drew
   | with_reducible exact Y9.below (by assumption) (by assumption)
   | with_reducible exact((((((Y9.set (by assumption) (by omega) (by omega) (by omega) h6 0 _).set (by omega) (by omega) (by omega) h6 1 _).set (by omega) (by omega) (by omega) h6 2 _).set (by omega) (by omega) (by omega) h6 3 _).set (by omega) (by omega) (by omega) h6 4 _).set (by omega) (by omega) (by omega) h6 5 _)) (first
   | (go_at_call_of 68 (Value.int .u64 (u:Int));refine(hS1 _ (by assumption)).mono ?_;rintro e w1 ⟨rfl,hbS1⟩)
   | (go_at_call_of 68 (Value.int .u64 (au:Int));refine(hS2 _ (by assumption)).mono ?_;rintro e w2 ⟨rfl,hbS2⟩))
  go_wp2
  rename_i hI
  have hBF:=hI.2.2.2.2;have hR:=Jo.new (w.alloc (.cells #[.int .i64 k,.int .u64 u] 114)) 49 (.string ⟨#[]⟩) (.int .i64 0) (.int .u64 0) (.int .i64 0) (.string ⟨#[]⟩) (.string ⟨#[]⟩);rw [World.size_alloc] at hR;obtain⟨g0,g1,g2,g3,g4,g5⟩:=Xba (((hR.below (Xz.below (Xz.refl _).drew)).below hbS1).below hbS2) (.string ⟨s1.toArray⟩) (.int .i64 2) (.int .u64 at_) (.int .i64 tr) (.string ⟨s2.toArray⟩) (.string ⟨#[]⟩);clear hI hS1 hS2 h0 h1 h2 h3 hR hbS1 hbS2;exact bodyPost_ret (v:=.agg (Ym s1 2 at_ tr s2 [])) (by simp [results,results138,go_sem,g0,g1,g2,g3,g4,g5,Ym]) rfl ⟨rfl,hBF⟩
theorem Tryz.Xi1 (b:Nat) (k:Int) (u:Nat) (ak:Int) (au:Nat) (at_ tr:Int) (pd:Bool) (hu:u<18446744073709551616) (hau:au<18446744073709551616) (w:World) (hE:Env w) (h6:6<=w.heap.size)
  (h0:w.cell? ⟨b,0,none⟩=some (.int .i64 ak)) (h1:w.cell? ⟨b,1,none⟩=some (.int .u64 au)) (h2:w.cell? ⟨b,2,none⟩=some (.int .u64 at_)) (h3:w.cell? ⟨b,3,none⟩=some (.int .i64 tr)) (h4:w.cell? ⟨b,4,none⟩=some (.bool pd)) :
  Calls prog 80 #[.pointer (some ⟨b,0,none⟩),.agg #[.int .i64 k,.int .u64 u]] w fun e w'=>e=.returned (.agg (Ym (nmStr k u) (if !pd then 1 else 2) at_ tr (nmStr ak au) []))/\Below w.heap.size w w':=by
 have hb:b<w.heap.size:=World.block_lt_of_cell? _ _ h0
 have hS1:=fun W (hI:Yx w w.heap.size b (w.heap.size+1) k u ak au at_ tr pd W)=>Vd b pd W hI.2
 have hS2:=fun W (hI:Yx w w.heap.size b (w.heap.size+1) k u ak au at_ tr pd W)=>Xdb b k u ak au at_ tr (!pd) hu hau W hI.1.2.2.1 hI.1.2.2.2.1 hI.1.1.2.2.1 hI.1.1.2.2.2.1 hI.1.1.2.2.2.2.1 hI.1.1.2.2.2.2.2 (Nat.lt_of_lt_of_le hb hI.1.2.2.2.2.size)
 generalize nmStr k u=s1 at *;generalize nmStr ak au=s2 at *;unfold Ym at hS2 ⊢;generalize (if !pd then (1:Int) else 2)=st at *;go_enter func80,ntmps80
 go_wp2_with fail
 go_region_held3 (Yx w w.heap.size b (w.heap.size+1) k u ak au at_ tr pd) (first
  | with_reducible exact Yx.start hE h6 h0 h1 h2 h3 h4 _ _ _ _ _ _
  | with_reducible exact Yx.below (by assumption) (by assumption)
  | with_reducible assumption
  | with_reducible exact((((((Yx.set (by assumption) (by omega) (by omega) (by omega) h6 0 _).set (by omega) (by omega) (by omega) h6 1 _).set (by omega) (by omega) (by omega) h6 2 _).set (by omega) (by omega) (by omega) h6 3 _).set (by omega) (by omega) (by omega) h6 4 _).set (by omega) (by omega) (by omega) h6 5 _)) (first
  | (go_at_call 89;refine(hS1 _ (by assumption)).mono ?_;rintro e w1 ⟨rfl,rfl⟩)
  | (go_at_call 138;refine(hS2 _ (by assumption)).mono ?_;rintro e w2 ⟨rfl,hbS2⟩))
 go_wp2
 rename_i hI
 have hBF:=hI.1.2.2.2.2;have hR:=Jo.new (w.alloc (.cells #[.int .i64 k,.int .u64 u] 114)) 49 (.string ⟨#[]⟩) (.int .i64 0) (.int .u64 0) (.int .i64 0) (.string ⟨#[]⟩) (.string ⟨#[]⟩);rw [World.size_alloc] at hR;obtain⟨g0,g1,g2,g3,g4,g5⟩:=Xba ((hR.below (Xz.below (Xz.refl _).drew)).below hbS2) (.string ⟨s1.toArray⟩) (.int .i64 st) (.int .u64 at_) (.int .i64 tr) (.string ⟨s2.toArray⟩) (.string ⟨#[]⟩);clear hI hS1 hS2 h0 h1 h2 h3 hR hbS2;exact bodyPost_ret (v:=.agg #[.string ⟨s1.toArray⟩,.int .i64 st,.int .u64 at_,.int .i64 tr,.string ⟨s2.toArray⟩,.string ⟨#[]⟩]) (by simp [results,results80,go_sem,g0,g1,g2,g3,g4,g5]) rfl ⟨rfl,hBF⟩
theorem Xm4 {W:World} {q:Nat} {t:TypeId} {c0 c1 c2 c3 c4 c5:Value} (h:BoxN W q t #[c0,c1,c2,c3,c4,c5]) (v0 v1 v2 v3 v4 v5:Value) :
  BoxN ((((((W.setCell ⟨q,0,none⟩ v0).setCell ⟨q,1,none⟩ v1).setCell ⟨q,2,none⟩ v2).setCell ⟨q,3,none⟩ v3).setCell ⟨q,4,none⟩ v4).setCell ⟨q,5,none⟩ v5) q t #[v0,v1,v2,v3,v4,v5]:=
 (((((h.set 0 v0).set 1 v1).set 2 v2).set 3 v3).set 4 v4).set 5 v5
theorem Tryz.Yx.Xka {w0 W:World} {nb b rb:Nat} {k:Int} {u:Nat} {ak:Int} {au:Nat} {at_ tr:Int} {pd:Bool} (h:Yx w0 nb b rb k u ak au at_ tr pd W) (q i:Nat) (v:Value) (hn:nb≠q) (hb:b≠q) (_hr:rb≠q) (hq:w0.heap.size<=q) (h6:6<=w0.heap.size):Yx w0 nb b rb k u ak au at_ tr pd (W.setCell ⟨q,i,none⟩ v):=by
 obtain⟨⟨⟨c0,c1,c2,c3,c4,c5⟩,hrow,hE,h6',hB⟩,hp⟩:=h
 have o:∀(p j:Nat),p≠q->(W.setCell ⟨q,i,none⟩ v).cell? ⟨p,j,none⟩=W.cell? ⟨p,j,none⟩:=fun p j hp=>World.cell?_setCell_other _ _ _ _ (by simp)
 have hB':=hB.setCell (p:=⟨q,i,none⟩) hq v;refine⟨⟨⟨(o _ _ hn).trans c0,(o _ _ hn).trans c1,(o _ _ hb).trans c2,(o _ _ hb).trans c3,(o _ _ hb).trans c4,(o _ _ hb).trans c5⟩,hrow.set _ _,hE.below ((Below.refl w0.heap.size W).setCell (p:=⟨q,i,none⟩) hq v) h6,?_,hB'⟩,(o _ _ hb).trans hp⟩;have:=hB'.size;omega
theorem Tryz.Xjx (b:Nat) (k:Int) (u:Nat) (ak:Int) (au:Nat) (at_ tr:Int) (pd:Bool) (tm:Int) (pth:List UInt8) (hu:u<18446744073709551616) (hau:au<18446744073709551616) (w:World) (hE:Env w) (h6:6<=w.heap.size)
  (h0:w.cell? ⟨b,0,none⟩=some (.int .i64 ak)) (h1:w.cell? ⟨b,1,none⟩=some (.int .u64 au)) (h2:w.cell? ⟨b,2,none⟩=some (.int .u64 at_)) (h3:w.cell? ⟨b,3,none⟩=some (.int .i64 tr)) (h4:w.cell? ⟨b,4,none⟩=some (.bool pd)) (h5:w.cell? ⟨b,5,none⟩=some (.string ⟨pth.toArray⟩)) :
  Calls prog 82 #[.pointer (some ⟨b,0,none⟩),.agg #[.int .i64 k,.int .u64 u],.int .u64 tm] w fun e w'=>e=.returned (.agg (Ym (nmStr k u) (if (!pd&&decide (tm<at_)) then 1 else 2) at_ tr (nmStr ak au) pth))/\Below w.heap.size w w':=by
 have hb:b<w.heap.size:=World.block_lt_of_cell? _ _ h0
 have hS1:=fun W (hI:Yx w w.heap.size b (w.heap.size+1) k u ak au at_ tr pd W)=>Xaa b pd at_ tm W hI.2 hI.1.1.2.2.2.2.1
 generalize (!pd&&decide (tm<at_))=lv at *
 have hS2:=fun W (hI:Yx w w.heap.size b (w.heap.size+1) k u ak au at_ tr pd W)=>Xdb b k u ak au at_ tr lv hu hau W hI.1.2.2.1 hI.1.2.2.2.1 hI.1.1.2.2.1 hI.1.1.2.2.2.1 hI.1.1.2.2.2.2.1 hI.1.1.2.2.2.2.2 (Nat.lt_of_lt_of_le hb hI.1.2.2.2.2.size)
 generalize nmStr k u=s1 at *;generalize nmStr ak au=s2 at *;unfold Ym at hS2 ⊢;generalize (if lv then (1:Int) else 2)=st at *;go_enter func82,ntmps82
 go_wp2_with fail
 go_cut [7] (fun t7 wx=>∃ q:Nat,t7=.pointer (some ⟨q,0,none⟩)/\(BoxN wx q 49 #[.string ⟨s1.toArray⟩,.int .i64 st,.int .u64 at_,.int .i64 tr,.string ⟨s2.toArray⟩,.string ⟨#[]⟩]/\Jo wx (w.heap.size+1))/\wx.cell? ⟨b,5,none⟩=some (.string ⟨pth.toArray⟩)/\Below w.heap.size w wx/\w.heap.size+1<q)
 case first =>
  go_region_held3 (Yx w w.heap.size b (w.heap.size+1) k u ak au at_ tr pd) (first
   | with_reducible exact Yx.start hE h6 h0 h1 h2 h3 h4 _ _ _ _ _ _
   | with_reducible exact Yx.below (by assumption) (by assumption)
   | with_reducible assumption
   | with_reducible exact((((((Yx.Xka (by assumption) _ 0 _ (by omega) (by omega) (by omega) (by omega) h6).Xka _ 1 _ (by omega) (by omega) (by omega) (by omega) h6).Xka _ 2 _ (by omega) (by omega) (by omega) (by omega) h6).Xka _ 3 _ (by omega) (by omega) (by omega) (by omega) h6).Xka _ 4 _ (by omega) (by omega) (by omega) (by omega) h6).Xka _ 5 _ (by omega) (by omega) (by omega) (by omega) h6)
   | with_reducible exact Yx.below (Xa hK2) ((Below.refl _ _).alloc (Nat.le_refl _) _)
   | with_reducible exact Yx.below (by assumption) ((Below.refl _ _).alloc (Nat.le_refl _) _)) (first
   | (go_at_call 91;refine(hS1 _ (by assumption)).mono ?_;rintro e w1 ⟨rfl,rfl⟩)
   | (go_at_call 138;refine(hS2 _ (by assumption)).mono ?_;rintro e w2 ⟨rfl,hbS2⟩;have hK2:=Xb (Yx.below (show Yx w w.heap.size b (w.heap.size+1) k u ak au at_ tr pd _ from by assumption) hbS2);obtain⟨hc2,hf2⟩:=Xn8 hbS2;have hz2:=hbS2.size))
  ·go_wp2_with fail
   go_meet
   case rel =>
    have hI2:=Xa hK2;have hB2:=hI2.1.2.2.2.2.alloc hI2.1.2.2.2.2.size (.cells #[.string ⟨s1.toArray⟩,.int .i64 st,.int .u64 at_,.int .i64 tr,.string ⟨s2.toArray⟩,.string ⟨#[]⟩] 49);simp at hz2;exact⟨_,rfl,⟨BoxN.new _ _ _,hI2.1.2.1.below ((Below.refl _ _).alloc (Nat.le_refl _) _)⟩,cell_later hB2 h5,hB2,by omega⟩
  all_goals
   go_wp2_with fail
   go_meet
   case rel =>
    have hI2:=Xa hK2
    have b0:=(BoxN.new ((w.alloc (.cells #[.int .i64 k,.int .u64 u] 114)).alloc (.cells #[.string ⟨#[]⟩,.int .i64 0,.int .u64 0,.int .i64 0,.string ⟨#[]⟩,.string ⟨#[]⟩] 49)) 49 #[.string ⟨#[]⟩,.int .i64 0,.int .u64 0,.int .i64 0,.string ⟨#[]⟩,.string ⟨#[]⟩])
    simp only [World.size_alloc] at b0;have b1:BoxN w2 (w.heap.size+1+1) 49 #[.string ⟨#[]⟩,.int .i64 0,.int .u64 0,.int .i64 0,.string ⟨#[]⟩,.string ⟨#[]⟩]:=(hbS2.block (w.heap.size+1+1) (by simp)).trans b0;have bF:=Xm4 b1 (.string ⟨s1.toArray⟩) (.int .i64 st) (.int .u64 at_) (.int .i64 tr) (.string ⟨s2.toArray⟩) (.string ⟨#[]⟩);have hR:=(((((hI2.1.2.1.set ⟨w.heap.size+1+1,0,none⟩ (.string ⟨s1.toArray⟩)).set ⟨w.heap.size+1+1,1,none⟩ (.int .i64 st)).set ⟨w.heap.size+1+1,2,none⟩ (.int .u64 at_)).set ⟨w.heap.size+1+1,3,none⟩ (.int .i64 tr)).set ⟨w.heap.size+1+1,4,none⟩ (.string ⟨s2.toArray⟩)).set ⟨w.heap.size+1+1,5,none⟩ (.string ⟨#[]⟩);have hB2:=(((((hI2.1.2.2.2.2.setCell (p:=⟨w.heap.size+1+1,0,none⟩) (by simp;omega) (.string ⟨s1.toArray⟩)).setCell (p:=⟨w.heap.size+1+1,1,none⟩) (by simp;omega) (.int .i64 st)).setCell (p:=⟨w.heap.size+1+1,2,none⟩) (by simp;omega) (.int .u64 at_)).setCell (p:=⟨w.heap.size+1+1,3,none⟩) (by simp;omega) (.int .i64 tr)).setCell (p:=⟨w.heap.size+1+1,4,none⟩) (by simp;omega) (.string ⟨s2.toArray⟩)).setCell (p:=⟨w.heap.size+1+1,5,none⟩) (by simp;omega) (.string ⟨#[]⟩);exact⟨_,rfl,⟨bF,hR⟩,cell_later hB2 h5,hB2,by omega⟩
 case rest =>
  obtain⟨q,rfl,⟨bq,hr⟩,h5',hB,hq⟩:=hcut
  have hne:q≠w.heap.size+1:=by omega
  have q0:=bq.cell 0 (v:=.string ⟨s1.toArray⟩) rfl;have q1:=bq.cell 1 (v:=.int .i64 st) rfl;have q2:=bq.cell 2 (v:=.int .u64 at_) rfl;have q3:=bq.cell 3 (v:=.int .i64 tr) rfl;have q4:=bq.cell 4 (v:=.string ⟨s2.toArray⟩) rfl;have q5:=bq.cell 5 (v:=.string ⟨#[]⟩) rfl;have qf:=bq.frozen 5;have HR:=Xb (hr.set ⟨q,5,none⟩ (.string ⟨pth.toArray⟩));obtain⟨⟨r0,r1,r2,r3,r4,r5⟩,f0,f1,f2,f3,f4,f5⟩:=hr;go_wp2;obtain⟨g0,g1,g2,g3,g4,g5⟩:=Xba (Xa HR) (.string ⟨s1.toArray⟩) (.int .i64 st) (.int .u64 at_) (.int .i64 tr) (.string ⟨s2.toArray⟩) (.string ⟨pth.toArray⟩);have hBF:=((((((hB.setCell (p:=⟨q,5,none⟩) (by simp;omega) (.string ⟨pth.toArray⟩)).setCell (p:=⟨w.heap.size+1,0,none⟩) (by simp) (.string ⟨s1.toArray⟩)).setCell (p:=⟨w.heap.size+1,1,none⟩) (by simp) (.int .i64 st)).setCell (p:=⟨w.heap.size+1,2,none⟩) (by simp) (.int .u64 at_)).setCell (p:=⟨w.heap.size+1,3,none⟩) (by simp) (.int .i64 tr)).setCell (p:=⟨w.heap.size+1,4,none⟩) (by simp) (.string ⟨s2.toArray⟩)).setCell (p:=⟨w.heap.size+1,5,none⟩) (by simp) (.string ⟨pth.toArray⟩);clear r0 r1 r2 r3 r4 r5 q0 q1 q2 q3 q4 q5;exact bodyPost_ret (v:=.agg #[.string ⟨s1.toArray⟩,.int .i64 st,.int .u64 at_,.int .i64 tr,.string ⟨s2.toArray⟩,.string ⟨pth.toArray⟩]) (by simp [results,results82,go_sem,g0,g1,g2,g3,g4,g5]) rfl ⟨rfl,hBF⟩
end Go.Proofs
