import Derived.Test.YtjbekgjdempbiaaGreatDoorJQueH
import Derived.Test.YtjbekgjdempbiaaGreatDoorJRecC
import Derived.Test.YtjbekgjdempbiaaGreatDoorJJrnC
import Derived.ChangeKeysEq
import Derived.Maps.RangeWalk
import Derived.Test.YtjbekgjdempbiaaGreatDoorJRounds
import Derived.Test.YtjbekgjdempbiaaGreatDoorJRefQ0
import Derived.StringKeys
set_option maxRecDepth 100000
set_option maxHeartbeats 8000000
namespace Go.Proofs
open Go.RowKit Go.Sort Go.Lib Go.Shelf Go.Maps
theorem Tryz.cut (s sep:List UInt8) (w:World) (hs:s.length<4294967281) (hG:Ja w) :
  Calls prog 213 #[.string ⟨s.toArray⟩,.string ⟨sep.toArray⟩] w fun e w'=>e=.returned (.tuple #[.string ⟨(Lib.cut s sep).1.toArray⟩,.string ⟨(Lib.cut s sep).2.1.toArray⟩,.bool (Lib.cut s sep).2.2])/\Below w.heap.size w w':=by
 obtain⟨-,m,hm⟩:=hG;refine(Any.strings_Cut Xs0 ⟨s.toArray⟩ ⟨sep.toArray⟩ m w (by simpa [ByteArray.size] using hs) hm).mono ?_;rintro e w' ⟨rfl,n,rfl⟩;exact⟨rfl,below_drewN (Below.refl _ _) n⟩
def puV (r:List UInt8):Int:=match Lib.parseUintB 64 r with
 | .ok u=>(u:Int)
 | .range=>18446744073709551615
 | _=>0
theorem Tryz.Xif (r:List UInt8) (hl:r.length<=281474976710656) (w:World) (hE:Env w) :
  Calls prog 118 #[.string ⟨r.toArray⟩,.int .i64 10,.int .i64 64] w fun e w'=>∃ er,e=.returned (.tuple #[.int .u64 (puV r),er])/\Below w.heap.size w w':=by
 have hsz:(⟨r.toArray⟩:ByteArray).size<=281474976710656:=by simpa [ByteArray.size] using hl
 cases hpp:Lib.parseUintB 64 r with
 | ok u =>
  have h:=Any.strconv_ParseUint_10_at64_ok Vq ⟨r.toArray⟩ (by have:=hsz;omega) u hpp w;rw [show puV r=(u:Int) by simp only [puV,hpp]];refine h.mono ?_;rintro e w' ⟨rfl,hw⟩;exact⟨_,rfl,Xfe hw⟩
 | range =>
  obtain⟨tp,p,hv⟩:=hE.rng;rw [show puV r=18446744073709551615 by simp only [puV,hpp]];refine(Any.strconv_ParseUint_10_at64_range_var Vq ⟨r.toArray⟩ hsz hpp tp p _ hv).mono ?_;rintro e w' ⟨N,rfl,-,-,h4⟩;exact⟨_,rfl,h4⟩
 | _ =>
  obtain⟨tp,p,hv⟩:=hE.syn;rw [show puV r=0 by simp only [puV,hpp]];refine(Any.strconv_ParseUint_10_at64_syntax_var Vq ⟨r.toArray⟩ hsz hpp tp p _ hv).mono ?_;rintro e w' ⟨N,rfl,-,-,h4⟩;exact⟨_,rfl,h4⟩
def txtL (s:List UInt8):List UInt8:=(Lib.cut (Lib.cut s [32]).2.1 [32]).2.1
def wholeB (s:List UInt8):Bool:=puV (Lib.cut s [32]).1==((txtL s).length:Int)&&puV (Lib.cut (Lib.cut s [32]).2.1 [32]).1==sumI (txtL s)
theorem Xd2 (s sep:List UInt8):(∀ b∈(Lib.cut s sep).1,b∈s)/\(∀ b∈(Lib.cut s sep).2.1,b∈s)/\(Lib.cut s sep).1.length<=s.length/\(Lib.cut s sep).2.1.length<=s.length:=by
 unfold Lib.cut
 split
 ·exact⟨fun b h=>List.mem_of_mem_take h,fun b h=>List.mem_of_mem_drop h,by simp;omega,by simp⟩
 exact⟨fun b h=>h,fun b h=>by simp at h,Nat.le_refl _,by simp⟩
theorem Tryz.Xoj:prog.cellsOf 31=1:=by kernel_rfl
theorem Tryz.Xvn (a b c d:Int) (W:World):(binOp .eql 269 (.agg #[.int .u64 a,.int .u64 b]) (.agg #[.int .u64 c,.int .u64 d])).run prog W=.ok (.bool (a==c&&b==d)) W:=by
 have hu:=underlying269;obtain⟨i,hi⟩:=info_of_underlying underlying31;have h31:=underlying31
 have hp:prog.plainKey 31=true:=by kernel_rfl
 have key:(Op.equal 269 (.agg #[.int .u64 a,.int .u64 b]) (.agg #[.int .u64 c,.int .u64 d])).run prog W=.ok (a==c&&b==d) W:=by
  unfold Op.equal;rw [show Op.maxDepth=(Op.maxDepth-2+1)+1 by decide];rw [run_equalIn_array W _ _ _ hu hi,Xoj];simp only [List.range_succ,List.range_zero,List.nil_append,List.cons_append,Op.eqItems,Sem.run_bind];rw [run_part_plain W hp (v:=.int .u64 a) (by simp),Result.andThen_ok,run_part_plain W hp (v:=.int .u64 c) (by simp),Result.andThen_ok,run_equalIn_int W _ _ _ _ _ _ h31,Result.andThen_ok];cases h1:(a==c)
  ·simp
  simp only [Bool.not_true,Bool.false_eq_true,if_false,Sem.run_bind];rw [run_part_plain W hp (v:=.int .u64 b) (by simp),Result.andThen_ok,run_part_plain W hp (v:=.int .u64 d) (by simp),Result.andThen_ok,run_equalIn_int W _ _ _ _ _ _ h31,Result.andThen_ok]
  cases h2:(b==d) <;> simp
 simp only [binOp,go_sem];rw [Sem.run_bind,key];rfl
abbrev TxP (tb:Nat) (a b:Int) (W:World):Prop:=W.cell? ⟨tb,0,none⟩=some (.int .u64 a)/\W.cell? ⟨tb,1,none⟩=some (.int .u64 b)
theorem TxP.of {W:World} {tb:Nat} {a b:Int} {t:TypeId} (h:BoxN W tb t #[.int .u64 a,.int .u64 b]):TxP tb a b W:=⟨h.cell 0 rfl,h.cell 1 rfl⟩
theorem Tryz.textOf (s:List UInt8) (w:World) (hs:s.length<4294967281) (ha:∀ b∈s,b.toNat<128) (hE:Env w) (h9:9<=w.heap.size) (hG:Ja w) :
  Calls prog 185 #[.string ⟨s.toArray⟩] w fun e w'=>e=.returned (.tuple #[.string ⟨(txtL s).toArray⟩,.bool (wholeB s)])/\Below w.heap.size w w':=by
 obtain⟨-,a1,l0,l1⟩:=Xd2 s [32];obtain⟨-,a2,l2,l3⟩:=Xd2 (Lib.cut s [32]).2.1 [32]
 have hC1:=fun W (hb:Below w.heap.size w W)=>cut s [32] W hs (hG.below (hb.mono h9))
 have hC2:=fun W (hb:Below w.heap.size w W)=>cut (Lib.cut s [32]).2.1 [32] W (by omega) (hG.below (hb.mono h9))
 have hU1:=fun W (hb:Below w.heap.size w W)=>Xif (Lib.cut s [32]).1 (by omega) W (hE.below hb (by omega))
 have hU2:=fun W (hb:Below w.heap.size w W)=>Xif (Lib.cut (Lib.cut s [32]).2.1 [32]).1 (by omega) W (hE.below hb (by omega))
 have hM:=fun W=>Xql (txtL s) W (by unfold txtL;omega) (fun b hb=>ha b (a1 b (a2 b hb)))
 have hq:=Xvn;have hw:Hid (wholeB s=(puV (Lib.cut s [32]).1==((txtL s).length:Int)&&puV (Lib.cut (Lib.cut s [32]).2.1 [32]).1==sumI (txtL s))):=Xb rfl;unfold txtL at *;generalize wholeB s=wh at *;generalize puV (Lib.cut s [32]).1=p1 at *;generalize puV (Lib.cut (Lib.cut s [32]).2.1 [32]).1=p2 at *;generalize Lib.cut s [32]=x1 at *;obtain⟨n1,r1,f1⟩:=x1;simp only at *;generalize Lib.cut r1 [32]=x2 at *;obtain⟨n2,r2,f2⟩:=x2;simp only at *;generalize sumI r2=sm at *
 obtain⟨ln,hln⟩:∃ ln:Int,(r2.length:Int)=ln:=⟨_,rfl⟩
 simp only [hln] at hM hw;clear hln a1 a2 l0 l1 l2 l3 ha hs;have bT0:=BoxN.new w 269 #[.int .u64 0,.int .u64 0];have hB0:Below w.heap.size w (w.alloc (.cells #[.int .u64 0,.int .u64 0] 269)):=(Below.refl _ w).alloc (Nat.le_refl _) _;go_enter func185,ntmps185;go_wp2;refine wp_loop_rounds 3 ?_;rw [rounds_succ]
 go_wp2_with (first
  | (go_at_call 213;refine(hC1 _ hB0).mono ?_;rintro e w1 ⟨rfl,hb1⟩;have hB1:=hB0.trans (hb1.mono (by simp));have bT1:=bT0.below hb1 (by simp))
  | (go_at_call 118;refine(hU1 _ hB1).mono ?_;rintro e w2 ⟨er,rfl,hb2⟩;have hB2:=hB1.trans (hb2.mono hB1.size);have bT2:=bT1.below hb2 bT1.lt;have c0:=bT2.cell 0 (v:=.int .u64 0) rfl;have g0:=bT2.frozen 0))
 have hB3:=hB2.setCell (p:=⟨w.heap.size,0,none⟩) (Nat.le_refl _) (.int .u64 p1);have bT3:=bT2.set 0 (.int .u64 p1);clear c0 g0 hC1 hU1;rw [rounds_succ]
 go_wp2_with (first
  | (go_at_call 213;refine(hC2 _ hB3).mono ?_;rintro e w4 ⟨rfl,hb4⟩;have hB4:=hB3.trans (hb4.mono (by simpa using hB2.size));have bT4:=bT3.below hb4 (by simpa using bT2.lt))
  | (go_at_call 118;refine(hU2 _ hB4).mono ?_;rintro e w5 ⟨er2,rfl,hb5⟩;have hB5:=hB4.trans (hb5.mono hB4.size);have bT5:=bT4.below hb5 bT4.lt;have c1:=bT5.cell 1 (v:=.int .u64 0) rfl;have g1:=bT5.frozen 1))
 have hB6:=hB5.setCell (p:=⟨w.heap.size,1,none⟩) (Nat.le_refl _) (.int .u64 p2);have bT6:=bT5.set 1 (.int .u64 p2);have hP6:TxP w.heap.size p1 p2 (w5.setCell ⟨w.heap.size,1,none⟩ (.int .u64 p2)).drew:=TxP.of (t:=269) bT6;have l6:=bT6.lt;clear c1 g1 hC2 hU2;rw [rounds_succ];go_wp2
 go_region_held3 (TxP w.heap.size p1 p2) (first
  | with_reducible exact hP6
  | with_reducible exact hP7
  | with_reducible assumption) (first
  | (go_at_call 177;refine(hM _).mono ?_;rintro e w7 ⟨rfl,hb7⟩;have hP7:TxP w.heap.size p1 p2 w7:=TxP.of (t:=269) (BoxN.below (W:=(w5.setCell ⟨w.heap.size,1,none⟩ (.int .u64 p2)).drew) bT6 hb7 l6);have hB7:=hB6.drew.trans (hb7.mono (by simpa using hB5.size))))
 all_goals
  go_wp2
  go_ret2
  exact⟨by rw [Xa hw];rfl,hB7⟩
end Go.Proofs
namespace Go.Proofs
open Go.RowKit Go.Sort Go.Maps Go.WideMaps
theorem Tryz.Xmb (w:World):Calls prog 254 #[.slice none 0 0,.int .i64 0,.int .i64 0] w fun e w'=>e=.returned (.tuple #[])/\w'=w:=by
 go_enter func254,ntmps254;go_wp2;refine wp_loop_rounds 1 ?_;rw [rounds_succ];go_wp2
 go_end0
 exact⟨rfl,rfl⟩
theorem Tryz.Xlv (w:World) (lim:Int):Calls prog 232 #[.slice none 0 0,.int .i64 0,.int .i64 0,.int .i64 lim] w fun e w'=>e=.returned (.tuple #[])/\w'=w:=by
 have hI:=fun W=>Xmb W
 go_enter func232,ntmps232;go_wp2;refine wp_loop_rounds 1 ?_;rw [rounds_succ]
 go_wp2_with (go_at_call 254;refine(hI _).mono ?_;rintro e w1 ⟨rfl,rfl⟩)
 exact bodyPost_ret (v:=.tuple #[]) (by simp [results,results232,go_sem]) rfl ⟨rfl,rfl⟩
theorem Tryz.Xmp (w:World):Calls prog 317 #[.slice none 0 0,.int .i64 0,.int .i64 0] w fun e w'=>e=.returned (.tuple #[])/\w'=w:=by
 go_enter func317,ntmps317;go_wp2;refine wp_loop_rounds 1 ?_;rw [rounds_succ];go_wp2
 go_end0
 exact⟨rfl,rfl⟩
theorem Tryz.Xle (w:World) (lim:Int):Calls prog 316 #[.slice none 0 0,.int .i64 0,.int .i64 0,.int .i64 lim] w fun e w'=>e=.returned (.tuple #[])/\w'=w:=by
 have hI:=fun W=>Xmp W
 go_enter func316,ntmps316;go_wp2;refine wp_loop_rounds 1 ?_;rw [rounds_succ]
 go_wp2_with (go_at_call 317;refine(hI _).mono ?_;rintro e w1 ⟨rfl,rfl⟩)
 exact bodyPost_ret (v:=.tuple #[]) (by simp [results,results316,go_sem]) rfl ⟨rfl,rfl⟩
theorem Tryz.Xjr (w:World):Calls prog 226 #[.int .u64 0] w fun e w'=>(∃ z:Int,e=.returned (.int .i64 z))/\w'=w:=by
 go_enter func226,ntmps226;go_wp2;go_ret;exact⟨⟨_,rfl⟩,rfl⟩
theorem Tryz.Xi4 (w:World):Calls prog 211 #[.slice none 0 0] w fun e w'=>e=.returned (.tuple #[])/\w'=w:=by
 have hL:=fun W=>Xjr W
 have hI:=fun W lim=>Xlv W lim
 go_enter func211,ntmps211
 go_wp2_with (first
  | (go_at_call 226;refine(hL _).mono ?_;rintro e w1 ⟨⟨z,rfl⟩,rfl⟩)
  | (go_at_call 232;refine(hI _ _).mono ?_;rintro e w2 ⟨rfl,rfl⟩))
 go_end0
 exact⟨rfl,rfl⟩
theorem Tryz.Xf7 (w:World):Calls prog 315 #[.slice none 0 0] w fun e w'=>e=.returned (.tuple #[])/\w'=w:=by
 have hL:=fun W=>Xjr W
 have hI:=fun W lim=>Xle W lim
 go_enter func315,ntmps315
 go_wp2_with (first
  | (go_at_call 226;refine(hL _).mono ?_;rintro e w1 ⟨⟨z,rfl⟩,rfl⟩)
  | (go_at_call 316;refine(hI _ _).mono ?_;rintro e w2 ⟨rfl,rfl⟩))
 go_end0
 exact⟨rfl,rfl⟩
theorem Tryz.Xdu (w:World):Calls prog 312 #[.slice none 0 0] w fun e w'=>e=.returned (.tuple #[])/\w'=w:=by
 have hI:=fun W=>Xf7 W
 go_enter func312,ntmps312
 go_wp2_with (go_at_call 315;refine(hI _).mono ?_;rintro e w2 ⟨rfl,rfl⟩)
 go_end0
 exact⟨rfl,rfl⟩
theorem Tryz.Xlo (db md mn:Nat) (fd:Option (Nat × List UInt8)) (l f:Int) (w:World) (hD:Xj w db md mn fd none (.slice none 0 0) l f) :
  Calls prog 306 #[.pointer (some ⟨db,0,none⟩)] w fun e w'=>e=.returned (.tuple #[.slice none 0 0,.nilIface])/\Below w.heap.size w w':=by
 have hS:=fun W=>Xdu W
 have d1:=hD.box.cell 1 (v:=.map (some mn)) rfl;have d5:=hD.box.cell 5 (v:=.bool false) rfl;obtain⟨n,hn,hown⟩:=hD.nm
 change w.ownsMap prog 9 Yd mn n (.map []) at hown
 go_enter func306,ntmps306
 go_wp2_with (first
  | (at_range;refine wpList_range_own _ rfl _ 97 rfl 9 101 (string_keyed underlying9) underlying97 _ mn n _ rfl hown ?_;intro w1 hrg hg1 hs1)
  | go_in)
 have HB:=Xb (show Below w.heap.size w w1 from ⟨hg1.os,hg1.tape,hg1.output,hg1.size,fun k hk=>hg1.block k hk (by simp)⟩);clear hg1 hs1 hown d1 d5;refine wp_loop_rounds 1 ?_;rw [rounds_succ]
 go_wp2_with (first
  | (at_next;refine wpList_next_ranges _ rfl _ rfl 9 (string_keyed underlying9) Yd (fun v:Value=>v) (fun v:Value=>v) (fun v _ _=>⟨v,rfl⟩) (fun v _ _=>⟨v,rfl⟩) mn _ n _ _ _ rfl hrg ?_ ?_)
  | go_in)
 ·intro _ _
  clear hrg
  go_wp2_with (go_at_call 312;refine(hS _).mono ?_;rintro e w2 ⟨rfl,rfl⟩)
  exact bodyPost_ret (v:=.tuple #[.slice none 0 0,.nilIface]) (by simp [results,results306,go_sem]) rfl ⟨rfl,Xa HB⟩
 intro x c kl y yp w' cnt' _ h2;have h3:false=true:=h2;cases h3
theorem Tryz.Xmg (db md mn:Nat) (fd:Option (Nat × List UInt8)) (l f:Int) (w:World) (hD:Xj w db md mn fd none (.slice none 0 0) l f) :
  Calls prog 307 #[.pointer (some ⟨db,0,none⟩),.string ⟨#[106,111,117,114,110,97,108]⟩] w fun e w'=>e=.returned (.tuple #[.slice none 0 0,.iface 33 (.int .i64 6)])/\w'=w:=by
 have d1:=hD.box.cell 1 (v:=.map (some mn)) rfl;have d5:=hD.box.cell 5 (v:=.bool false) rfl;obtain⟨n,hn,hown⟩:=hD.nm;have hL:=Xep hown;go_enter func307,ntmps307;go_wp2;exact bodyPost_ret (v:=.tuple #[.slice none 0 0,.iface 33 (.int .i64 6)]) (by simp [results,results307,go_sem]) rfl ⟨rfl,rfl⟩
end Go.Proofs
namespace Go.Proofs
open Go.RowKit Go.Sort Go.Lib Go.Shelf Go.Maps
attribute [local go_sem] Oper.semAt_some
theorem Tryz.Xb1 (db:Nat) (w:World):Sem.run prog (method 517 74 (.pointer (some ⟨db,0,none⟩)) "Names") w=.ok (306,.pointer (some ⟨db,0,none⟩)) w:=by kernel_rfl
theorem Tryz.Xdi (db:Nat) (w:World):Sem.run prog (method 517 74 (.pointer (some ⟨db,0,none⟩)) "Read") w=.ok (307,.pointer (some ⟨db,0,none⟩)) w:=by kernel_rfl
theorem Tryz.Xna:(prog.info? (Xa7.t 9)).map (fun i=>(i.zero,i.size,i.bytes))=some (some (.string ByteArray.empty),1,16):=by kernel_rfl
theorem Tryz.Xiw (tv:Value) (w:World) (hE:Env w) (h9:9<=w.heap.size) (hG:Ja w) :
  Calls prog 147 #[.string ⟨#[]⟩,tv] w fun e w'=>e=.returned (.tuple #[])/\Below w.heap.size w w':=by
 have hG':=hG;obtain⟨-,m,hm⟩:=hG';have hSp:=Any.strings_Split Xgc Xna ⟨#[]⟩ ⟨#[10]⟩ m w (by decide) hm (by decide);rw [show Lib.countB ⟨#[]⟩ ⟨#[10]⟩=0 by decide,show Lib.splitB ⟨#[10]⟩ 0 0 ⟨#[]⟩ = [⟨#[]⟩] by rfl] at hSp
 change Calls prog 184 _ _ _ at hSp
 have hTx:=fun W (hb:Below w.heap.size w W)=>textOf [] W (by decide) (by simp) (hE.below hb (by omega)) (Nat.le_trans h9 hb.size) (hG.below (hb.mono h9))
 rw [show wholeB []=false by decide,show txtL [] = [] by rfl] at hTx;have bS:=BoxN.new w 9 #[.string ⟨#[]⟩];have hB0:Below w.heap.size w (w.alloc (.cells #[.string ⟨#[]⟩] 9)):=(Below.refl _ w).alloc (Nat.le_refl _) _;have s0:=bS.cell 0 (v:=.string ⟨#[]⟩) rfl;go_enter func147,ntmps147
 go_wp2_with (go_at_call 184;refine hSp.mono ?_;rintro e w1 ⟨rfl,rfl⟩)
 refine wp_loop_rounds 2 ?_;rw [rounds_succ]
 go_wp2_with (go_at_call 185;refine(hTx _ hB0).mono ?_;rintro e w2 ⟨rfl,hb2⟩)
 rw [rounds_succ];go_wp2
 go_end0
 exact⟨rfl,hB0.trans (hb2.mono (by simp))⟩
theorem Tryz.Xfx (db md mn:Nat) (fd:Option (Nat × List UInt8)) (l f:Int) (w:World) (hD:Xj w db md mn fd none (.slice none 0 0) l f) :
  Calls prog 180 #[Yg db] w fun e w'=>e=.returned (.tuple #[.slice none 0 0,.nilIface])/\Below w.heap.size w w':=by
 have hm:=fun W=>Xb1 db W
 have hN:=Xlo db md mn fd l f w hD
 have hS:=fun W=>Xi4 W
 unfold Yg;go_enter func180,ntmps180
 go_wp2_with (go_at_call 306;refine hN.mono ?_;rintro e w1 ⟨rfl,hb1⟩)
 refine wp_loop_rounds 1 ?_;rw [rounds_succ]
 go_wp2_with (go_at_call 211;refine(hS _).mono ?_;rintro e w2 ⟨rfl,rfl⟩)
 go_ret2
 exact⟨rfl,hb1⟩
theorem Tryz.Xlk (jb db md mn:Nat) (c1 c2:Value) (fd:Option (Nat × List UInt8)) (l f:Int) (w:World) (hJ:BoxN w jb 212 #[Yg db,c1,c2]) (hD:Xj w db md mn fd none (.slice none 0 0) l f) :
  Calls prog 183 #[.pointer (some ⟨jb,0,none⟩)] w fun e w'=>e=.returned (.tuple #[.string ⟨#[]⟩,.nilIface])/\w'=w:=by
 have hm:=fun W=>Xdi db W
 have hR:=Xmg db md mn fd l f w hD
 have hI:=fun W=>Xqq 6 (by simp [Ml]) W
 have j0:=hJ.cell 0 (v:=Yg db) rfl;unfold Yg at j0;go_enter func183,ntmps183
 go_wp2_with (first
  | (go_at_call 307;refine hR.mono ?_;rintro e w1 ⟨rfl,rfl⟩)
  | (go_at_call 70;refine(hI _).mono ?_;rintro e w2 ⟨rfl,rfl⟩))
 go_ret2
 exact⟨rfl,rfl⟩
theorem Tryz.Xh9 (w:World):Calls prog 181 #[.slice none 0 0] w fun e w'=>e=.returned (.func (.func 212) #[] #[.pointer (some ⟨w.heap.size,0,none⟩)])/\w'=w.alloc (.cells #[.slice none 0 0] 272):=by
 go_enter func181,ntmps181;go_wp2;go_ret;exact⟨rfl,rfl⟩
theorem Tryz.Xf6 (y:Value) (b:Nat) (w:World) (hb:BoxN w b 272 #[.slice none 0 0]):Calls prog 212 #[y,.pointer (some ⟨b,0,none⟩)] w fun e w'=>e=.returned (.tuple #[])/\w'=w:=by
 have c0:=hb.cell 0 (v:=.slice none 0 0) rfl;go_enter func212,ntmps212;go_wp2;refine wp_loop_rounds 1 ?_;rw [rounds_succ];go_wp2
 go_end0
 exact⟨rfl,rfl⟩
theorem Xvh (ps:Array Tmp) (x:Empty):((fun y:Empty=>(nomatch y:Array Value)) x).size=ps.size:=nomatch x
theorem Tryz.Xo0 (jb db md mn:Nat) (c1 c2:Value) (fd:Option (Nat × List UInt8)) (l f:Int) (w:World) (hJ:BoxN w jb 212 #[Yg db,c1,c2]) (hD:Xj w db md mn fd none (.slice none 0 0) l f) :
  CallsIn Fence.wide 9 prog 146 #[.pointer (some ⟨jb,0,none⟩)] w fun e w'=>e=.returned (.tuple #[.string ⟨#[]⟩,.nilIface])/\Below w.heap.size w w':=by
 have j0:=hJ.cell 0 (v:=Yg db) rfl;unfold Yg at j0;have lJ:=hJ.lt;have hB0:Below w.heap.size w (((w.alloc (.cells #[.pointer (some ⟨jb,0,none⟩)] 117)).alloc (.cells #[.string ⟨#[]⟩] 9)).alloc (.cells #[.nilIface] 81)):=(((Below.refl _ w).alloc (Nat.le_refl _) _).alloc (by simp) _).alloc (by simp;omega) _;have bP:=((BoxN.new w 117 #[.pointer (some ⟨jb,0,none⟩)]).alloc (.cells #[.string ⟨#[]⟩] 9)).alloc (.cells #[.nilIface] 81);have bS:=(BoxN.new (w.alloc (.cells #[.pointer (some ⟨jb,0,none⟩)] 117)) 9 #[.string ⟨#[]⟩]).alloc (.cells #[.nilIface] 81);have bE:=BoxN.new ((w.alloc (.cells #[.pointer (some ⟨jb,0,none⟩)] 117)).alloc (.cells #[.string ⟨#[]⟩] 9)) 81 #[.nilIface];simp only [World.size_alloc] at bS bE;have hN:=Xfx db md mn fd l f _ (hD.below hB0);unfold Yg at hN;have j0w:=cell_later hB0 j0;have hf1:Fence.wide.fn 180:=trivial;have hf2:Fence.wide.fn 181:=trivial;have hf3:Fence.wide.fn 183:=trivial;refine callsIn_of_wp_marks func146 rfl trivial ?_ rfl;simp only [ntmps146,List.size_toArray,List.length_cons,List.length_nil,Nat.reduceAdd,Nat.reduceSub,Array.replicate_succ,Array.replicate_zero,List.push_toArray,List.append_toArray,List.nil_append,List.cons_append]
 gi_wp2_with (first
  | (gi_at_call 180;refine(callsIn_wide.2 hN).mono ?_;rintro e w1 ⟨rfl,hb1⟩)
  | (gi_at_call 181;refine(callsIn_wide.2 (Xh9 _)).mono ?_;rintro e w2 ⟨rfl,rfl⟩))
 have hB1:=hB0.trans (hb1.mono (by simp;omega));have bP1:=(bP.below hb1 (by simp;omega)).alloc (.cells #[.slice none 0 0] 272);have bS1:=(bS.below hb1 (by simp)).alloc (.cells #[.slice none 0 0] 272);have bE1:=(bE.below hb1 (by simp)).alloc (.cells #[.slice none 0 0] 272);have bX1:=BoxN.new w1 272 #[.slice none 0 0];have hB2:=hB1.alloc hB1.size (.cells #[.slice none 0 0] 272)
 have hsz:(w1.alloc (.cells #[.slice none 0 0] 272)).heap.size=w1.heap.size+1:=by simp
 have hz1:=hB1.size
 obtain⟨W2,hW2⟩:∃ W2,w1.alloc (.cells #[.slice none 0 0] 272)=W2:=⟨_,rfl⟩
 rw [hW2] at bP1 bS1 bE1 bX1 hB2 hsz ⊢;clear hW2 bP bS bE hN j0w
 have hseq:Xs5 (α:=Empty) 8 prog 212 #[.pointer (some ⟨w1.heap.size,0,none⟩)] (fun x=>nomatch x) (fun _=>True) (fun _ _=>True) (fun xs=>xs = []) (fun _=>False) 0 W2:=by
  intro l J Jx W hb _ _ _ _ h0;refine(callsIn_wide.2 (Xf6 (.func (.yield l) #[] #[]) w1.heap.size W (bX1.below hb bX1.lt))).mono ?_;rintro e W' ⟨rfl,rfl⟩;exact⟨⟨_,rfl⟩,.inl ⟨[],rfl,h0⟩⟩
 refine Ve (n:=9) (by omega) (gf:=212) (lb:=#[.pointer (some ⟨w1.heap.size,0,none⟩)]) rfl (enters_of func212 (by kernel_rfl) rfl) hseq (fun _ _=>trivial) (fun _ _ _ _ _ _ _ _=>trivial) (Below.refl _ _) (fun x=>nomatch x)
  (fun _ V=>((BoxN V w.heap.size 117 #[.pointer (some ⟨jb,0,none⟩)]/\BoxN V (w.heap.size+1) 9 #[.string ⟨#[]⟩])/\BoxN V (w.heap.size+1+1) 81 #[.nilIface])/\Below w.heap.size w V)
  (fun _ _ _=>False)
  (OwnFrom.and (OwnFrom.and (OwnFrom.and (Own.from (Xy _ _ (fun _=>#[.pointer (some ⟨jb,0,none⟩)])) _) (Own.from (Xy _ _ (fun _=>#[.string ⟨#[]⟩])) _)) (Own.from (Xy _ _ (fun _=>#[.nilIface])) _)) (ownFrom_below (Nat.le_refl _) (by omega)))
  (fun _ _ _ _ _ hs _ _=>hs)
  (fun _ _ _=>trivial)
  ⟨⟨⟨bP1,bS1⟩,bE1⟩,hB2⟩
  (fun x _ _=>nomatch x) (fun x=>nomatch x)
  (fun _ _ x=>nomatch x) (fun _ _ x=>nomatch x) ?done ?stop
 case done =>
  rintro D zs V hD0 rfl ⟨⟨⟨bPV,bSV⟩,bEV⟩,hBV⟩ hK;have hF:=Xlk jb db md mn c1 c2 fd l f V (hJ.below hBV hJ.lt) (hD.below hBV);have p0:=bPV.cell 0 (v:=.pointer (some ⟨jb,0,none⟩)) rfl;have s0:=bSV.cell 0 (v:=.string ⟨#[]⟩) rfl;have s0f:=bSV.frozen 0;have e0:=bEV.cell 0 (v:=.nilIface) rfl;have e0f:=bEV.frozen 0
  gi_wp2_with (gi_at_call 183;refine(callsIn_wide.2 hF).mono ?_;rintro e w3 ⟨rfl,rfl⟩)
  have bS2:=(bSV.set 0 (.string ⟨#[]⟩)).other (B':=w.heap.size+1+1) (by omega) 0 .nilIface;have bE2:=(bEV.other (B':=w.heap.size+1) (by omega) 0 (.string ⟨#[]⟩)).set 0 .nilIface
  have hK2:((w3.setCell ⟨w.heap.size+1,0,none⟩ (.string ⟨#[]⟩)).setCell ⟨w.heap.size+1+1,0,none⟩ .nilIface).heap[D]? = some (.deferred (some [])):=by
   have:=bE1.lt;rw [Yt _ _ _ _ _ (by omega),Yt _ _ _ _ _ (by omega)];exact hK
  have hB5:=(hBV.setCell (p:=⟨w.heap.size+1,0,none⟩) (by simp) (.string ⟨#[]⟩)).setCell (p:=⟨w.heap.size+1+1,0,none⟩) (by simp;omega) .nilIface;generalize (w3.setCell ⟨w.heap.size+1,0,none⟩ (.string ⟨#[]⟩)).setCell ⟨w.heap.size+1+1,0,none⟩ .nilIface=W5 at *;refine⟨by simp,.inl ⟨_,_,rfl,run_takeDeferred hK2,?_⟩⟩;have bS6:BoxN (W5.putObj D (.deferred none)) (w.heap.size+1) 9 (#[.string ⟨#[]⟩].setIfInBounds 0 (.string ⟨#[]⟩)):=(World.putObj_heap_other (by have:=bE1.lt;omega)).trans bS2;have bE6:BoxN (W5.putObj D (.deferred none)) (w.heap.size+1+1) 81 (#[.nilIface].setIfInBounds 0 .nilIface):=(World.putObj_heap_other (by have:=bE1.lt;omega)).trans bE2;have q1:=bS6.cell 0 (v:=.string ⟨#[]⟩) rfl;have q2:=bE6.cell 0 (v:=.nilIface) rfl;exact⟨.tuple #[.string ⟨#[]⟩,.nilIface],by simp [results,results146,go_sem,q1,q2],rfl,hB5.trans (belowK_b (w:=w) (Nat.le_refl _) W5 D _ _ (by omega) hK2 rfl rfl)⟩
 case stop =>
  rintro D c pre V _ _ h _;exact h.elim
end Go.Proofs
namespace Go.Proofs
open Go.RowKit Go.Sort Go.Lib Go.Shelf
theorem Tryz.Xdl (B:Nat) (vb g cap:Nat) (L:List ThingD) (tm tn ln:Int) (id:List UInt8) (w:World) (h:Xk B w vb g cap L tm tn ln) (hB:B<=w.heap.size) (hne:vb≠g) (i:Nat) (t:ThingD) (ht:L[i]? = some t) (hfi:J9 id L=i) (htk:t.token=false) :
  Calls prog 114 #[.pointer (some ⟨vb,0,none⟩),.string ⟨id.toArray⟩] w fun e w'=>e=.returned (.int .i64 0)/\Xk B w' vb g cap (L.set i (Y2 tm t)) tm tn ln/\Below B w w'/\Spares [vb,g] w w':=by
 have hF:=Xiz B vb g cap L tm tn ln id w h;rw [hfi] at hF;have hD:=Xb (fun W (hb:Below w.heap.size w W)=>Xqz B vb g cap L tm tn ln W (h.below hb) (Nat.le_trans hB hb.size) hne i t ht);have hlim:=h.lim;have hil:i<L.length:=(List.getElem?_eq_some_iff.1 ht).1
 have hc:=fun W (hb:Below w.heap.size w W)=>((h.below hb).cells ht).1
 rw [htk] at hc
 have hv:=fun W (hb:Below w.heap.size w W)=>(h.below hb).v.cell 0 (v:=.slice (some ⟨g,0,none⟩) L.length cap) rfl
 obtain⟨len,hlen⟩:∃ len,L.length=len:=⟨_,rfl⟩
 rw [hlen] at hil hlim;simp only [hlen] at hv;clear hlen hfi htk
 have hnn:¬ (i:Int)<0:=by omega
 go_enter func114,ntmps114
 go_wp2_with (first
  | (go_at_call 157;refine hF.mono ?_;rintro e w1 ⟨rfl,hb1⟩;have x0:=hc w1 hb1;have v0:=hv w1 hb1)
  | (go_at_call 158;refine(Xa hD _ hb1).mono ?_;rintro e w2 ⟨rfl,hr2,hb2,hs2⟩))
 exact bodyPost_ret (v:=.int .i64 0) (by simp [results,results114,go_sem]) rfl ⟨rfl,hr2,(hb1.mono hB).trans hb2,(Spares.of_below hb1).trans hs2⟩
theorem Tryz.Xcg (B:Nat) (vb g cap:Nat) (L:List ThingD) (tm tn ln:Int) (id:List UInt8) (w:World) (h:Xk B w vb g cap L tm tn ln) (hm:J9 id L = -1\/∃(i:Nat) (t:ThingD),L[i]? = some t/\J9 id L=i/\t.token=true) :
  Calls prog 114 #[.pointer (some ⟨vb,0,none⟩),.string ⟨id.toArray⟩] w fun e w'=>e=.returned (.int .i64 5)/\Below w.heap.size w w':=by
 have hF:=Xiz B vb g cap L tm tn ln id w h
 rcases hm with hm | ⟨i,t,ht,hfi,htk⟩
 ·rw [hm] at hF
  clear hm;go_enter func114,ntmps114
  go_wp2_with (go_at_call 157;refine hF.mono ?_;rintro e w1 ⟨rfl,hb1⟩)
  exact bodyPost_ret (v:=.int .i64 5) (by simp [results,results114,go_sem]) rfl ⟨rfl,hb1⟩
 rw [hfi] at hF;have hlim:=h.lim;have hil:i<L.length:=(List.getElem?_eq_some_iff.1 ht).1
 have hc:=fun W (hb:Below w.heap.size w W)=>((h.below hb).cells ht).1
 rw [htk] at hc
 have hv:=fun W (hb:Below w.heap.size w W)=>(h.below hb).v.cell 0 (v:=.slice (some ⟨g,0,none⟩) L.length cap) rfl
 obtain⟨len,hlen⟩:∃ len,L.length=len:=⟨_,rfl⟩
 rw [hlen] at hil hlim;simp only [hlen] at hv;clear hlen hfi htk
 have hnn:¬ (i:Int)<0:=by omega
 go_enter func114,ntmps114
 go_wp2_with (go_at_call 157;refine hF.mono ?_;rintro e w1 ⟨rfl,hb1⟩;have x0:=hc w1 hb1;have v0:=hv w1 hb1)
 exact bodyPost_ret (v:=.int .i64 5) (by simp [results,results114,go_sem]) rfl ⟨rfl,hb1⟩
theorem Xfo (l:List UInt8) (n:Nat):(⟨l.toArray⟩:ByteArray).extract 0 n=⟨(l.take n).toArray⟩:=by
 apply ByteArray.ext;rw [ByteArray.data_extract];simp
def beginsB (p pre:List UInt8):Bool:=pre.isEmpty||p==pre||(decide (pre.length<p.length)&&p.take pre.length==pre&&p[pre.length]? == some 47)
theorem Tryz.Xtw (p pre:List UInt8) (hq:pre.length<=1000000) (w:World) :
  Calls prog 159 #[.string ⟨p.toArray⟩,.string ⟨pre.toArray⟩] w fun e w'=>e=.returned (.bool (beginsB p pre))/\w'=w:=by
 have hr:Hid (beginsB p pre=(pre.isEmpty||p==pre||(decide (pre.length<p.length)&&p.take pre.length==pre&&p[pre.length]? == some 47))):=Xb rfl;generalize beginsB p pre=res at *;have hx:=Xfo p pre.length
 by_cases h0:pre.length=0
 ·obtain rfl:pre = []:=List.length_eq_zero_iff.1 h0
  go_enter func159,ntmps159;go_wp2;go_ret;exact⟨by rw [Xa hr];rfl,rfl⟩
 have he:Hid (pre.isEmpty=false):=Xb (by cases pre <;> simp at h0 ⊢)
 have h0':((pre.length:Int)==0)=false:=by simpa using h0
 by_cases h1:p=pre
 ·have h1':(p==pre)=true:=by simpa using h1
  go_enter func159,ntmps159;go_wp2;go_ret;exact⟨by rw [Xa hr,h1'];simp,rfl⟩
 have h1':(p==pre)=false:=by simpa using h1
 by_cases h2:pre.length<p.length
 ·obtain⟨c,hc⟩:∃ c,p[pre.length]? = some c:=⟨p[pre.length],by simp [h2]⟩
  have hck:∀ hp,((⟨p.toArray⟩:ByteArray)[pre.length]'hp)=c:=fun hp=>by
   have h1:p[pre.length]'h2=c:=by simpa [h2] using hc
   rw [<- h1];rfl
  have hr':Hid (res=(p.take pre.length==pre&&c==47)):=Xb (by rw [Xa hr,Xa he,h1',hc];simp [h2]);clear hr hc h1
  by_cases h3:p.take pre.length=pre
  ·have h3':(p.take pre.length==pre)=true:=by simpa using h3
   rw [h3'] at hr';rw [h3] at hx
   by_cases h4:c=47
   ·subst h4
    go_enter func159,ntmps159;go_wp2
    all_goals simp only [hck] at *
    go_ret;exact⟨by rw [Xa hr'];rfl,rfl⟩
   have h4':(c==47)=false:=by simpa using h4
   have h5:((c.toNat:Int)==47)=false:=by
    rw [beq_eq_false_iff_ne];intro e;exact h4 (by apply UInt8.toNat_inj.1;simpa using Int.ofNat_inj.1 e)
   rw [h4'] at hr';go_enter func159,ntmps159;go_wp2
   all_goals simp only [hck] at *
   go_ret;exact⟨by rw [Xa hr'];simp,rfl⟩
  have h3':(p.take pre.length==pre)=false:=by simpa using h3
  rw [h3'] at hr';go_enter func159,ntmps159;go_wp2;go_ret;exact⟨by rw [Xa hr'];rfl,rfl⟩
 have hr':Hid (res=false):=Xb (by rw [Xa hr,Xa he,h1'];simp [h2]);clear hr;go_enter func159,ntmps159;go_wp2;go_ret;exact⟨by rw [Xa hr'];rfl,rfl⟩
def U3 {α:Type} (f:α->α) (k:Nat) (L:List α):List α:=(L.take k).map f++L.drop k
theorem Xgv {α:Type} (f:α->α) (L:List α):U3 f 0 L=L:=by simp [U3]
theorem Xj1 {α:Type} (f:α->α) (L:List α) {k:Nat} (h:L.length<=k):U3 f k L=L.map f:=by simp [U3,List.take_of_length_le h,List.drop_of_length_le h]
theorem M2 {α:Type} (f:α->α) (k:Nat) (L:List α):(U3 f k L).length=L.length:=by simp [U3];omega
theorem Xjg {α:Type} (f:α->α) {k:Nat} {L:List α} {t:α} (h:L[k]? = some t):(U3 f k L)[k]? = some t:=by
 obtain⟨hlt,he⟩:=List.getElem?_eq_some_iff.1 h;rw [U3,List.getElem?_append_right (by simp;omega)];simp [Nat.min_eq_left (Nat.le_of_lt hlt),hlt,he]
theorem Xgu {α:Type} (f:α->α) {k:Nat} {L:List α} {t:α} (h:L[k]? = some t):U3 f (k+1) L=(U3 f k L).set k (f t):=by
 obtain⟨hlt,he⟩:=List.getElem?_eq_some_iff.1 h;rw [U3,U3,List.set_append_right _ _ (by simp;omega),Zu h];simp [Nat.min_eq_left (Nat.le_of_lt hlt)];rw [List.drop_eq_getElem_cons hlt];rfl
end Go.Proofs
namespace Go.Proofs
open Go.RowKit Go.Sort Go.Lib Go.Shelf Go.Maps
theorem Xk8 (p:List UInt8) (n:Nat):(⟨p.toArray⟩:ByteArray).extract n p.length=⟨(p.drop n).toArray⟩:=by
 apply ByteArray.ext;rw [ByteArray.data_extract];simp;exact List.take_of_length_le (by simp)
theorem Tryz.Xqc (p pre:List UInt8) (w:World) :
  Calls prog 204 #[.string ⟨p.toArray⟩,.string ⟨pre.toArray⟩] w fun e w'=>e=.returned (.bool (p.take pre.length==pre))/\w'=w:=by
 have hx:=Xfo p pre.length
 by_cases h2:pre.length<=p.length
 ·have h2':(pre.length:Int)<=(p.length:Int):=by omega
  by_cases h3:p.take pre.length=pre
  ·have h3':(p.take pre.length==pre)=true:=by simpa using h3
   rw [h3'];rw [h3] at hx;go_enter func204,ntmps204;go_wp2;go_ret;exact⟨rfl,rfl⟩
  have h3':(p.take pre.length==pre)=false:=by simpa using h3
  rw [h3'];go_enter func204,ntmps204;go_wp2;go_ret;exact⟨rfl,rfl⟩
 have h2':¬ (pre.length:Int)<=(p.length:Int):=by omega
 have h3':(p.take pre.length==pre)=false:=by
  rw [beq_eq_false_iff_ne];intro e;have:=congrArg List.length e;simp at this;omega
 rw [h3'];go_enter func204,ntmps204;go_wp2;go_ret;exact⟨rfl,rfl⟩
theorem Tryz.Xsy (p pre:List UInt8) (w:World) :
  Calls prog 174 #[.string ⟨p.toArray⟩,.string ⟨pre.toArray⟩] w fun e w'=>e=.returned (.tuple (if p.take pre.length==pre then #[.string ⟨(p.drop pre.length).toArray⟩,.bool true] else #[.string ⟨p.toArray⟩,.bool false]))/\w'=w:=by
 have hH:=Xqc p pre w;have hx:=Xk8 p pre.length
 by_cases h3:(p.take pre.length==pre)=true
 ·have hle:pre.length<=p.length:=by
   have h:=congrArg List.length (eq_of_beq h3);simp at h;omega
  have hle':(pre.length:Int)<=(p.length:Int):=by omega
  rw [h3] at hH;rw [if_pos h3];go_enter func174,ntmps174
  go_wp2_with (go_at_call 204;refine hH.mono ?_;rintro e w1 ⟨rfl,rfl⟩)
  exact bodyPost_ret (v:=.tuple #[.string ⟨(p.drop pre.length).toArray⟩,.bool true]) (by simp [results,results174,go_sem]) rfl ⟨rfl,rfl⟩
 rw [Bool.not_eq_true] at h3;rw [h3] at hH;rw [if_neg (by simp [h3])];go_enter func174,ntmps174
 go_wp2_with (go_at_call 204;refine hH.mono ?_;rintro e w1 ⟨rfl,rfl⟩)
 exact bodyPost_ret (v:=.tuple #[.string ⟨p.toArray⟩,.bool false]) (by simp [results,results174,go_sem]) rfl ⟨rfl,rfl⟩
theorem Tryz.Xv6 (p pre:List UInt8) (w:World) :
  Calls prog 142 #[.string ⟨p.toArray⟩,.string ⟨pre.toArray⟩] w fun e w'=>e=.returned (.tuple (if p.take pre.length==pre then #[.string ⟨(p.drop pre.length).toArray⟩,.bool true] else #[.string ⟨p.toArray⟩,.bool false]))/\w'=w:=by
 have hH:=Xsy p pre w
 by_cases h3:(p.take pre.length==pre)=true
 ·rw [if_pos h3] at hH ⊢
  go_enter func142,ntmps142
  go_wp2_with (go_at_call 174;refine hH.mono ?_;rintro e w1 ⟨rfl,rfl⟩)
  exact bodyPost_ret (v:=.tuple #[.string ⟨(p.drop pre.length).toArray⟩,.bool true]) (by simp [results,results142,go_sem]) rfl ⟨rfl,rfl⟩
 rw [if_neg h3] at hH ⊢;go_enter func142,ntmps142
 go_wp2_with (go_at_call 174;refine hH.mono ?_;rintro e w1 ⟨rfl,rfl⟩)
 exact bodyPost_ret (v:=.tuple #[.string ⟨p.toArray⟩,.bool false]) (by simp [results,results142,go_sem]) rfl ⟨rfl,rfl⟩
theorem Tryz.within (p pre:List UInt8) (w:World) :
  Calls prog 94 #[.string ⟨p.toArray⟩,.string ⟨pre.toArray⟩] w fun e w'=>e=.returned (.bool (beginsB p pre))/\w'=w:=by
 have hH:=Xv6 p pre w
 by_cases h3:(p.take pre.length==pre)=true
 ·rw [if_pos h3] at hH
  have hle:pre.length<=p.length:=by
   have h:=congrArg List.length (eq_of_beq h3);simp at h;omega
  by_cases h0:pre = []
  ·subst h0
   rw [show beginsB p []=true from rfl];go_enter func94,ntmps94
   go_wp2_with (go_at_call 142;refine hH.mono ?_;rintro e w1 ⟨rfl,rfl⟩)
   go_ret;exact⟨rfl,rfl⟩
  have h0':(pre == [])=false:=by simpa using h0
  have hl0:((pre.length:Int)==0)=false:=by
   rw [beq_eq_false_iff_ne];intro e;exact h0 (List.length_eq_zero_iff.1 (by omega))
  by_cases h1:p=pre
  ·subst h1
   have hb:beginsB p p=true:=by simp [beginsB]
   have hd:p.drop p.length = []:=by simp
   rw [hb];rw [hd] at hH;go_enter func94,ntmps94
   go_wp2_with (go_at_call 142;refine hH.mono ?_;rintro e w1 ⟨rfl,rfl⟩)
   go_ret;exact⟨rfl,rfl⟩
  have hlt:pre.length<p.length:=by
   rcases Nat.lt_or_ge pre.length p.length with h | h
   ·exact h
   exact absurd (by rw [<- eq_of_beq h3,List.take_of_length_le h]) h1
  obtain⟨c,r,hcr⟩:∃ c r,p.drop pre.length=c :: r:=by
   cases hd:p.drop pre.length with
   | nil=>have:=congrArg List.length hd;simp at this;omega
   | cons c r=>exact⟨c,r,rfl⟩
  have hpc:p[pre.length]? = some c:=by
   have:(p.drop pre.length)[0]? = some c:=by rw [hcr];rfl
   simpa using this
  have hb:beginsB p pre=(c==47):=by
   unfold beginsB;rw [hpc,h3];simp [h0,h1,hlt]
  have hck:∀ hp,((⟨(c :: r).toArray⟩:ByteArray)[0]'hp)=c:=fun hp=>rfl
  rw [hcr] at hH
  by_cases h4:c=47
  focus
   subst h4;rw [hb]
  rotate_left
  focus
   have h4':(c==47)=false:=by simpa using h4
   have h5:((c.toNat:Int)==47)=false:=by
    rw [beq_eq_false_iff_ne];intro e;exact h4 (by apply UInt8.toNat_inj.1;simpa using Int.ofNat_inj.1 e)
   rw [hb,h4']
  rotate_left
  all_goals
   go_enter func94,ntmps94
   go_wp2_with (go_at_call 142;refine hH.mono ?_;rintro e w1 ⟨rfl,rfl⟩)
   all_goals try simp only [hck] at *
   go_ret;exact⟨rfl,rfl⟩
 rw [if_neg h3] at hH
 have hb:beginsB p pre=false:=by
  rw [Bool.not_eq_true] at h3;unfold beginsB;rw [h3]
  have h0:pre ≠ []:=fun e=>by rw [e] at h3;simp at h3
  have h1:p≠pre:=fun e=>by rw [e] at h3;simp at h3
  simp [h0,h1]
 rw [hb];go_enter func94,ntmps94
 go_wp2_with (go_at_call 142;refine hH.mono ?_;rintro e w1 ⟨rfl,rfl⟩)
 go_ret;exact⟨rfl,rfl⟩
end Go.Proofs
namespace Go.Proofs
open Go.RowKit Go.Sort Go.Lib Go.Shelf
def upI (n:Int) (L:List ThingD):Int:=L.foldl (fun u t=>if t.token&&(t.n:Int)==n then t.of_ else u) (-1)
theorem Xq9 (n:Int) (L:List ThingD) (t:ThingD):upI n (L ++ [t])=if t.token&&(t.n:Int)==n then t.of_ else upI n L:=by simp [upI]
theorem Xh4 {p:Int->Prop} (n:Int) (h0:p (-1)):∀(L:List ThingD),(∀ t∈L,t.token=true->(t.n:Int)=n->p t.of_)->p (upI n L):=by
 intro L;unfold upI
 suffices ∀ u,p u->(∀ t∈L,t.token=true->(t.n:Int)=n->p t.of_)->p (L.foldl (fun u t=>if t.token&&(t.n:Int)==n then t.of_ else u) u) from this _ h0
 induction L with
 | nil=>intro u hu _;exact hu
 | cons t L ih =>
  intro u hu h;rw [List.foldl_cons];refine ih _ ?_ (fun x hx=>h x (List.mem_cons_of_mem _ hx))
  by_cases hc:(t.token&&(t.n:Int)==n)=true
  ·rw [if_pos hc]
   simp only [Bool.and_eq_true,beq_iff_eq] at hc;exact h t (List.mem_cons_self ..) hc.1 hc.2
  rw [if_neg hc];exact hu
def Xa5 (L:List ThingD):Prop:=∀ t∈L,t.token=true->t.of_<t.n
theorem Xhu {L:List ThingD} (h:Xa5 L) {n:Int} (hn:0<=n):upI n L<n:=
 Xh4 (p:=fun u=>u<n) n (by omega) L (fun t ht h1 h2=>by have:=h t ht h1;omega)
def Jq (L:List ThingD) (top:Int):Nat->Int->Bool
 | 0,_=>false
 | f+1,n=>if n<0 then false else if n=top then true else Jq L top f (upI n L)
theorem Uu (L:List ThingD) (top:Int) (f:Nat) {n:Int} (h:n<0):Jq L top f n=false:=by
 cases f with
 | zero=>rfl
 | succ f=>rw [Jq,if_pos h]
theorem Xdm {L:List ThingD} (h:Xa5 L) (top:Int):∀(f f':Nat) (n:Int),n<f->n<f'->Jq L top f n=Jq L top f' n
 | 0,f',n,h1,_=>by rw [Uu L top 0 (by omega),Uu L top f' (by omega)]
 | f+1,0,n,_,h2=>by rw [Uu L top _ (by omega),Uu L top 0 (by omega)]
 | f+1,f'+1,n,h1,h2=>by
  rw [Jq,Jq]
  by_cases hn:n<0
  ·rw [if_pos hn,if_pos hn]
  rw [if_neg hn,if_neg hn]
  by_cases ht:n=top
  ·rw [if_pos ht,if_pos ht]
  rw [if_neg ht,if_neg ht];have:=Xhu h (n:=n) (by omega);exact Xdm h top f f' _ (by omega) (by omega)
def Yp (L:List ThingD) (top n:Int):Bool:=Jq L top (n.toNat+1) n
theorem Ma (L:List ThingD) (top:Int) {n:Int} (h:n<0):Yp L top n=false:=Uu L top _ h
theorem Xec (L:List ThingD) {top:Int} (h:0<=top):Yp L top top=true:=by
 rw [Yp,Jq,if_neg (by omega),if_pos rfl]
theorem Xcn {L:List ThingD} (h:Xa5 L) {top n:Int} (hn:0<=n) (ht:n≠top):Yp L top n=Yp L top (upI n L):=by
 rw [Yp,Jq,if_neg (by omega),if_neg ht];have:=Xhu h hn;exact Xdm h top _ _ _ (by omega) (by omega)
theorem Tryz.Xv9 (B:Nat) (vb g cap:Nat) (L:List ThingD) (tm tn ln:Int) (n top:Int) (h1 : -1<=n) (h2:n<9223372036854775808) (hup:Xa5 L) (w:World) (h:Xk B w vb g cap L tm tn ln) :
  Calls prog 160 #[.pointer (some ⟨vb,0,none⟩),.int .i64 n,.int .i64 top] w fun e w'=>e=.returned (.bool (Yp L top n))/\w'=w:=by
 have c0:=h.v.cell 0 (v:=.slice (some ⟨g,0,none⟩) L.length cap) rfl;have hlim:=h.lim
 obtain⟨len,hlen⟩:∃ len,L.length=len:=⟨_,rfl⟩
 rw [hlen] at c0 hlim;have Hlen:=Xb hlen;clear hlen;have hofs:=Xb (fun m=>Xh4 (p:=fun u=>-1<=u) m (by omega) L (fun t ht _ _=>by rcases h.ofs t ht with e | ⟨_,e,_⟩ <;> rw [e] <;> omega));have hupm:=Xb (fun m (hm:0<=m)=>Xhu hup (n:=m) hm);have hbu:=Xb (fun m (hm:0<=m) (ht:m≠top)=>Xcn hup (top:=top) hm ht);have hbn:=Xb (fun m (hm:m<0)=>Ma L top hm);have hbt:=Xb (fun(hm:0<=top)=>Xec L hm);clear hup;go_enter func160,ntmps160;go_wp2
 go_loopw [1] (fun m wr=>∃ u:Int,-1<=u/\u<9223372036854775808/\m=.int .i64 u/\Hid (Yp L top n=Yp L top u)/\wr=w) (fun m _=>(intOf m+1).toNat)
 case atStart=>exact⟨n,h1,h2,rfl,Xb rfl,rfl⟩
 case round =>
  obtain⟨u,hu1,hu2,rfl,hbe,rfl⟩:=hrel
  by_cases hneg:u<0
  ·have hres:=Xb ((Xa hbe).trans (Xa hbn u hneg))
   have hu0:¬ 0<=u:=by omega
   go_wp2;go_ret;exact⟨by rw [Xa hres];rfl,rfl⟩
  have hu0:0<=u:=by omega
  clear hneg
  by_cases htop:u=top
  ·subst htop
   have hres:=Xb ((Xa hbe).trans (Xa hbt hu0));go_wp2;go_ret;exact⟨by rw [Xa hres];rfl,rfl⟩
  have hres:=Xb ((Xa hbe).trans (Xa hbu u hu0 htop));have hul:=Xa hupm u hu0;have huo:=Xa hofs u
  have hnt:(u==top)=false:=by simpa using htop
  clear htop;go_wp2
  go_loopw [7,8] (fun x i wx=>∃ k:Nat,k<=len/\i=.int .i64 k/\x=.int .i64 (upI u (L.take k))/\wx=wr) (fun _ i _=>len-(intOf i).toNat)
  case atStart=>exact⟨0,Nat.zero_le _,rfl,rfl,rfl⟩
  case round =>
   obtain⟨k,hk,rfl,rfl,rfl⟩:=hrel
   by_cases hkl:k<len
   ·obtain⟨t,ht⟩:∃ t,L[k]? = some t:=⟨L[k]'(by have:=Xa Hlen;omega),by simp [Xa Hlen,hkl]⟩
    obtain⟨x0,x1,x2,x3,x4,x5,x6,x7⟩:=h.cells ht;have hsn:=Xb (Xq9 u (L.take k) t);have htk:=Xb (Zu ht);generalize upI u (L.take k)=c at *;obtain⟨tk,n,o,p,a,l,dm,tr⟩:=t;clear ht;simp only at *
    by_cases hnu:(n:Int)=u
    focus
     have hnu':((n:Int)==u)=true:=by simpa using hnu
     rw [hnu] at x1
    rotate_left
    focus
     have hnu':((n:Int)==u)=false:=by simpa using hnu
    rotate_left
    all_goals
     clear hnu;cases tk
     all_goals
      go_wp2
      go_roundw
      case rel=>exact⟨k+1,by omega,rfl,by rw [Xa htk,Xa hsn,hnu'];rfl,by first | rfl | trivial⟩
      case measure=>simp [intOf];omega
   obtain rfl:k=len:=by omega
   have htk:=Xb (J7 (Nat.le_of_eq (Xa Hlen)));rw [Xa htk];generalize upI u L=c at *;go_wp2
   go_roundw
   case rel=>exact⟨c,by omega,by omega,rfl,hres,by first | rfl | trivial⟩
   case measure=>simp [intOf];omega
def ThingD.kin (t:ThingD):Bool × Nat × Int:=(t.token,t.n,t.of_)
theorem Xnf (n:Int) (L:List ThingD):upI n L=(L.map ThingD.kin).foldl (fun u x=>if x.1&&(x.2.1:Int)==n then x.2.2 else u) (-1):=by
 rw [List.foldl_map];rfl
theorem Xes {L L':List ThingD} (h:L.map ThingD.kin=L'.map ThingD.kin) (top:Int):∀(f:Nat) (n:Int),Jq L top f n=Jq L' top f n
 | 0,_=>rfl
 | f+1,n=>by rw [Jq,Jq,Xnf n L,Xnf n L',h,Xes h top f]
theorem Xkt {L L':List ThingD} (h:L.map ThingD.kin=L'.map ThingD.kin) (top n:Int):Yp L top n=Yp L' top n:=Xes h top _ n
theorem Xa5.kin {L L':List ThingD} (h:L.map ThingD.kin=L'.map ThingD.kin) (ho:Xa5 L):Xa5 L':=by
 intro t ht h1
 have hm:t.kin∈L.map ThingD.kin:=by rw [h];exact List.mem_map_of_mem ht
 obtain⟨s,hs,he⟩:=List.mem_map.1 hm;have e1:s.token=t.token:=congrArg (·.1) he;have e2:s.n=t.n:=congrArg (·.2.1) he;have e3:s.of_=t.of_:=congrArg (·.2.2) he;have:=ho s hs (by rw [e1];exact h1);rw [<- e2,<- e3];exact this
theorem Xli (tm:Int) (t:ThingD):(Y2 tm t).kin=t.kin:=by unfold Y2;split <;> rfl
theorem Xq0 {f:ThingD->ThingD} (hf:∀ t,(f t).kin=t.kin) (k:Nat) (L:List ThingD):(U3 f k L).map ThingD.kin=L.map ThingD.kin:=by
 have hc:ThingD.kin ∘ f=ThingD.kin:=funext hf;rw [U3,List.map_append,List.map_map,hc,<- List.map_append,List.take_append_drop]
def ThingD.Xdz (t:ThingD):Int:=if t.token then (t.n:Int) else t.of_
def tokF (L:List ThingD) (top tm:Int) (t:ThingD):ThingD:=if Yp L top t.Xdz then Y2 tm t else t
theorem Xpl (L:List ThingD) (top tm:Int) (t:ThingD):(tokF L top tm t).kin=t.kin:=by
 unfold tokF;split
 ·exact Xli tm t
 rfl
theorem Tryz.Xh0 (B:Nat) (vb g cap:Nat) (L:List ThingD) (tm tn ln:Int) (id:List UInt8) (w:World) (h:Xk B w vb g cap L tm tn ln) (hm:J9 id L = -1\/∃(i:Nat) (t:ThingD),L[i]? = some t/\J9 id L=i/\(t.token=false\/t.n=0)) :
  Calls prog 116 #[.pointer (some ⟨vb,0,none⟩),.string ⟨id.toArray⟩] w fun e w'=>e=.returned (.int .i64 1)/\Below w.heap.size w w':=by
 have hF:=Xiz B vb g cap L tm tn ln id w h
 rcases hm with hm | ⟨i,t,ht,hfi,htk⟩
 ·rw [hm] at hF
  clear hm;go_enter func116,ntmps116
  go_wp2_with (go_at_call 157;refine hF.mono ?_;rintro e w1 ⟨rfl,hb1⟩)
  exact bodyPost_ret (v:=.int .i64 1) (by simp [results,results116,go_sem]) rfl ⟨rfl,hb1⟩
 rw [hfi] at hF;have hlim:=h.lim;have hil:i<L.length:=(List.getElem?_eq_some_iff.1 ht).1
 have hc:=fun W (hb:Below w.heap.size w W)=>((h.below hb).cells ht).1
 have hc1:=fun W (hb:Below w.heap.size w W)=>((h.below hb).cells ht).2.1
 have hv:=fun W (hb:Below w.heap.size w W)=>(h.below hb).v.cell 0 (v:=.slice (some ⟨g,0,none⟩) L.length cap) rfl
 obtain⟨len,hlen⟩:∃ len,L.length=len:=⟨_,rfl⟩
 rw [hlen] at hil hlim;simp only [hlen] at hv;clear hlen hfi
 have hnn:¬ (i:Int)<0:=by omega
 obtain⟨tk,n,o,p,a,l,dm,tr⟩:=t;clear ht;simp only at *;cases tk
 ·clear htk
  go_enter func116,ntmps116
  go_wp2_with (go_at_call 157;refine hF.mono ?_;rintro e w1 ⟨rfl,hb1⟩;have x0:=hc w1 hb1;have v0:=hv w1 hb1)
  exact bodyPost_ret (v:=.int .i64 1) (by simp [results,results116,go_sem]) rfl ⟨rfl,hb1⟩
 obtain rfl:n=0:=by simpa using htk
 clear htk;go_enter func116,ntmps116
 go_wp2_with (go_at_call 157;refine hF.mono ?_;rintro e w1 ⟨rfl,hb1⟩;have x0:=hc w1 hb1;have x1:=hc1 w1 hb1;have v0:=hv w1 hb1)
 exact bodyPost_ret (v:=.int .i64 1) (by simp [results,results116,go_sem]) rfl ⟨rfl,hb1⟩
theorem Tryz.Xkj (B:Nat) (vb g cap:Nat) (L:List ThingD) (tm tn ln:Int) (id:List UInt8) (w:World) (h:Xk B w vb g cap L tm tn ln) (hB:B<=w.heap.size) (hne:vb≠g) (hup:Xa5 L) (i:Nat) (t:ThingD) (ht:L[i]? = some t) (hfi:J9 id L=i) (htk:t.token=true) (hn0:t.n≠0) :
  Calls prog 116 #[.pointer (some ⟨vb,0,none⟩),.string ⟨id.toArray⟩] w fun e w'=>e=.returned (.int .i64 0)/\Xk B w' vb g cap (L.map (tokF L t.n tm)) tm tn ln/\Below B w w'/\Spares [vb,g] w w':=by
 have hF:=Xiz B vb g cap L tm tn ln id w h;rw [hfi] at hF;have hlim:=h.lim;have hil:i<L.length:=(List.getElem?_eq_some_iff.1 ht).1
 have hc:=fun W (hb:Below w.heap.size w W)=>((h.below hb).cells ht).1
 have hc1:=fun W (hb:Below w.heap.size w W)=>((h.below hb).cells ht).2.1
 rw [htk] at hc
 have hv:=fun W (hb:Below w.heap.size w W)=>(h.below hb).v.cell 0 (v:=.slice (some ⟨g,0,none⟩) L.length cap) rfl
 have Hnum:=Xb h.num;have Hofs:=Xb h.ofs
 obtain⟨len,hlen⟩:∃ len,L.length=len:=⟨_,rfl⟩
 rw [hlen] at hil hlim;simp only [hlen] at hv;have Hlen:=Xb hlen;have hR0:=Xb (fun W (hb:Below w.heap.size w W)=>h.below hb);clear hlen hfi htk h ht
 have hnn:¬ (i:Int)<0:=by omega
 have hn0':((t.n:Int)==0)=false:=by rw [beq_eq_false_iff_ne];omega
 clear hn0
 obtain⟨top,htop⟩:∃ top:Int,(t.n:Int)=top:=⟨_,rfl⟩
 rw [htop] at hn0' ⊢;simp only [htop] at hc1;clear htop;have Hup:=Xb hup;clear hup;go_enter func116,ntmps116
 go_wp2_with (go_at_call 157;refine hF.mono ?_;rintro e w1 ⟨rfl,hb1⟩;have x0:=hc w1 hb1;have x1:=hc1 w1 hb1;have v0:=hv w1 hb1)
 have hB1:=hb1.mono hB;have hS1:Spares [vb,g] w w1:=Spares.of_below hb1;have hR1:=Xa hR0 w1 hb1;have hBw1:B<=w1.heap.size:=Nat.le_trans hB hb1.size;clear hF hc hc1 hv hR0 hb1
 go_loopw [7] (fun i wr=>∃ k:Nat,k<=len/\i=.int .i64 k/\Xk B wr vb g cap (U3 (tokF L top tm) k L) tm tn ln/\Below B w wr/\Spares [vb,g] w wr/\B<=wr.heap.size) (fun i _=>len-(intOf i).toNat)
 case atStart=>exact⟨0,Nat.zero_le _,rfl,by rw [Xgv];exact hR1,hB1,hS1,hBw1⟩
 case round =>
  obtain⟨k,hk,rfl,hR,hBw,hSp,hBs⟩:=hrel
  rename_i wr
  have c0:=hR.v.cell 0 (v:=.slice (some ⟨g,0,none⟩) (U3 (tokF L top tm) k L).length cap) rfl;rw [M2,Xa Hlen] at c0
  by_cases hkl:k<len
  ·obtain⟨s,hs⟩:∃ s,L[k]? = some s:=⟨L[k]'(by have:=Xa Hlen;omega),by simp [Xa Hlen,hkl]⟩
   have hsm:=Xjg (tokF L top tm) hs;have hms:=Xb (Xgu (tokF L top tm) hs);have hkeep:=Xb (fun(e:tokF L top tm s=s)=>(show (U3 (tokF L top tm) k L).set k (tokF L top tm s)=U3 (tokF L top tm) k L by rw [e];exact Xcb hsm));have hkin:=Xq0 (Xpl L top tm) k L;have hpf:Hid (tokF L top tm s=if Yp L top s.Xdz then Y2 tm s else s):=Xb rfl;have hown:Hid (s.Xdz=if s.token then (s.n:Int) else s.of_):=Xb rfl;have hnum:=Xa Hnum s (List.mem_of_getElem? hs);have hofs:=Xa Hofs s (List.mem_of_getElem? hs)
   have hownB : -1<=s.Xdz/\s.Xdz<9223372036854775808:=by
    rw [Xa hown]
    split
    ·omega
    rcases hofs with e | ⟨m,e,hm⟩ <;> rw [e] <;> omega
   have hBl:=fun W (hb:Below wr.heap.size wr W)=>Xv9 B vb g cap _ tm tn ln s.Xdz top hownB.1 hownB.2 (Xa5.kin hkin.symm (Xa Hup)) W (hR.below hb)
   simp only [Xkt hkin] at hBl;have hD:=Xb (fun W (hb:Below wr.heap.size wr W)=>Xqz B vb g cap _ tm tn ln W (hR.below hb) (Nat.le_trans hBs hb.size) hne k s hsm);obtain⟨y0,y1,y2,y3,y4,y5,y6,y7⟩:=hR.cells hsm;have HR:=Xb hR;generalize tokF L top tm s=ff at *;generalize hbb:Yp L top s.Xdz=bb at *;generalize hoo:s.Xdz=oo at *;obtain⟨tk,n,o,p,a,l,dm,tr⟩:=s;clear hR hs hsm hkin hnum hofs hownB hbb hoo;simp only at *;cases tk
   case' false =>
    have ho:oo=o:=Xa hown;rw [<- ho] at y2
   case' true =>
    have ho:oo=(n:Int):=Xa hown;rw [<- ho] at y1
   all_goals
    clear ho hown;cases bb
   all_goals
    go_wp2_with (first
     | (go_at_call 160;refine(hBl _ (by first | exact(Below.refl _ _).alloc (Nat.le_refl _) _ | exact((Below.refl _ _).alloc (Nat.le_refl _) _).drew)).mono ?_;rintro e w3 ⟨rfl,rfl⟩)
     | (go_at_call 158;refine(Xa hD _ (by first | exact(Below.refl _ _).alloc (Nat.le_refl _) _ | exact((Below.refl _ _).alloc (Nat.le_refl _) _).drew)).mono ?_;rintro e w5 ⟨rfl,hr5,hb5,hs5⟩))
    go_roundw
    case rel=>first
     | exact⟨k+1,by omega,rfl,by rw [Xa hms,Xa hpf];exact hr5,(hBw.alloc hBs _).trans hb5,(hSp.alloc _).trans hs5,Nat.le_trans hBs (Nat.le_trans (by simp) hb5.size)⟩
     | exact⟨k+1,by omega,rfl,by rw [Xa hms,Xa hkeep (Xa hpf)];exact(Xa HR).below ((Below.refl _ _).alloc (Nat.le_refl _) _),hBw.alloc hBs _,hSp.alloc _,by simp;omega⟩
    case measure=>simp [intOf];omega
  obtain rfl:k=len:=by omega
  have hmx:=Xb (Xj1 (tokF L top tm) L (Nat.le_of_eq (Xa Hlen)));have HR:=Xb hR;clear hR;go_wp2;exact bodyPost_ret (v:=.int .i64 0) (by simp [results,results116,go_sem]) rfl ⟨rfl,by rw [<- Xa hmx];exact Xa HR,hBw,hSp⟩
def Va (pre:List UInt8) (tm:Int) (t:ThingD):Bool:=!t.token&&beginsB t.pth pre&&decide (t.state tm=1)
def Vy (pre:List UInt8) (tm:Int) (t:ThingD):ThingD:=if Va pre tm t then Y2 tm t else t
def preN (pre:List UInt8) (tm:Int) (L:List ThingD):Nat:=(L.filter (Va pre tm)).length
theorem Xox (pre:List UInt8) (tm:Int) (L:List ThingD) (t:ThingD):preN pre tm (L ++ [t])=preN pre tm L+(if Va pre tm t then 1 else 0):=by
 unfold preN
 by_cases h:Va pre tm t=true <;> simp [h]
theorem Xt7 (pre:List UInt8) (tm:Int) (L:List ThingD):preN pre tm L<=L.length:=List.length_filter_le _ _
theorem Tryz.Xke (vb:Nat) (pre:List UInt8) (hq:pre.length<=1000000) (h0:pre ≠ []) (hp:pathI pre=false) (w:World) :
  Calls prog 115 #[.pointer (some ⟨vb,0,none⟩),.string ⟨pre.toArray⟩] w fun e w'=>e=.returned (.tuple #[.int .i64 0,.int .i64 2])/\w'=w:=by
 have hP:=fun W=>Xcc pre (by omega) W
 rw [hp] at hP
 have hne:(pre == [])=false:=by simpa using h0
 clear h0;go_enter func115,ntmps115
 go_wp2_with (go_at_call 156;refine(hP _).mono ?_;rintro e w1 ⟨rfl,rfl⟩)
 exact bodyPost_ret (v:=.tuple #[.int .i64 0,.int .i64 2]) (by simp [results,results115,go_sem]) rfl ⟨rfl,rfl⟩
theorem Tryz.Xlz (B:Nat) (vb g cap:Nat) (L:List ThingD) (tm tn ln:Int) (pre:List UInt8) (hq:pre.length<=1000000) (w:World) (h:Xk B w vb g cap L tm tn ln) (hB:B<=w.heap.size) (hne:vb≠g) (hok:pre = []\/pathI pre=true) :
  Calls prog 115 #[.pointer (some ⟨vb,0,none⟩),.string ⟨pre.toArray⟩] w fun e w'=>e=.returned (.tuple #[.int .i64 (preN pre tm L),.int .i64 0])/\Xk B w' vb g cap (L.map (Vy pre tm)) tm tn ln/\Below B w w'/\Spares [vb,g] w w':=by
 have hP:=fun W=>Xcc pre (by omega) W
 have hlim:=h.lim
 obtain⟨len,hlen⟩:∃ len,L.length=len:=⟨_,rfl⟩
 rw [hlen] at hlim;have Hlen:=Xb hlen;clear hlen;have H:=Xb h;clear h
 have hok':(pre == [])=true\/((pre == [])=false/\pathI pre=true):=by
  rcases hok with h1 | h1
  ·exact .inl (by simpa using h1)
  by_cases h2:(pre == [])=true
  ·exact .inl h2
  exact .inr ⟨by simpa using h2,h1⟩
 clear hok
 rcases hok' with hz | ⟨hz,hb⟩
 case' inr=>rw [hb] at hP
 case' inl=>generalize pathI pre=b at hP
 all_goals
  go_enter func115,ntmps115
  go_wp2_with (go_at_call 156;refine(hP _).mono ?_;rintro e w1 ⟨rfl,rfl⟩)
  go_loopw [7,8] (fun n i wr=>∃ k:Nat,k<=len/\i=.int .i64 k/\n=.int .i64 (preN pre tm (L.take k))/\Xk B wr vb g cap (U3 (Vy pre tm) k L) tm tn ln/\Below B w1 wr/\Spares [vb,g] w1 wr) (fun _ i _=>len-(intOf i).toNat)
  case atStart=>exact⟨0,Nat.zero_le _,rfl,rfl,by rw [Xgv];exact Xa H,Below.refl _ _,Spares.of_below (Below.refl _ _)⟩
  case round =>
   obtain⟨k,hk,rfl,rfl,hR,hBw,hSp⟩:=hrel
   rename_i wr
   have c0:=hR.v.cell 0 (v:=.slice (some ⟨g,0,none⟩) (U3 (Vy pre tm) k L).length cap) rfl;rw [M2,Xa Hlen] at c0
   by_cases hkl:k<len
   ·obtain⟨t,ht⟩:∃ t,L[k]? = some t:=⟨L[k]'(by have:=Xa Hlen;omega),by simp [Xa Hlen,hkl]⟩
    have htm:=Xjg (Vy pre tm) ht;have hms:=Xb (Xgu (Vy pre tm) ht);have hkeep:=Xb (fun(e:Vy pre tm t=t)=>(show (U3 (Vy pre tm) k L).set k (Vy pre tm t)=U3 (Vy pre tm) k L by rw [e];exact Xcb htm));have hsn:=Xb (Xox pre tm (L.take k) t);have htk:=Xb (Zu ht);have hcl:=Xt7 pre tm (L.take k)
    have hcl':(L.take k).length<=k:=by simp;omega
    have hgo:Hid (Va pre tm t=(!t.token&&beginsB t.pth pre&&decide (t.state tm=1))):=Xb rfl;have hpf:Hid (Vy pre tm t=if Va pre tm t then Y2 tm t else t):=Xb rfl
    have hBg:=fun W=>Xtw t.pth pre hq W
    have hS:=fun W (hb:Below wr.heap.size wr W)=>Xe1 t vb tm W ((hR.below hb).v.cell 1 (v:=.int .u64 tm) rfl)
    have hD:=Xb (fun W (hb:Below wr.heap.size wr W)=>Xqz B vb g cap _ tm tn ln W (hR.below hb) (Nat.le_trans hBw.size hb.size |> Nat.le_trans hB) hne k t htm)
    have hc:=fun W (hb:Below wr.heap.size wr W)=>(hR.below hb).cells htm
    have hv:=fun W (hb:Below wr.heap.size wr W)=>(hR.below hb).v.cell 0 (v:=.slice (some ⟨g,0,none⟩) (U3 (Vy pre tm) k L).length cap) rfl
    simp only [M2,Xa Hlen] at hv;obtain⟨x0,x1,x2,x3,x4,x5,x6,x7⟩:=hc wr (Below.refl _ _);simp only [ThingD.cells] at hS;have HR:=Xb hR;clear hR ht htm;generalize hgg:Va pre tm t=gg at *;generalize hff:Vy pre tm t=ff at *;generalize hbb:beginsB t.pth pre=bb at *;generalize preN pre tm (L.take k)=c at *;generalize hst:t.state tm=st at *;obtain⟨tk,n,o,p,a,l,dm,tr⟩:=t;clear hgg hff hbb hst;simp only at *
    by_cases hs1:st=1
    ·subst hs1
     cases tk <;> cases bb
     case false.true =>
      have hgt:Hid (gg=true):=Xb (by rw [Xa hgo];rfl)
      go_wp2_with (first
       | (go_at_call 159;refine(hBg _).mono ?_;rintro e w3 ⟨rfl,rfl⟩)
       | (go_at_call 150;refine(hS _ (by first | exact Below.refl _ _ | exact((Below.refl _ _).drew))).mono ?_;rintro e w4 ⟨rfl,hb4⟩;obtain⟨y0,y1,y2,y3,y4,y5,y6,y7⟩:=hc w4 hb4;have v4:=hv w4 hb4)
       | (go_at_call 158;refine(Xa hD _ hb4).mono ?_;rintro e w5 ⟨rfl,hr5,hb5,hs5⟩))
      go_roundw
      case rel=>exact⟨k+1,by omega,rfl,by rw [Xa htk,Xa hsn,Xa hgt];rfl,by rw [Xa hms,Xa hpf,Xa hgt];exact hr5,(hBw.trans (hb4.mono (Nat.le_trans hB hBw.size))).trans hb5,(hSp.trans (Spares.of_below hb4)).trans hs5⟩
      case measure=>simp [intOf];omega
     all_goals
      have hgt:Hid (gg=false):=Xb (by rw [Xa hgo];rfl)
      go_wp2_with (first
       | (go_at_call 159;refine(hBg _).mono ?_;rintro e w3 ⟨rfl,rfl⟩)
       | (go_at_call 150;refine(hS _ (by first | exact Below.refl _ _ | exact((Below.refl _ _).drew))).mono ?_;rintro e w4 ⟨rfl,hb4⟩;obtain⟨y0,y1,y2,y3,y4,y5,y6,y7⟩:=hc w4 hb4;have v4:=hv w4 hb4))
      go_roundw
      case rel=>exact⟨k+1,by omega,rfl,by rw [Xa htk,Xa hsn,Xa hgt];rfl,by rw [Xa hms,Xa hkeep (by rw [Xa hpf,Xa hgt];rfl)];exact(Xa HR).below hb4,hBw.trans (hb4.mono (Nat.le_trans hB hBw.size)),hSp.trans (Spares.of_below hb4)⟩
      case measure=>simp [intOf];omega
    have hs1':(st==1)=false:=by simpa using hs1
    have hgt:Hid (gg=false):=Xb (by rw [Xa hgo];simp [hs1]);clear hs1
    cases tk <;> cases bb
    all_goals
     go_wp2_with (first
      | (go_at_call 159;refine(hBg _).mono ?_;rintro e w3 ⟨rfl,rfl⟩)
      | (go_at_call 150;refine(hS _ (by first | exact Below.refl _ _ | exact((Below.refl _ _).drew))).mono ?_;rintro e w4 ⟨rfl,hb4⟩;obtain⟨y0,y1,y2,y3,y4,y5,y6,y7⟩:=hc w4 hb4;have v4:=hv w4 hb4))
     go_roundw
     case rel=>exact⟨k+1,by omega,rfl,by rw [Xa htk,Xa hsn,Xa hgt];rfl,by rw [Xa hms,Xa hkeep (by rw [Xa hpf,Xa hgt];rfl)];exact(Xa HR).below hb4,hBw.trans (hb4.mono (Nat.le_trans hB hBw.size)),hSp.trans (Spares.of_below hb4)⟩
     case measure=>simp [intOf];omega
   obtain rfl:k=len:=by omega
   have htk:=Xb (J7 (Nat.le_of_eq (Xa Hlen)));have hmx:=Xb (Xj1 (Vy pre tm) L (Nat.le_of_eq (Xa Hlen)));generalize hcc:preN pre tm (L.take k)=c at *;have HR:=Xb hR;clear hR;go_wp2;exact bodyPost_ret (v:=.tuple #[.int .i64 (c:Int),.int .i64 0]) (by simp [results,results115,go_sem]) rfl ⟨by rw [<- hcc,Xa htk],by rw [<- Xa hmx];exact Xa HR,hBw,hSp⟩
end Go.Proofs
namespace Go.Proofs
open Go.RowKit Go.Sort Go.Lib Go.Shelf Go.Maps Go.WideMaps
theorem Tryz.Xlc (v:Value) (w:World):Calls prog 254 #[v,.int .i64 0,.int .i64 1] w fun e w'=>e=.returned (.tuple #[])/\w'=w:=by
 go_enter func254,ntmps254;go_wp2;refine wp_loop_rounds 1 ?_;rw [rounds_succ];go_wp2
 go_end0
 exact⟨rfl,rfl⟩
theorem Tryz.Xld (v:Value) (w:World) (lim:Int):Calls prog 232 #[v,.int .i64 0,.int .i64 1,.int .i64 lim] w fun e w'=>e=.returned (.tuple #[])/\w'=w:=by
 have hI:=fun W=>Xlc v W
 go_enter func232,ntmps232;go_wp2;refine wp_loop_rounds 1 ?_;rw [rounds_succ]
 go_wp2_with (go_at_call 254;refine(hI _).mono ?_;rintro e w1 ⟨rfl,rfl⟩)
 exact bodyPost_ret (v:=.tuple #[]) (by simp [results,results232,go_sem]) rfl ⟨rfl,rfl⟩
theorem Tryz.Xkv (v:Value) (w:World):Calls prog 317 #[v,.int .i64 0,.int .i64 1] w fun e w'=>e=.returned (.tuple #[])/\w'=w:=by
 go_enter func317,ntmps317;go_wp2;refine wp_loop_rounds 1 ?_;rw [rounds_succ];go_wp2
 go_end0
 exact⟨rfl,rfl⟩
theorem Tryz.Xl2 (v:Value) (w:World) (lim:Int):Calls prog 316 #[v,.int .i64 0,.int .i64 1,.int .i64 lim] w fun e w'=>e=.returned (.tuple #[])/\w'=w:=by
 have hI:=fun W=>Xkv v W
 go_enter func316,ntmps316;go_wp2;refine wp_loop_rounds 1 ?_;rw [rounds_succ]
 go_wp2_with (go_at_call 317;refine(hI _).mono ?_;rintro e w1 ⟨rfl,rfl⟩)
 exact bodyPost_ret (v:=.tuple #[]) (by simp [results,results316,go_sem]) rfl ⟨rfl,rfl⟩
theorem Tryz.Xir (w:World):Calls prog 226 #[.int .u64 1] w fun e w'=>(∃ z:Int,e=.returned (.int .i64 z))/\w'=w:=by
 go_enter func226,ntmps226;go_wp2;go_ret;exact⟨⟨_,rfl⟩,rfl⟩
theorem Tryz.Xkd (p:Option Addr) (cap:Nat) (w:World):Calls prog 211 #[.slice p 1 cap] w fun e w'=>e=.returned (.tuple #[])/\w'=w:=by
 have hL:=fun W=>Xir W
 have hI:=fun W lim=>Xld (.slice p 1 cap) W lim
 go_enter func211,ntmps211
 go_wp2_with (first
  | (go_at_call 226;refine(hL _).mono ?_;rintro e w1 ⟨⟨z,rfl⟩,rfl⟩)
  | (go_at_call 232;refine(hI _ _).mono ?_;rintro e w2 ⟨rfl,rfl⟩))
 go_end0
 exact⟨rfl,rfl⟩
theorem Tryz.Xf1 (p:Option Addr) (cap:Nat) (w:World):Calls prog 315 #[.slice p 1 cap] w fun e w'=>e=.returned (.tuple #[])/\w'=w:=by
 have hL:=fun W=>Xir W
 have hI:=fun W lim=>Xl2 (.slice p 1 cap) W lim
 go_enter func315,ntmps315
 go_wp2_with (first
  | (go_at_call 226;refine(hL _).mono ?_;rintro e w1 ⟨⟨z,rfl⟩,rfl⟩)
  | (go_at_call 316;refine(hI _ _).mono ?_;rintro e w2 ⟨rfl,rfl⟩))
 go_end0
 exact⟨rfl,rfl⟩
theorem Tryz.Xdx (p:Option Addr) (cap:Nat) (w:World):Calls prog 312 #[.slice p 1 cap] w fun e w'=>e=.returned (.tuple #[])/\w'=w:=by
 have hI:=fun W=>Xf1 p cap W
 go_enter func312,ntmps312
 go_wp2_with (go_at_call 315;refine(hI _).mono ?_;rintro e w2 ⟨rfl,rfl⟩)
 go_end0
 exact⟨rfl,rfl⟩
theorem Tryz.Xt3 (w:World):Calls prog 253 #[.string ⟨#[106,111,117,114,110,97,108]⟩,.string ⟨#[106,111,117,114,110,97,108]⟩] w fun e w'=>e=.returned (.string ⟨#[]⟩)/\w'=w:=by
 have hH:=fun W=>Xqc Jw Jw W
 rw [show (Jw.take Jw.length==Jw)=true by decide] at hH;unfold Jw at hH;go_enter func253,ntmps253
 go_wp2_with (go_at_call 204;refine(hH _).mono ?_;rintro e w1 ⟨rfl,rfl⟩)
 go_ret;exact⟨rfl,rfl⟩
theorem Tryz.Xth (w:World):Calls prog 231 #[.string ⟨#[106,111,117,114,110,97,108]⟩,.string ⟨#[106,111,117,114,110,97,108]⟩] w fun e w'=>e=.returned (.string ⟨#[]⟩)/\w'=w:=by
 go_enter func231,ntmps231
 go_wp2_with (go_at_call 253;refine(Xt3 _).mono ?_;rintro e w1 ⟨rfl,rfl⟩)
 go_ret;exact⟨rfl,rfl⟩
theorem Tryz.Xk5 (w:World) (hE:Env w):Calls prog 210 #[.string ⟨#[106,111,117,114,110,97,108]⟩] w fun e w'=>e=.returned (.tuple #[.int .u64 0,.bool true])/\Below w.heap.size w w':=by
 have hP:=Xif [] (by decide) w hE;rw [show puV []=0 by decide] at hP;go_enter func210,ntmps210
 go_wp2_with (first
  | (go_at_call 231;refine(Xth _).mono ?_;rintro e w1 ⟨rfl,rfl⟩)
  | (go_at_call 118;refine hP.mono ?_;rintro e w2 ⟨er,rfl,hb2⟩)
  | (go_at_call 175;refine(Xci _).mono ?_;rintro e w3 ⟨rfl,rfl⟩))
 go_ret2
 exact⟨rfl,hb2⟩
end Go.Proofs
