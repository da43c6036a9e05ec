import Derived.Test.YtjbekgjdempbiaaGreatDoorJHostW
import Derived.Test.YtjbekgjdempbiaaGreatDoorJRel
import Derived.Test.YtjbekgjdempbiaaGreatDoorJCntC
import Derived.ChangeKeysEq
import Derived.Test.YtjbekgjdempbiaaGreatDoorJDiskC
import Derived.Maps.RangeWalk
import Derived.Test.YtjbekgjdempbiaaGreatDoorJMapOps
import Derived.Test.YtjbekgjdempbiaaGreatDoorJRefH
import Derived.StringKeys
set_option maxRecDepth 100000
set_option maxHeartbeats 8000000
namespace Go.Proofs
open Go.RowKit Go.Sort Go.Lib Go.Shelf Go.Maps
theorem Tryz.cut (s sep:List UInt8) (w:World) (hs:s.length<4294967281) (hG:ErrT w) :
  Calls prog 213 #[.string ⟨s.toArray⟩,.string ⟨sep.toArray⟩] w fun e w'=>e=.returned (.tuple #[.string ⟨(Lib.cut s sep).1.toArray⟩,.string ⟨(Lib.cut s sep).2.1.toArray⟩,.bool (Lib.cut s sep).2.2])∧Below w.heap.size w w':=by
 obtain⟨-,m,hm⟩:=hG;refine(Any.strings_Cut laysCut ⟨s.toArray⟩ ⟨sep.toArray⟩ m w (by simpa [ByteArray.size] using hs) hm).mono ?_;rintro e w' ⟨rfl,n,rfl⟩;exact⟨rfl,below_drewN (Below.refl _ _) n⟩
def puV (r:List UInt8):Int:=match Lib.parseUintB 64 r with
 | .ok u=>(u:Int)
 | .range=>18446744073709551615
 | _=>0
theorem Tryz.parseU (r:List UInt8) (hl:r.length≤281474976710656) (w:World) (hE:Env w) :
  Calls prog 118 #[.string ⟨r.toArray⟩,.int .i64 10,.int .i64 64] w fun e w'=>∃ er,e=.returned (.tuple #[.int .u64 (puV r),er])∧Below w.heap.size w w':=by
 have hsz:(⟨r.toArray⟩:ByteArray).size≤281474976710656:=by simpa [ByteArray.size] using hl
 cases hpp:Lib.parseUintB 64 r with
 | ok u =>
  have h:=Any.strconv_ParseUint_10_at64_ok laysPu14 ⟨r.toArray⟩ (by have:=hsz;omega) u hpp w;rw [show puV r=(u:Int) by simp only [puV,hpp]];refine h.mono ?_;rintro e w' ⟨rfl,hw⟩;exact⟨_,rfl,parseBelow hw⟩
 | range =>
  obtain⟨tp,p,hv⟩:=hE.rng;rw [show puV r=18446744073709551615 by simp only [puV,hpp]];refine(Any.strconv_ParseUint_10_at64_range_var laysPu14 ⟨r.toArray⟩ hsz hpp tp p _ hv).mono ?_;rintro e w' ⟨N,rfl,-,-,h4⟩;exact⟨_,rfl,h4⟩
 | _ =>
  obtain⟨tp,p,hv⟩:=hE.syn;rw [show puV r=0 by simp only [puV,hpp]];refine(Any.strconv_ParseUint_10_at64_syntax_var laysPu14 ⟨r.toArray⟩ hsz hpp tp p _ hv).mono ?_;rintro e w' ⟨N,rfl,-,-,h4⟩;exact⟨_,rfl,h4⟩
def txtL (s:List UInt8):List UInt8:=(Lib.cut (Lib.cut s [32]).2.1 [32]).2.1
def wholeB (s:List UInt8):Bool:=puV (Lib.cut s [32]).1==((txtL s).length:Int)&&puV (Lib.cut (Lib.cut s [32]).2.1 [32]).1==sumI (txtL s)
theorem cut_sub (s sep:List UInt8):(∀ b∈(Lib.cut s sep).1,b∈s)∧(∀ b∈(Lib.cut s sep).2.1,b∈s)∧(Lib.cut s sep).1.length≤s.length∧(Lib.cut s sep).2.1.length≤s.length:=by
 unfold Lib.cut
 split
 ·exact⟨fun b h=>List.mem_of_mem_take h,fun b h=>List.mem_of_mem_drop h,by simp;omega,by simp⟩
 ·exact⟨fun b h=>h,fun b h=>by simp at h,Nat.le_refl _,by simp⟩
theorem Tryz.cellsU64':prog.cellsOf 31=1:=by kernel_rfl
theorem Tryz.markEq (a b c d:Int) (W:World):(binOp .eql 269 (.agg #[.int .u64 a,.int .u64 b]) (.agg #[.int .u64 c,.int .u64 d])).run prog W=.ok (.bool (a==c&&b==d)) W:=by
 have hu:=underlying269;obtain⟨i,hi⟩:=info_of_underlying underlying31;have h31:=underlying31
 have hp:prog.plainKey 31=true:=by kernel_rfl
 have key:(Op.equal 269 (.agg #[.int .u64 a,.int .u64 b]) (.agg #[.int .u64 c,.int .u64 d])).run prog W=.ok (a==c&&b==d) W:=by
  unfold Op.equal;rw [show Op.maxDepth=(Op.maxDepth-2+1)+1 by decide];rw [run_equalIn_array W _ _ _ hu hi,cellsU64'];simp only [List.range_succ,List.range_zero,List.nil_append,List.cons_append,Op.eqItems,Sem.run_bind];rw [run_part_plain W hp (v:=.int .u64 a) (by simp),Result.andThen_ok,run_part_plain W hp (v:=.int .u64 c) (by simp),Result.andThen_ok,run_equalIn_int W _ _ _ _ _ _ h31,Result.andThen_ok];cases h1:(a==c)
  ·simp
  ·simp only [Bool.not_true,Bool.false_eq_true,if_false,Sem.run_bind]
   rw [run_part_plain W hp (v:=.int .u64 b) (by simp),Result.andThen_ok,run_part_plain W hp (v:=.int .u64 d) (by simp),Result.andThen_ok,run_equalIn_int W _ _ _ _ _ _ h31,Result.andThen_ok]
   cases h2:(b==d) <;> simp
 simp only [binOp,go_sem];rw [Sem.run_bind,key];rfl
abbrev TxP (tb:Nat) (a b:Int) (W:World):Prop:=W.cell? ⟨tb,0,none⟩=some (.int .u64 a)∧W.cell? ⟨tb,1,none⟩=some (.int .u64 b)
theorem TxP.of {W:World} {tb:Nat} {a b:Int} {t:TypeId} (h:BoxN W tb t #[.int .u64 a,.int .u64 b]):TxP tb a b W:=⟨h.cell 0 rfl,h.cell 1 rfl⟩
theorem Tryz.textOf (s:List UInt8) (w:World) (hs:s.length<4294967281) (ha:∀ b∈s,b.toNat<128) (hE:Env w) (h9:9≤w.heap.size) (hG:ErrT w) :
  Calls prog 185 #[.string ⟨s.toArray⟩] w fun e w'=>e=.returned (.tuple #[.string ⟨(txtL s).toArray⟩,.bool (wholeB s)])∧Below w.heap.size w w':=by
 obtain⟨-,a1,l0,l1⟩:=cut_sub s [32];obtain⟨-,a2,l2,l3⟩:=cut_sub (Lib.cut s [32]).2.1 [32]
 have hC1:=fun W (hb:Below w.heap.size w W)=>cut s [32] W hs (hG.below (hb.mono h9))
 have hC2:=fun W (hb:Below w.heap.size w W)=>cut (Lib.cut s [32]).2.1 [32] W (by omega) (hG.below (hb.mono h9))
 have hU1:=fun W (hb:Below w.heap.size w W)=>parseU (Lib.cut s [32]).1 (by omega) W (hE.below hb (by omega))
 have hU2:=fun W (hb:Below w.heap.size w W)=>parseU (Lib.cut (Lib.cut s [32]).2.1 [32]).1 (by omega) W (hE.below hb (by omega))
 have hM:=fun W=>markOf (txtL s) W (by unfold txtL;omega) (fun b hb=>ha b (a1 b (a2 b hb)))
 have hq:=markEq;have hw:Hid (wholeB s=(puV (Lib.cut s [32]).1==((txtL s).length:Int)&&puV (Lib.cut (Lib.cut s [32]).2.1 [32]).1==sumI (txtL s))):=hid_intro rfl;unfold txtL at *;generalize wholeB s=wh at *;generalize puV (Lib.cut s [32]).1=p1 at *;generalize puV (Lib.cut (Lib.cut s [32]).2.1 [32]).1=p2 at *;generalize Lib.cut s [32]=x1 at *;obtain⟨n1,r1,f1⟩:=x1;simp only at *;generalize Lib.cut r1 [32]=x2 at *;obtain⟨n2,r2,f2⟩:=x2;simp only at *;generalize sumI r2=sm at *
 obtain⟨ln,hln⟩:∃ ln:Int,(r2.length:Int)=ln:=⟨_,rfl⟩
 simp only [hln] at hM hw;clear hln a1 a2 l0 l1 l2 l3 ha hs;have bT0:=BoxN.new w 269 #[.int .u64 0,.int .u64 0];have hB0:Below w.heap.size w (w.alloc (.cells #[.int .u64 0,.int .u64 0] 269)):=(Below.refl _ w).alloc (Nat.le_refl _) _;go_enter func185,ntmps185;go_wp2;refine wp_loop_rounds 3 ?_;rw [rounds_succ]
 go_wp2_with (first
  | (go_at_call 213;refine(hC1 _ hB0).mono ?_;rintro e w1 ⟨rfl,hb1⟩;have hB1:=hB0.trans (hb1.mono (by simp));have bT1:=bT0.below hb1 (by simp))
  | (go_at_call 118;refine(hU1 _ hB1).mono ?_;rintro e w2 ⟨er,rfl,hb2⟩;have hB2:=hB1.trans (hb2.mono hB1.size);have bT2:=bT1.below hb2 bT1.lt;have c0:=bT2.cell 0 (v:=.int .u64 0) rfl;have g0:=bT2.frozen 0))
 have hB3:=hB2.setCell (p:=⟨w.heap.size,0,none⟩) (Nat.le_refl _) (.int .u64 p1);have bT3:=bT2.set 0 (.int .u64 p1);clear c0 g0 hC1 hU1;rw [rounds_succ]
 go_wp2_with (first
  | (go_at_call 213;refine(hC2 _ hB3).mono ?_;rintro e w4 ⟨rfl,hb4⟩;have hB4:=hB3.trans (hb4.mono (by simpa using hB2.size));have bT4:=bT3.below hb4 (by simpa using bT2.lt))
  | (go_at_call 118;refine(hU2 _ hB4).mono ?_;rintro e w5 ⟨er2,rfl,hb5⟩;have hB5:=hB4.trans (hb5.mono hB4.size);have bT5:=bT4.below hb5 bT4.lt;have c1:=bT5.cell 1 (v:=.int .u64 0) rfl;have g1:=bT5.frozen 1))
 have hB6:=hB5.setCell (p:=⟨w.heap.size,1,none⟩) (Nat.le_refl _) (.int .u64 p2);have bT6:=bT5.set 1 (.int .u64 p2);have hP6:TxP w.heap.size p1 p2 (w5.setCell ⟨w.heap.size,1,none⟩ (.int .u64 p2)).drew:=TxP.of (t:=269) bT6;have l6:=bT6.lt;clear c1 g1 hC2 hU2;rw [rounds_succ];go_wp2
 go_region_held3 (TxP w.heap.size p1 p2) (first
  | with_reducible exact hP6
  | with_reducible exact hP7
  | with_reducible assumption) (first
  | (go_at_call 177;refine(hM _).mono ?_;rintro e w7 ⟨rfl,hb7⟩;have hP7:TxP w.heap.size p1 p2 w7:=TxP.of (t:=269) (BoxN.below (W:=(w5.setCell ⟨w.heap.size,1,none⟩ (.int .u64 p2)).drew) bT6 hb7 l6);have hB7:=hB6.drew.trans (hb7.mono (by simpa using hB5.size))))
 all_goals
  go_wp2
  go_ret2
  exact⟨by rw [hid_elim hw];rfl,hB7⟩
end Go.Proofs
namespace Go.Proofs
open Go.RowKit Go.Sort Go.Maps Go.WideMaps
theorem Tryz.insU64_nil (w:World):Calls prog 254 #[.slice none 0 0,.int .i64 0,.int .i64 0] w fun e w'=>e=.returned (.tuple #[])∧w'=w:=by
 go_enter func254,ntmps254;go_wp2;refine wp_loop_rounds 1 ?_;rw [rounds_succ];go_wp2
 go_end0
 exact⟨rfl,rfl⟩
theorem Tryz.pdqU64_nil (w:World) (lim:Int):Calls prog 232 #[.slice none 0 0,.int .i64 0,.int .i64 0,.int .i64 lim] w fun e w'=>e=.returned (.tuple #[])∧w'=w:=by
 have hI:=fun W=>insU64_nil W
 go_enter func232,ntmps232;go_wp2;refine wp_loop_rounds 1 ?_;rw [rounds_succ]
 go_wp2_with (go_at_call 254;refine(hI _).mono ?_;rintro e w1 ⟨rfl,rfl⟩)
 exact bodyPost_ret (v:=.tuple #[]) (by simp [results,results232,go_sem]) rfl ⟨rfl,rfl⟩
theorem Tryz.insStr_nil (w:World):Calls prog 317 #[.slice none 0 0,.int .i64 0,.int .i64 0] w fun e w'=>e=.returned (.tuple #[])∧w'=w:=by
 go_enter func317,ntmps317;go_wp2;refine wp_loop_rounds 1 ?_;rw [rounds_succ];go_wp2
 go_end0
 exact⟨rfl,rfl⟩
theorem Tryz.pdqStr_nil (w:World) (lim:Int):Calls prog 316 #[.slice none 0 0,.int .i64 0,.int .i64 0,.int .i64 lim] w fun e w'=>e=.returned (.tuple #[])∧w'=w:=by
 have hI:=fun W=>insStr_nil W
 go_enter func316,ntmps316;go_wp2;refine wp_loop_rounds 1 ?_;rw [rounds_succ]
 go_wp2_with (go_at_call 317;refine(hI _).mono ?_;rintro e w1 ⟨rfl,rfl⟩)
 exact bodyPost_ret (v:=.tuple #[]) (by simp [results,results316,go_sem]) rfl ⟨rfl,rfl⟩
theorem Tryz.bitsLen0 (w:World):Calls prog 226 #[.int .u64 0] w fun e w'=>(∃ z:Int,e=.returned (.int .i64 z))∧w'=w:=by
 go_enter func226,ntmps226;go_wp2;go_ret;exact⟨⟨_,rfl⟩,rfl⟩
theorem Tryz.sortU64_nil (w:World):Calls prog 211 #[.slice none 0 0] w fun e w'=>e=.returned (.tuple #[])∧w'=w:=by
 have hL:=fun W=>bitsLen0 W
 have hI:=fun W lim=>pdqU64_nil W lim
 go_enter func211,ntmps211
 go_wp2_with (first
  | (go_at_call 226;refine(hL _).mono ?_;rintro e w1 ⟨⟨z,rfl⟩,rfl⟩)
  | (go_at_call 232;refine(hI _ _).mono ?_;rintro e w2 ⟨rfl,rfl⟩))
 go_end0
 exact⟨rfl,rfl⟩
theorem Tryz.slSortStr_nil (w:World):Calls prog 315 #[.slice none 0 0] w fun e w'=>e=.returned (.tuple #[])∧w'=w:=by
 have hL:=fun W=>bitsLen0 W
 have hI:=fun W lim=>pdqStr_nil W lim
 go_enter func315,ntmps315
 go_wp2_with (first
  | (go_at_call 226;refine(hL _).mono ?_;rintro e w1 ⟨⟨z,rfl⟩,rfl⟩)
  | (go_at_call 316;refine(hI _ _).mono ?_;rintro e w2 ⟨rfl,rfl⟩))
 go_end0
 exact⟨rfl,rfl⟩
theorem Tryz.sortStrings_nil (w:World):Calls prog 312 #[.slice none 0 0] w fun e w'=>e=.returned (.tuple #[])∧w'=w:=by
 have hI:=fun W=>slSortStr_nil W
 go_enter func312,ntmps312
 go_wp2_with (go_at_call 315;refine(hI _).mono ?_;rintro e w2 ⟨rfl,rfl⟩)
 go_end0
 exact⟨rfl,rfl⟩
theorem Tryz.dNames_nil (db md mn:Nat) (fd:Option (Nat × List UInt8)) (l f:Int) (w:World) (hD:DiskAt w db md mn fd none (.slice none 0 0) l f) :
  Calls prog 306 #[.pointer (some ⟨db,0,none⟩)] w fun e w'=>e=.returned (.tuple #[.slice none 0 0,.nilIface])∧Below w.heap.size w w':=by
 have hS:=fun W=>sortStrings_nil W
 have d1:=hD.box.cell 1 (v:=.map (some mn)) rfl;have d5:=hD.box.cell 5 (v:=.bool false) rfl;obtain⟨n,hn,hown⟩:=hD.nm
 change w.ownsMap prog 9 valR mn n (.map []) at hown
 go_enter func306,ntmps306
 go_wp2_with (first
  | (at_range;refine wpList_range_own _ rfl _ 97 rfl 9 101 (string_keyed underlying9) underlying97 _ mn n _ rfl hown ?_;intro w1 hrg hg1 hs1)
  | go_in)
 have HB:=hid_intro (show Below w.heap.size w w1 from ⟨hg1.os,hg1.tape,hg1.output,hg1.size,fun k hk=>hg1.block k hk (by simp)⟩);clear hg1 hs1 hown d1 d5;refine wp_loop_rounds 1 ?_;rw [rounds_succ]
 go_wp2_with (first
  | (at_next;refine wpList_next_ranges _ rfl _ rfl 9 (string_keyed underlying9) valR (fun v:Value=>v) (fun v:Value=>v) (fun v _ _=>⟨v,rfl⟩) (fun v _ _=>⟨v,rfl⟩) mn _ n _ _ _ rfl hrg ?_ ?_)
  | go_in)
 ·intro _ _
  clear hrg
  go_wp2_with (go_at_call 312;refine(hS _).mono ?_;rintro e w2 ⟨rfl,rfl⟩)
  exact bodyPost_ret (v:=.tuple #[.slice none 0 0,.nilIface]) (by simp [results,results306,go_sem]) rfl ⟨rfl,hid_elim HB⟩
 ·intro x c kl y yp w' cnt' _ h2
  have h3:false=true:=h2;cases h3
theorem Tryz.dRead_none (db md mn:Nat) (fd:Option (Nat × List UInt8)) (l f:Int) (w:World) (hD:DiskAt w db md mn fd none (.slice none 0 0) l f) :
  Calls prog 307 #[.pointer (some ⟨db,0,none⟩),.string ⟨#[106,111,117,114,110,97,108]⟩] w fun e w'=>e=.returned (.tuple #[.slice none 0 0,.iface 33 (.int .i64 6)])∧w'=w:=by
 have d1:=hD.box.cell 1 (v:=.map (some mn)) rfl;have d5:=hD.box.cell 5 (v:=.bool false) rfl;obtain⟨n,hn,hown⟩:=hD.nm;have hL:=lookF_no hown;go_enter func307,ntmps307;go_wp2;exact bodyPost_ret (v:=.tuple #[.slice none 0 0,.iface 33 (.int .i64 6)]) (by simp [results,results307,go_sem]) rfl ⟨rfl,rfl⟩
end Go.Proofs
namespace Go.Proofs
open Go.RowKit Go.Sort Go.Lib Go.Shelf Go.Maps
attribute [local go_sem] Oper.semAt_some
theorem Tryz.method_names (db:Nat) (w:World):Sem.run prog (method 517 74 (.pointer (some ⟨db,0,none⟩)) "Names") w=.ok (306,.pointer (some ⟨db,0,none⟩)) w:=by kernel_rfl
theorem Tryz.method_read (db:Nat) (w:World):Sem.run prog (method 517 74 (.pointer (some ⟨db,0,none⟩)) "Read") w=.ok (307,.pointer (some ⟨db,0,none⟩)) w:=by kernel_rfl
theorem Tryz.infoStr:(prog.info? (laysSplit_ren.t 9)).map (fun i=>(i.zero,i.size,i.bytes))=some (some (.string ByteArray.empty),1,16):=by kernel_rfl
theorem Tryz.tellAll_nil (tv:Value) (w:World) (hE:Env w) (h9:9≤w.heap.size) (hG:ErrT w) :
  Calls prog 147 #[.string ⟨#[]⟩,tv] w fun e w'=>e=.returned (.tuple #[])∧Below w.heap.size w w':=by
 have hG':=hG;obtain⟨-,m,hm⟩:=hG';have hSp:=Any.strings_Split laysSplit infoStr ⟨#[]⟩ ⟨#[10]⟩ m w (by decide) hm (by decide);rw [show Lib.countB ⟨#[]⟩ ⟨#[10]⟩=0 by decide,show Lib.splitB ⟨#[10]⟩ 0 0 ⟨#[]⟩ = [⟨#[]⟩] by rfl] at hSp
 change Calls prog 184 _ _ _ at hSp
 have hTx:=fun W (hb:Below w.heap.size w W)=>textOf [] W (by decide) (by simp) (hE.below hb (by omega)) (Nat.le_trans h9 hb.size) (hG.below (hb.mono h9))
 rw [show wholeB []=false by decide,show txtL [] = [] by rfl] at hTx;have bS:=BoxN.new w 9 #[.string ⟨#[]⟩];have hB0:Below w.heap.size w (w.alloc (.cells #[.string ⟨#[]⟩] 9)):=(Below.refl _ w).alloc (Nat.le_refl _) _;have s0:=bS.cell 0 (v:=.string ⟨#[]⟩) rfl;go_enter func147,ntmps147
 go_wp2_with (go_at_call 184;refine hSp.mono ?_;rintro e w1 ⟨rfl,rfl⟩)
 refine wp_loop_rounds 2 ?_;rw [rounds_succ]
 go_wp2_with (go_at_call 185;refine(hTx _ hB0).mono ?_;rintro e w2 ⟨rfl,hb2⟩)
 rw [rounds_succ];go_wp2
 go_end0
 exact⟨rfl,hB0.trans (hb2.mono (by simp))⟩
theorem Tryz.numbersOn_nil (db md mn:Nat) (fd:Option (Nat × List UInt8)) (l f:Int) (w:World) (hD:DiskAt w db md mn fd none (.slice none 0 0) l f) :
  Calls prog 180 #[diskV db] w fun e w'=>e=.returned (.tuple #[.slice none 0 0,.nilIface])∧Below w.heap.size w w':=by
 have hm:=fun W=>method_names db W
 have hN:=dNames_nil db md mn fd l f w hD
 have hS:=fun W=>sortU64_nil W
 unfold diskV;go_enter func180,ntmps180
 go_wp2_with (go_at_call 306;refine hN.mono ?_;rintro e w1 ⟨rfl,hb1⟩)
 refine wp_loop_rounds 1 ?_;rw [rounds_succ]
 go_wp2_with (go_at_call 211;refine(hS _).mono ?_;rintro e w2 ⟨rfl,rfl⟩)
 go_ret2
 exact⟨rfl,hb1⟩
theorem Tryz.jFirst_nil (jb db md mn:Nat) (c1 c2:Value) (fd:Option (Nat × List UInt8)) (l f:Int) (w:World) (hJ:BoxN w jb 212 #[diskV db,c1,c2]) (hD:DiskAt w db md mn fd none (.slice none 0 0) l f) :
  Calls prog 183 #[.pointer (some ⟨jb,0,none⟩)] w fun e w'=>e=.returned (.tuple #[.string ⟨#[]⟩,.nilIface])∧w'=w:=by
 have hm:=fun W=>method_read db W
 have hR:=dRead_none db md mn fd l f w hD
 have hI:=fun W=>isSame 6 (by simp [ErrK]) W
 have j0:=hJ.cell 0 (v:=diskV db) rfl;unfold diskV at j0;go_enter func183,ntmps183
 go_wp2_with (first
  | (go_at_call 307;refine hR.mono ?_;rintro e w1 ⟨rfl,rfl⟩)
  | (go_at_call 70;refine(hI _).mono ?_;rintro e w2 ⟨rfl,rfl⟩))
 go_ret2
 exact⟨rfl,rfl⟩
theorem Tryz.backward_nil (w:World):Calls prog 181 #[.slice none 0 0] w fun e w'=>e=.returned (.func (.func 212) #[] #[.pointer (some ⟨w.heap.size,0,none⟩)])∧w'=w.alloc (.cells #[.slice none 0 0] 272):=by
 go_enter func181,ntmps181;go_wp2;go_ret;exact⟨rfl,rfl⟩
theorem Tryz.backward1_nil (y:Value) (b:Nat) (w:World) (hb:BoxN w b 272 #[.slice none 0 0]):Calls prog 212 #[y,.pointer (some ⟨b,0,none⟩)] w fun e w'=>e=.returned (.tuple #[])∧w'=w:=by
 have c0:=hb.cell 0 (v:=.slice none 0 0) rfl;go_enter func212,ntmps212;go_wp2;refine wp_loop_rounds 1 ?_;rw [rounds_succ];go_wp2
 go_end0
 exact⟨rfl,rfl⟩
theorem empty_size (ps:Array Tmp) (x:Empty):((fun y:Empty=>(nomatch y:Array Value)) x).size=ps.size:=nomatch x
theorem Tryz.jFind_nil (jb db md mn:Nat) (c1 c2:Value) (fd:Option (Nat × List UInt8)) (l f:Int) (w:World) (hJ:BoxN w jb 212 #[diskV db,c1,c2]) (hD:DiskAt w db md mn fd none (.slice none 0 0) l f) :
  CallsIn Fence.wide 9 prog 146 #[.pointer (some ⟨jb,0,none⟩)] w fun e w'=>e=.returned (.tuple #[.string ⟨#[]⟩,.nilIface])∧Below w.heap.size w w':=by
 have j0:=hJ.cell 0 (v:=diskV db) rfl;unfold diskV at j0;have lJ:=hJ.lt;have hB0:Below w.heap.size w (((w.alloc (.cells #[.pointer (some ⟨jb,0,none⟩)] 117)).alloc (.cells #[.string ⟨#[]⟩] 9)).alloc (.cells #[.nilIface] 81)):=(((Below.refl _ w).alloc (Nat.le_refl _) _).alloc (by simp) _).alloc (by simp;omega) _;have bP:=((BoxN.new w 117 #[.pointer (some ⟨jb,0,none⟩)]).alloc (.cells #[.string ⟨#[]⟩] 9)).alloc (.cells #[.nilIface] 81);have bS:=(BoxN.new (w.alloc (.cells #[.pointer (some ⟨jb,0,none⟩)] 117)) 9 #[.string ⟨#[]⟩]).alloc (.cells #[.nilIface] 81);have bE:=BoxN.new ((w.alloc (.cells #[.pointer (some ⟨jb,0,none⟩)] 117)).alloc (.cells #[.string ⟨#[]⟩] 9)) 81 #[.nilIface];simp only [World.size_alloc] at bS bE;have hN:=numbersOn_nil db md mn fd l f _ (hD.below hB0);unfold diskV at hN;have j0w:=cell_later hB0 j0;have hf1:Fence.wide.fn 180:=trivial;have hf2:Fence.wide.fn 181:=trivial;have hf3:Fence.wide.fn 183:=trivial;refine callsIn_of_wp_marks func146 rfl trivial ?_ rfl;simp only [ntmps146,List.size_toArray,List.length_cons,List.length_nil,Nat.reduceAdd,Nat.reduceSub,Array.replicate_succ,Array.replicate_zero,List.push_toArray,List.append_toArray,List.nil_append,List.cons_append]
 gi_wp2_with (first
  | (gi_at_call 180;refine(callsIn_wide.2 hN).mono ?_;rintro e w1 ⟨rfl,hb1⟩)
  | (gi_at_call 181;refine(callsIn_wide.2 (backward_nil _)).mono ?_;rintro e w2 ⟨rfl,rfl⟩))
 have hB1:=hB0.trans (hb1.mono (by simp;omega));have bP1:=(bP.below hb1 (by simp;omega)).alloc (.cells #[.slice none 0 0] 272);have bS1:=(bS.below hb1 (by simp)).alloc (.cells #[.slice none 0 0] 272);have bE1:=(bE.below hb1 (by simp)).alloc (.cells #[.slice none 0 0] 272);have bX1:=BoxN.new w1 272 #[.slice none 0 0];have hB2:=hB1.alloc hB1.size (.cells #[.slice none 0 0] 272)
 have hsz:(w1.alloc (.cells #[.slice none 0 0] 272)).heap.size=w1.heap.size+1:=by simp
 have hz1:=hB1.size
 obtain⟨W2,hW2⟩:∃ W2,w1.alloc (.cells #[.slice none 0 0] 272)=W2:=⟨_,rfl⟩
 rw [hW2] at bP1 bS1 bE1 bX1 hB2 hsz ⊢;clear hW2 bP bS bE hN j0w
 have hseq:SeqO (α:=Empty) 8 prog 212 #[.pointer (some ⟨w1.heap.size,0,none⟩)] (fun x=>nomatch x) (fun _=>True) (fun _ _=>True) (fun xs=>xs = []) (fun _=>False) 0 W2:=by
  intro l J Jx W hb _ _ _ _ h0;refine(callsIn_wide.2 (backward1_nil (.func (.yield l) #[] #[]) w1.heap.size W (bX1.below hb bX1.lt))).mono ?_;rintro e W' ⟨rfl,rfl⟩;exact⟨⟨_,rfl⟩,.inl ⟨[],rfl,h0⟩⟩
 refine wpIn_rangeO (n:=9) (by omega) (gf:=212) (lb:=#[.pointer (some ⟨w1.heap.size,0,none⟩)]) rfl (enters_of func212 (by kernel_rfl) rfl) hseq (fun _ _=>trivial) (fun _ _ _ _ _ _ _ _=>trivial) (Below.refl _ _) (fun x=>nomatch x)
  (fun _ V=>((BoxN V w.heap.size 117 #[.pointer (some ⟨jb,0,none⟩)]∧BoxN V (w.heap.size+1) 9 #[.string ⟨#[]⟩])∧BoxN V (w.heap.size+1+1) 81 #[.nilIface])∧Below w.heap.size w V)
  (fun _ _ _=>False)
  (OwnFrom.and (OwnFrom.and (OwnFrom.and (Own.from (boxN_own _ _ (fun _=>#[.pointer (some ⟨jb,0,none⟩)])) _) (Own.from (boxN_own _ _ (fun _=>#[.string ⟨#[]⟩])) _)) (Own.from (boxN_own _ _ (fun _=>#[.nilIface])) _)) (ownFrom_below (Nat.le_refl _) (by omega)))
  (fun _ _ _ _ _ hs _ _=>hs)
  (fun _ _ _=>trivial)
  ⟨⟨⟨bP1,bS1⟩,bE1⟩,hB2⟩
  (fun x _ _=>nomatch x) (fun x=>nomatch x)
  (fun _ _ x=>nomatch x) (fun _ _ x=>nomatch x) ?done ?stop
 case done =>
  rintro D zs V hD0 rfl ⟨⟨⟨bPV,bSV⟩,bEV⟩,hBV⟩ hK;have hF:=jFirst_nil jb db md mn c1 c2 fd l f V (hJ.below hBV hJ.lt) (hD.below hBV);have p0:=bPV.cell 0 (v:=.pointer (some ⟨jb,0,none⟩)) rfl;have s0:=bSV.cell 0 (v:=.string ⟨#[]⟩) rfl;have s0f:=bSV.frozen 0;have e0:=bEV.cell 0 (v:=.nilIface) rfl;have e0f:=bEV.frozen 0
  gi_wp2_with (gi_at_call 183;refine(callsIn_wide.2 hF).mono ?_;rintro e w3 ⟨rfl,rfl⟩)
  have bS2:=(bSV.set 0 (.string ⟨#[]⟩)).other (B':=w.heap.size+1+1) (by omega) 0 .nilIface;have bE2:=(bEV.other (B':=w.heap.size+1) (by omega) 0 (.string ⟨#[]⟩)).set 0 .nilIface
  have hK2:((w3.setCell ⟨w.heap.size+1,0,none⟩ (.string ⟨#[]⟩)).setCell ⟨w.heap.size+1+1,0,none⟩ .nilIface).heap[D]? = some (.deferred (some [])):=by
   have:=bE1.lt;rw [set_other _ _ _ _ _ (by omega),set_other _ _ _ _ _ (by omega)];exact hK
  have hB5:=(hBV.setCell (p:=⟨w.heap.size+1,0,none⟩) (by simp) (.string ⟨#[]⟩)).setCell (p:=⟨w.heap.size+1+1,0,none⟩) (by simp;omega) .nilIface;generalize (w3.setCell ⟨w.heap.size+1,0,none⟩ (.string ⟨#[]⟩)).setCell ⟨w.heap.size+1+1,0,none⟩ .nilIface=W5 at *;refine⟨by simp,.inl ⟨_,_,rfl,run_takeDeferred hK2,?_⟩⟩;have bS6:BoxN (W5.putObj D (.deferred none)) (w.heap.size+1) 9 (#[.string ⟨#[]⟩].setIfInBounds 0 (.string ⟨#[]⟩)):=(World.putObj_heap_other (by have:=bE1.lt;omega)).trans bS2;have bE6:BoxN (W5.putObj D (.deferred none)) (w.heap.size+1+1) 81 (#[.nilIface].setIfInBounds 0 .nilIface):=(World.putObj_heap_other (by have:=bE1.lt;omega)).trans bE2;have q1:=bS6.cell 0 (v:=.string ⟨#[]⟩) rfl;have q2:=bE6.cell 0 (v:=.nilIface) rfl;exact⟨.tuple #[.string ⟨#[]⟩,.nilIface],by simp [results,results146,go_sem,q1,q2],rfl,hB5.trans (belowK_b (w:=w) (Nat.le_refl _) W5 D _ _ (by omega) hK2 rfl rfl)⟩
 case stop =>
  rintro D c pre V _ _ h _;exact h.elim
end Go.Proofs
namespace Go.Proofs
open Go.RowKit Go.Sort Go.Lib Go.Shelf
def doomAt (tm:Int) (t:ThingD):ThingD:=if t.state tm=1 then { t with doomed:=true,at_:=tm } else t
abbrev DoomP (g vb i:Nat) (s:Value) (tm:Int) (W:World):Prop:=W.cell? ⟨vb,0,none⟩=some s∧W.cell? ⟨vb,1,none⟩=some (.int .u64 tm)∧W.cell? ⟨g,i*8+4,none⟩=some (cellOr W ⟨g,i*8+4,none⟩)∧W.frozen? ⟨g,i*8+4,none⟩=false
def freeI (n:Int) (L:List ThingD):Bool:=L.all (fun t=>!(t.of_==n))
theorem bytes_take (l:List UInt8) (n:Nat):(⟨l.toArray⟩:ByteArray).extract 0 n=⟨(l.take n).toArray⟩:=by
 apply ByteArray.ext;rw [ByteArray.data_extract];simp
def beginsB (p pre:List UInt8):Bool:=pre.isEmpty||p==pre||(decide (pre.length<p.length)&&p.take pre.length==pre&&p[pre.length]? == some 47)
def mixI {α:Type} (f:α→α) (k:Nat) (L:List α):List α:=(L.take k).map f++L.drop k
end Go.Proofs
namespace Go.Proofs
open Go.RowKit Go.Sort Go.Lib Go.Shelf Go.Maps
theorem bytes_drop (p:List UInt8) (n:Nat):(⟨p.toArray⟩:ByteArray).extract n p.length=⟨(p.drop n).toArray⟩:=by
 apply ByteArray.ext;rw [ByteArray.data_extract];simp;exact List.take_of_length_le (by simp)
theorem Tryz.hasPre (p pre:List UInt8) (w:World) :
  Calls prog 204 #[.string ⟨p.toArray⟩,.string ⟨pre.toArray⟩] w fun e w'=>e=.returned (.bool (p.take pre.length==pre))∧w'=w:=by
 have hx:=bytes_take p pre.length
 by_cases h2:pre.length≤p.length
 ·have h2':(pre.length:Int)≤(p.length:Int):=by omega
  by_cases h3:p.take pre.length=pre
  ·have h3':(p.take pre.length==pre)=true:=by simpa using h3
   rw [h3'];rw [h3] at hx;go_enter func204,ntmps204;go_wp2;go_ret;exact⟨rfl,rfl⟩
  ·have h3':(p.take pre.length==pre)=false:=by simpa using h3
   rw [h3'];go_enter func204,ntmps204;go_wp2;go_ret;exact⟨rfl,rfl⟩
 ·have h2':¬ (pre.length:Int)≤(p.length:Int):=by omega
  have h3':(p.take pre.length==pre)=false:=by
   rw [beq_eq_false_iff_ne];intro e;have:=congrArg List.length e;simp at this;omega
  rw [h3'];go_enter func204,ntmps204;go_wp2;go_ret;exact⟨rfl,rfl⟩
theorem Tryz.lcutPre (p pre:List UInt8) (w:World) :
  Calls prog 174 #[.string ⟨p.toArray⟩,.string ⟨pre.toArray⟩] w fun e w'=>e=.returned (.tuple (if p.take pre.length==pre then #[.string ⟨(p.drop pre.length).toArray⟩,.bool true] else #[.string ⟨p.toArray⟩,.bool false]))∧w'=w:=by
 have hH:=hasPre p pre w;have hx:=bytes_drop p pre.length
 by_cases h3:(p.take pre.length==pre)=true
 ·have hle:pre.length≤p.length:=by
   have h:=congrArg List.length (eq_of_beq h3);simp at h;omega
  have hle':(pre.length:Int)≤(p.length:Int):=by omega
  rw [h3] at hH;rw [if_pos h3];go_enter func174,ntmps174
  go_wp2_with (go_at_call 204;refine hH.mono ?_;rintro e w1 ⟨rfl,rfl⟩)
  exact bodyPost_ret (v:=.tuple #[.string ⟨(p.drop pre.length).toArray⟩,.bool true]) (by simp [results,results174,go_sem]) rfl ⟨rfl,rfl⟩
 ·rw [Bool.not_eq_true] at h3
  rw [h3] at hH;rw [if_neg (by simp [h3])];go_enter func174,ntmps174
  go_wp2_with (go_at_call 204;refine hH.mono ?_;rintro e w1 ⟨rfl,rfl⟩)
  exact bodyPost_ret (v:=.tuple #[.string ⟨p.toArray⟩,.bool false]) (by simp [results,results174,go_sem]) rfl ⟨rfl,rfl⟩
theorem Tryz.cutPre (p pre:List UInt8) (w:World) :
  Calls prog 142 #[.string ⟨p.toArray⟩,.string ⟨pre.toArray⟩] w fun e w'=>e=.returned (.tuple (if p.take pre.length==pre then #[.string ⟨(p.drop pre.length).toArray⟩,.bool true] else #[.string ⟨p.toArray⟩,.bool false]))∧w'=w:=by
 have hH:=lcutPre p pre w
 by_cases h3:(p.take pre.length==pre)=true
 ·rw [if_pos h3] at hH ⊢
  go_enter func142,ntmps142
  go_wp2_with (go_at_call 174;refine hH.mono ?_;rintro e w1 ⟨rfl,rfl⟩)
  exact bodyPost_ret (v:=.tuple #[.string ⟨(p.drop pre.length).toArray⟩,.bool true]) (by simp [results,results142,go_sem]) rfl ⟨rfl,rfl⟩
 ·rw [if_neg h3] at hH ⊢
  go_enter func142,ntmps142
  go_wp2_with (go_at_call 174;refine hH.mono ?_;rintro e w1 ⟨rfl,rfl⟩)
  exact bodyPost_ret (v:=.tuple #[.string ⟨p.toArray⟩,.bool false]) (by simp [results,results142,go_sem]) rfl ⟨rfl,rfl⟩
theorem Tryz.within (p pre:List UInt8) (w:World) :
  Calls prog 94 #[.string ⟨p.toArray⟩,.string ⟨pre.toArray⟩] w fun e w'=>e=.returned (.bool (beginsB p pre))∧w'=w:=by
 have hH:=cutPre p pre w
 by_cases h3:(p.take pre.length==pre)=true
 ·rw [if_pos h3] at hH
  have hle:pre.length≤p.length:=by
   have h:=congrArg List.length (eq_of_beq h3);simp at h;omega
  by_cases h0:pre = []
  ·subst h0
   rw [show beginsB p []=true from rfl];go_enter func94,ntmps94
   go_wp2_with (go_at_call 142;refine hH.mono ?_;rintro e w1 ⟨rfl,rfl⟩)
   go_ret;exact⟨rfl,rfl⟩
  ·have h0':(pre == [])=false:=by simpa using h0
   have hl0:((pre.length:Int)==0)=false:=by
    rw [beq_eq_false_iff_ne];intro e;exact h0 (List.length_eq_zero_iff.1 (by omega))
   by_cases h1:p=pre
   ·subst h1
    have hb:beginsB p p=true:=by simp [beginsB]
    have hd:p.drop p.length = []:=by simp
    rw [hb];rw [hd] at hH;go_enter func94,ntmps94
    go_wp2_with (go_at_call 142;refine hH.mono ?_;rintro e w1 ⟨rfl,rfl⟩)
    go_ret;exact⟨rfl,rfl⟩
   ·have hlt:pre.length<p.length:=by
     rcases Nat.lt_or_ge pre.length p.length with h | h
     ·exact h
     ·exact absurd (by rw [← eq_of_beq h3,List.take_of_length_le h]) h1
    obtain⟨c,r,hcr⟩:∃ c r,p.drop pre.length=c :: r:=by
     cases hd:p.drop pre.length with
     | nil=>have:=congrArg List.length hd;simp at this;omega
     | cons c r=>exact⟨c,r,rfl⟩
    have hpc:p[pre.length]? = some c:=by
     have:(p.drop pre.length)[0]? = some c:=by rw [hcr];rfl
     simpa using this
    have hb:beginsB p pre=(c==47):=by
     unfold beginsB;rw [hpc,h3];simp [h0,h1,hlt]
    have hck:∀ hp,((⟨(c :: r).toArray⟩:ByteArray)[0]'hp)=c:=fun hp=>rfl
    rw [hcr] at hH
    by_cases h4:c=47
    ·subst h4
     rw [hb];go_enter func94,ntmps94
     go_wp2_with (go_at_call 142;refine hH.mono ?_;rintro e w1 ⟨rfl,rfl⟩)
     all_goals try simp only [hck] at *
     go_ret;exact⟨rfl,rfl⟩
    ·have h4':(c==47)=false:=by simpa using h4
     have h5:((c.toNat:Int)==47)=false:=by
      rw [beq_eq_false_iff_ne];intro e;exact h4 (by apply UInt8.toNat_inj.1;simpa using Int.ofNat_inj.1 e)
     rw [hb,h4'];go_enter func94,ntmps94
     go_wp2_with (go_at_call 142;refine hH.mono ?_;rintro e w1 ⟨rfl,rfl⟩)
     all_goals try simp only [hck] at *
     go_ret;exact⟨rfl,rfl⟩
 ·rw [if_neg h3] at hH
  have hb:beginsB p pre=false:=by
   rw [Bool.not_eq_true] at h3;unfold beginsB;rw [h3]
   have h0:pre ≠ []:=fun e=>by rw [e] at h3;simp at h3
   have h1:p≠pre:=fun e=>by rw [e] at h3;simp at h3
   simp [h0,h1]
  rw [hb];go_enter func94,ntmps94
  go_wp2_with (go_at_call 142;refine hH.mono ?_;rintro e w1 ⟨rfl,rfl⟩)
  go_ret;exact⟨rfl,rfl⟩
end Go.Proofs
namespace Go.Proofs
open Go.RowKit Go.Sort Go.Lib Go.Shelf Go.Maps Go.WideMaps
theorem Tryz.insU64_one (v:Value) (w:World):Calls prog 254 #[v,.int .i64 0,.int .i64 1] w fun e w'=>e=.returned (.tuple #[])∧w'=w:=by
 go_enter func254,ntmps254;go_wp2;refine wp_loop_rounds 1 ?_;rw [rounds_succ];go_wp2
 go_end0
 exact⟨rfl,rfl⟩
theorem Tryz.pdqU64_one (v:Value) (w:World) (lim:Int):Calls prog 232 #[v,.int .i64 0,.int .i64 1,.int .i64 lim] w fun e w'=>e=.returned (.tuple #[])∧w'=w:=by
 have hI:=fun W=>insU64_one v W
 go_enter func232,ntmps232;go_wp2;refine wp_loop_rounds 1 ?_;rw [rounds_succ]
 go_wp2_with (go_at_call 254;refine(hI _).mono ?_;rintro e w1 ⟨rfl,rfl⟩)
 exact bodyPost_ret (v:=.tuple #[]) (by simp [results,results232,go_sem]) rfl ⟨rfl,rfl⟩
theorem Tryz.insStr_one (v:Value) (w:World):Calls prog 317 #[v,.int .i64 0,.int .i64 1] w fun e w'=>e=.returned (.tuple #[])∧w'=w:=by
 go_enter func317,ntmps317;go_wp2;refine wp_loop_rounds 1 ?_;rw [rounds_succ];go_wp2
 go_end0
 exact⟨rfl,rfl⟩
theorem Tryz.pdqStr_one (v:Value) (w:World) (lim:Int):Calls prog 316 #[v,.int .i64 0,.int .i64 1,.int .i64 lim] w fun e w'=>e=.returned (.tuple #[])∧w'=w:=by
 have hI:=fun W=>insStr_one v W
 go_enter func316,ntmps316;go_wp2;refine wp_loop_rounds 1 ?_;rw [rounds_succ]
 go_wp2_with (go_at_call 317;refine(hI _).mono ?_;rintro e w1 ⟨rfl,rfl⟩)
 exact bodyPost_ret (v:=.tuple #[]) (by simp [results,results316,go_sem]) rfl ⟨rfl,rfl⟩
theorem Tryz.bitsLen1 (w:World):Calls prog 226 #[.int .u64 1] w fun e w'=>(∃ z:Int,e=.returned (.int .i64 z))∧w'=w:=by
 go_enter func226,ntmps226;go_wp2;go_ret;exact⟨⟨_,rfl⟩,rfl⟩
theorem Tryz.sortU64_one (p:Option Addr) (cap:Nat) (w:World):Calls prog 211 #[.slice p 1 cap] w fun e w'=>e=.returned (.tuple #[])∧w'=w:=by
 have hL:=fun W=>bitsLen1 W
 have hI:=fun W lim=>pdqU64_one (.slice p 1 cap) W lim
 go_enter func211,ntmps211
 go_wp2_with (first
  | (go_at_call 226;refine(hL _).mono ?_;rintro e w1 ⟨⟨z,rfl⟩,rfl⟩)
  | (go_at_call 232;refine(hI _ _).mono ?_;rintro e w2 ⟨rfl,rfl⟩))
 go_end0
 exact⟨rfl,rfl⟩
theorem Tryz.slSortStr_one (p:Option Addr) (cap:Nat) (w:World):Calls prog 315 #[.slice p 1 cap] w fun e w'=>e=.returned (.tuple #[])∧w'=w:=by
 have hL:=fun W=>bitsLen1 W
 have hI:=fun W lim=>pdqStr_one (.slice p 1 cap) W lim
 go_enter func315,ntmps315
 go_wp2_with (first
  | (go_at_call 226;refine(hL _).mono ?_;rintro e w1 ⟨⟨z,rfl⟩,rfl⟩)
  | (go_at_call 316;refine(hI _ _).mono ?_;rintro e w2 ⟨rfl,rfl⟩))
 go_end0
 exact⟨rfl,rfl⟩
theorem Tryz.sortStrings_one (p:Option Addr) (cap:Nat) (w:World):Calls prog 312 #[.slice p 1 cap] w fun e w'=>e=.returned (.tuple #[])∧w'=w:=by
 have hI:=fun W=>slSortStr_one p cap W
 go_enter func312,ntmps312
 go_wp2_with (go_at_call 315;refine(hI _).mono ?_;rintro e w2 ⟨rfl,rfl⟩)
 go_end0
 exact⟨rfl,rfl⟩
theorem Tryz.trimL_j (w:World):Calls prog 253 #[.string ⟨#[106,111,117,114,110,97,108]⟩,.string ⟨#[106,111,117,114,110,97,108]⟩] w fun e w'=>e=.returned (.string ⟨#[]⟩)∧w'=w:=by
 have hH:=fun W=>hasPre jName jName W
 rw [show (jName.take jName.length==jName)=true by decide] at hH;unfold jName at hH;go_enter func253,ntmps253
 go_wp2_with (go_at_call 204;refine(hH _).mono ?_;rintro e w1 ⟨rfl,rfl⟩)
 go_ret;exact⟨rfl,rfl⟩
theorem Tryz.trimP_j (w:World):Calls prog 231 #[.string ⟨#[106,111,117,114,110,97,108]⟩,.string ⟨#[106,111,117,114,110,97,108]⟩] w fun e w'=>e=.returned (.string ⟨#[]⟩)∧w'=w:=by
 go_enter func231,ntmps231
 go_wp2_with (go_at_call 253;refine(trimL_j _).mono ?_;rintro e w1 ⟨rfl,rfl⟩)
 go_ret;exact⟨rfl,rfl⟩
theorem Tryz.numberOf_j (w:World) (hE:Env w):Calls prog 210 #[.string ⟨#[106,111,117,114,110,97,108]⟩] w fun e w'=>e=.returned (.tuple #[.int .u64 0,.bool true])∧Below w.heap.size w w':=by
 have hP:=parseU [] (by decide) w hE;rw [show puV []=0 by decide] at hP;go_enter func210,ntmps210
 go_wp2_with (first
  | (go_at_call 231;refine(trimP_j _).mono ?_;rintro e w1 ⟨rfl,rfl⟩)
  | (go_at_call 118;refine hP.mono ?_;rintro e w2 ⟨er,rfl,hb2⟩)
  | (go_at_call 175;refine(fileOf0 _).mono ?_;rintro e w3 ⟨rfl,rfl⟩))
 go_ret2
 exact⟨rfl,hb2⟩
end Go.Proofs
