import Derived.Test.YtjbekgjdempbiaaGreatDoorJDiskC
import Derived.Maps.RangeWalk
import Derived.Test.YtjbekgjdempbiaaGreatDoorJOpnA
import Derived.Test.YtjbekgjdempbiaaGreatDoorJMapOps
import Derived.Test.YtjbekgjdempbiaaGreatDoorJQueA
import Derived.Deep.Slices
import Derived.ChangeArms
import Derived.SizedLaws
set_option maxRecDepth 100000
set_option maxHeartbeats 8000000
namespace Go.Proofs
open Go.RowKit Go.Sort Go.Maps Go.WideMaps
theorem Tryz.Xk9 (w:World):Calls prog 254 #[.slice none 0 0,.int .i64 0,.int .i64 0] w fun e w'=>e=.returned (.tuple #[])/\w'=w:=by
 go_enter func254,ntmps254;go_wp2;refine wp_loop_rounds 1 ?_;rw [rounds_succ];go_wp2
 go_end0
 exact⟨rfl,rfl⟩
theorem Tryz.Xkz (w:World) (lim:Int):Calls prog 232 #[.slice none 0 0,.int .i64 0,.int .i64 0,.int .i64 lim] w fun e w'=>e=.returned (.tuple #[])/\w'=w:=by
 have hI:=fun W=>Xk9 W
 go_enter func232,ntmps232;go_wp2;refine wp_loop_rounds 1 ?_;rw [rounds_succ]
 go_wp2_with (go_at_call 254;refine(hI _).mono ?_;rintro e w1 ⟨rfl,rfl⟩)
 exact bodyPost_ret (v:=.tuple #[]) (by simp [results,results232,go_sem]) rfl ⟨rfl,rfl⟩
theorem Tryz.Xlz (w:World):Calls prog 317 #[.slice none 0 0,.int .i64 0,.int .i64 0] w fun e w'=>e=.returned (.tuple #[])/\w'=w:=by
 go_enter func317,ntmps317;go_wp2;refine wp_loop_rounds 1 ?_;rw [rounds_succ];go_wp2
 go_end0
 exact⟨rfl,rfl⟩
theorem Tryz.Xml (w:World) (lim:Int):Calls prog 316 #[.slice none 0 0,.int .i64 0,.int .i64 0,.int .i64 lim] w fun e w'=>e=.returned (.tuple #[])/\w'=w:=by
 have hI:=fun W=>Xlz W
 go_enter func316,ntmps316;go_wp2;refine wp_loop_rounds 1 ?_;rw [rounds_succ]
 go_wp2_with (go_at_call 317;refine(hI _).mono ?_;rintro e w1 ⟨rfl,rfl⟩)
 exact bodyPost_ret (v:=.tuple #[]) (by simp [results,results316,go_sem]) rfl ⟨rfl,rfl⟩
theorem Tryz.Xj7 (w:World):Calls prog 226 #[.int .u64 0] w fun e w'=>(∃ z:Int,e=.returned (.int .i64 z))/\w'=w:=by
 go_enter func226,ntmps226;go_wp2;go_ret;exact⟨⟨_,rfl⟩,rfl⟩
theorem Tryz.Xj6 (w:World):Calls prog 211 #[.slice none 0 0] w fun e w'=>e=.returned (.tuple #[])/\w'=w:=by
 have hL:=fun W=>Xj7 W
 have hI:=fun W lim=>Xkz W lim
 go_enter func211,ntmps211
 go_wp2_with (first
  | (go_at_call 226;refine(hL _).mono ?_;rintro e w1 ⟨⟨z,rfl⟩,rfl⟩)
  | (go_at_call 232;refine(hI _ _).mono ?_;rintro e w2 ⟨rfl,rfl⟩))
 go_end0
 exact⟨rfl,rfl⟩
theorem Tryz.Xfy (w:World):Calls prog 315 #[.slice none 0 0] w fun e w'=>e=.returned (.tuple #[])/\w'=w:=by
 have hL:=fun W=>Xj7 W
 have hI:=fun W lim=>Xml W lim
 go_enter func315,ntmps315
 go_wp2_with (first
  | (go_at_call 226;refine(hL _).mono ?_;rintro e w1 ⟨⟨z,rfl⟩,rfl⟩)
  | (go_at_call 316;refine(hI _ _).mono ?_;rintro e w2 ⟨rfl,rfl⟩))
 go_end0
 exact⟨rfl,rfl⟩
theorem Tryz.Xdw (w:World):Calls prog 312 #[.slice none 0 0] w fun e w'=>e=.returned (.tuple #[])/\w'=w:=by
 have hI:=fun W=>Xfy W
 go_enter func312,ntmps312
 go_wp2_with (go_at_call 315;refine(hI _).mono ?_;rintro e w2 ⟨rfl,rfl⟩)
 go_end0
 exact⟨rfl,rfl⟩
theorem Tryz.Xk7 (db md mn:Nat) (fd:Option (Nat × List UInt8)) (l f:Int) (w:World) (hD:Xj w db md mn fd none (.slice none 0 0) l f) :
  Calls prog 306 #[.pointer (some ⟨db,0,none⟩)] w fun e w'=>e=.returned (.tuple #[.slice none 0 0,.nilIface])/\Below w.heap.size w w':=by
 have hS:=fun W=>Xdw W
 have d1:=hD.box.cell 1 (v:=.map (some mn)) rfl;have d5:=hD.box.cell 5 (v:=.bool false) rfl;obtain⟨n,hn,hown⟩:=hD.nm
 change w.ownsMap prog 9 Ye mn n (.map []) at hown
 go_enter func306,ntmps306
 go_wp2_with (first
  | (at_range;refine wpList_range_own _ rfl _ 97 rfl 9 101 (string_keyed underlying9) underlying97 _ mn n _ rfl hown ?_;intro w1 hrg hg1 hs1)
  | go_in)
 have HB:=Xb (show Below w.heap.size w w1 from ⟨hg1.os,hg1.tape,hg1.output,hg1.size,fun k hk=>hg1.block k hk (by simp)⟩);clear hg1 hs1 hown d1 d5;refine wp_loop_rounds 1 ?_;rw [rounds_succ]
 go_wp2_with (first
  | (at_next;refine wpList_next_ranges _ rfl _ rfl 9 (string_keyed underlying9) Ye (fun v:Value=>v) (fun v:Value=>v) (fun v _ _=>⟨v,rfl⟩) (fun v _ _=>⟨v,rfl⟩) mn _ n _ _ _ rfl hrg ?_ ?_)
  | go_in)
 ·intro _ _
  clear hrg
  go_wp2_with (go_at_call 312;refine(hS _).mono ?_;rintro e w2 ⟨rfl,rfl⟩)
  exact bodyPost_ret (v:=.tuple #[.slice none 0 0,.nilIface]) (by simp [results,results306,go_sem]) rfl ⟨rfl,Xa HB⟩
 intro x c kl y yp w' cnt' _ h2;have h3:false=true:=h2;cases h3
theorem Tryz.Xk4 (db md mn:Nat) (fd:Option (Nat × List UInt8)) (l f:Int) (w:World) (hD:Xj w db md mn fd none (.slice none 0 0) l f) :
  Calls prog 307 #[.pointer (some ⟨db,0,none⟩),.string ⟨#[106,111,117,114,110,97,108]⟩] w fun e w'=>e=.returned (.tuple #[.slice none 0 0,.iface 33 (.int .i64 6)])/\w'=w:=by
 have d1:=hD.box.cell 1 (v:=.map (some mn)) rfl;have d5:=hD.box.cell 5 (v:=.bool false) rfl;obtain⟨n,hn,hown⟩:=hD.nm;have hL:=Xe2 hown;go_enter func307,ntmps307;go_wp2;exact bodyPost_ret (v:=.tuple #[.slice none 0 0,.iface 33 (.int .i64 6)]) (by simp [results,results307,go_sem]) rfl ⟨rfl,rfl⟩
end Go.Proofs
namespace Go.Proofs
open Go.RowKit Go.Sort Go.Lib Go.Shelf Go.Maps
attribute [local go_sem] Oper.semAt_some
theorem Tryz.Xcb (db:Nat) (w:World):Sem.run prog (method 517 74 (.pointer (some ⟨db,0,none⟩)) "Names") w=.ok (306,.pointer (some ⟨db,0,none⟩)) w:=by kernel_rfl
theorem Tryz.Xdp (db:Nat) (w:World):Sem.run prog (method 517 74 (.pointer (some ⟨db,0,none⟩)) "Read") w=.ok (307,.pointer (some ⟨db,0,none⟩)) w:=by kernel_rfl
theorem Tryz.Xm1:(prog.info? (Xa5.t 9)).map (fun i=>(i.zero,i.size,i.bytes))=some (some (.string ByteArray.empty),1,16):=by kernel_rfl
theorem Tryz.Xiv (tv:Value) (w:World) (hE:Env w) (h9:9<=w.heap.size) (hG:Ja w) :
  Calls prog 147 #[.string ⟨#[]⟩,tv] w fun e w'=>e=.returned (.tuple #[])/\Below w.heap.size w w':=by
 have hG':=hG;obtain⟨-,m,hm⟩:=hG';have hSp:=Any.strings_Split Xg1 Xm1 ⟨#[]⟩ ⟨#[10]⟩ m w (by decide) hm (by decide);rw [show Lib.countB ⟨#[]⟩ ⟨#[10]⟩=0 by decide,show Lib.splitB ⟨#[10]⟩ 0 0 ⟨#[]⟩ = [⟨#[]⟩] by rfl] at hSp
 change Calls prog 184 _ _ _ at hSp
 have hTx:=fun W (hb:Below w.heap.size w W)=>textOf [] W (by decide) (by simp) (hE.below hb (by omega)) (Nat.le_trans h9 hb.size) (hG.below (hb.mono h9))
 rw [show wholeB []=false by decide,show txtL [] = [] by rfl] at hTx;have bS:=BoxN.new w 9 #[.string ⟨#[]⟩];have hB0:Below w.heap.size w (w.alloc (.cells #[.string ⟨#[]⟩] 9)):=(Below.refl _ w).alloc (Nat.le_refl _) _;have s0:=bS.cell 0 (v:=.string ⟨#[]⟩) rfl;go_enter func147,ntmps147
 go_wp2_with (go_at_call 184;refine hSp.mono ?_;rintro e w1 ⟨rfl,rfl⟩)
 refine wp_loop_rounds 2 ?_;rw [rounds_succ]
 go_wp2_with (go_at_call 185;refine(hTx _ hB0).mono ?_;rintro e w2 ⟨rfl,hb2⟩)
 rw [rounds_succ];go_wp2
 go_end0
 exact⟨rfl,hB0.trans (hb2.mono (by simp))⟩
theorem Tryz.Xf5 (db md mn:Nat) (fd:Option (Nat × List UInt8)) (l f:Int) (w:World) (hD:Xj w db md mn fd none (.slice none 0 0) l f) :
  Calls prog 180 #[Yg db] w fun e w'=>e=.returned (.tuple #[.slice none 0 0,.nilIface])/\Below w.heap.size w w':=by
 have hm:=fun W=>Xcb db W
 have hN:=Xk7 db md mn fd l f w hD
 have hS:=fun W=>Xj6 W
 unfold Yg;go_enter func180,ntmps180
 go_wp2_with (go_at_call 306;refine hN.mono ?_;rintro e w1 ⟨rfl,hb1⟩)
 refine wp_loop_rounds 1 ?_;rw [rounds_succ]
 go_wp2_with (go_at_call 211;refine(hS _).mono ?_;rintro e w2 ⟨rfl,rfl⟩)
 go_ret2
 exact⟨rfl,hb1⟩
theorem Tryz.Xmg (jb db md mn:Nat) (c1 c2:Value) (fd:Option (Nat × List UInt8)) (l f:Int) (w:World) (hJ:BoxN w jb 212 #[Yg db,c1,c2]) (hD:Xj w db md mn fd none (.slice none 0 0) l f) :
  Calls prog 183 #[.pointer (some ⟨jb,0,none⟩)] w fun e w'=>e=.returned (.tuple #[.string ⟨#[]⟩,.nilIface])/\w'=w:=by
 have hm:=fun W=>Xdp db W
 have hR:=Xk4 db md mn fd l f w hD
 have hI:=fun W=>Xp9 6 (by simp [Mm]) W
 have j0:=hJ.cell 0 (v:=Yg db) rfl;unfold Yg at j0;go_enter func183,ntmps183
 go_wp2_with (first
  | (go_at_call 307;refine hR.mono ?_;rintro e w1 ⟨rfl,rfl⟩)
  | (go_at_call 70;refine(hI _).mono ?_;rintro e w2 ⟨rfl,rfl⟩))
 go_ret2
 exact⟨rfl,rfl⟩
theorem Tryz.Xh7 (w:World):Calls prog 181 #[.slice none 0 0] w fun e w'=>e=.returned (.func (.func 212) #[] #[.pointer (some ⟨w.heap.size,0,none⟩)])/\w'=w.alloc (.cells #[.slice none 0 0] 272):=by
 go_enter func181,ntmps181;go_wp2;go_ret;exact⟨rfl,rfl⟩
theorem Tryz.Xf7 (y:Value) (b:Nat) (w:World) (hb:BoxN w b 272 #[.slice none 0 0]):Calls prog 212 #[y,.pointer (some ⟨b,0,none⟩)] w fun e w'=>e=.returned (.tuple #[])/\w'=w:=by
 have c0:=hb.cell 0 (v:=.slice none 0 0) rfl;go_enter func212,ntmps212;go_wp2;refine wp_loop_rounds 1 ?_;rw [rounds_succ];go_wp2
 go_end0
 exact⟨rfl,rfl⟩
theorem Xvb (ps:Array Tmp) (x:Empty):((fun y:Empty=>(nomatch y:Array Value)) x).size=ps.size:=nomatch x
theorem Tryz.Xor (jb db md mn:Nat) (c1 c2:Value) (fd:Option (Nat × List UInt8)) (l f:Int) (w:World) (hJ:BoxN w jb 212 #[Yg db,c1,c2]) (hD:Xj w db md mn fd none (.slice none 0 0) l f) :
  CallsIn Fence.wide 9 prog 146 #[.pointer (some ⟨jb,0,none⟩)] w fun e w'=>e=.returned (.tuple #[.string ⟨#[]⟩,.nilIface])/\Below w.heap.size w w':=by
 have j0:=hJ.cell 0 (v:=Yg db) rfl;unfold Yg at j0;have lJ:=hJ.lt;have hB0:Below w.heap.size w (((w.alloc (.cells #[.pointer (some ⟨jb,0,none⟩)] 117)).alloc (.cells #[.string ⟨#[]⟩] 9)).alloc (.cells #[.nilIface] 81)):=(((Below.refl _ w).alloc (Nat.le_refl _) _).alloc (by simp) _).alloc (by simp;omega) _;have bP:=((BoxN.new w 117 #[.pointer (some ⟨jb,0,none⟩)]).alloc (.cells #[.string ⟨#[]⟩] 9)).alloc (.cells #[.nilIface] 81);have bS:=(BoxN.new (w.alloc (.cells #[.pointer (some ⟨jb,0,none⟩)] 117)) 9 #[.string ⟨#[]⟩]).alloc (.cells #[.nilIface] 81);have bE:=BoxN.new ((w.alloc (.cells #[.pointer (some ⟨jb,0,none⟩)] 117)).alloc (.cells #[.string ⟨#[]⟩] 9)) 81 #[.nilIface];simp only [World.size_alloc] at bS bE;have hN:=Xf5 db md mn fd l f _ (hD.below hB0);unfold Yg at hN;have j0w:=cell_later hB0 j0;have hf1:Fence.wide.fn 180:=trivial;have hf2:Fence.wide.fn 181:=trivial;have hf3:Fence.wide.fn 183:=trivial;refine callsIn_of_wp_marks func146 rfl trivial ?_ rfl;simp only [ntmps146,List.size_toArray,List.length_cons,List.length_nil,Nat.reduceAdd,Nat.reduceSub,Array.replicate_succ,Array.replicate_zero,List.push_toArray,List.append_toArray,List.nil_append,List.cons_append]
 gi_wp2_with (first
  | (gi_at_call 180;refine(callsIn_wide.2 hN).mono ?_;rintro e w1 ⟨rfl,hb1⟩)
  | (gi_at_call 181;refine(callsIn_wide.2 (Xh7 _)).mono ?_;rintro e w2 ⟨rfl,rfl⟩))
 have hB1:=hB0.trans (hb1.mono (by simp;omega));have bP1:=(bP.below hb1 (by simp;omega)).alloc (.cells #[.slice none 0 0] 272);have bS1:=(bS.below hb1 (by simp)).alloc (.cells #[.slice none 0 0] 272);have bE1:=(bE.below hb1 (by simp)).alloc (.cells #[.slice none 0 0] 272);have bX1:=BoxN.new w1 272 #[.slice none 0 0];have hB2:=hB1.alloc hB1.size (.cells #[.slice none 0 0] 272)
 have hsz:(w1.alloc (.cells #[.slice none 0 0] 272)).heap.size=w1.heap.size+1:=by simp
 have hz1:=hB1.size
 obtain⟨W2,hW2⟩:∃ W2,w1.alloc (.cells #[.slice none 0 0] 272)=W2:=⟨_,rfl⟩
 rw [hW2] at bP1 bS1 bE1 bX1 hB2 hsz ⊢;clear hW2 bP bS bE hN j0w
 have hseq:Xs5 (α:=Empty) 8 prog 212 #[.pointer (some ⟨w1.heap.size,0,none⟩)] (fun x=>nomatch x) (fun _=>True) (fun _ _=>True) (fun xs=>xs = []) (fun _=>False) 0 W2:=by
  intro l J Jx W hb _ _ _ _ h0;refine(callsIn_wide.2 (Xf7 (.func (.yield l) #[] #[]) w1.heap.size W (bX1.below hb bX1.lt))).mono ?_;rintro e W' ⟨rfl,rfl⟩;exact⟨⟨_,rfl⟩,.inl ⟨[],rfl,h0⟩⟩
 refine Vd (n:=9) (by omega) (gf:=212) (lb:=#[.pointer (some ⟨w1.heap.size,0,none⟩)]) rfl (enters_of func212 (by kernel_rfl) rfl) hseq (fun _ _=>trivial) (fun _ _ _ _ _ _ _ _=>trivial) (Below.refl _ _) (fun x=>nomatch x)
  (fun _ V=>((BoxN V w.heap.size 117 #[.pointer (some ⟨jb,0,none⟩)]/\BoxN V (w.heap.size+1) 9 #[.string ⟨#[]⟩])/\BoxN V (w.heap.size+1+1) 81 #[.nilIface])/\Below w.heap.size w V)
  (fun _ _ _=>False)
  (OwnFrom.and (OwnFrom.and (OwnFrom.and (Own.from (Xy _ _ (fun _=>#[.pointer (some ⟨jb,0,none⟩)])) _) (Own.from (Xy _ _ (fun _=>#[.string ⟨#[]⟩])) _)) (Own.from (Xy _ _ (fun _=>#[.nilIface])) _)) (ownFrom_below (Nat.le_refl _) (by omega)))
  (fun _ _ _ _ _ hs _ _=>hs)
  (fun _ _ _=>trivial)
  ⟨⟨⟨bP1,bS1⟩,bE1⟩,hB2⟩
  (fun x _ _=>nomatch x) (fun x=>nomatch x)
  (fun _ _ x=>nomatch x) (fun _ _ x=>nomatch x) ?done ?stop
 case done =>
  rintro D zs V hD0 rfl ⟨⟨⟨bPV,bSV⟩,bEV⟩,hBV⟩ hK;have hF:=Xmg jb db md mn c1 c2 fd l f V (hJ.below hBV hJ.lt) (hD.below hBV);have p0:=bPV.cell 0 (v:=.pointer (some ⟨jb,0,none⟩)) rfl;have s0:=bSV.cell 0 (v:=.string ⟨#[]⟩) rfl;have s0f:=bSV.frozen 0;have e0:=bEV.cell 0 (v:=.nilIface) rfl;have e0f:=bEV.frozen 0
  gi_wp2_with (gi_at_call 183;refine(callsIn_wide.2 hF).mono ?_;rintro e w3 ⟨rfl,rfl⟩)
  have bS2:=(bSV.set 0 (.string ⟨#[]⟩)).other (B':=w.heap.size+1+1) (by omega) 0 .nilIface;have bE2:=(bEV.other (B':=w.heap.size+1) (by omega) 0 (.string ⟨#[]⟩)).set 0 .nilIface
  have hK2:((w3.setCell ⟨w.heap.size+1,0,none⟩ (.string ⟨#[]⟩)).setCell ⟨w.heap.size+1+1,0,none⟩ .nilIface).heap[D]? = some (.deferred (some [])):=by
   have:=bE1.lt;rw [Yt _ _ _ _ _ (by omega),Yt _ _ _ _ _ (by omega)];exact hK
  have hB5:=(hBV.setCell (p:=⟨w.heap.size+1,0,none⟩) (by simp) (.string ⟨#[]⟩)).setCell (p:=⟨w.heap.size+1+1,0,none⟩) (by simp;omega) .nilIface;generalize (w3.setCell ⟨w.heap.size+1,0,none⟩ (.string ⟨#[]⟩)).setCell ⟨w.heap.size+1+1,0,none⟩ .nilIface=W5 at *;refine⟨by simp,.inl ⟨_,_,rfl,run_takeDeferred hK2,?_⟩⟩;have bS6:BoxN (W5.putObj D (.deferred none)) (w.heap.size+1) 9 (#[.string ⟨#[]⟩].setIfInBounds 0 (.string ⟨#[]⟩)):=(World.putObj_heap_other (by have:=bE1.lt;omega)).trans bS2;have bE6:BoxN (W5.putObj D (.deferred none)) (w.heap.size+1+1) 81 (#[.nilIface].setIfInBounds 0 .nilIface):=(World.putObj_heap_other (by have:=bE1.lt;omega)).trans bE2;have q1:=bS6.cell 0 (v:=.string ⟨#[]⟩) rfl;have q2:=bE6.cell 0 (v:=.nilIface) rfl;exact⟨.tuple #[.string ⟨#[]⟩,.nilIface],by simp [results,results146,go_sem,q1,q2],rfl,hB5.trans (belowK_b (w:=w) (Nat.le_refl _) W5 D _ _ (by omega) hK2 rfl rfl)⟩
 case stop =>
  rintro D c pre V _ _ h _;exact h.elim
end Go.Proofs
namespace Go.Proofs
open Go.RowKit Go.Sort Go.Lib Go.Shelf Go.Maps
theorem Tryz.Xoa (db md mn:Nat) (fd:Option (Nat × List UInt8)) (l f:Int) (tv:Value) (w:World) (hD:Xj w db md mn fd none (.slice none 0 0) l f) (hE:Env w) (h9:9<=w.heap.size) (hG:Ja w) :
  Calls prog 99 #[Yg db,tv] w fun e w'=>e=.returned (.tuple #[.pointer (some ⟨w.heap.size,0,none⟩),.nilIface])/\BoxN w' w.heap.size 212 #[Yg db,.int .u64 0,.nilIface]/\Below w.heap.size w w':=by
 have hB0:Below w.heap.size w (w.alloc (.cells #[Yg db,.int .u64 0,.nilIface] 212)):=(Below.refl _ w).alloc (Nat.le_refl _) _;have bJ:=BoxN.new w 212 #[Yg db,.int .u64 0,.nilIface];have hF:=callsIn_wide.1 (Xor w.heap.size db md mn _ _ fd l f _ bJ (hD.below hB0))
 have hT:=fun W (hb:Below w.heap.size w W)=>Xiv tv W (hE.below hb (by omega)) (Nat.le_trans h9 hb.size) (hG.below (hb.mono h9))
 unfold Yg at hF hB0 bJ ⊢;go_enter func99,ntmps99
 go_wp2_with (first
  | (go_at_call 146;refine hF.mono ?_;rintro e w1 ⟨rfl,hb1⟩;have hB1:=hB0.trans (hb1.mono (by simp));have bJ1:=bJ.below hb1 (by simp))
  | (go_at_call 147;refine(hT _ hB1).mono ?_;rintro e w2 ⟨rfl,hb2⟩))
 go_ret2
 exact⟨rfl,bJ1.below hb2 bJ1.lt,hB1.trans (hb2.mono hB1.size)⟩
def Tryz.Vt:Value:=.agg #[.int .i64 0,.int .u64 0,.int .u64 18446744073709551615,.int .i64 0,.bool false]
theorem Tryz.Xid:(DataW.map []).put (nmL (1,0)) (.held Vt)=mapD ([rootE].map Xd.key).reverse:=by rfl
theorem Xla:Xx [rootE] []:=⟨by simp,by simp,by simp,by simp,fun t ht=>by rw [List.mem_singleton.1 ht];exact⟨by show (0:Nat)<Xo;decide,by show (0:Nat)<Xo;decide⟩,fun l hl=>(by cases hl)⟩
theorem Tryz.Xi9 (db md mn rb:Nat) (l f now:Int) (w:World) (hD:Xj w db md mn none none (.slice none 0 0) l f) (hE:Env w) (h9:9<=w.heap.size) (hG:Ja w) (t0:0<=now) (t1:now<=18446744073709551615) (d9:9<=db/\9<=md/\9<=mn) :
  Calls prog 55 #[Yg db,.iface 75 (.pointer (some ⟨rb,0,none⟩)),.int .u64 now] w fun e w'=>∃ vb mt ml jb,e=.returned (.tuple #[.pointer (some ⟨vb,0,none⟩),.nilIface])/\Whole w' ⟨vb,mt,ml,jb,db,md,mn⟩ ⟨.pointer (some ⟨jb,0,none⟩),.iface 75 (.pointer (some ⟨rb,0,none⟩)),false,.slice none 0 0⟩ now ⟨0,0,[rootE],[]⟩ [] l f/\(w.heap.size<=vb/\w.heap.size<=mt/\w.heap.size<=ml/\w.heap.size<=jb)/\Below w.heap.size w w':=by
 have hmkT:∀ W,(Instr.makeMap 120 none).run prog W=.ok (.map (some W.heap.size)) (W.alloc (.map #[] 0)):=fun W=>run_makeMap _ W
 have hmkL:∀ W,(Instr.makeMap 121 none).run prog W=.ok (.map (some W.heap.size)) (W.alloc (.map #[] 0)):=fun W=>run_makeMap _ W
 have hR:=fun W=>root W
 unfold nmV at hR;have hM:=World.ownsMap_made w prog 114 Ye;have hB0:Below w.heap.size w (w.alloc (.map #[] 0)):=(Below.refl _ w).alloc (Nat.le_refl _) _
 have hO:=fun W tv (hb:Below w.heap.size w W)=>Xoa db md mn none l f tv W (hD.below hb) (hE.below hb (by omega)) (Nat.le_trans h9 hb.size) (hG.below (hb.mono h9))
 unfold Yg at hO ⊢;go_enter func55,ntmps55
 go_wp2_with (first
  | (go_at_call 85;refine(hR _).mono ?_;rintro e w1 ⟨rfl,hb1⟩;have hM1:=Y8 hM hb1;have hB1:=hB0.trans (hb1.mono (by simp));obtain⟨w2,hrun,hM2,hT2⟩:=hM1.store Y1 underlying120 (by decide) (key:=nmV (1,0)) (val:=Vt) (Xz.keyOf ⟨by decide,by decide⟩) (d:=.held Vt) (ps:=[]) rfl;have hB2:=hB1.grown hT2.grown hB1.size (fun q hq=>by cases hq;omega);have hB4:=hB2.alloc hB2.size (.map #[] 0);have hB5:=hB4.alloc hB4.size (.cells #[.pointer none,.iface 75 (.pointer (some ⟨rb,0,none⟩)),.int .u64 now,.map (some w.heap.size),.map (some w2.heap.size),.int .u64 0,.int .u64 0,.bool false,.slice none 0 0] 126);unfold nmV Vt at hrun)
  | (go_at_call 99;refine(hO _ _ hB5).mono ?_;rintro e w6 ⟨rfl,bJ6,hb6⟩;have bV5:=BoxN.new (w2.alloc (.map #[] 0)) 126 #[.pointer none,.iface 75 (.pointer (some ⟨rb,0,none⟩)),.int .u64 now,.map (some w.heap.size),.map (some w2.heap.size),.int .u64 0,.int .u64 0,.bool false,.slice none 0 0];rw [World.size_alloc] at bV5;have bV6:=bV5.below hb6 (by simp);have v0:=bV6.cell 0 (v:=.pointer none) rfl;have v0f:=bV6.frozen 0))
 simp only [World.size_alloc] at bJ6;have hz2:=hB2.size;have hMl5:=(World.ownsMap_made w2 prog 114 Ye).alloc (.cells #[.pointer none,.iface 75 (.pointer (some ⟨rb,0,none⟩)),.int .u64 now,.map (some w.heap.size),.map (some w2.heap.size),.int .u64 0,.int .u64 0,.bool false,.slice none 0 0] 126);have hMt5:=(hM2.alloc (.map #[] 0)).alloc (.cells #[.pointer none,.iface 75 (.pointer (some ⟨rb,0,none⟩)),.int .u64 now,.map (some w.heap.size),.map (some w2.heap.size),.int .u64 0,.int .u64 0,.bool false,.slice none 0 0] 126);have hMl6:=Y8 hMl5 hb6;have hMt6:=Y8 hMt5 hb6;have hB6:=hB5.trans (hb6.mono hB5.size);have hB7:=hB6.setCell (p:=⟨w2.heap.size+1,0,none⟩) (by simp;omega) (.pointer (some ⟨w2.heap.size+1+1,0,none⟩));have hS7:Spares [w2.heap.size+1] w6 (w6.setCell ⟨w2.heap.size+1,0,none⟩ (.pointer (some ⟨w2.heap.size+1+1,0,none⟩))):=(Spares.of_below (Below.refl _ _)).set (by simp) _ _;have hMl7:=hS7.map hMl6 (by simp);have hMt7:=hS7.map hMt6 (by simp;have:=hM2.lt;omega);have bJ7:=hS7.box bJ6 (by simp);have bV7:=bV6.set 0 (.pointer (some ⟨w2.heap.size+1+1,0,none⟩));have hD7:=hD.below hB7;rw [show ((DataW.map []).put (Lit.string (nmB (1,0))) (.held Vt))=mapD ([rootE].map Xd.key).reverse from Xid] at hMt7
 exact bodyPost_ret (v:=.tuple #[.pointer (some ⟨w2.heap.size+1,0,none⟩),.nilIface]) (by simp [results,results55,go_sem]) rfl ⟨w2.heap.size+1,w.heap.size,w2.heap.size,w2.heap.size+1+1,rfl,
  { v:={ va:=⟨bV7,⟨⟨_,by decide,hMt7⟩,⟨0,by decide,hMl7⟩⟩,Xla,hE.below hB7 (by omega),by have:=hB7.size;omega⟩,nt:=fun t ht=>by rw [List.mem_singleton.1 ht];exact Nat.le_refl _,nl:=fun l hl=>(by cases hl),t0:=t0,t1:=t1,okT:=fun t ht=>by rw [List.mem_singleton.1 ht];exact⟨by decide,by decide,by decide,by decide,.inr (.inr ⟨rfl,rfl⟩)⟩,okL:=fun l hl=>(by cases hl),mne:=by have:=hM2.lt;show w.heap.size≠w2.heap.size;omega,v9:=by show 9<=w2.heap.size+1;omega,m9:=h9,l9:=by show 9<=w2.heap.size;omega },jn:=rfl,j:=bJ7,d:=⟨none,none,hD7,Fl.none,Fl.none⟩,j9:=by show 9<=w2.heap.size+1+1;omega,d9:=d9.1,md9:=d9.2.1,mn9:=d9.2.2,ne1:=by have:=hD.lt;show md≠w.heap.size/\md≠w2.heap.size/\mn≠w.heap.size/\mn≠w2.heap.size;omega,log:=Log.nil now },by omega,hB7⟩
abbrev U2 (hb db rb:Nat) (W:World):Prop:=W.cell? ⟨hb,0,none⟩=some (.pointer (some ⟨db,0,none⟩))/\W.cell? ⟨hb,1,none⟩=some (.pointer (some ⟨rb,0,none⟩))
theorem U2.drew {hb db rb:Nat} {W:World} (h:U2 hb db rb W):U2 hb db rb W.drew:=h
theorem Tryz.Xuy (B hb db rb md mn:Nat) (vv ra rc:Value) (l f:Int) (now c d:Int) (w:World) (hH:BoxN w hb 78 #[.pointer (some ⟨db,0,none⟩),.pointer (some ⟨rb,0,none⟩),vv]) (hD:Xj w db md mn none none (.slice none 0 0) l f) (hR:BoxN w rb 88 #[ra,rc]) (hlo:B<=hb/\B<=db/\B<=rb/\B<=md/\B<=mn) (hBw:B<=w.heap.size) (b9:9<=B) (hE:Env w) (hG:Ja w) (t0:0<=now) (t1:now<=18446744073709551615) :
  Calls prog 33 #[.pointer (some ⟨hb,0,none⟩),.int .u64 now,Yo (-1) (-1) c d] w fun e w'=>e=.returned (.int .i64 0)/\(∃ k vx,Sys B w' hb rb ⟨k,vx,now,⟨0,0,[rootE],[]⟩,[]⟩)/\Below B w w':=by
 obtain⟨lo1,lo2,lo3,lo4,lo5⟩:=hlo;have hne:=hH.ne hD.box (by decide);have hnr:=hH.ne hR (by decide);have hnd:=hD.box.ne hR (by decide);have lH:=hH.lt;have lD:=hD.lt;have bF:=BoxN.new w 29 #[.int .i64 (-1),.int .i64 (-1),.int .i64 c,.int .i64 d];have hB0:Below w.heap.size w (w.alloc (.cells #[.int .i64 (-1),.int .i64 (-1),.int .i64 c,.int .i64 d] 29)):=(Below.refl _ w).alloc (Nat.le_refl _) _;have hBf:=before hb db _ _ _ _ _ _ _ _ (-1) (-1) c d _ (hH.alloc (.cells #[.int .i64 (-1),.int .i64 (-1),.int .i64 c,.int .i64 d] 29)) (hD.box.alloc _)
 have hO:=fun W (hD':Xj W db md mn none none (.slice none 0 0) (-1) (-1)) (hb':Below B w W)=>Xi9 db md mn rb (-1) (-1) now W hD' (hE.below hb' (by omega)) (by have:=hb'.size;omega) (hG.below (hb'.mono b9)) t0 t1 ⟨by omega,by omega,by omega⟩
 unfold Yo at hBf ⊢;go_enter func33,ntmps33
 go_wp2_with (go_at_call 40;refine hBf.mono ?_;rintro e w1 ⟨rfl,bD1,hg1⟩)
 have bH1:=(hH.alloc (.cells #[.int .i64 (-1),.int .i64 (-1),.int .i64 c,.int .i64 d] 29)).kept hg1 (by intro e;injection e with e;exact hne e);have bR1:=(hR.alloc (.cells #[.int .i64 (-1),.int .i64 (-1),.int .i64 c,.int .i64 d] 29)).kept hg1 (by intro e;injection e with e;exact hnd e.symm);have bF1:=bF.kept hg1 (by intro e;injection e with e;omega);have hD1:=(hD.below hB0).cells (Spares.X6 hg1 (by simp)) bD1;have hB1:Below B w w1:=(hB0.mono hBw).grown hg1 (by simp;omega) (fun q hq=>by cases hq;exact lo2)
 have hP1:U2 hb db rb w1:=⟨bH1.cell 0 rfl,bH1.cell 1 rfl⟩
 have l1:=bH1.lt;have hO1:=hO w1.drew (hD1.below (Below.refl _ _).drew) hB1.drew;unfold Yg at hO1;clear hBf hO
 go_region_held3 (U2 hb db rb) (first
  | with_reducible exact U2.drew hP1
  | with_reducible assumption) (first | (go_at_call 55;refine hO1.mono ?_;rintro e w2 ⟨vb,mt,ml,jb,rfl,hW2,hlo2,hb2⟩;have bH2:=BoxN.below (W:=w1.drew) bH1 hb2 bH1.lt;have hP2:U2 hb db rb w2:=⟨bH2.cell 0 rfl,bH2.cell 1 rfl⟩))
 have hz1:w1.drew.heap.size=w1.heap.size:=rfl;have bF2:=BoxN.below (W:=w1.drew) bF1 hb2 bF1.lt;have bR2:=BoxN.below (W:=w1.drew) bR1 hb2 bR1.lt;have hB2:Below B w w2:=hB1.drew.trans (hb2.mono (by have:=hB1.size;omega));have hS3:Spares [hb] w2 (w2.setCell ⟨hb,2,none⟩ (.pointer (some ⟨vb,0,none⟩))):=(Spares.of_below (Below.refl _ _)).set (by simp) _ _;have bH3:=bH2.set 2 (.pointer (some ⟨vb,0,none⟩));have bF3:=hS3.box bF2 (by simp;omega);have bR3:=hS3.box bR2 (by simpa using Ne.symm hnr)
 have hW3:=hW2.spared hS3 (fun b hb'=>by
  obtain⟨fd,fn,hd,-,-⟩:=hW2.d;obtain⟨n3,-,m3⟩:=hd.dm;obtain⟨n4,-,m4⟩:=hd.nm;have hz:=hlo2;simp only [Blk.turns,List.mem_cons,List.not_mem_nil,or_false] at hb';simp only [List.mem_singleton]
  rcases hb' with rfl | rfl | rfl | rfl | rfl | rfl
  ·omega
  ·omega
  ·omega
  ·exact Ne.symm hne
  ·exact BoxN.Xw bH2 m3
  exact BoxN.Xw bH2 m4) (by simp;omega) (fun b x hx=>by simpa using hx.ne bH2 (by decide)) (by simp;omega)
 have hB3:=hB2.setCell (p:=⟨hb,2,none⟩) lo1 (.pointer (some ⟨vb,0,none⟩));obtain⟨fd3,fn3,hD3,-,-⟩:=hW3.d;have hBa:=after hb db _ _ _ _ _ _ _ (-1) (-1) c d _ bH3 hD3.box;have fz:=bH2.frozen 2;have h2:=bH2.cell 2 (v:=vv) rfl;have g0:=bF2.cell 0 (v:=.int .i64 (-1)) rfl;have g1:=bF2.cell 1 (v:=.int .i64 (-1)) rfl;have g2:=bF2.cell 2 (v:=.int .i64 c) rfl;have g3:=bF2.cell 3 (v:=.int .i64 d) rfl
 have nF:w.heap.size≠hb:=by omega
 unfold Yo at hBa;have HW3:=Xb hW3;clear hW3 hW2 hD3
 go_wp2_with (first
  | (go_at_call 42;refine hBa.mono ?_;rintro e w4 ⟨rfl,bD4,hg4⟩)
  | (go_at_call 43;refine(Xci _).mono ?_;rintro e w5 ⟨rfl,hb5⟩))
 go_ret;have kH:=bH3.kept hg4 (by intro e;injection e with e;exact hne e);have kR:=bR3.kept hg4 (by intro e;injection e with e;exact hnd e.symm);have hW4:=(Xa HW3).Xhl (Spares.X6 hg4 (by simp)) bD4;have hB4:=hB3.grown hg4 (by have:=hB3.size;omega) (fun q hq=>by cases hq;exact lo2);have hz:=hlo2
 have hSys:Sys B w4 hb rb ⟨⟨vb,mt,ml,jb,db,md,mn⟩,⟨.pointer (some ⟨jb,0,none⟩),.iface 75 (.pointer (some ⟨rb,0,none⟩)),false,.slice none 0 0⟩,now,⟨0,0,[rootE],[]⟩,[]⟩:={
  host:=kH,wh:=hW4,err:=hG.below (hB4.mono b9),b9:=b9,hlow:=lo1,
  low:=fun b hb'=>by
   have:=hB1.size;simp only [Blk.turns,List.mem_cons,List.not_mem_nil,or_false] at hb'
   omega,
  rvb:=⟨_,_,kR⟩,rlow:=lo3,vrv:=rfl,vtk:=rfl,due:=World.ownsRow_nil _ _ _ _ }
 exact⟨rfl,⟨_,_,hSys.below hb5⟩,hB4.trans (hb5.mono (by have:=hB4.size;omega))⟩
def Xbb (st:Xn):Prop:=(0<=st.a/\st.a<=18446744073709551615)/\(0<=st.b/\st.b<=18446744073709551615)/\(0<=st.f/\st.f<=18446744073709551615)/\(-9223372036854775808<=st.pa/\st.pa<=9223372036854775807)
def Xct (st:Xn):Prop:=st.s.length+st.t.length<=16384
theorem Tryz.Inv.start {w0 W:World} {B hb rb ra g:Nat} {k:Blk} {vx:VX} {tm:Int} (hbel:Below B w0 W) (hB:B<=W.heap.size) (hS:Sys B W hb rb ⟨k,vx,tm,⟨0,0,[rootE],[]⟩,[]⟩) (hR:Xk B W ra g 1 [Xga] tm 1 1) (hra:B<=ra) :
  Inv w0 B 0 W.heap.size hb (W.alloc (.cells #[.pointer (some ⟨hb,0,none⟩),.pointer (some ⟨ra,0,none⟩),.pointer none,.bool false,.bool false] 69)):=by
 have hba:Below W.heap.size W (W.alloc (.cells #[.pointer (some ⟨hb,0,none⟩),.pointer (some ⟨ra,0,none⟩),.pointer none,.bool false,.bool false] 69)):=(Below.refl _ W).alloc (Nat.le_refl _) _
 have hrel:Rel [rootE] [] [Xga]:=⟨rfl,rfl,fun t ht=>by rw [List.mem_singleton.1 ht];exact .inr rfl,fun l hl=>(by cases hl)⟩
 exact⟨hbel.trans (hba.mono hB),by simp;omega,hB,⟨rb,_,ra,g,1,_,hS.below hba,hR.below hba,hrel,BoxN.new W _ _,⟨by simp,by simp,by simp,by simp,by simp,by simp,Z7.start,⟨_,rfl,rfl,rfl⟩⟩,hra⟩⟩
theorem Tryz.Inv.looksAt {w0:World} {B N wb hb ra:Nat} {W:World} (h:Inv w0 B N wb hb W) (hc:W.cell? ⟨wb,1,none⟩=some (.pointer (some ⟨ra,0,none⟩))) :
  Calls prog 38 #[.pointer (some ⟨wb,0,none⟩),.pointer (some ⟨ra,0,none⟩)] W fun e w'=>e=.returned (.bool true)/\Below W.heap.size W w':=by
 obtain⟨rb,σ,ra',g,cap,L,hS,hR,hl,hW,-⟩:=h.ex;have h1:=hW.cell 1 (v:=.pointer (some ⟨ra',0,none⟩)) rfl;rw [hc] at h1
 obtain rfl:ra=ra':=by simpa using h1
 exact looks B wb hb ra g cap σ.k.vb σ.k.mt σ.k.ml σ.vx σ.tm σ.s.tn σ.s.ln _ _ σ.s.tks σ.s.lks L _ _ _ _ _ _ W hW hS.host hS.wh.v.va hR hl
def inB (ks:List Int) (kind:Int) (j:Nat):Bool:=(ks.take j).any (fun k=>kind==k)
theorem Xr6 {ks:List Int} {kind v:Int} {j:Nat} (h:ks[j]? = some v):inB ks kind (j+1)=(inB ks kind j||kind==v):=by
 unfold inB;rw [List.take_add_one,h];simp
theorem Xtg {ks:List Int} {kind:Int} (h:inB ks kind ks.length=true):kind∈ks:=by
 unfold inB at h;rw [List.take_length] at h;obtain⟨k,hk,e⟩:=List.any_eq_true.1 h
 have:kind=k:=by simpa using e
 rw [this];exact hk
def Xd5 (W:World) (kb:Nat) (ks:List Int):Prop:=∀ j v,ks[j]? = some v->W.cell? ⟨kb,j,none⟩=some (.int .i64 v)
theorem Xd5.below {W W':World} {kb B:Nat} {ks:List Int} (h:Xd5 W kb ks) (hb:Below B W W') (hB:kb<B):Xd5 W' kb ks:=fun j v hv=>(hb.cell (p:=⟨kb,j,none⟩) hB).trans (h j v hv)
structure Tryz.Xqj (w:World) (S:List Xn) (ks:List Int) (failing:Bool) (I:Nat->Nat->Nat->World->Prop):Prop where
 bel:∀ {wb hb k W},I wb hb k W->Below w.heap.size w W
 later:∀ {wb hb k W W'},I wb hb k W->Below W.heap.size W W'->I wb hb k W'
 more:∀ {wb hb k W},I wb hb k W->I wb hb (k+1) W
 start:∀ {wb hb W},Tryz.Inv w w.heap.size 0 wb hb W->I wb hb 0 W
 step:∀ {wb hb k W st},k<16384->st∈S->Xct st->Xbb st->st.kind∈ks->I wb hb k W->Calls Tryz.prog 39 #[.pointer (some ⟨wb,0,none⟩),.agg (Xn.cells st),.bool failing] W fun e w'=>e=.returned (.bool true)/\I wb hb (k+1) w'
theorem Tryz.Xu1 (p:Option Addr) (cap kb:Nat) (ks:List Int) (failing:Bool) (S:List Xn) (I:Nat->Nat->Nat->World->Prop) (w:World) (hS:V9 w p S) (hpl:S ≠ []->∀ a,p=some a->a.block<w.heap.size) (hl:S.length<=281474976710656) (hz:∀ st∈S,st.s.length<=281474976710656/\st.t.length<=281474976710656) (hok:∀ st∈S,Xbb st) (hK:Xd5 w kb ks) (hkb:kb<w.heap.size) (hkl:ks.length<=20) (h9:9<=w.heap.size) (hE:Env w) (hT:Ja w) (hI:Xqj w S ks failing I) :
  Calls prog 14 #[.slice p S.length cap,.slice (some ⟨kb,0,none⟩) ks.length ks.length,.bool failing] w fun e w'=>e=.returned (.bool true)/\Below w.heap.size w w':=by
 have hSm:=small p cap S w hS hl hz
 have hWl:=fun W=>Xss W
 unfold Yo at hWl
 have hOp:=fun(W:World) (hb db rb md mn:Nat) (hBW:Below 9 w W) (h1:w.heap.size<=W.heap.size) (bH:BoxN W hb 78 #[.pointer (some ⟨db,0,none⟩),.pointer (some ⟨rb,0,none⟩),.pointer none]) (hD:Xj W db md mn none none (.slice none 0 0) (-1) (-1)) (bR:BoxN W rb 88 #[.slice none 0 0,.int .u64 0]) (hlo:w.heap.size<=hb/\w.heap.size<=db/\w.heap.size<=rb/\w.heap.size<=md/\w.heap.size<=mn)=>Xuy w.heap.size hb db rb md mn _ _ _ (-1) (-1) 7 0 0 W bH hD bR hlo h1 h9 (hE.below (hBW.mono (by decide)) (Nat.le_refl _)) (hT.below hBW) (by decide) (by decide)
 unfold Yo at hOp
 obtain⟨len,hlen⟩:∃ len,S.length=len:=⟨_,rfl⟩
 rw [hlen] at hSm ⊢;have Hlen:=Xb hlen;clear hlen hl
 obtain⟨kn,hkn⟩:∃ kn,ks.length=kn:=⟨_,rfl⟩
 rw [hkn] at hkl ⊢;have Hkn:=Xb hkn;clear hkn;go_enter func14,ntmps14
 go_upto_region 2 with(go_at_call 34;refine hSm.mono ?_;rintro e w1 ⟨b,rfl,hsm,hb1⟩)
 cases b
 ·go_wp2
  go_ret;exact⟨rfl,hb1⟩
 obtain⟨hl,hz2⟩:=hsm rfl;have l0:=hb1.size
 go_wp2_with (first
  | (go_at_call 35;refine(Xtk _).mono ?_;rintro e w2 ⟨hb,db,rb,md,mn,rfl,bH,hD,bR,hlo,hb2⟩;have bel2:=hb1.trans (hb2.mono l0))
  | (go_at_call 16;refine(hWl _).mono ?_;rintro e w3 ⟨rfl,hb3⟩;have bel3:=bel2.trans (hb3.mono bel2.size);have hlo3:w.heap.size<=hb/\w.heap.size<=db/\w.heap.size<=rb/\w.heap.size<=md/\w.heap.size<=mn:=by omega)
  | (go_at_call 33;refine(hOp w3 hb db rb md mn (bel3.mono h9) bel3.size (bH.below hb3 bH.lt) (hD.below hb3) (bR.below hb3 bR.lt) hlo3).mono ?_;rintro e w4 ⟨rfl,⟨k,vx,hS4⟩,hb4⟩;have bel4:=bel3.trans hb4)
  | (go_at_call 36;refine(hIs hb _ _ _ w4 hS4.host).mono ?_;rintro e w5 ⟨rfl,rfl⟩)
  | (go_at_call 37;refine(rNew 7 _).mono ?_;rintro e w6 ⟨rfl,hR6,hb6⟩;have bel6:=bel4.trans (hb6.mono bel4.size);have hIn:=Inv.start bel6 bel6.size (hS4.below hb6) (hR6.lower bel4.size) (by have:=bel4.size;omega))
  | (go_at_call 38;refine(hIn.looksAt (BoxN.cell (BoxN.new w6 69 _) 1 rfl)).mono ?_;rintro e w7 ⟨rfl,hb7⟩))
 have hI7:=hI.start (hIn.below hb7);generalize w6.heap.size=wb at *;clear hIn hb7 hb6 hR6 bel6 hS4 hb4 bel4 bel3 hlo3 hb3 bel2 bH hD bR hb2 hSm hOp hWl hsm;have HI:=Xb hI;clear hI
 go_loopw [7,12] (fun ok i wr=>∃ k:Nat,k<=len/\i=.int .i64 k/\ok=.bool true/\I wb hb k wr) (fun _ i _=>len-(intOf i).toNat)
 case atStart=>exact⟨0,Nat.zero_le _,rfl,rfl,hI7⟩
 case round =>
  obtain⟨k,hk,rfl,rfl,hIk⟩:=hrel
  by_cases hkl2:k<len
  ·obtain⟨st,hst⟩:∃ st,S[k]? = some st:=⟨S[k]'(by have:=Xa Hlen;omega),by have:=Xa Hlen;simp [this,hkl2]⟩
   have hmem:=List.mem_of_getElem? hst
   have hne:S ≠ []:=fun e=>by rw [e] at hst;simp at hst
   obtain⟨b,off,rfl,hsc⟩:=hS.resolve_left hne;have hbl:b<w.heap.size:=hpl hne _ rfl
   have hSt:=fun W (h:I wb hb k W) (hin:st.kind∈ks)=>(Xa HI).step (by omega) hmem (hz2 st hmem) (hok st hmem) hin h
   have hcs:=fun W (h:I wb hb k W)=>(hsc.below ((Xa HI).bel h) hbl) k st hst
   have hks:=fun W (h:I wb hb k W)=>hK.below ((Xa HI).bel h) hkb
   obtain⟨kind,ss,tt,aa,bb,ff,fl,fu,ke,pa⟩:=st;simp only [Xn.cells] at hSt hcs;have Hst:=Xb hst;clear hst hok hz hz2 hsc hK hE hT;go_wp2
   go_loopw [13,14] (fun inn j wq=>∃ jj:Nat,jj<=kn/\j=.int .i64 jj/\inn=.bool (inB ks kind jj)/\I wb hb k wq) (fun _ j _=>kn-(intOf j).toNat)
   case atStart=>exact⟨0,by omega,rfl,rfl,hIk⟩
   case round =>
    obtain⟨jj,hjj,rfl,rfl,hIq⟩:=hrel
    by_cases hj4:jj<kn
    ·obtain⟨v,hv⟩:∃ v,ks[jj]? = some v:=⟨ks[jj]'(by have:=Xa Hkn;omega),by have:=Xa Hkn;simp [this,hj4]⟩
     have hkk:=hks _ hIq jj v hv;obtain⟨y0,-⟩:=hcs _ hIq;have hsu:=Xb (Xr6 (kind:=kind) hv);clear hv;generalize inB ks kind jj=ib at *;cases ib
     focus
      go_wp2
     rotate_left
     focus
      go_wp2
     rotate_left
     all_goals
      go_quiet (fail);go_wp2;exact⟨⟨jj+1,by omega,rfl,by rw [Xa hsu];simp,(Xa HI).later hIq (below_drewN (Below.refl _ _) _)⟩,by simp [intOf];omega⟩
    obtain rfl:jj=kn:=by omega
    have hib:Hid (inB ks kind jj=true->kind∈ks):=Xb (fun e=>Xtg (by rw [Xa Hkn];exact e));obtain⟨y0,y1,y2,y3,y4,y5,y6,y7,y8,y9⟩:=hcs _ hIq;have hSt1:=hSt _ hIq;clear hSt hcs hks;generalize inB ks kind jj=ib at *;cases ib
    ·go_wp2
     go_roundw
     case rel=>exact⟨k+1,by omega,rfl,rfl,(Xa HI).more hIq⟩
     case measure=>simp [intOf];omega
    have hSt2:=hSt1 (Xa hib rfl);clear hSt1
    go_wp2_with (go_at_call 39;refine hSt2.mono ?_;rintro e w8 ⟨rfl,hI8⟩)
    go_roundw
    case rel=>exact⟨k+1,by omega,rfl,rfl,hI8⟩
    case measure=>simp [intOf];omega
  obtain rfl:k=len:=by omega
  go_wp2;go_ret;exact⟨rfl,(Xa HI).bel hIk⟩
theorem V9.below {W W':World} {p:Option Addr} {S:List Xn} (h:V9 W p S) {B:Nat} (hb:Below B W W') (hp:S ≠ []->∀ a,p=some a->a.block<B):V9 W' p S:=by
 rcases h with h | ⟨b,off,rfl,h⟩
 ·exact .inl h
 by_cases hS:S = []
 ·exact .inl hS
 exact .inr ⟨b,off,rfl,h.below hb (hp hS _ rfl)⟩
theorem Tryz.Xge:prog.cellsOf 72=10:=by kernel_rfl
theorem Tryz.Xpd:prog.cellsOf 29=4:=by kernel_rfl
theorem Tryz.Xiw:prog.cellsOf 3=1:=by kernel_rfl
theorem Tryz.Xpq:prog.cellsOf 9=1:=by kernel_rfl
theorem Xv6 {α:Type} {l:List α} (h:l.length=10):∃ a b c d e f g i j k,l = [a,b,c,d,e,f,g,i,j,k]:=by
 match l,h with
 | [a,b,c,d,e,f,g,i,j,k],_=>exact⟨a,b,c,d,e,f,g,i,j,k,rfl⟩
theorem Xcy {z:Int} (h:(Lit.int .u64 z).wf=true):0<=z/\z<=18446744073709551615:=by
 simp [Lit.wf,IntKind.min,IntKind.max,IntKind.bits,IntKind.signed] at h;omega
theorem Mn {H:Type} {P:Program} {e:TypeId}:∀(l:List (DataW H)) (d:DataW H) (x:Nat),d∈l->x∈d.weights P e->x∈DataW.weightsAll P e l
 | [],_,_,h,_=>by cases h
 | a :: l,d,x,h,hx=>by
  simp only [DataW.weightsAll]
  rcases List.mem_cons.1 h with rfl | h
  ·exact List.mem_append_left _ hx
  exact List.mem_append_right _ (Mn l d x h hx)
theorem Tryz.Xqd {H:Type} {enc:TypeId × Value->H} {w:World} {base:Nat} {sp:Nat->Bool} {held:Bool} {fuel:Nat} {cs:List Value} {x:DataW H × List MemPlace} (h:DataW.trod enc prog w base sp held fuel 72 cs=some x) :
  ∃ st:Xn,cs=st.cells.toList/\Xbb st/\st.s.length∈x.1.weights prog 72/\st.t.length∈x.1.weights prog 72:=by
 obtain⟨xs,n,-,rfl,hl,hlen,hf⟩:=DataW.trod_struct underlying72 h;rw [Xge] at hl;obtain⟨c0,c1,c2,c3,c4,c5,c6,c7,c8,c9,rfl⟩:=Xv6 hl;have hlen7:xs.length=7:=hlen
 obtain⟨y0,y1,y2,y3,y4,y5,y6,rfl⟩:∃ y0 y1 y2 y3 y4 y5 y6,xs = [y0,y1,y2,y3,y4,y5,y6]:=by
  match xs,hlen7 with
  | [y0,y1,y2,y3,y4,y5,y6],_=>exact⟨y0,y1,y2,y3,y4,y5,y6,rfl⟩
 have f0:=hf 0 _ rfl;have f1:=hf 1 _ rfl;have f2:=hf 2 _ rfl;have f3:=hf 3 _ rfl;have f4:=hf 4 _ rfl;have f5:=hf 5 _ rfl;have f6:=hf 6 _ rfl;simp [Xiw,Xpq,Xfk,Xpd] at f0 f1 f2 f3 f4 f5 f6;obtain⟨z0,e0,-,-⟩:=DataW.trod_int underlying3 f0;obtain⟨s1,e1,r1,-⟩:=DataW.trod_string underlying9 f1;obtain⟨s2,e2,r2,-⟩:=DataW.trod_string underlying9 f2;obtain⟨z3,e3,-,k3⟩:=DataW.trod_int underlying31 f3;obtain⟨z4,e4,-,k4⟩:=DataW.trod_int underlying31 f4;obtain⟨z5,e5,-,k5⟩:=DataW.trod_int underlying31 f5;obtain⟨us,m,-,-,-,hus,hg⟩:=DataW.trod_struct underlying29 f6;have hus4:us.length=4:=hus
 obtain⟨u0,u1,u2,u3,rfl⟩:∃ u0 u1 u2 u3,us = [u0,u1,u2,u3]:=by
  match us,hus4 with
  | [u0,u1,u2,u3],_=>exact⟨u0,u1,u2,u3,rfl⟩
 have g0:=hg 0 _ rfl;have g1:=hg 1 _ rfl;have g2:=hg 2 _ rfl;have g3:=hg 3 _ rfl;simp [Xiw] at g0 g1 g2 g3;obtain⟨z6,e6,-,-⟩:=DataW.trod_int underlying3 g0;obtain⟨z7,e7,-,-⟩:=DataW.trod_int underlying3 g1;obtain⟨z8,e8,-,-⟩:=DataW.trod_int underlying3 g2;obtain⟨z9,e9,-,k9⟩:=DataW.trod_int underlying3 g3;simp at e0 e1 e2 e3 e4 e5 e6 e7 e8 e9;subst e0 e1 e2 e3 e4 e5 e6 e7 e8 e9;obtain⟨⟨l1⟩⟩:=s1;obtain⟨⟨l2⟩⟩:=s2;refine⟨⟨z0,l1,l2,z3,z4,z5,z6,z7,z8,z9⟩,rfl,⟨Xcy k3,Xcy k4,Xcy k5,by simp [Lit.wf,IntKind.min,IntKind.max,IntKind.bits,IntKind.signed] at k9;exact k9⟩,?_,?_⟩
 ·simp [DataW.weights,underlying72,DataW.weightsEach,r1,r2]
 simp [DataW.weights,underlying72,DataW.weightsEach,r1,r2]
theorem Xu3 {α:Type} (d:α) {n:Nat} {p:Nat->α->Prop} (h:∀ i,i<n->∃ x,p i x):∃ f:Nat->α,∀ i,i<n->p i (f i):=by
 classical
 exact⟨fun i=>if hi:i<n then Classical.choose (h i hi) else d,fun i hi=>by
  show p i (if hi:i<n then Classical.choose (h i hi) else d)
  rw [dif_pos hi]
  exact Classical.choose_spec (h i hi)⟩
theorem Tryz.Xl0 {H:Type} {enc:TypeId × Value->H} {w:World} {base fuel:Nat} {held:Bool} {p:Option Addr} {len cap:Nat} {x:DataW H × List MemPlace} (h:DataW.trod enc prog w base (fun _=>true) held fuel 22 [.slice p len cap]=some x) (hsz:∀ y∈x.1.weights prog 22,y<=reachBytes) :
  ∃ S:List Xn,S.length=len/\V9 w p S/\(S ≠ []->∀ a,p=some a->a.block<w.heap.size)/\S.length<=281474976710656/\(∀ st∈S,st.s.length<=281474976710656/\st.t.length<=281474976710656)/\∀ st∈S,Xbb st:=by
 have hrb:reachBytes<=281474976710656:=by decide
 rcases Go.Deep.open_slice underlying22 h with⟨e,-⟩ | ⟨a,len',cap',m,n,D,Pl,e,-,hl,-,hm,rfl,hx⟩
 ·simp at e
  obtain⟨rfl,rfl,rfl⟩:=e;exact⟨[],rfl,.inl rfl,fun h=>absurd rfl h,by simp,by simp,by simp⟩
 simp at e;obtain⟨rfl,rfl,rfl⟩:=e;simp at hm;subst hm
 obtain⟨f,hf⟩:=Xu3 (⟨0,[],[],0,0,0,0,0,0,0⟩:Xn) (n:=m) (p:=fun i st=>w.cells? base (a.add (i*10)) 10=some st.cells.toList/\Xbb st/\st.s.length∈(D i).weights prog 72/\st.t.length∈(D i).weights prog 72) (fun i hi=>by
  obtain⟨cs',hc,ht⟩:=hx i hi;obtain⟨st,rfl,h1,h2,h3⟩:=Xqd ht;rw [Xge] at hc
  exact⟨st,hc,h1,h2,h3⟩)
 have hlen:len<=281474976710656:=by
  have:=hsz ((((List.range len).map D).length+((List.range (m-len)).map fun j=>D (len+j)).length)*prog.bytesOf 72) (by simp [DataW.weights,underlying22])
  have hby:prog.bytesOf 72=96:=by kernel_rfl
  rw [hby] at this;simp at this;omega
 have hS:∀(i:Nat) (st:Xn),((List.range len).map f)[i]? = some st->i<len/\st=f i:=fun i st hi=>by
  by_cases hil:i<len
  ·simp [hil] at hi
   exact⟨hil,hi.symm⟩
  simp [hil] at hi
 have hmem:∀ st∈(List.range len).map f,∃ i,i<len/\st=f i:=fun st hst=>by
  obtain⟨i,hi,rfl⟩:=List.mem_map.1 hst;exact⟨i,List.mem_range.1 hi,rfl⟩
 have hw:∀ i,i<len->∀ y∈(D i).weights prog 72,y<=281474976710656:=fun i hi y hy=>by
  have:y∈(DataW.slice ((List.range len).map D) ((List.range (m-len)).map fun j=>D (len+j))).weights prog 22:=by
   simp only [DataW.weights,underlying22];exact List.mem_cons_of_mem _ (List.mem_append_left _ (Mn _ (D i) y (List.mem_map.2 ⟨i,List.mem_range.2 hi,rfl⟩) hy))
  exact Nat.le_trans (hsz y this) hrb
 obtain⟨b,off,spot⟩:=a;refine⟨(List.range len).map f,by simp,?_,fun hne a' ha'=>?_,by simpa using hlen,fun st hst=>?_,fun st hst=>?_⟩
 ·by_cases h0:len=0
  ·exact .inl (by simp [h0])
  have hc0:=(World.cells?_some (hf 0 (by omega)).1).2.2 0 (by omega)
  have hspot:spot=none:=by simpa [Addr.add] using World.cell?_spot (show w.cell? _=some _ from hc0)
  subst hspot;refine .inr ⟨b,off,rfl,fun i st hi=>?_⟩;obtain⟨hil,rfl⟩:=hS i st hi;have hc:=(World.cells?_some (hf i (by omega)).1).2.2
  have hcc:∀ j,j<10->w.cell? ⟨b,off+i*10+j,none⟩=(f i).cells.toList[j]?:=fun j hj=>by
   have:=hc j hj;rw [Lib.add_plain,Lib.add_plain] at this;exact this
  exact⟨hcc 0 (by omega),hcc 1 (by omega),hcc 2 (by omega),hcc 3 (by omega),hcc 4 (by omega),hcc 5 (by omega),hcc 6 (by omega),hcc 7 (by omega),hcc 8 (by omega),hcc 9 (by omega)⟩
 ·cases ha'
  have h0:0<len:=by
   rcases Nat.eq_zero_or_pos len with h | h
   ·exact absurd (by simp [h]) hne
   exact h
  exact World.cells?_block (hf 0 (by omega)).1 (by omega)
 ·obtain⟨i,hi,rfl⟩:=hmem st hst
  obtain⟨-,-,h1,h2⟩:=hf i (by omega);exact⟨hw i hi _ h1,hw i hi _ h2⟩
 obtain⟨i,hi,rfl⟩:=hmem st hst;exact(hf i (by omega)).2.1
theorem Tryz.Xnp (B wb hb ra g cap:Nat) (tm:Int) (L:List ThingD) (tr lr:Int) (w:World) (HP HP':World->Prop) (lo1:Xf0 HP) (lo2:Xf0 HP') (hP:HP w) (hR:Xk B w ra g cap L tm tr lr) (hpos:0<L.length) (hW:BoxN w wb 69 #[.pointer (some ⟨hb,0,none⟩),.pointer (some ⟨ra,0,none⟩),.pointer none,.bool false,.bool false]) (hB:B<=w.heap.size) (hB9:9<=B) (hwb:B<=wb) (hra:B<=ra)
  (ss tt:List UInt8) (aa bb ff fl fu ke pa:Int) (k:Int) (Q2:List ThingD->Int->Int->Prop)
  (kd:Int) (hk:(kd=5/\(∀ W,w.heap.size<=W.heap.size->HP W->Calls prog 28 #[.pointer (some ⟨hb,0,none⟩),.string ⟨ss.toArray⟩,.agg #[.int .i64 fl,.int .i64 fu,.int .i64 ke,.int .i64 pa]] W fun e w'=>e=.returned (.int .i64 k)/\HP' w'/\Z9 B W w')/\∀ B' W nb g' cap',B'<=W.heap.size->B'<=nb->Xk B' W nb g' cap' L tm tr lr->Calls prog 114 #[.pointer (some ⟨nb,0,none⟩),.string ⟨ss.toArray⟩] W fun e w'=>∃ g2 cap2 L2 tr2 lr2,Q2 L2 tr2 lr2/\e=.returned (.int .i64 k)/\Xk B' w' nb g2 cap2 L2 tm tr2 lr2/\Spares [nb,g'] W w')\/(kd=7/\(∀ W,w.heap.size<=W.heap.size->HP W->Calls prog 26 #[.pointer (some ⟨hb,0,none⟩),.string ⟨ss.toArray⟩,.agg #[.int .i64 fl,.int .i64 fu,.int .i64 ke,.int .i64 pa]] W fun e w'=>e=.returned (.int .i64 k)/\HP' w'/\Z9 B W w')/\∀ B' W nb g' cap',B'<=W.heap.size->B'<=nb->Xk B' W nb g' cap' L tm tr lr->Calls prog 116 #[.pointer (some ⟨nb,0,none⟩),.string ⟨ss.toArray⟩] W fun e w'=>∃ g2 cap2 L2 tr2 lr2,Q2 L2 tr2 lr2/\e=.returned (.int .i64 k)/\Xk B' w' nb g2 cap2 L2 tm tr2 lr2/\Spares [nb,g'] W w')) :
  Calls prog 62 #[.pointer (some ⟨wb,0,none⟩),.agg (Xn.cells ⟨kd,ss,tt,aa,bb,ff,fl,fu,ke,pa⟩)] w fun e w'=>e=.returned (.bool true)/\After w B wb hb tm HP' Q2 w':=by
 rcases hk with⟨hk,hH,hC⟩ | ⟨hk,hH,hC⟩
 focus
  have hk1:(kd==1)=false:=by rw [hk];rfl
  have hk2:(kd==2)=false:=by rw [hk];rfl
  have hk3:(kd==3)=false:=by rw [hk];rfl
  have hk5:(kd==5)=true:=by rw [hk];rfl
  clear hk
 rotate_left
 focus
  have hk1:(kd==1)=false:=by rw [hk];rfl
  have hk2:(kd==2)=false:=by rw [hk];rfl
  have hk3:(kd==3)=false:=by rw [hk];rfl
  have hk5:(kd==5)=false:=by rw [hk];rfl
  have hk6:(kd==6)=false:=by rw [hk];rfl
  have hk7:(kd==7)=true:=by rw [hk];rfl
  clear hk
 rotate_left
 all_goals
  have lW:=hW.lt;have hb0:Below w.heap.size w (w.alloc (.cells (Xn.cells ⟨kd,ss,tt,aa,bb,ff,fl,fu,ke,pa⟩) 72)):=(Below.refl _ w).alloc (Nat.le_refl _) _;have bS:=BoxN.new w 72 (Xn.cells ⟨kd,ss,tt,aa,bb,ff,fl,fu,ke,pa⟩);have bW0:=hW.alloc (.cells (Xn.cells ⟨kd,ss,tt,aa,bb,ff,fl,fu,ke,pa⟩) 72);have hCp:=Xgm B ra g cap L tm tr lr _ (hR.below hb0) hpos;rw [World.size_alloc] at hCp;have w1c:=bW0.cell 1 (v:=.pointer (some ⟨ra,0,none⟩)) rfl;have s0c:=bS.cell 0 (v:=.int .i64 kd) rfl;simp only [Xn.cells] at *
  all_goals
   go_enter func62,ntmps62
   go_wp2_with (first
    | (go_at_call 106;refine hCp.mono ?_;rintro e w1 ⟨g',cap',rfl,hR1,hb1⟩;have bS1:=bS.below hb1 (by simp);have s01:=bS1.cell 0 (v:=.int .i64 kd) rfl))
   have hb1':Below w.heap.size w w1:=hb0.trans (hb1.mono (by omega));have bW1:=bW0.below hb1 (by omega);have hP1:Uv wb hb w.heap.size ⟨kd,ss,tt,aa,bb,ff,fl,fu,ke,pa⟩ w1:=Uv.mk' bW1 bS1;have hh1:HP w1.drew:=lo1.below hP hb1'.drew;have hg'l:=hR1.glt;have hg'b:w.heap.size+1<=g':=(hR1.row.lt g' rfl).1;have hH1:=hH w1.drew (by have:=hb1'.size;exact this) hh1;have hRo1:Xk B w1.drew ra g cap L tm tr lr:=hR.below hb1'.drew;have hRn1:Xk (w.heap.size+1) w1.drew (w.heap.size+1) g' cap' L tm tr lr:=hR1.below (Below.refl _ _).drew
   have fW:X2 w1.drew wb:=⟨by omega,_,_,bW1,by decide⟩
   have fS:X2 w1.drew w.heap.size:=⟨by omega,_,_,bS1,by decide⟩
   obtain⟨fA,fG⟩:=hRo1.foreign hB9 (by omega);obtain⟨fN,fH⟩:=hRn1.foreign (by omega) (by omega);simp only [Uv] at hP1
   go_region_held3 (Uv wb hb w.heap.size ⟨kd,ss,tt,aa,bb,ff,fl,fu,ke,pa⟩) (first
    | with_reducible exact Uv.drew hP1
    | with_reducible assumption) (first | ((first | go_at_call 28 | go_at_call 26);refine hH1.mono ?_;rintro e w2 ⟨rfl,hp2,hs,hsp2,hso⟩;have bW2:=Spares.box (W:=w1.drew) hsp2 bW1 (fun hx=>(hso _ hx).2 fW);have bS2:=Spares.box (W:=w1.drew) hsp2 bS1 (fun hx=>(hso _ hx).2 fS);have hP2:=Uv.mk' (st:=⟨kd,ss,tt,aa,bb,ff,fl,fu,ke,pa⟩) bW2 bS2))
   have hRn2:Xk (w.heap.size+1) w2 (w.heap.size+1) g' cap' L tm tr lr:=hRn1.Zz hsp2 (fun hx=>(hso _ hx).2 fN) (fun hx=>(hso _ hx).2 fH);have hC2:=hC (w.heap.size+1) w2 (w.heap.size+1) g' cap' (by have:=hRn2.v.lt;omega) (Nat.le_refl _) hRn2;obtain⟨⟨q0,q1,q2,q3,q4⟩,q6,q7,q8,q9⟩:=hP2;have hgd:=hRn2.Xbn;have lra:=hR.v.lt;have lgg:=hR.glt;have hRo2:Xk B w2 ra g cap L tm tr lr:=hRo1.Zz hsp2 (fun hx=>(hso _ hx).2 fA) (fun hx=>(hso _ hx).2 fG);have hbB2:Below B w w2:=(hb1'.mono hB).drew.trans (hsp2.below (by have:=hb1'.size;exact Nat.le_trans hB this) (fun b hb=>(hso b hb).1));have HBB:=Xb hbB2;clear hP1 hCp hH hC hH1 w1c s0c s01 hsp2 hso hbB2
   go_wp2_with (first
    | ((first | go_at_call 114 | go_at_call 116);refine hC2.mono ?_;rintro e w3 ⟨g2,cap2,L2,tr2,lr2,hQ2,rfl,hR3,hsp3⟩;have bW3:=hsp3.box bW2 (fun hx=>by rcases List.mem_cons.1 hx with e | e;omega;have:=List.mem_singleton.1 e;omega);have c13:=bW3.cell 1 (v:=.pointer (some ⟨ra,0,none⟩)) rfl;have hRo3:Xk B w3 ra g cap L tm tr lr:=hRo2.Zz hsp3 (fun hx=>by rcases List.mem_cons.1 hx with e | e;omega;have:=List.mem_singleton.1 e;omega) (fun hx=>by rcases List.mem_cons.1 hx with e | e;omega;have:=List.mem_singleton.1 e;omega))
    | (go_at_call 113;refine(Xm9 _ _ _ _ _ _ _ _ _ _ _ _ _ _ _ _ w3 hR3 hRo3).mono ?_;rintro e w5 ⟨tb,rfl,hb5⟩;have bW5:=bW3.below hb5 bW3.lt;have hTu:=turned wb (w.heap.size+1) k tb _ _ _ _ w5 bW5)
    | (go_at_call 110;refine hTu.mono ?_;rintro e w4 ⟨rfl,rfl⟩))
   go_ret;refine⟨by first | rfl | simp,?_⟩;obtain⟨cur,hcur⟩:=hgd
   have hp3:HP' w3:=lo2.other hp2 hsp3 (fun b hb=>by
    rcases List.mem_cons.1 hb with rfl | hb
    ·exact X2.of hRn2.v (by omega) (by decide)
    rw [List.mem_singleton.1 hb];exact X2.of hcur (by omega) (by decide))
   have hp5:HP' w5:=lo2.below hp3 hb5;have hR5:=hR3.below hb5;have hsp4:Spares [wb] w5 (w5.setCell ⟨wb,1,none⟩ (.pointer (some ⟨w.heap.size+1,0,none⟩))):=(Spares.of_below (Below.refl _ _)).set (by simp) _ _
   have nW:wb≠g2:=fun e=>by obtain⟨c,hc⟩:=hR5.Xbn;exact bW5.ne hc (by decide) e
   have hp4:HP' (w5.setCell ⟨wb,1,none⟩ (.pointer (some ⟨w.heap.size+1,0,none⟩))):=lo2.other hp5 hsp4 (fun b hb=>by rw [List.mem_singleton.1 hb];exact X2.of bW5 (by omega) (by decide));have hR4:=(Xk.Zz hR5 hsp4 (by simp;omega) (by simpa using Ne.symm nW)).lower (B':=B) (by omega)
   have hB3:Below B w w3:=(Xa HBB).trans (hsp3.below (by have:=hRn2.v.lt;omega) (fun b hb=>by
    rcases List.mem_cons.1 hb with rfl | hb
    ·omega
    rw [List.mem_singleton.1 hb];omega))
   exact⟨hp4,⟨L2,tr2,lr2,_,g2,cap2,hQ2,hR4,by omega,bW5.set 1 _⟩,(hB3.trans (hb5.mono (by have:=hR3.v.lt;omega))).setCell (p:=⟨wb,1,none⟩) hwb _⟩
end Go.Proofs
