import Derived.Test.YtjbekgjdempbiaaGreatDoorJRefR
import Derived.Test.YtjbekgjdempbiaaGreatDoorJKtJ
import Derived.Test.YtjbekgjdempbiaaGreatDoorCards
import Derived.Test.YtjbekgjdempbiaaGreatDoorTie
import Derived.ProofKit
import Derived.OpenShut
import Derived.Deep.DeepHandedRow
import Derived.Deep.DeepWitnessRowRef
import Derived.Lib.LaidTab
import Derived.LaidHandle
import Derived.LaidLaws
import Derived.RowKitTokens
import Derived.Shelf.Vars
set_option maxRecDepth 100000
set_option maxHeartbeats 8000000
namespace Go.Proofs.YtjbekgjdempbiaaGreatDoor
open Go.ChangeShapes Go.WideShapes Go.ChangeAt Go.RowKit Go.Proofs
theorem own:ownKnob Tryz.prog.godebug=none:=by kernel_rfl
theorem laidOut:laidOutB Tryz.prog=true:=by kernel_rfl
theorem gErr:Tryz.prog.globalNamed "errors.errorType" = some 0:=by kernel_rfl
theorem rt:(Tryz.prog.cutTypes.find? (·.1 == "internal/reflectlite.rtype")).map (·.2)=some 243:=by kernel_rfl
theorem Xu2:Tryz.prog.types.size=417:=by kernel_rfl
theorem Xu7:((List.range 417).filter fun t=>Tryz.prog.rowNamed t [101,114,114,111,114]) = [81]:=by kernel_rfl
theorem Xa3 {W:World} (h:laidMetH Tryz.prog Rows.keptRow.laid W) :
  laidMet Tryz.prog [("math/bits.deBruijn32tab",Rows.laid_math_bits_deBruijn32tab),("math/bits.deBruijn64tab",Rows.laid_math_bits_deBruijn64tab),("internal/strconv.uint64pow10",Rows.laid_internal_strconv_uint64pow10),("unicode/utf8.acceptRanges",Rows.laid_unicode_utf8_acceptRanges),("strconv.ErrRange",Rows.laid_strconv_ErrRange),("strconv.ErrSyntax",Rows.laid_strconv_ErrSyntax),("unicode/utf8.first",Rows.laid_unicode_utf8_first)] W/\handlesMet Tryz.prog [("errors.errorType",Rows.laid_errors_errorType)] W:=h
theorem maxLen {W:World} (h:W.ShapedOpen Tryz.prog):∃ m,W.cell? ⟨6,0,none⟩=some (.int .i64 m):=
 cell_of_shapedOpen_int h (of_decide_eq_true (by kernel_rfl)) (t:=3) (zero:=#[.int .i64 0]) (by kernel_rfl) rfl (by kernel_rfl) (by kernel_rfl) Tryz.underlying3
theorem errT {W:World} (h:laidMetH Tryz.prog Rows.keptRow.laid W) (hsh:W.ShapedOpen Tryz.prog):Tryz.Ja W:=by
 obtain⟨name,u,ty,e1,e2,e3,e4,e5⟩:=(Xa3 h).2 _ (List.mem_singleton.2 rfl);have en:name = [101,114,114,111,114]:=(Option.some.inj e1).symm;subst en;obtain rfl:=Option.some.inj (rt.symm.trans e2)
 have hm:ty∈(List.range 417).filter fun t=>Tryz.prog.rowNamed t [101,114,114,111,114]:=List.mem_filter.2 ⟨List.mem_range.2 (by rw [<- Xu2];exact e3),e4⟩
 rw [Xu7] at hm;obtain rfl:=List.mem_singleton.1 hm
 have hh:typeHandle Tryz.prog 81=.pointer (some ⟨9,81,none⟩):=by kernel_rfl
 rw [hh] at e5;exact⟨by simpa using World.var?_cell gErr e5 0,maxLen hsh⟩
theorem iface_of_trod {H:Type} {enc:TypeId × Value->H} {P:Program} {w:World} {base:Nat} {sp:Nat->Bool} {held:Bool} {fuel:Nat} {t:TypeId} {ms:Array (String × TypeId)} {cs:List Value} {name:String} {d:DataW H} {p:List MemPlace} (ht:P.underlying t=some (.interface ms)) (h:DataW.trod enc P w base sp held fuel t cs=some (.iface name d,p)):∃ u v,cs = [.iface u v]:=by
 cases fuel with
 | zero=>simp [DataW.trod] at h
 | succ n =>
  unfold DataW.trod at h;rw [ht] at h
  split at h <;> simp_all
theorem Xqd:(Tryz.prog.globals[3]?).map (·.type)=some 318:=by kernel_rfl
theorem Xqf:(Tryz.prog.globals[1]?).map (·.type)=some 81:=by kernel_rfl
theorem Xpt:(Tryz.prog.globals[2]?).map (·.type)=some 81:=by kernel_rfl
theorem Xrs:Tryz.prog.cellsOf 318=20:=by kernel_rfl
theorem Xst:(Rows.laid_internal_strconv_uint64pow10:DataW Unit)=Lib.tabData .u64 Lib.pow10Tab:=rfl
theorem Xux {P:Program} {w:World} {n:String} {g:Nat} {cs:Array Value} (hg:P.globalNamed n=some g) (h:w.var? P n=some cs):g<w.heap.size:=by
 unfold World.var? at h;rw [hg] at h
 rcases Nat.lt_or_ge g w.heap.size with hl | hl
 ·exact hl
 simp [Array.getElem?_eq_none hl] at h
theorem gAcc:Tryz.prog.globalNamed "unicode/utf8.acceptRanges" = some 8:=by kernel_rfl
theorem env {W:World} (h:laidMetH Tryz.prog Rows.keptRow.laid W):Tryz.Env W/\9<=W.heap.size:=by
 obtain⟨ps,⟨g1,t1,cs1,fu1,p1,q1,-,-,-,-,⟨g2,t2,cs2,fu2,p2,q2,-,-,hv2,-,⟨g3,t3,cs3,fu3,p3,q3,hg3,ht3,hv3,hd3,⟨g0,t0,cs0,fu0,p0,q0,-,-,hv0,-,⟨g4,t4,cs4,fu4,p4,q4,hg4,ht4,hv4,hd4,⟨g5,t5,cs5,fu5,p5,q5,hg5,ht5,hv5,hd5,-,-⟩,-⟩,-⟩,-⟩,-⟩,-⟩,-⟩:=(Xa3 h).1;obtain rfl:=Option.some.inj (Tryz.gTab.symm.trans hg3);obtain rfl:=Option.some.inj (Xqd.symm.trans ht3);obtain rfl:=Option.some.inj (Tryz.gRng.symm.trans hg4);obtain rfl:=Option.some.inj (Xpt.symm.trans ht4);obtain rfl:=Option.some.inj (Tryz.gSyn.symm.trans hg5);obtain rfl:=Option.some.inj (Xqf.symm.trans ht5);rw [Xst] at hd3;obtain⟨u4,v4,e4⟩:=iface_of_trod Tryz.underlying81 hd4;obtain⟨u5,v5,e5⟩:=iface_of_trod Tryz.underlying81 hd5
 have c4:cs4=#[.iface u4 v4]:=by obtain⟨l⟩:=cs4;simpa using e4
 have c5:cs5=#[.iface u5 v5]:=by obtain⟨l⟩:=cs5;simpa using e5
 subst c4 c5;refine⟨⟨?_,⟨u5,v5,hv5⟩,⟨u4,v4,hv4⟩⟩,?_⟩
 ·unfold Lib.TabIs
  rw [hv3,<- Lib.cells_of_tab Tryz.underlying318 Tryz.underlying31 Tryz.Xe3 Xrs hd3]
 have l5:=Xux gAcc hv0;omega
end Go.Proofs.YtjbekgjdempbiaaGreatDoor
