import Derived.Test.YtjbekgjdempbiaaGreatDoorJCTkC
import Derived.Test.YtjbekgjdempbiaaGreatDoorCards
import Derived.Test.YtjbekgjdempbiaaGreatDoorTie
import Derived.ProofKit
import Derived.OpenShut
import Derived.Deep.DeepHandedRow
import Derived.Deep.DeepWitnessRowRef
import Derived.Lib.LaidTab
import Derived.LaidHandle
import Derived.LaidLaws
import Derived.RowKitTokens
import Derived.Shelf.Vars
set_option maxRecDepth 100000
set_option maxHeartbeats 8000000
namespace Go.Proofs
open Go.RowKit Go.Sort Go.Lib Go.Shelf Go.Maps
theorem Tryz.Sys.Xaj {B hb rb:Nat} {σ:SS} {W:World} (h:Sys B W hb rb σ):∀ b∈σ.k.turns,b≠rb:=fun b hbt=>by
 obtain⟨ra,rc,hr⟩:=h.rvb;obtain⟨fd,fn,hd,e1,e2⟩:=h.wh.d;obtain⟨n1,-,m1⟩:=h.wh.v.va.held.mapT;obtain⟨n2,-,m2⟩:=h.wh.v.va.held.mapL;obtain⟨n3,-,m3⟩:=hd.dm;obtain⟨n4,-,m4⟩:=hd.nm;simp only [Blk.turns,List.mem_cons,List.not_mem_nil,or_false] at hbt
 rcases hbt with rfl | rfl | rfl | rfl | rfl | rfl
 ·exact h.wh.v.va.v.ne hr (by decide)
 ·exact BoxN.Xl hr m1
 ·exact BoxN.Xl hr m2
 ·exact hd.box.ne hr (by decide)
 ·exact BoxN.Xl hr m3
 exact BoxN.Xl hr m4
theorem Tryz.Sys.Xdv {B hb rb:Nat} {σ:SS} {W:World} (h:Sys B W hb rb σ):∀ b∈σ.k.turns,σ.vx.due.ownBlock≠some b:=fun b hbt hg=>by
 obtain⟨-,cur,hr⟩:=Xn h.due hg;obtain⟨fd,fn,hd,e1,e2⟩:=h.wh.d;obtain⟨n1,-,m1⟩:=h.wh.v.va.held.mapT;obtain⟨n2,-,m2⟩:=h.wh.v.va.held.mapL;obtain⟨n3,-,m3⟩:=hd.dm;obtain⟨n4,-,m4⟩:=hd.nm;simp only [Blk.turns,List.mem_cons,List.not_mem_nil,or_false] at hbt
 rcases hbt with rfl | rfl | rfl | rfl | rfl | rfl
 ·exact h.wh.v.va.v.ne hr (by decide) rfl
 ·exact BoxN.Xl hr m1 rfl
 ·exact BoxN.Xl hr m2 rfl
 ·exact hd.box.ne hr (by decide) rfl
 ·exact BoxN.Xl hr m3 rfl
 exact BoxN.Xl hr m4 rfl
theorem Tryz.six (B hb rb:Nat) (σ:SS) (w:World) (hS:Sys B w hb rb σ) (cc dd:Int) (er:Value) (k:Int)
  (hT:∀ W,Z1 W->Calls prog 43 #[er] W fun e w'=>e=.returned (.int .i64 k)/\Below W.heap.size W w') (Q:SS->Prop) :
  (∀(id:List UInt8) (s:Value),(∀ W,w.heap.size<=W.heap.size->Whole W σ.k σ.vx σ.tm σ.s σ.c (-1) (-1)->Calls prog 49 #[.pointer (some ⟨σ.k.vb,0,none⟩),.string ⟨id.toArray⟩] W fun e w'=>e=.returned (.tuple #[s,er])/\(∃ σ' l f,(Q σ'/\σ'.k=σ.k/\σ'.vx=σ.vx)/\Whole w' σ.k σ'.vx σ'.tm σ'.s σ'.c l f)/\Spares σ.k.turns W w')->Calls prog 25 #[.pointer (some ⟨hb,0,none⟩),.string ⟨id.toArray⟩,Ya (-1) (-1) cc dd] w fun e w'=>e=.returned (.tuple #[s,.int .i64 k])/\(∃ σ',(Q σ'/\σ'.k=σ.k/\σ'.vx=σ.vx)/\Sys B w' hb rb σ')/\Spares σ.k.turns w w') /\
  (∀(id pth:List UInt8) (ttl most:Int) (s:Value),(∀ W,w.heap.size<=W.heap.size->Whole W σ.k σ.vx σ.tm σ.s σ.c (-1) (-1)->Calls prog 41 #[.pointer (some ⟨σ.k.vb,0,none⟩),.string ⟨id.toArray⟩,.string ⟨pth.toArray⟩,.int .u64 ttl,.int .u64 most] W fun e w'=>e=.returned (.tuple #[s,er])/\(∃ σ' l f,(Q σ'/\σ'.k=σ.k/\σ'.vx=σ.vx)/\Whole w' σ.k σ'.vx σ'.tm σ'.s σ'.c l f)/\Spares σ.k.turns W w')->Calls prog 18 #[.pointer (some ⟨hb,0,none⟩),.string ⟨id.toArray⟩,.string ⟨pth.toArray⟩,.int .u64 ttl,.int .u64 most,Ya (-1) (-1) cc dd] w fun e w'=>e=.returned (.tuple #[s,.int .i64 k])/\(∃ σ',(Q σ'/\σ'.k=σ.k/\σ'.vx=σ.vx)/\Sys B w' hb rb σ')/\Spares σ.k.turns w w') /\
  (∀(id:List UInt8) (ttl:Int) (s:Value),(∀ W,w.heap.size<=W.heap.size->Whole W σ.k σ.vx σ.tm σ.s σ.c (-1) (-1)->Calls prog 44 #[.pointer (some ⟨σ.k.vb,0,none⟩),.string ⟨id.toArray⟩,.int .u64 ttl] W fun e w'=>e=.returned (.tuple #[s,er])/\(∃ σ' l f,(Q σ'/\σ'.k=σ.k/\σ'.vx=σ.vx)/\Whole w' σ.k σ'.vx σ'.tm σ'.s σ'.c l f)/\Spares σ.k.turns W w')->Calls prog 20 #[.pointer (some ⟨hb,0,none⟩),.string ⟨id.toArray⟩,.int .u64 ttl,Ya (-1) (-1) cc dd] w fun e w'=>e=.returned (.tuple #[s,.int .i64 k])/\(∃ σ',(Q σ'/\σ'.k=σ.k/\σ'.vx=σ.vx)/\Sys B w' hb rb σ')/\Spares σ.k.turns w w') /\
  (∀(id:List UInt8),(∀ W,w.heap.size<=W.heap.size->Whole W σ.k σ.vx σ.tm σ.s σ.c (-1) (-1)->Calls prog 51 #[.pointer (some ⟨σ.k.vb,0,none⟩),.string ⟨id.toArray⟩] W fun e w'=>e=.returned (er)/\(∃ σ' l f,(Q σ'/\σ'.k=σ.k/\σ'.vx=σ.vx)/\Whole w' σ.k σ'.vx σ'.tm σ'.s σ'.c l f)/\Spares σ.k.turns W w')->Calls prog 28 #[.pointer (some ⟨hb,0,none⟩),.string ⟨id.toArray⟩,Ya (-1) (-1) cc dd] w fun e w'=>e=.returned (.int .i64 k)/\(∃ σ',(Q σ'/\σ'.k=σ.k/\σ'.vx=σ.vx)/\Sys B w' hb rb σ')/\Spares σ.k.turns w w') /\
  (∀(id:List UInt8) (s:Value),(∀ W,w.heap.size<=W.heap.size->Whole W σ.k σ.vx σ.tm σ.s σ.c (-1) (-1)->Calls prog 52 #[.pointer (some ⟨σ.k.vb,0,none⟩),.string ⟨id.toArray⟩] W fun e w'=>e=.returned (.tuple #[s,er])/\(∃ σ' l f,(Q σ'/\σ'.k=σ.k/\σ'.vx=σ.vx)/\Whole w' σ.k σ'.vx σ'.tm σ'.s σ'.c l f)/\Spares σ.k.turns W w')->Calls prog 29 #[.pointer (some ⟨hb,0,none⟩),.string ⟨id.toArray⟩,Ya (-1) (-1) cc dd] w fun e w'=>e=.returned (.tuple #[s,.int .i64 k])/\(∃ σ',(Q σ'/\σ'.k=σ.k/\σ'.vx=σ.vx)/\Sys B w' hb rb σ')/\Spares σ.k.turns w w') /\
  (∀(id:List UInt8),(∀ W,w.heap.size<=W.heap.size->Whole W σ.k σ.vx σ.tm σ.s σ.c (-1) (-1)->Calls prog 50 #[.pointer (some ⟨σ.k.vb,0,none⟩),.string ⟨id.toArray⟩] W fun e w'=>e=.returned (er)/\(∃ σ' l f,(Q σ'/\σ'.k=σ.k/\σ'.vx=σ.vx)/\Whole w' σ.k σ'.vx σ'.tm σ'.s σ'.c l f)/\Spares σ.k.turns W w')->Calls prog 26 #[.pointer (some ⟨hb,0,none⟩),.string ⟨id.toArray⟩,Ya (-1) (-1) cc dd] w fun e w'=>e=.returned (.int .i64 k)/\(∃ σ',(Q σ'/\σ'.k=σ.k/\σ'.vx=σ.vx)/\Sys B w' hb rb σ')/\Spares σ.k.turns w w'):=by
 obtain⟨fd,fn,hD,e1,e2⟩:=hS.wh.d;have hH:=hS.host;have hbs:=hS.V4
 have hdb:σ.k.db∈σ.k.turns:=by simp [Blk.turns]
 have hne:=hH.ne hD.box (by decide);have lH:=hH.lt;have lD:=hD.box.lt;have hB0:Below w.heap.size w (w.alloc (.cells #[.int .i64 (-1),.int .i64 (-1),.int .i64 cc,.int .i64 dd] 29)):=(Below.refl _ w).alloc (Nat.le_refl _) _;have bF:=BoxN.new w 29 #[.int .i64 (-1),.int .i64 (-1),.int .i64 cc,.int .i64 dd];have h2:=hH.cell 2 (v:=.pointer (some ⟨σ.k.vb,0,none⟩)) rfl;have hBf:=before hb σ.k.db _ _ _ _ _ _ _ _ (-1) (-1) cc dd _ (hH.alloc (.cells #[.int .i64 (-1),.int .i64 (-1),.int .i64 cc,.int .i64 dd] 29)) (hD.box.alloc _);have hW0:=hS.wh.below hB0;have h9:=hS.nine;unfold Ya at hBf ⊢;refine⟨?_,?_,?_,?_,?_,?_⟩
 focus
  intro id s hC;go_enter func25,ntmps25
 rotate_left
 focus
  intro id pth ttl most s hC;go_enter func18,ntmps18
 rotate_left
 focus
  intro id ttl s hC;go_enter func20,ntmps20
 rotate_left
 focus
  intro id hC;go_enter func28,ntmps28
 rotate_left
 focus
  intro id s hC;go_enter func29,ntmps29
 rotate_left
 focus
  intro id hC;go_enter func26,ntmps26
 rotate_left
 all_goals
  go_wp2_with (first
   | (go_at_call 40;refine hBf.mono ?_;rintro e w1 ⟨rfl,bD1,hg1⟩;have bH1:=(hH.alloc (.cells #[.int .i64 (-1),.int .i64 (-1),.int .i64 cc,.int .i64 dd] 29)).kept hg1 (by intro e;injection e with e;exact hne e);have bF1:=bF.kept hg1 (by intro e;injection e with e;omega);have hW1:=hW0.Xaz (Spares.X4 hg1 (by simp)) bD1;have hC1:=hC w1 (by have:=hg1.size;simp at this;omega) hW1;have h21:=bH1.cell 2 (v:=.pointer (some ⟨σ.k.vb,0,none⟩)) rfl;have f0:=bF1.cell 0 (v:=.int .i64 (-1)) rfl;have f1:=bF1.cell 1 (v:=.int .i64 (-1)) rfl;have f2:=bF1.cell 2 (v:=.int .i64 cc) rfl;have f3:=bF1.cell 3 (v:=.int .i64 dd) rfl;have HG1:=Xb hg1;clear hg1)
   | ((first | go_at_call 49 | go_at_call 41 | go_at_call 44 | go_at_call 51 | go_at_call 52 | go_at_call 50);refine hC1.mono ?_;rintro e w2 ⟨rfl,⟨σ',l',f',hQ,hW2⟩,hs2⟩;have bH2:=hs2.box bH1 (fun hx=>(hbs _ hx).2.1 rfl);obtain⟨fd2,fn2,hD2,-,-⟩:=hW2.d;have bF2:=hs2.box bF1 (fun hx=>by have:=(hbs _ hx).2.2;omega);have g0:=bF2.cell 0 (v:=.int .i64 (-1)) rfl;have g1:=bF2.cell 1 (v:=.int .i64 (-1)) rfl;have g2:=bF2.cell 2 (v:=.int .i64 cc) rfl;have g3:=bF2.cell 3 (v:=.int .i64 dd) rfl;have hBa:=after hb σ.k.db _ _ _ _ _ _ _ (-1) (-1) cc dd _ bH2 hD2.box;unfold Ya at hBa;have HS2:=Xb hs2;clear hs2)
   | (go_at_call 42;refine hBa.mono ?_;rintro e w3 ⟨rfl,bD3,hg3⟩;have hsp3:Spares σ.k.turns w w3:=(((Spares.of_below hB0).trans (Spares.X4 (Xa HG1) hdb)).trans (Xa HS2)).trans (Spares.X4 hg3 hdb);have hE3:Z1 w3:=hS.err.below (hsp3.below h9 (fun b hb=>(hbs b hb).1));have HG3:=Xb hg3;clear hg3;have HSP:=Xb hsp3;clear hsp3)
   | (go_at_call 43;refine(hT _ hE3).mono ?_;rintro e w4 ⟨rfl,hb4⟩))
  have hsp3:=Xa HSP;have hg3:=Xa HG3;have bH3:=bH2.kept hg3 (by intro e;injection e with e;exact hne e);have hW3:=hW2.Xaz (Spares.X4 hg3 (by simp)) bD3;obtain⟨hQ1,hk,hx⟩:=hQ;obtain⟨ra,rc,hr⟩:=hS.rvb
  have hSy:Sys B w3 hb rb σ':=by
   exact { host:=by rw [hk];exact bH3,wh:=by rw [hk];exact hW3,err:=hE3,b9:=hS.b9,hlow:=hS.hlow,low:=by rw [hk];exact hS.low,rvb:=⟨ra,rc,hsp3.box hr (fun hm=>Sys.Xaj hS rb hm rfl)⟩,rlow:=hS.rlow,vrv:=by rw [hx];exact hS.vrv,vtk:=by rw [hx];exact hS.vtk,due:=by rw [hx];exact hsp3.Jv hS.due (fun g hg hm=>Sys.Xdv hS g hm hg) }
  first | go_ret2 | go_ret
  exact⟨rfl,⟨σ',⟨hQ1,hk,hx⟩,hSy.below hb4⟩,hsp3.trans (Spares.of_below hb4)⟩
theorem Tryz.hAuth (hb db rb vb:Nat) (w:World) (hH:BoxN w hb 78 #[.pointer (some ⟨db,0,none⟩),.pointer (some ⟨rb,0,none⟩),.pointer (some ⟨vb,0,none⟩)]) (id pth:List UInt8) (r:Bool)
  (hC:Calls prog 47 #[.pointer (some ⟨vb,0,none⟩),.string ⟨id.toArray⟩,.string ⟨pth.toArray⟩] w fun e w'=>e=.returned (.bool r)/\Below w.heap.size w w') :
  Calls prog 23 #[.pointer (some ⟨hb,0,none⟩),.string ⟨id.toArray⟩,.string ⟨pth.toArray⟩] w fun e w'=>e=.returned (.bool r)/\Below w.heap.size w w':=by
 have h2:=hH.cell 2 (v:=.pointer (some ⟨vb,0,none⟩)) rfl;go_enter func23,ntmps23
 go_wp2_with (go_at_call 47;refine hC.mono ?_;rintro e w1 ⟨rfl,hb1⟩)
 go_ret;exact⟨rfl,hb1⟩
end Go.Proofs
namespace Go.Proofs.YtjbekgjdempbiaaGreatDoor
open Go.ChangeShapes Go.WideShapes Go.ChangeAt Go.RowKit Go.Proofs
theorem own:ownKnob Tryz.prog.godebug=none:=by kernel_rfl
theorem laidOut:laidOutB Tryz.prog=true:=by kernel_rfl
theorem gErr:Tryz.prog.globalNamed "errors.errorType" = some 0:=by kernel_rfl
theorem rt:(Tryz.prog.cutTypes.find? (·.1 == "internal/reflectlite.rtype")).map (·.2)=some 243:=by kernel_rfl
theorem Xo7:Tryz.prog.types.size=417:=by kernel_rfl
theorem Xo1:((List.range 417).filter fun t=>Tryz.prog.rowNamed t [101,114,114,111,114]) = [81]:=by kernel_rfl
theorem Vk {W:World} (h:laidMetH Tryz.prog Rows.compactedRow.laid W) :
  laidMet Tryz.prog [("math/bits.deBruijn32tab",Rows.laid_math_bits_deBruijn32tab),("math/bits.deBruijn64tab",Rows.laid_math_bits_deBruijn64tab),("internal/strconv.uint64pow10",Rows.laid_internal_strconv_uint64pow10),("unicode/utf8.acceptRanges",Rows.laid_unicode_utf8_acceptRanges),("strconv.ErrRange",Rows.laid_strconv_ErrRange),("strconv.ErrSyntax",Rows.laid_strconv_ErrSyntax),("unicode/utf8.first",Rows.laid_unicode_utf8_first)] W/\handlesMet Tryz.prog [("errors.errorType",Rows.laid_errors_errorType)] W:=h
theorem maxLen {W:World} (h:W.ShapedOpen Tryz.prog):∃ m,W.cell? ⟨6,0,none⟩=some (.int .i64 m):=
 cell_of_shapedOpen_int h (of_decide_eq_true (by kernel_rfl)) (t:=3) (zero:=#[.int .i64 0]) (by kernel_rfl) rfl (by kernel_rfl) (by kernel_rfl) Tryz.underlying3
theorem errT {W:World} (h:laidMetH Tryz.prog Rows.compactedRow.laid W) (hsh:W.ShapedOpen Tryz.prog):Tryz.Z1 W:=by
 obtain⟨name,u,ty,e1,e2,e3,e4,e5⟩:=(Vk h).2 _ (List.mem_singleton.2 rfl);have en:name = [101,114,114,111,114]:=(Option.some.inj e1).symm;subst en;obtain rfl:=Option.some.inj (rt.symm.trans e2)
 have hm:ty∈(List.range 417).filter fun t=>Tryz.prog.rowNamed t [101,114,114,111,114]:=List.mem_filter.2 ⟨List.mem_range.2 (by rw [<- Xo7];exact e3),e4⟩
 rw [Xo1] at hm;obtain rfl:=List.mem_singleton.1 hm
 have hh:typeHandle Tryz.prog 81=.pointer (some ⟨9,81,none⟩):=by kernel_rfl
 rw [hh] at e5;exact⟨by simpa using World.var?_cell gErr e5 0,maxLen hsh⟩
theorem iface_of_trod {H:Type} {enc:TypeId × Value->H} {P:Program} {w:World} {base:Nat} {sp:Nat->Bool} {held:Bool} {fuel:Nat} {t:TypeId} {ms:Array (String × TypeId)} {cs:List Value} {name:String} {d:DataW H} {p:List MemPlace} (ht:P.underlying t=some (.interface ms)) (h:DataW.trod enc P w base sp held fuel t cs=some (.iface name d,p)):∃ u v,cs = [.iface u v]:=by
 cases fuel with
 | zero=>simp [DataW.trod] at h
 | succ n =>
  unfold DataW.trod at h;rw [ht] at h
  split at h <;> simp_all
theorem Xl0:(Tryz.prog.globals[3]?).map (·.type)=some 318:=by kernel_rfl
theorem Xkj:(Tryz.prog.globals[1]?).map (·.type)=some 81:=by kernel_rfl
theorem Xlh:(Tryz.prog.globals[2]?).map (·.type)=some 81:=by kernel_rfl
theorem Xkq:Tryz.prog.cellsOf 318=20:=by kernel_rfl
theorem Xnh:(Rows.laid_internal_strconv_uint64pow10:DataW Unit)=Lib.tabData .u64 Lib.pow10Tab:=rfl
theorem Xo3 {P:Program} {w:World} {n:String} {g:Nat} {cs:Array Value} (hg:P.globalNamed n=some g) (h:w.var? P n=some cs):g<w.heap.size:=by
 unfold World.var? at h;rw [hg] at h
 rcases Nat.lt_or_ge g w.heap.size with hl | hl
 ·exact hl
 simp [Array.getElem?_eq_none hl] at h
theorem gAcc:Tryz.prog.globalNamed "unicode/utf8.acceptRanges" = some 8:=by kernel_rfl
theorem env {W:World} (h:laidMetH Tryz.prog Rows.compactedRow.laid W):Tryz.Env W/\9<=W.heap.size:=by
 obtain⟨ps,⟨g1,t1,cs1,fu1,p1,q1,-,-,-,-,⟨g2,t2,cs2,fu2,p2,q2,-,-,hv2,-,⟨g3,t3,cs3,fu3,p3,q3,hg3,ht3,hv3,hd3,⟨g0,t0,cs0,fu0,p0,q0,-,-,hv0,-,⟨g4,t4,cs4,fu4,p4,q4,hg4,ht4,hv4,hd4,⟨g5,t5,cs5,fu5,p5,q5,hg5,ht5,hv5,hd5,-,-⟩,-⟩,-⟩,-⟩,-⟩,-⟩,-⟩:=(Vk h).1;obtain rfl:=Option.some.inj (Tryz.gTab.symm.trans hg3);obtain rfl:=Option.some.inj (Xl0.symm.trans ht3);obtain rfl:=Option.some.inj (Tryz.gRng.symm.trans hg4);obtain rfl:=Option.some.inj (Xlh.symm.trans ht4);obtain rfl:=Option.some.inj (Tryz.gSyn.symm.trans hg5);obtain rfl:=Option.some.inj (Xkj.symm.trans ht5);rw [Xnh] at hd3;obtain⟨u4,v4,e4⟩:=iface_of_trod Tryz.underlying81 hd4;obtain⟨u5,v5,e5⟩:=iface_of_trod Tryz.underlying81 hd5
 have c4:cs4=#[.iface u4 v4]:=by obtain⟨l⟩:=cs4;simpa using e4
 have c5:cs5=#[.iface u5 v5]:=by obtain⟨l⟩:=cs5;simpa using e5
 subst c4 c5;refine⟨⟨?_,⟨u5,v5,hv5⟩,⟨u4,v4,hv4⟩⟩,?_⟩
 ·unfold Lib.TabIs
  rw [hv3,<- Lib.cells_of_tab Tryz.underlying318 Tryz.underlying31 Tryz.Xf4 Xkq hd3]
 have l5:=Xo3 gAcc hv0;omega
end Go.Proofs.YtjbekgjdempbiaaGreatDoor
namespace Go.Proofs.YtjbekgjdempbiaaGreatDoor
open Go.ChangeShapes Go.WideShapes Go.ChangeAt Go.RowKit Go.Proofs
theorem fMaps:mapsRowed Tryz.prog=true:=by kernel_rfl
theorem Xoo:Tryz.prog.stopsHeard=true:=by kernel_rfl
theorem Xou:Tryz.prog.mayEnter=true:=by kernel_rfl
end Go.Proofs.YtjbekgjdempbiaaGreatDoor
namespace Go.Proofs.YtjbekgjdempbiaaGreatDoor
open Go.ChangeShapes Go.WideShapes Go.ChangeAt Go.RowKit Go.Proofs
theorem fLift:(Rows.compactedRow.lifted==Tryz.prog.liftsFinal)=true:=by kernel_rfl
theorem fMake:(Tryz.prog.make==some Rows.compactedRow.make)=true:=by kernel_rfl
theorem Xo8:(Rows.compactedRow.inPlace==Tryz.prog.inPlace 13)=true:=by kernel_rfl
end Go.Proofs.YtjbekgjdempbiaaGreatDoor
namespace Go.Proofs.YtjbekgjdempbiaaGreatDoor
open Go.ChangeShapes Go.WideShapes Go.ChangeAt Go.RowKit Go.Proofs
theorem Xop:(Rows.compactedRow.unfollowed==Tryz.prog.unfollowed 13)=true:=by kernel_rfl
theorem Xph:(Rows.compactedRow.recurses==Tryz.prog.recurses 13)=true:=by kernel_rfl
theorem Xo2:(Rows.compactedRow.named==Tryz.prog.varsNamed 13)=true:=by kernel_rfl
end Go.Proofs.YtjbekgjdempbiaaGreatDoor
namespace Go.Proofs.YtjbekgjdempbiaaGreatDoor
open Go.ChangeShapes Go.WideShapes Go.ChangeAt Go.RowKit Go.Proofs
theorem Ye {a b:Bool} (ha:a=true) (hb:b=true):(a&&b)=true:=by rw [ha,hb];rfl
theorem Xnm:joinedFacts Tryz.prog 13 Tryz.f13 (OpenSpec.ofChange Rows.compactedSpec).bare Rows.compactedRow=true:=
 Ye (Ye (Ye (Ye (Ye (Ye (Ye (Ye (Ye (Ye (Ye (Ye (Ye (Ye (Ye (Ye (Ye (Ye (Ye (Ye (Ye (Ye (Ye (Ye (Ye (Ye (Ye (Ye (Ye (Ye (Ye
  (by kernel_rfl) laidOut) fMaps)
  (by kernel_rfl)) (by kernel_rfl))
  (by kernel_rfl)) (by kernel_rfl)) (by kernel_rfl)) (by kernel_rfl))
  Xo8) Xop) Xph) Xo2)
  (by kernel_rfl)) (by kernel_rfl)) (by kernel_rfl))
  (by kernel_rfl)) (by kernel_rfl))
  (by kernel_rfl)) (by kernel_rfl)) (by kernel_rfl)) (by kernel_rfl)) (by kernel_rfl)) (by kernel_rfl)) Xoo) Xou) fLift) fMake) (by kernel_rfl)) (by kernel_rfl))
  (by kernel_rfl)) (by kernel_rfl)
end Go.Proofs.YtjbekgjdempbiaaGreatDoor
