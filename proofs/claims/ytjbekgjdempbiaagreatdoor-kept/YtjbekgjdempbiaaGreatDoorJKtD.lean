import Derived.Test.YtjbekgjdempbiaaGreatDoorJSq
import Derived.Test.YtjbekgjdempbiaaGreatDoorJRecC
import Derived.Test.YtjbekgjdempbiaaGreatDoorJMapN
import Derived.Test.YtjbekgjdempbiaaGreatDoorJJrnC
import Derived.Carry
import Derived.Maps.RangeWalk
import Derived.Test.YtjbekgjdempbiaaGreatDoorJFndA
import Derived.Test.YtjbekgjdempbiaaGreatDoorJTkB
import Derived.Test.YtjbekgjdempbiaaGreatDoorJTkE
set_option maxRecDepth 100000
set_option maxHeartbeats 8000000
namespace Go.Proofs
open Go.RowKit Go.Sort Go.Maps
theorem Tryz.root (w:World):Calls prog 85 #[] w fun e w'=>e=.returned (nmV (1,0))/\Below w.heap.size w w':=by
 unfold nmV;go_enter func85,ntmps85;go_wp2;exact bodyPost_ret (v:=.agg #[.int .i64 1,.int .u64 0]) (by simp [results,results85,go_sem]) rfl ⟨rfl,(Below.refl _ _).alloc (Nat.le_refl _) _⟩
theorem Tryz.hIs (hb:Nat) (c0 c1:Value) (p:Addr) (w:World) (hH:BoxN w hb 78 #[c0,c1,.pointer (some p)]) :
  Calls prog 36 #[.pointer (some ⟨hb,0,none⟩)] w fun e w'=>e=.returned (.bool true)/\w'=w:=by
 have h2:=hH.cell 2 (v:=.pointer (some p)) rfl;go_enter func36,ntmps36;go_wp2;go_ret;exact⟨rfl,rfl⟩
theorem Xfi (w:World) (db i i':Nat) (v v':Value):w.grownBy ((w.setCell ⟨db,i,none⟩ v).setCell ⟨db,i',none⟩ v') (some db):=
 ⟨rfl,rfl,rfl,by simp,fun k _ hne=>by
  have hd:k≠db:=fun e=>hne (by rw [e])
  rw [Yt _ _ _ _ _ hd,Yt _ _ _ _ _ hd]⟩
theorem BoxN.ne_map {H:Type} {P:Program} {k:TypeId} {R:Value->Option (DataW H × List MemPlace)} {D:DataW H} {W:World} {B b n:Nat} {t:TypeId} {cs:Array Value} (h:BoxN W B t cs) (hm:W.ownsMap P k R b n D):b≠B:=by
 rintro rfl;obtain⟨es,clock,hb,_⟩:=hm;have e:=hb.symm.trans h;cases e
theorem Tryz.up (db b:Nat) (m2 p l f dn:Value) (w:World) (hD:BoxN w db 100 #[.map (some b),m2,p,l,f,dn]) (hown:w.ownsMap prog 9 Yd b 0 (.map [])) :
  Calls prog 56 #[.pointer (some ⟨db,0,none⟩)] w fun e w'=>e=.returned (.tuple #[])/\(∃ b2,w.heap.size<=b2/\w'.ownsMap prog 9 Yd b2 0 (.map [])/\BoxN w' db 100 #[.map (some b),.map (some b2),.slice none 0 0,l,f,.bool false])/\w.grownBy w' (some db):=by
 have hmk:∀ W,(Instr.makeMap 97 none).run prog W=.ok (.map (some W.heap.size)) (W.alloc (.map #[] 0)):=fun W=>run_makeMap _ W
 have d0:=hD.cell 0 (v:=.map (some b)) rfl;have d1:=hD.cell 1 (v:=m2) rfl;have d2:=hD.cell 2 (v:=p) rfl;have d5:=hD.cell 5 (v:=dn) rfl;have f1:=hD.frozen 1;have f2:=hD.frozen 2;have f5:=hD.frozen 5;have lD:=hD.lt;go_enter func56,ntmps56;have hne:=hD.ne_map hown;have hown1:=(hown.setCell (a:=⟨db,1,none⟩) hne (.map (some w.heap.size))).alloc (.map #[] 0)
 go_wp2_with (first
  | (at_range;refine wpList_range_own _ rfl _ 97 rfl 9 101 (string_keyed underlying9) underlying97 _ b 0 _ rfl hown1 ?_;intro w1 hrg hg1 hs1)
  | go_in)
 have bD1:BoxN w1 db 100 #[.map (some b),.map (some w.heap.size),p,l,f,dn]:=((hD.set 1 (.map (some w.heap.size))).alloc (.map #[] 0)).kept hg1 (by simp);have hMn0:=World.ownsMap_made (w.setCell ⟨db,1,none⟩ (.map (some w.heap.size))) prog 9 Yd;have hMn1:=hMn0.kept hg1 (by simp);rw [World.size_setCell] at hMn1
 have hgr:w.grownBy w1 (some db):=⟨hg1.os,hg1.tape,hg1.output,by rw [hs1];simp;omega,fun k hk hnk=>by
  have hd:k≠db:=fun e=>hnk (by rw [e])
  rw [hg1.block k (by simp;omega) (by simp)]
  show (((w.setCell ⟨db,1,none⟩ (.map (some w.heap.size))).heap.push _)[k]?)=_
  rw [Array.getElem?_push_lt (by simpa using hk),<- Array.getElem?_eq_getElem,Yt _ _ _ _ _ hd]⟩
 have HG:=Xb hgr;clear hgr hg1 hs1 hown1 hown d0 d1 d2 d5 f1 f2 f5;have d2:=bD1.cell 2 (v:=p) rfl;have d5:=bD1.cell 5 (v:=dn) rfl;have f2:=bD1.frozen 2;have f5:=bD1.frozen 5;refine wp_loop_rounds 1 ?_;rw [rounds_succ]
 go_wp2_with (first
  | (at_next;refine wpList_next_ranges _ rfl _ rfl 9 (string_keyed underlying9) Yd (fun v:Value=>v) (fun v:Value=>v) (fun v _ _=>⟨v,rfl⟩) (fun v _ _=>⟨v,rfl⟩) b _ 0 _ _ _ rfl hrg ?_ ?_)
  | go_in)
 ·intro _ _
  clear hrg;go_wp2
  go_end0
  have hnn:=bD1.ne_map hMn1;exact⟨rfl,⟨_,Nat.le_refl _,(hMn1.setCell (a:=⟨db,2,none⟩) hnn _).setCell (a:=⟨db,5,none⟩) hnn _,(bD1.set 2 _).set 5 _⟩,(Xa HG).andThen (Xfi w1 db 2 5 _ _) (fun j e=>.inr e)⟩
 intro x c kl y yp w' cnt' _ h2;have h3:false=true:=h2;cases h3
theorem Tryz.Xs7 (w:World):Calls prog 35 #[] w fun e w'=>∃ hb db rb md mn,e=.returned (.pointer (some ⟨hb,0,none⟩))/\BoxN w' hb 78 #[.pointer (some ⟨db,0,none⟩),.pointer (some ⟨rb,0,none⟩),.pointer none]/\Xj w' db md mn none none (.slice none 0 0) (-1) (-1)/\BoxN w' rb 88 #[.slice none 0 0,.int .u64 0]/\(w.heap.size<=hb/\w.heap.size<=db/\w.heap.size<=rb/\w.heap.size<=md/\w.heap.size<=mn)/\Below w.heap.size w w':=by
 have hmk:∀ W,(Instr.makeMap 97 none).run prog W=.ok (.map (some W.heap.size)) (W.alloc (.map #[] 0)):=fun W=>run_makeMap _ W
 have bD:=((BoxN.new (w.alloc (.map #[] 0)) 100 #[.map (some w.heap.size),.map none,.slice none 0 0,.int .i64 (-1),.int .i64 (-1),.bool false]).alloc (.cells #[.slice none 0 0,.int .u64 0] 88)).alloc (.cells #[.pointer (some ⟨w.heap.size+1,0,none⟩),.pointer (some ⟨w.heap.size+1+1,0,none⟩),.pointer none] 78);have bR:=(BoxN.new ((w.alloc (.map #[] 0)).alloc (.cells #[.map (some w.heap.size),.map none,.slice none 0 0,.int .i64 (-1),.int .i64 (-1),.bool false] 100)) 88 #[.slice none 0 0,.int .u64 0]).alloc (.cells #[.pointer (some ⟨w.heap.size+1,0,none⟩),.pointer (some ⟨w.heap.size+1+1,0,none⟩),.pointer none] 78);have bH:=BoxN.new (((w.alloc (.map #[] 0)).alloc (.cells #[.map (some w.heap.size),.map none,.slice none 0 0,.int .i64 (-1),.int .i64 (-1),.bool false] 100)).alloc (.cells #[.slice none 0 0,.int .u64 0] 88)) 78 #[.pointer (some ⟨w.heap.size+1,0,none⟩),.pointer (some ⟨w.heap.size+1+1,0,none⟩),.pointer none];have hM:((((w.alloc (.map #[] 0)).alloc (.cells #[.map (some w.heap.size),.map none,.slice none 0 0,.int .i64 (-1),.int .i64 (-1),.bool false] 100)).alloc (.cells #[.slice none 0 0,.int .u64 0] 88)).alloc (.cells #[.pointer (some ⟨w.heap.size+1,0,none⟩),.pointer (some ⟨w.heap.size+1+1,0,none⟩),.pointer none] 78)).ownsMap prog 9 Yd w.heap.size 0 (.map []):=(((World.ownsMap_made w prog 9 Yd).alloc _).alloc _).alloc _;have hB:Below w.heap.size w ((((w.alloc (.map #[] 0)).alloc (.cells #[.map (some w.heap.size),.map none,.slice none 0 0,.int .i64 (-1),.int .i64 (-1),.bool false] 100)).alloc (.cells #[.slice none 0 0,.int .u64 0] 88)).alloc (.cells #[.pointer (some ⟨w.heap.size+1,0,none⟩),.pointer (some ⟨w.heap.size+1+1,0,none⟩),.pointer none] 78)):=((((Below.refl _ w).alloc (Nat.le_refl _) _).alloc (by simp) _).alloc (by simp;omega) _).alloc (by simp;omega) _;simp only [World.size_alloc] at bD bR bH;have hU:=up _ _ _ _ _ _ _ _ bD hM;go_enter func35,ntmps35
 go_wp2_with (go_at_call 56;refine hU.mono ?_;rintro e w1 ⟨rfl,⟨b2,hb2,hM2,bD1⟩,hg1⟩)
 go_ret;have hM1:=hM.kept hg1 (by intro e;injection e with e;omega);simp only [World.size_alloc] at hb2;exact⟨_,_,_,w.heap.size,b2,rfl,bH.kept hg1 (by intro e;injection e with e;omega),⟨bD1,⟨0,by omega,hM1⟩,⟨0,by omega,hM2⟩,by simp,by simp,by omega⟩,bR.kept hg1 (by intro e;injection e with e;omega),⟨by omega,by omega,by omega,by omega,by omega⟩,hB.grown hg1 (by simp;omega) (fun q hq=>by cases hq;omega)⟩
end Go.Proofs
namespace Go.Proofs
open Go.RowKit Go.Sort Go.Lib Go.Shelf Go.Maps
theorem Tryz.Xpe (db md mn:Nat) (fd:Option (Nat × List UInt8)) (l f:Int) (tv:Value) (w:World) (hD:Xj w db md mn fd none (.slice none 0 0) l f) (hE:Env w) (h9:9<=w.heap.size) (hG:Ja w) :
  Calls prog 99 #[Yg db,tv] w fun e w'=>e=.returned (.tuple #[.pointer (some ⟨w.heap.size,0,none⟩),.nilIface])/\BoxN w' w.heap.size 212 #[Yg db,.int .u64 0,.nilIface]/\Below w.heap.size w w':=by
 have hB0:Below w.heap.size w (w.alloc (.cells #[Yg db,.int .u64 0,.nilIface] 212)):=(Below.refl _ w).alloc (Nat.le_refl _) _;have bJ:=BoxN.new w 212 #[Yg db,.int .u64 0,.nilIface];have hF:=callsIn_wide.1 (Xo0 w.heap.size db md mn _ _ fd l f _ bJ (hD.below hB0))
 have hT:=fun W (hb:Below w.heap.size w W)=>Xiw tv W (hE.below hb (by omega)) (Nat.le_trans h9 hb.size) (hG.below (hb.mono h9))
 unfold Yg at hF hB0 bJ ⊢;go_enter func99,ntmps99
 go_wp2_with (first
  | (go_at_call 146;refine hF.mono ?_;rintro e w1 ⟨rfl,hb1⟩;have hB1:=hB0.trans (hb1.mono (by simp));have bJ1:=bJ.below hb1 (by simp))
  | (go_at_call 147;refine(hT _ hB1).mono ?_;rintro e w2 ⟨rfl,hb2⟩))
 go_ret2
 exact⟨rfl,bJ1.below hb2 bJ1.lt,hB1.trans (hb2.mono hB1.size)⟩
def Tryz.Vp:Value:=.agg #[.int .i64 0,.int .u64 0,.int .u64 18446744073709551615,.int .i64 0,.bool false]
theorem Tryz.Xhq:(DataW.map []).put (nmL (1,0)) (.held Vp)=mapD ([rootE].map Xd.key).reverse:=by rfl
theorem Xkz:Xx [rootE] []:=⟨by simp,by simp,by simp,by simp,fun t ht=>by rw [List.mem_singleton.1 ht];exact⟨by show (0:Nat)<Xn;decide,by show (0:Nat)<Xn;decide⟩,fun l hl=>(by cases hl)⟩
theorem Tryz.Xjm (db md mn rb:Nat) (l f now:Int) (w:World) (hD:Xj w db md mn none none (.slice none 0 0) l f) (hE:Env w) (h9:9<=w.heap.size) (hG:Ja w) (t0:0<=now) (t1:now<=18446744073709551615) (d9:9<=db/\9<=md/\9<=mn) :
  Calls prog 55 #[Yg db,.iface 75 (.pointer (some ⟨rb,0,none⟩)),.int .u64 now] w fun e w'=>∃ vb mt ml jb,e=.returned (.tuple #[.pointer (some ⟨vb,0,none⟩),.nilIface])/\Whole w' ⟨vb,mt,ml,jb,db,md,mn⟩ ⟨.pointer (some ⟨jb,0,none⟩),.iface 75 (.pointer (some ⟨rb,0,none⟩)),false,.slice none 0 0⟩ now ⟨0,0,[rootE],[]⟩ [] l f/\(w.heap.size<=vb/\w.heap.size<=mt/\w.heap.size<=ml/\w.heap.size<=jb)/\Below w.heap.size w w':=by
 have hmkT:∀ W,(Instr.makeMap 120 none).run prog W=.ok (.map (some W.heap.size)) (W.alloc (.map #[] 0)):=fun W=>run_makeMap _ W
 have hmkL:∀ W,(Instr.makeMap 121 none).run prog W=.ok (.map (some W.heap.size)) (W.alloc (.map #[] 0)):=fun W=>run_makeMap _ W
 have hR:=fun W=>root W
 unfold nmV at hR;have hM:=World.ownsMap_made w prog 114 Yd;have hB0:Below w.heap.size w (w.alloc (.map #[] 0)):=(Below.refl _ w).alloc (Nat.le_refl _) _
 have hO:=fun W tv (hb:Below w.heap.size w W)=>Xpe db md mn none l f tv W (hD.below hb) (hE.below hb (by omega)) (Nat.le_trans h9 hb.size) (hG.below (hb.mono h9))
 unfold Yg at hO ⊢;go_enter func55,ntmps55
 go_wp2_with (first
  | (go_at_call 85;refine(hR _).mono ?_;rintro e w1 ⟨rfl,hb1⟩;have hM1:=Y7 hM hb1;have hB1:=hB0.trans (hb1.mono (by simp));obtain⟨w2,hrun,hM2,hT2⟩:=hM1.store Y1 underlying120 (by decide) (key:=nmV (1,0)) (val:=Vp) (Xz.keyOf ⟨by decide,by decide⟩) (d:=.held Vp) (ps:=[]) rfl;have hB2:=hB1.grown hT2.grown hB1.size (fun q hq=>by cases hq;omega);have hB4:=hB2.alloc hB2.size (.map #[] 0);have hB5:=hB4.alloc hB4.size (.cells #[.pointer none,.iface 75 (.pointer (some ⟨rb,0,none⟩)),.int .u64 now,.map (some w.heap.size),.map (some w2.heap.size),.int .u64 0,.int .u64 0,.bool false,.slice none 0 0] 126);unfold nmV Vp at hrun)
  | (go_at_call 99;refine(hO _ _ hB5).mono ?_;rintro e w6 ⟨rfl,bJ6,hb6⟩;have bV5:=BoxN.new (w2.alloc (.map #[] 0)) 126 #[.pointer none,.iface 75 (.pointer (some ⟨rb,0,none⟩)),.int .u64 now,.map (some w.heap.size),.map (some w2.heap.size),.int .u64 0,.int .u64 0,.bool false,.slice none 0 0];rw [World.size_alloc] at bV5;have bV6:=bV5.below hb6 (by simp);have v0:=bV6.cell 0 (v:=.pointer none) rfl;have v0f:=bV6.frozen 0))
 simp only [World.size_alloc] at bJ6;have hz2:=hB2.size;have hMl5:=(World.ownsMap_made w2 prog 114 Yd).alloc (.cells #[.pointer none,.iface 75 (.pointer (some ⟨rb,0,none⟩)),.int .u64 now,.map (some w.heap.size),.map (some w2.heap.size),.int .u64 0,.int .u64 0,.bool false,.slice none 0 0] 126);have hMt5:=(hM2.alloc (.map #[] 0)).alloc (.cells #[.pointer none,.iface 75 (.pointer (some ⟨rb,0,none⟩)),.int .u64 now,.map (some w.heap.size),.map (some w2.heap.size),.int .u64 0,.int .u64 0,.bool false,.slice none 0 0] 126);have hMl6:=Y7 hMl5 hb6;have hMt6:=Y7 hMt5 hb6;have hB6:=hB5.trans (hb6.mono hB5.size);have hB7:=hB6.setCell (p:=⟨w2.heap.size+1,0,none⟩) (by simp;omega) (.pointer (some ⟨w2.heap.size+1+1,0,none⟩));have hS7:Spares [w2.heap.size+1] w6 (w6.setCell ⟨w2.heap.size+1,0,none⟩ (.pointer (some ⟨w2.heap.size+1+1,0,none⟩))):=(Spares.of_below (Below.refl _ _)).set (by simp) _ _;have hMl7:=hS7.map hMl6 (by simp);have hMt7:=hS7.map hMt6 (by simp;have:=hM2.lt;omega);have bJ7:=hS7.box bJ6 (by simp);have bV7:=bV6.set 0 (.pointer (some ⟨w2.heap.size+1+1,0,none⟩));have hD7:=hD.below hB7;rw [show ((DataW.map []).put (Lit.string (nmB (1,0))) (.held Vp))=mapD ([rootE].map Xd.key).reverse from Xhq] at hMt7
 exact bodyPost_ret (v:=.tuple #[.pointer (some ⟨w2.heap.size+1,0,none⟩),.nilIface]) (by simp [results,results55,go_sem]) rfl ⟨w2.heap.size+1,w.heap.size,w2.heap.size,w2.heap.size+1+1,rfl,
  { v:={ va:=⟨bV7,⟨⟨_,by decide,hMt7⟩,⟨0,by decide,hMl7⟩⟩,Xkz,hE.below hB7 (by omega),by have:=hB7.size;omega⟩,nt:=fun t ht=>by rw [List.mem_singleton.1 ht];exact Nat.le_refl _,nl:=fun l hl=>(by cases hl),t0:=t0,t1:=t1,okT:=fun t ht=>by rw [List.mem_singleton.1 ht];exact⟨by decide,by decide,by decide,by decide,.inr (.inr ⟨rfl,rfl⟩)⟩,okL:=fun l hl=>(by cases hl),mne:=by have:=hM2.lt;show w.heap.size≠w2.heap.size;omega,v9:=by show 9<=w2.heap.size+1;omega,m9:=h9,l9:=by show 9<=w2.heap.size;omega },jn:=rfl,j:=bJ7,d:=⟨none,none,hD7,Fl.none,Fl.none⟩,j9:=by show 9<=w2.heap.size+1+1;omega,d9:=d9.1,md9:=d9.2.1,mn9:=d9.2.2,ne1:=by have:=hD.lt;show md≠w.heap.size/\md≠w2.heap.size/\mn≠w.heap.size/\mn≠w2.heap.size;omega,log:=Log.nil now },by omega,hB7⟩
abbrev Uz (hb db rb:Nat) (W:World):Prop:=W.cell? ⟨hb,0,none⟩=some (.pointer (some ⟨db,0,none⟩))/\W.cell? ⟨hb,1,none⟩=some (.pointer (some ⟨rb,0,none⟩))
theorem Uz.drew {hb db rb:Nat} {W:World} (h:Uz hb db rb W):Uz hb db rb W.drew:=h
theorem Tryz.Xuz (B hb db rb md mn:Nat) (vv ra rc:Value) (l f:Int) (now c d:Int) (w:World) (hH:BoxN w hb 78 #[.pointer (some ⟨db,0,none⟩),.pointer (some ⟨rb,0,none⟩),vv]) (hD:Xj w db md mn none none (.slice none 0 0) l f) (hR:BoxN w rb 88 #[ra,rc]) (hlo:B<=hb/\B<=db/\B<=rb/\B<=md/\B<=mn) (hBw:B<=w.heap.size) (b9:9<=B) (hE:Env w) (hG:Ja w) (t0:0<=now) (t1:now<=18446744073709551615) :
  Calls prog 33 #[.pointer (some ⟨hb,0,none⟩),.int .u64 now,Yn (-1) (-1) c d] w fun e w'=>e=.returned (.int .i64 0)/\(∃ k vx,Sys B w' hb rb ⟨k,vx,now,⟨0,0,[rootE],[]⟩,[]⟩)/\Below B w w':=by
 obtain⟨lo1,lo2,lo3,lo4,lo5⟩:=hlo;have hne:=hH.ne hD.box (by decide);have hnr:=hH.ne hR (by decide);have hnd:=hD.box.ne hR (by decide);have lH:=hH.lt;have lD:=hD.lt;have bF:=BoxN.new w 29 #[.int .i64 (-1),.int .i64 (-1),.int .i64 c,.int .i64 d];have hB0:Below w.heap.size w (w.alloc (.cells #[.int .i64 (-1),.int .i64 (-1),.int .i64 c,.int .i64 d] 29)):=(Below.refl _ w).alloc (Nat.le_refl _) _;have hBf:=before hb db _ _ _ _ _ _ _ _ (-1) (-1) c d _ (hH.alloc (.cells #[.int .i64 (-1),.int .i64 (-1),.int .i64 c,.int .i64 d] 29)) (hD.box.alloc _)
 have hO:=fun W (hD':Xj W db md mn none none (.slice none 0 0) (-1) (-1)) (hb':Below B w W)=>Xjm db md mn rb (-1) (-1) now W hD' (hE.below hb' (by omega)) (by have:=hb'.size;omega) (hG.below (hb'.mono b9)) t0 t1 ⟨by omega,by omega,by omega⟩
 unfold Yn at hBf ⊢;go_enter func33,ntmps33
 go_wp2_with (go_at_call 40;refine hBf.mono ?_;rintro e w1 ⟨rfl,bD1,hg1⟩)
 have bH1:=(hH.alloc (.cells #[.int .i64 (-1),.int .i64 (-1),.int .i64 c,.int .i64 d] 29)).kept hg1 (by intro e;injection e with e;exact hne e);have bR1:=(hR.alloc (.cells #[.int .i64 (-1),.int .i64 (-1),.int .i64 c,.int .i64 d] 29)).kept hg1 (by intro e;injection e with e;exact hnd e.symm);have bF1:=bF.kept hg1 (by intro e;injection e with e;omega);have hD1:=(hD.below hB0).cells (Spares.X6 hg1 (by simp)) bD1;have hB1:Below B w w1:=(hB0.mono hBw).grown hg1 (by simp;omega) (fun q hq=>by cases hq;exact lo2)
 have hP1:Uz hb db rb w1:=⟨bH1.cell 0 rfl,bH1.cell 1 rfl⟩
 have l1:=bH1.lt;have hO1:=hO w1.drew (hD1.below (Below.refl _ _).drew) hB1.drew;unfold Yg at hO1;clear hBf hO
 go_region_held3 (Uz hb db rb) (first
  | with_reducible exact Uz.drew hP1
  | with_reducible assumption) (first | (go_at_call 55;refine hO1.mono ?_;rintro e w2 ⟨vb,mt,ml,jb,rfl,hW2,hlo2,hb2⟩;have bH2:=BoxN.below (W:=w1.drew) bH1 hb2 bH1.lt;have hP2:Uz hb db rb w2:=⟨bH2.cell 0 rfl,bH2.cell 1 rfl⟩))
 have hz1:w1.drew.heap.size=w1.heap.size:=rfl;have bF2:=BoxN.below (W:=w1.drew) bF1 hb2 bF1.lt;have bR2:=BoxN.below (W:=w1.drew) bR1 hb2 bR1.lt;have hB2:Below B w w2:=hB1.drew.trans (hb2.mono (by have:=hB1.size;omega));have hS3:Spares [hb] w2 (w2.setCell ⟨hb,2,none⟩ (.pointer (some ⟨vb,0,none⟩))):=(Spares.of_below (Below.refl _ _)).set (by simp) _ _;have bH3:=bH2.set 2 (.pointer (some ⟨vb,0,none⟩));have bF3:=hS3.box bF2 (by simp;omega);have bR3:=hS3.box bR2 (by simpa using Ne.symm hnr)
 have hW3:=hW2.spared hS3 (fun b hb'=>by
  obtain⟨fd,fn,hd,-,-⟩:=hW2.d;obtain⟨n3,-,m3⟩:=hd.dm;obtain⟨n4,-,m4⟩:=hd.nm;have hz:=hlo2;simp only [Blk.turns,List.mem_cons,List.not_mem_nil,or_false] at hb';simp only [List.mem_singleton]
  rcases hb' with rfl | rfl | rfl | rfl | rfl | rfl
  ·omega
  ·omega
  ·omega
  ·exact Ne.symm hne
  ·exact BoxN.Xw bH2 m3
  exact BoxN.Xw bH2 m4) (by simp;omega) (fun b x hx=>by simpa using hx.ne bH2 (by decide)) (by simp;omega)
 have hB3:=hB2.setCell (p:=⟨hb,2,none⟩) lo1 (.pointer (some ⟨vb,0,none⟩));obtain⟨fd3,fn3,hD3,-,-⟩:=hW3.d;have hBa:=after hb db _ _ _ _ _ _ _ (-1) (-1) c d _ bH3 hD3.box;have fz:=bH2.frozen 2;have h2:=bH2.cell 2 (v:=vv) rfl;have g0:=bF2.cell 0 (v:=.int .i64 (-1)) rfl;have g1:=bF2.cell 1 (v:=.int .i64 (-1)) rfl;have g2:=bF2.cell 2 (v:=.int .i64 c) rfl;have g3:=bF2.cell 3 (v:=.int .i64 d) rfl
 have nF:w.heap.size≠hb:=by omega
 unfold Yn at hBa;have HW3:=Xb hW3;clear hW3 hW2 hD3
 go_wp2_with (first
  | (go_at_call 42;refine hBa.mono ?_;rintro e w4 ⟨rfl,bD4,hg4⟩)
  | (go_at_call 43;refine(Xbw _).mono ?_;rintro e w5 ⟨rfl,hb5⟩))
 go_ret;have kH:=bH3.kept hg4 (by intro e;injection e with e;exact hne e);have kR:=bR3.kept hg4 (by intro e;injection e with e;exact hnd e.symm);have hW4:=(Xa HW3).Xhl (Spares.X6 hg4 (by simp)) bD4;have hB4:=hB3.grown hg4 (by have:=hB3.size;omega) (fun q hq=>by cases hq;exact lo2);have hz:=hlo2
 have hSys:Sys B w4 hb rb ⟨⟨vb,mt,ml,jb,db,md,mn⟩,⟨.pointer (some ⟨jb,0,none⟩),.iface 75 (.pointer (some ⟨rb,0,none⟩)),false,.slice none 0 0⟩,now,⟨0,0,[rootE],[]⟩,[]⟩:={
  host:=kH,wh:=hW4,err:=hG.below (hB4.mono b9),b9:=b9,hlow:=lo1,
  low:=fun b hb'=>by
   have:=hB1.size;simp only [Blk.turns,List.mem_cons,List.not_mem_nil,or_false] at hb'
   omega,
  rvb:=⟨_,_,kR⟩,rlow:=lo3,vrv:=rfl,vtk:=rfl,due:=World.ownsRow_nil _ _ _ _ }
 exact⟨rfl,⟨_,_,hSys.below hb5⟩,hB4.trans (hb5.mono (by have:=hB4.size;omega))⟩
theorem Tryz.Xd5 (b:Nat) (ty:TypeId) (ak au at_ tr tm:Int) (pd:Bool) (rest:List Value) (w:World) (hB:BoxN w b ty (#[.int .i64 ak,.int .u64 au,.int .u64 at_,.int .i64 tr,.bool pd] ++ rest.toArray)) :
  Calls prog 90 #[.pointer (some ⟨b,0,none⟩),.int .u64 tm] w fun e w'=>e=.returned (.tuple #[])/\BoxN w' b ty (#[.int .i64 ak,.int .u64 au,.int .u64 tm,.int .i64 tr,.bool true] ++ rest.toArray)/\Spares [b] w w':=by
 have c2:=hB.cell 2 (v:=.int .u64 at_) (by simp);have c4:=hB.cell 4 (v:=.bool pd) (by simp);have f2:=hB.frozen 2;have f4:=hB.frozen 4;have hfin:=(hB.set 4 (.bool true)).set 2 (.int .u64 tm);have HF:=Xb hfin;clear hfin;go_enter func90,ntmps90;go_wp2
 go_end0
 refine⟨rfl,?_,((Spares.of_below (Below.refl _ w)).set (by simp) _ _).set (by simp) _ _⟩;have:=Xa HF
 simpa using this
theorem Tryz.Xho (k:Blk) (vx:VX) (tm:Int) (s:VSt) (c:List UInt8) (l f:Int) (w:World) (hW:Whole w k vx tm s c l f) (id:List UInt8) (hid:id.length<=1000000) (x:Int × Int) (hp:parseN id=x) (ak au at_ tr:Int) (pd:Bool) (pth:List UInt8) (la:Int)
  (hP0:∀ W,Below w.heap.size w W->(Instr.lookup 121 (.map (some k.ml)) (nmV x) true).run prog W=.ok (.tuple #[.agg #[.int .i64 ak,.int .u64 au,.int .u64 at_,.int .i64 tr,.bool pd,.string ⟨pth.toArray⟩,.int .u64 la],.bool false]) W) :
  Calls prog 51 #[.pointer (some ⟨k.vb,0,none⟩),.string ⟨id.toArray⟩] w fun e w'=>e=.returned (.iface 33 (.int .i64 5))/\Below w.heap.size w w':=by
 have hP:=parse ⟨id.toArray⟩ (by simpa [ByteArray.size] using hid) w hW.v.va.env hW.v.va.six;simp only at hP;rw [hp] at hP;unfold nmV at *;have lV:=hW.v.va.v.lt;go_enter func51,ntmps51
 go_wp2_with (go_at_call 63;refine hP.mono ?_;rintro e w1 ⟨rfl,hb1'⟩)
 have hB0:=hb1'.alloc hb1'.size (.cells #[.int .i64 x.1,.int .u64 x.2] 114);have bN:=BoxN.new w1 114 #[.int .i64 x.1,.int .u64 x.2];have hz1:=hb1'.size
 obtain⟨N,hs0⟩:∃ N,(w1.alloc (.cells #[.int .i64 x.1,.int .u64 x.2] 114)).heap.size=N:=⟨_,rfl⟩
 have hN:N=w1.heap.size+1:=by rw [<- hs0];simp
 obtain⟨nb,hnb⟩:∃ nb,w1.heap.size=nb:=⟨_,rfl⟩
 rw [hnb] at bN hN hz1;rw [hnb];generalize (w1.alloc (.cells #[.int .i64 x.1,.int .u64 x.2] 114))=W1 at *;clear hnb hb1' w1
 have hS:∀ W,Below N W1 W->LkP k.vb 4 k.ml nb 121 x.1 x.2 (.tuple #[.agg #[.int .i64 ak,.int .u64 au,.int .u64 at_,.int .i64 tr,.bool pd,.string ⟨pth.toArray⟩,.int .u64 la],.bool false]) W:=fun W hb=>by
  have bN':=bN.below hb (by omega);have hB:=hB0.trans (hb.mono (by omega));exact⟨(hW.v.va.below hB).v.cell 4 rfl,bN'.cell 0 rfl,bN'.cell 1 rfl,hP0 W hB⟩
 have hb1:Below N W1 W1.drew:=(Below.refl _ _).drew;refine wp_region_held_drew (S:=(LkP k.vb 4 k.ml nb 121 x.1 x.2 (.tuple #[.agg #[.int .i64 ak,.int .u64 au,.int .u64 at_,.int .i64 tr,.bool pd,.string ⟨pth.toArray⟩,.int .u64 la],.bool false]))) (by kernel_rfl) (hS _ hb1) (fun hS0=>?_);refine Xt 0 ?v0 rfl ?y0 hS0 ?_
 case y0=>(rintro w ⟨q0,q1,q2,q3⟩;go_simp;try with_reducible rfl)
 refine Xt 1 ?v1 rfl ?y1 hS0 ?_
 case y1=>(rintro w ⟨q0,q1,q2,q3⟩;go_simp;try with_reducible rfl)
 refine Xt 2 ?v2 rfl ?y2 hS0 ?_
 case y2=>(rintro w ⟨q0,q1,q2,q3⟩;go_simp;try with_reducible rfl)
 refine Xt 3 ?v3 rfl ?y3 hS0 ?_
 case y3=>(rintro w ⟨q0,q1,q2,q3⟩;go_simp;try with_reducible rfl)
 refine Xt 4 ?v4 rfl ?y4 hS0 ?_
 case y4=>(rintro w ⟨q0,q1,q2,q3⟩;go_simp;try with_reducible rfl)
 refine Xt 5 ?v5 rfl ?y5 hS0 ?_
 case y5=>(rintro w ⟨q0,q1,q2,q3⟩;go_simp;try with_reducible rfl)
 refine Xt 6 ?v6 rfl ?y6 hS0 ?_
 case y6=>(rintro w ⟨q0,q1,q2,q3⟩;go_simp;try with_reducible rfl)
 refine Xt 7 ?v7 rfl ?y7 hS0 ?_
 case y7=>(rintro w ⟨q0,q1,q2,q3⟩;go_simp;try with_reducible rfl)
 refine Xt 8 ?v8 rfl ?y8 hS0 ?_
 case y8=>(rintro w ⟨q0,q1,q2,q3⟩;go_simp;try with_reducible rfl)
 refine Xh 9 rfl fun K hK=>?_;go_simp;refine hK.out _ _ (hS _ (hb1.alloc (by simp [hs0]) _)) (fun hS1=>?_);clear hK K;refine Xh 10 rfl fun K hK=>?_;go_simp;have hb2:Below N W1 (W1.alloc (.cells #[.int .i64 ak,.int .u64 au,.int .u64 at_,.int .i64 tr,.bool pd,.string ⟨pth.toArray⟩,.int .u64 la] 131)).drew:=((Below.refl _ _).alloc (by omega) _).drew;refine hK.out _ _ (hS _ hb2) (fun hS2=>?_);clear hK K;refine Xh 11 rfl fun K hK=>?_;go_simp;refine hK.out _ _ hS2 (fun _=>?_);clear hK K hS0 hS1 hS2;refine wpAnyH_done (by kernel_rfl) ?_ _
 have bL:BoxN (W1.alloc (.cells #[.int .i64 ak,.int .u64 au,.int .u64 at_,.int .i64 tr,.bool pd,.string ⟨pth.toArray⟩,.int .u64 la] 131)).drew N 131 #[.int .i64 ak,.int .u64 au,.int .u64 at_,.int .i64 tr,.bool pd,.string ⟨pth.toArray⟩,.int .u64 la]:=by
  have h:=BoxN.new W1 131 #[.int .i64 ak,.int .u64 au,.int .u64 at_,.int .i64 tr,.bool pd,.string ⟨pth.toArray⟩,.int .u64 la];rw [hs0] at h;exact h
 have bN2:=bN.below hb2 (by omega);have hBf:=hB0.trans (hb2.mono (by omega));clear hS hP0 hb1 hb2 hB0 bN hP;generalize (W1.alloc (.cells #[.int .i64 ak,.int .u64 au,.int .u64 at_,.int .i64 tr,.bool pd,.string ⟨pth.toArray⟩,.int .u64 la] 131)).drew=W2 at *;subst hN;have hW2:=hW.below hBf;have ct:=hW2.v.va.v.cell 2 (v:=.int .u64 tm) rfl;have hL:=J0 (nb+1) pd at_ tm W2 (bL.cell 4 rfl) (bL.cell 2 rfl);go_wp2;go_ret;exact⟨rfl,hBf⟩
theorem Tryz.Xjt (k:Blk) (vx:VX) (tm:Int) (s:VSt) (c:List UInt8) (l f:Int) (w:World) (hW:Whole w k vx tm s c l f) (id:List UInt8) (hid:id.length<=1000000) (x:Int × Int) (hp:parseN id=x) (ak au at_ tr:Int) (pd:Bool) (pth:List UInt8) (la:Int) (hlv:(!pd&&decide (tm<at_))=false)
  (hP0:∀ W,Below w.heap.size w W->(Instr.lookup 121 (.map (some k.ml)) (nmV x) true).run prog W=.ok (.tuple #[.agg #[.int .i64 ak,.int .u64 au,.int .u64 at_,.int .i64 tr,.bool pd,.string ⟨pth.toArray⟩,.int .u64 la],.bool true]) W) :
  Calls prog 51 #[.pointer (some ⟨k.vb,0,none⟩),.string ⟨id.toArray⟩] w fun e w'=>e=.returned .nilIface/\Below w.heap.size w w':=by
 have hP:=parse ⟨id.toArray⟩ (by simpa [ByteArray.size] using hid) w hW.v.va.env hW.v.va.six;simp only at hP;rw [hp] at hP;unfold nmV at *;have lV:=hW.v.va.v.lt;go_enter func51,ntmps51
 go_wp2_with (go_at_call 63;refine hP.mono ?_;rintro e w1 ⟨rfl,hb1'⟩)
 have hB0:=hb1'.alloc hb1'.size (.cells #[.int .i64 x.1,.int .u64 x.2] 114);have bN:=BoxN.new w1 114 #[.int .i64 x.1,.int .u64 x.2];have hz1:=hb1'.size
 obtain⟨N,hs0⟩:∃ N,(w1.alloc (.cells #[.int .i64 x.1,.int .u64 x.2] 114)).heap.size=N:=⟨_,rfl⟩
 have hN:N=w1.heap.size+1:=by rw [<- hs0];simp
 obtain⟨nb,hnb⟩:∃ nb,w1.heap.size=nb:=⟨_,rfl⟩
 rw [hnb] at bN hN hz1;rw [hnb];generalize (w1.alloc (.cells #[.int .i64 x.1,.int .u64 x.2] 114))=W1 at *;clear hnb hb1' w1
 have hS:∀ W,Below N W1 W->LkP k.vb 4 k.ml nb 121 x.1 x.2 (.tuple #[.agg #[.int .i64 ak,.int .u64 au,.int .u64 at_,.int .i64 tr,.bool pd,.string ⟨pth.toArray⟩,.int .u64 la],.bool true]) W:=fun W hb=>by
  have bN':=bN.below hb (by omega);have hB:=hB0.trans (hb.mono (by omega));exact⟨(hW.v.va.below hB).v.cell 4 rfl,bN'.cell 0 rfl,bN'.cell 1 rfl,hP0 W hB⟩
 have hb1:Below N W1 W1.drew:=(Below.refl _ _).drew;refine wp_region_held_drew (S:=(LkP k.vb 4 k.ml nb 121 x.1 x.2 (.tuple #[.agg #[.int .i64 ak,.int .u64 au,.int .u64 at_,.int .i64 tr,.bool pd,.string ⟨pth.toArray⟩,.int .u64 la],.bool true]))) (by kernel_rfl) (hS _ hb1) (fun hS0=>?_);refine Xt 0 ?v0 rfl ?y0 hS0 ?_
 case y0=>(rintro w ⟨q0,q1,q2,q3⟩;go_simp;try with_reducible rfl)
 refine Xt 1 ?v1 rfl ?y1 hS0 ?_
 case y1=>(rintro w ⟨q0,q1,q2,q3⟩;go_simp;try with_reducible rfl)
 refine Xt 2 ?v2 rfl ?y2 hS0 ?_
 case y2=>(rintro w ⟨q0,q1,q2,q3⟩;go_simp;try with_reducible rfl)
 refine Xt 3 ?v3 rfl ?y3 hS0 ?_
 case y3=>(rintro w ⟨q0,q1,q2,q3⟩;go_simp;try with_reducible rfl)
 refine Xt 4 ?v4 rfl ?y4 hS0 ?_
 case y4=>(rintro w ⟨q0,q1,q2,q3⟩;go_simp;try with_reducible rfl)
 refine Xt 5 ?v5 rfl ?y5 hS0 ?_
 case y5=>(rintro w ⟨q0,q1,q2,q3⟩;go_simp;try with_reducible rfl)
 refine Xt 6 ?v6 rfl ?y6 hS0 ?_
 case y6=>(rintro w ⟨q0,q1,q2,q3⟩;go_simp;try with_reducible rfl)
 refine Xt 7 ?v7 rfl ?y7 hS0 ?_
 case y7=>(rintro w ⟨q0,q1,q2,q3⟩;go_simp;try with_reducible rfl)
 refine Xt 8 ?v8 rfl ?y8 hS0 ?_
 case y8=>(rintro w ⟨q0,q1,q2,q3⟩;go_simp;try with_reducible rfl)
 refine Xh 9 rfl fun K hK=>?_;go_simp;refine hK.out _ _ (hS _ (hb1.alloc (by simp [hs0]) _)) (fun hS1=>?_);clear hK K;refine Xh 10 rfl fun K hK=>?_;go_simp;have hb2:Below N W1 (W1.alloc (.cells #[.int .i64 ak,.int .u64 au,.int .u64 at_,.int .i64 tr,.bool pd,.string ⟨pth.toArray⟩,.int .u64 la] 131)).drew:=((Below.refl _ _).alloc (by omega) _).drew;refine hK.out _ _ (hS _ hb2) (fun hS2=>?_);clear hK K;refine Xh 11 rfl fun K hK=>?_;go_simp;refine hK.out _ _ hS2 (fun _=>?_);clear hK K hS0 hS1 hS2;refine wpAnyH_done (by kernel_rfl) ?_ _
 have bL:BoxN (W1.alloc (.cells #[.int .i64 ak,.int .u64 au,.int .u64 at_,.int .i64 tr,.bool pd,.string ⟨pth.toArray⟩,.int .u64 la] 131)).drew N 131 #[.int .i64 ak,.int .u64 au,.int .u64 at_,.int .i64 tr,.bool pd,.string ⟨pth.toArray⟩,.int .u64 la]:=by
  have h:=BoxN.new W1 131 #[.int .i64 ak,.int .u64 au,.int .u64 at_,.int .i64 tr,.bool pd,.string ⟨pth.toArray⟩,.int .u64 la];rw [hs0] at h;exact h
 have bN2:=bN.below hb2 (by omega);have hBf:=hB0.trans (hb2.mono (by omega));clear hS hP0 hb1 hb2 hB0 bN hP;generalize (W1.alloc (.cells #[.int .i64 ak,.int .u64 au,.int .u64 at_,.int .i64 tr,.bool pd,.string ⟨pth.toArray⟩,.int .u64 la] 131)).drew=W2 at *;subst hN;have hW2:=hW.below hBf;have ct:=hW2.v.va.v.cell 2 (v:=.int .u64 tm) rfl;have hL:=J0 (nb+1) pd at_ tm W2 (bL.cell 4 rfl) (bL.cell 2 rfl);rw [hlv] at hL;clear hW2 hlv hp bL bN2
 go_wp2_with (go_at_call 91;refine hL.mono ?_;rintro e w3 ⟨rfl,rfl⟩)
 go_ret;exact⟨rfl,hBf⟩
theorem Tryz.Xln (k:Blk) (vx:VX) (tm:Int) (s:VSt) (c:List UInt8) (l f:Int) (w:World) (hW:Whole w k vx tm s c l f) (hl:l<0) (hl1 : -999999990<=l) (hf:f<0) (hf1 : -999999990<=f) (hc:c.length<=900000000000) (id:List UInt8) (hid:id.length<=1000000) (ak:Int) (n au:Nat) (at_ tr:Int) (pd:Bool) (pth:List UInt8) (la:Int) (i:Nat) (ht:s.lks[i]? = some ⟨n,ak,au,at_,tr,pd,pth,la⟩) (hp:parseN id=(2,(n:Int))) (hlv:(!pd&&decide (tm<at_))=true) (h500:s.lks.length<500) (kl:List UInt8) (hkl:keepLine tm [.lea ⟨n,ak,au,tm,tr,true,pth,la⟩]=kl) (lks':List Xc) (hlks:s.lks.set i ⟨n,ak,au,tm,tr,true,pth,la⟩=lks') :
  Calls prog 51 #[.pointer (some ⟨k.vb,0,none⟩),.string ⟨id.toArray⟩] w fun e w'=>e=.returned .nilIface/\Whole w' k vx tm ⟨s.tn,s.ln,s.tks,lks'⟩ (c++kl) (l-2) (f-2)/\Spares k.turns w w':=by
 have htm:=List.mem_of_getElem? ht;have hokt:=hW.v.okL _ htm;have hset:=Xet hW.v.va.ok.incL ht (t':=⟨n,ak,au,tm,tr,true,pth,la⟩) rfl
 have hfit:(Item.lea ⟨n,ak,au,tm,tr,true,pth,la⟩).Fits s:=⟨⟨hW.v.t0,hW.v.t1,hokt.r0,hokt.r1,hokt.l0,hokt.l1,hokt.p1,hokt.pa⟩,.inl ⟨_,htm,rfl⟩,h500,(hW.v.va.ok.limL _ htm).1,(hW.v.va.ok.limL _ htm).2⟩
 have happ:(Item.lea ⟨n,ak,au,tm,tr,true,pth,la⟩).app s=⟨s.tn,s.ln,s.tks,lks'⟩:=by
  show VSt.mk s.tn (max s.ln n) s.tks (Yc ⟨n,ak,au,tm,tr,true,pth,la⟩ s.lks)=_
  rw [hset,show max s.ln n=s.ln by have:=hW.v.nl _ htm;simp at this;omega,hlks]
 have hK:=fun W (hb:Below w.heap.size w W)=>Xnh k vx tm s c l f (.lea ⟨n,ak,au,tm,tr,true,pth,la⟩) W (hW.below hb) hl hl1 hf hf1 hc hfit
 rw [happ,hkl] at hK
 change ∀ W,Below w.heap.size w W->Calls prog 66 _ (W.alloc (.cells #[.int .i64 1,.int .i64 2,.int .u64 (n:Int),.int .i64 ak,.int .u64 (au:Int),.bool true,.int .u64 tm,.int .i64 tr,.int .u64 la,.string ⟨pth.toArray⟩] 135)) _ at hK
 have hP0:∀ W,Below w.heap.size w W->(Instr.lookup 121 (.map (some k.ml)) (nmV (2,(n:Int))) true).run prog W=.ok (.tuple #[.agg #[.int .i64 ak,.int .u64 (au:Int),.int .u64 at_,.int .i64 tr,.bool pd,.string ⟨pth.toArray⟩,.int .u64 la],.bool true]) W:=fun W hb=>(hW.v.va.below hb).Xsg htm
 clear hset hfit happ hkl hlks ht htm hokt;have hP:=parse ⟨id.toArray⟩ (by simpa [ByteArray.size] using hid) w hW.v.va.env hW.v.va.six;simp only at hP;rw [hp] at hP;unfold nmV at *;have lV:=hW.v.va.v.lt;go_enter func51,ntmps51
 go_wp2_with (go_at_call 63;refine hP.mono ?_;rintro e w1 ⟨rfl,hb1'⟩)
 have hB0:=hb1'.alloc hb1'.size (.cells #[.int .i64 2,.int .u64 (n:Int)] 114);have bN:=BoxN.new w1 114 #[.int .i64 2,.int .u64 (n:Int)];have hz1:=hb1'.size
 obtain⟨N,hs0⟩:∃ N,(w1.alloc (.cells #[.int .i64 2,.int .u64 (n:Int)] 114)).heap.size=N:=⟨_,rfl⟩
 have hN:N=w1.heap.size+1:=by rw [<- hs0];simp
 obtain⟨nb,hnb⟩:∃ nb,w1.heap.size=nb:=⟨_,rfl⟩
 rw [hnb] at bN hN hz1;rw [hnb];generalize (w1.alloc (.cells #[.int .i64 2,.int .u64 (n:Int)] 114))=W1 at *;clear hnb hb1' w1
 have hS:∀ W,Below N W1 W->LkP k.vb 4 k.ml nb 121 2 (n:Int) (.tuple #[.agg #[.int .i64 ak,.int .u64 (au:Int),.int .u64 at_,.int .i64 tr,.bool pd,.string ⟨pth.toArray⟩,.int .u64 la],.bool true]) W:=fun W hb=>by
  have bN':=bN.below hb (by omega);have hB:=hB0.trans (hb.mono (by omega));exact⟨(hW.v.va.below hB).v.cell 4 rfl,bN'.cell 0 rfl,bN'.cell 1 rfl,hP0 W hB⟩
 have hb1:Below N W1 W1.drew:=(Below.refl _ _).drew;refine wp_region_held_drew (S:=(LkP k.vb 4 k.ml nb 121 2 (n:Int) (.tuple #[.agg #[.int .i64 ak,.int .u64 (au:Int),.int .u64 at_,.int .i64 tr,.bool pd,.string ⟨pth.toArray⟩,.int .u64 la],.bool true]))) (by kernel_rfl) (hS _ hb1) (fun hS0=>?_);refine Xt 0 ?v0 rfl ?y0 hS0 ?_
 case y0=>(rintro w ⟨q0,q1,q2,q3⟩;go_simp;try with_reducible rfl)
 refine Xt 1 ?v1 rfl ?y1 hS0 ?_
 case y1=>(rintro w ⟨q0,q1,q2,q3⟩;go_simp;try with_reducible rfl)
 refine Xt 2 ?v2 rfl ?y2 hS0 ?_
 case y2=>(rintro w ⟨q0,q1,q2,q3⟩;go_simp;try with_reducible rfl)
 refine Xt 3 ?v3 rfl ?y3 hS0 ?_
 case y3=>(rintro w ⟨q0,q1,q2,q3⟩;go_simp;try with_reducible rfl)
 refine Xt 4 ?v4 rfl ?y4 hS0 ?_
 case y4=>(rintro w ⟨q0,q1,q2,q3⟩;go_simp;try with_reducible rfl)
 refine Xt 5 ?v5 rfl ?y5 hS0 ?_
 case y5=>(rintro w ⟨q0,q1,q2,q3⟩;go_simp;try with_reducible rfl)
 refine Xt 6 ?v6 rfl ?y6 hS0 ?_
 case y6=>(rintro w ⟨q0,q1,q2,q3⟩;go_simp;try with_reducible rfl)
 refine Xt 7 ?v7 rfl ?y7 hS0 ?_
 case y7=>(rintro w ⟨q0,q1,q2,q3⟩;go_simp;try with_reducible rfl)
 refine Xt 8 ?v8 rfl ?y8 hS0 ?_
 case y8=>(rintro w ⟨q0,q1,q2,q3⟩;go_simp;try with_reducible rfl)
 refine Xh 9 rfl fun K hK=>?_;go_simp;refine hK.out _ _ (hS _ (hb1.alloc (by simp [hs0]) _)) (fun hS1=>?_);clear hK K;refine Xh 10 rfl fun K hK=>?_;go_simp;have hb2:Below N W1 (W1.alloc (.cells #[.int .i64 ak,.int .u64 (au:Int),.int .u64 at_,.int .i64 tr,.bool pd,.string ⟨pth.toArray⟩,.int .u64 la] 131)).drew:=((Below.refl _ _).alloc (by omega) _).drew;refine hK.out _ _ (hS _ hb2) (fun hS2=>?_);clear hK K;refine Xh 11 rfl fun K hK=>?_;go_simp;refine hK.out _ _ hS2 (fun _=>?_);clear hK K hS0 hS1 hS2;refine wpAnyH_done (by kernel_rfl) ?_ _
 have bL:BoxN (W1.alloc (.cells #[.int .i64 ak,.int .u64 (au:Int),.int .u64 at_,.int .i64 tr,.bool pd,.string ⟨pth.toArray⟩,.int .u64 la] 131)).drew N 131 #[.int .i64 ak,.int .u64 (au:Int),.int .u64 at_,.int .i64 tr,.bool pd,.string ⟨pth.toArray⟩,.int .u64 la]:=by
  have h:=BoxN.new W1 131 #[.int .i64 ak,.int .u64 (au:Int),.int .u64 at_,.int .i64 tr,.bool pd,.string ⟨pth.toArray⟩,.int .u64 la];rw [hs0] at h;exact h
 have bN2:=bN.below hb2 (by omega);have hBf:=hB0.trans (hb2.mono (by omega));clear hS hP0 hb1 hb2 hB0 bN hP;generalize (W1.alloc (.cells #[.int .i64 ak,.int .u64 (au:Int),.int .u64 at_,.int .i64 tr,.bool pd,.string ⟨pth.toArray⟩,.int .u64 la] 131)).drew=W2 at *;subst hN;have hW2:=hW.below hBf;have ct:=hW2.v.va.v.cell 2 (v:=.int .u64 tm) rfl;have hL:=J0 (nb+1) pd at_ tm W2 (bL.cell 4 rfl) (bL.cell 2 rfl);rw [hlv] at hL;have hR:=Xd5 (nb+1) 131 ak (au:Int) at_ tr tm pd [.string ⟨pth.toArray⟩,.int .u64 la] W2 (by simpa using bL);have hlb:w.heap.size<=nb:=hz1;have HW:=Xb hW;clear hlv hp bL hW2 hW
 go_wp2_with (first
  | (go_at_call 91;refine hL.mono ?_;rintro e w3 ⟨rfl,rfl⟩)
  | (go_at_call 90;refine hR.mono ?_;rintro e w4 ⟨rfl,bL4,hs4⟩;have hB4:Below w.heap.size w w4:=⟨hs4.os.trans hBf.os,hs4.tape.trans hBf.tape,hs4.output.trans hBf.output,Nat.le_trans hBf.size hs4.size,fun k hk=>(hs4.block k (Nat.lt_of_lt_of_le hk hBf.size) (by simp;omega)).trans (hBf.block k hk)⟩;have bN4:=hs4.box bN2 (by simp);have m0:=bN4.cell 0 (v:=.int .i64 2) rfl;have m1:=bN4.cell 1 (v:=.int .u64 (n:Int)) rfl;have hER:=Uq (nb+1) 2 (n:Int) ak au tm tr true pth la w4 (bL4.cell 0 (by simp)) (bL4.cell 1 (by simp)) (bL4.cell 2 (by simp)) (bL4.cell 3 (by simp)) (bL4.cell 4 (by simp)) (bL4.cell 5 (by simp)) (bL4.cell 6 (by simp));unfold Xi at hER)
  | (go_at_call 67;refine hER.mono ?_;rintro e w5 ⟨rfl,hb5⟩;have hB5:=hB4.trans (hb5.mono hB4.size);have hK5:=hK w5 hB5)
  | (go_at_call 66;refine hK5.mono ?_;rintro e w6 ⟨rfl,hW6,hs6⟩))
 go_ret;exact⟨rfl,hW6,(Spares.of_below hB5).trans hs6⟩
end Go.Proofs
namespace Go.Proofs
open Go.RowKit Go.Sort Go.Lib Go.Maps Go.WideMaps
def evD (l f:Int):Value:=if l=0 then .iface 33 (.int .i64 8) else if f=0 then .iface 33 (.int .i64 7) else .nilIface
theorem Xfp {l f:Int} (h:l=0):evD l f=.iface 33 (.int .i64 8):=if_pos h
theorem Xe2 {l f:Int} (h:l≠0) (h2:f=0):evD l f=.iface 33 (.int .i64 7):=(if_neg h).trans (if_pos h2)
theorem Xd9 {l f:Int} (h:l≠0) (h2:f≠0):evD l f=.nilIface:=(if_neg h).trans (if_neg h2)
theorem Tryz.Xpr (db:Nat) (m1 m2 p:Value) (l f:Int) (w:World) (hD:BoxN w db 100 #[m1,m2,p,.int .i64 l,.int .i64 f,.bool false]) :
  Calls prog 314 #[.pointer (some ⟨db,0,none⟩)] w fun e w'=>e=.returned (evD l f)/\(∃ l' f':Int,BoxN w' db 100 #[m1,m2,p,.int .i64 l',.int .i64 f',.bool (l==0)])/\Spares [db] w w':=by
 have d3:=hD.cell 3 (v:=.int .i64 l) rfl;have d4:=hD.cell 4 (v:=.int .i64 f) rfl;have d5:=hD.cell 5 (v:=.bool false) rfl;have f3:=hD.frozen 3;have f4:=hD.frozen 4;have f5:=hD.frozen 5;have s0:Spares [db] w w:=Spares.of_below (Below.refl _ _)
 by_cases hl:l=0
 ·subst hl
  rw [Xfp rfl];go_enter func314,ntmps314;go_wp2;go_ret;exact⟨rfl,⟨0,f,hD.set 5 (.bool true)⟩,s0.set (by simp) _ _⟩
 have e1:(l==0)=false:=by rw [beq_eq_false_iff_ne];exact hl
 rw [e1]
 by_cases hf:f=0
 focus
  subst hf;rw [Xe2 hl rfl]
 rotate_left
 focus
  have e2:(f==0)=false:=by rw [beq_eq_false_iff_ne];exact hf
  rw [Xd9 hl hf]
 rotate_left
 all_goals
  go_enter func314,ntmps314;go_wp2;go_ret;exact⟨rfl,⟨_,_,(hD.set 3 _).set 4 _⟩,(s0.set (by simp) _ _).set (by simp) _ _⟩
structure Tryz.Mw (W:World) (db md mn:Nat) (fd fn:Option (Nat × List UInt8)) (p:Value) (l f:Int) (dn:Bool):Prop where
 box:BoxN W db 100 #[.map (some md),.map (some mn),p,.int .i64 l,.int .i64 f,.bool dn]
 dm:∃ n,n<=1000/\W.ownsMap Tryz.prog 9 Yd md n (Zp (fd.map (·.1)))
 nm:∃ n,n<=1000/\W.ownsMap Tryz.prog 9 Yd mn n (Zp (fn.map (·.1)))
 sd:∀ q,fd=some q->BoxN W q.1 9 #[.string ⟨q.2.toArray⟩]
 sn:∀ q,fn=some q->BoxN W q.1 9 #[.string ⟨q.2.toArray⟩]
 ne:md≠mn
theorem Tryz.Mw.at {W:World} {db md mn:Nat} {fd fn:Option (Nat × List UInt8)} {p:Value} {l f:Int} (h:Mw W db md mn fd fn p l f false):Xj W db md mn fd fn p l f:=⟨h.box,h.dm,h.nm,h.sd,h.sn,h.ne⟩
theorem Tryz.Xj.Xmt {W W':World} {db md mn:Nat} {fd fn:Option (Nat × List UInt8)} {p:Value} {l f:Int} (h:Xj W db md mn fd fn p l f) (hs:Spares [db] W W') {p':Value} {l' f':Int} {dn:Bool} (hb:BoxN W' db 100 #[.map (some md),.map (some mn),p',.int .i64 l',.int .i64 f',.bool dn]):Mw W' db md mn fd fn p' l' f' dn:=by
 obtain⟨n,hn,hm⟩:=h.dm;obtain⟨n',hn',hm'⟩:=h.nm;exact⟨hb,⟨n,hn,hs.map hm (by have:=h.box.ne_map hm;simpa using this)⟩,⟨n',hn',hs.map hm' (by have:=h.box.ne_map hm';simpa using this)⟩,fun q hq=>hs.box (h.sd q hq) (by have:=(h.sd q hq).ne h.box (by decide);simpa using this),fun q hq=>hs.box (h.sn q hq) (by have:=(h.sn q hq).ne h.box (by decide);simpa using this),h.ne⟩
theorem Tryz.Xqi (db md mn:Nat) (fd fn:Option (Nat × List UInt8)) (l f:Int) (w:World) (hD:Xj w db md mn fd fn (.slice none 0 0) l f) :
  Calls prog 309 #[.pointer (some ⟨db,0,none⟩)] w fun e w'=>e=.returned (evD l f)/\(∃ l' f':Int,Mw w' db md mn fd fn (.slice none 0 0) l' f' (l==0))/\Spares [db] w w':=by
 have hW:=Xpr db _ _ _ l f _ hD.box
 by_cases hl:l=0
 ·rw [Xfp hl] at hW ⊢
  go_enter func309,ntmps309
  go_wp2_with (go_at_call 314;refine hW.mono ?_;rintro e W1 ⟨rfl,⟨l',f',bD1⟩,hS1⟩)
  go_ret;exact⟨rfl,⟨l',f',hD.Xmt hS1 bD1⟩,hS1⟩
 by_cases hf:f=0
 ·rw [Xe2 hl hf] at hW ⊢
  go_enter func309,ntmps309
  go_wp2_with (go_at_call 314;refine hW.mono ?_;rintro e W1 ⟨rfl,⟨l',f',bD1⟩,hS1⟩)
  go_ret;exact⟨rfl,⟨l',f',hD.Xmt hS1 bD1⟩,hS1⟩
 rw [Xd9 hl hf] at hW ⊢;go_enter func309,ntmps309
 go_wp2_with (go_at_call 314;refine hW.mono ?_;rintro e W1 ⟨rfl,⟨l',f',bD1⟩,hS1⟩;have d2:=bD1.cell 2 (v:=.slice none 0 0) rfl;have f2:=bD1.frozen 2)
 have hs3:=hS1.set (b:=db) (by simp) 2 (.slice none 0 0);have bD3:=bD1.set 2 (.slice none 0 0);refine wp_loop_rounds 1 ?_;rw [rounds_succ];go_wp2;go_ret;exact⟨rfl,⟨l',f',hD.Xmt hs3 bD3⟩,hs3⟩
abbrev CrP (hb db fb:Nat) (ke pa:Int) (W:World):Prop:=W.cell? ⟨hb,0,none⟩=some (.pointer (some ⟨db,0,none⟩))/\W.cell? ⟨fb,2,none⟩=some (.int .i64 ke)/\W.cell? ⟨fb,3,none⟩=some (.int .i64 pa)
abbrev Tryz.DnP (hb db:Nat) (W:World):Prop:=
 W.cell? ⟨hb,0,none⟩=some (.pointer (some ⟨db,0,none⟩))/\(W.cell? ⟨db,3,none⟩=some (X5 W ⟨db,3,none⟩)/\W.cell? ⟨db,4,none⟩=some (X5 W ⟨db,4,none⟩))/\W.frozen? ⟨db,3,none⟩=false/\W.frozen? ⟨db,4,none⟩=false
theorem Tryz.DnP.of {W:World} {hb db:Nat} {cs ds:Array Value} (hH:BoxN W hb 78 cs) (h0:cs[0]? = some (.pointer (some ⟨db,0,none⟩))) (hD:BoxN W db 100 ds) (h6:ds.size=6):DnP hb db W.drew:=
 ⟨hH.cell 0 h0,⟨Xg (by have h:=hD.cell 3 (v:=ds[3]) (by simp [h6]);show (W.cell? _).isSome;rw [h];rfl),Xg (by have h:=hD.cell 4 (v:=ds[4]) (by simp [h6]);show (W.cell? _).isSome;rw [h];rfl)⟩,hD.frozen 3,hD.frozen 4⟩
theorem Tryz.DnP.of1 {W:World} {hb db:Nat} {cs ds:Array Value} (hH:BoxN W hb 78 cs) (h0:cs[0]? = some (.pointer (some ⟨db,0,none⟩))) (hD:BoxN W db 100 ds) (h6:ds.size=6) (i:Nat) (v:Value):DnP hb db (W.setCell ⟨db,i,none⟩ v).drew:=
 DnP.of (hH.other (hH.ne hD (by decide)) i v) h0 (hD.set i v) (by simpa using h6)
theorem Tryz.DnP.of2 {W:World} {hb db:Nat} {cs ds:Array Value} (hH:BoxN W hb 78 cs) (h0:cs[0]? = some (.pointer (some ⟨db,0,none⟩))) (hD:BoxN W db 100 ds) (h6:ds.size=6) (i:Nat) (v:Value) (i':Nat) (v':Value):DnP hb db ((W.setCell ⟨db,i,none⟩ v).setCell ⟨db,i',none⟩ v').drew:=
 DnP.of1 (hH.other (hH.ne hD (by decide)) i v) h0 (hD.set i v) (by simpa using h6) i' v'
theorem Tryz.Xvk (hb db md lo:Nat) (fd fn:Option (Nat × List UInt8)) (c1 vv m1 m2 p l f:Value) (a b ke pa:Int) (w:World) (hH:BoxN w hb 78 #[.pointer (some ⟨db,0,none⟩),c1,vv]) (hD:BoxN w db 100 #[m1,m2,p,l,f,.bool true])
  (hC:∀ W,Spares [hb] w W->BoxN W db 100 #[m1,m2,p,l,f,.bool true]->Calls prog 54 #[.pointer (some ⟨db,0,none⟩),.int .i64 ke,.int .i64 pa] W fun e w'=>e=.returned (.tuple #[])/\∃ mn',lo<=mn'/\Xj w' db md mn' fd fn (.slice none 0 0) (-1) (-1)/\Spares [db] W w') :
  Calls prog 42 #[.pointer (some ⟨hb,0,none⟩),Yn a b ke pa] w fun e w'=>e=.returned (.tuple #[])/\BoxN w' hb 78 #[.pointer (some ⟨db,0,none⟩),c1,.pointer none]/\(∃ mn',lo<=mn'/\Xj w' db md mn' fd fn (.slice none 0 0) (-1) (-1))/\Spares [hb,db] w w':=by
 have h0:=hH.cell 0 (v:=.pointer (some ⟨db,0,none⟩)) rfl;have h2:=hH.cell 2 (v:=vv) rfl;have f2:=hH.frozen 2;have d5:=hD.cell 5 (v:=.bool true) rfl;have lH:=hH.lt;have lD:=hD.lt;have hne:=hH.ne hD (by decide);have bF1:=BoxN.new (w.setCell ⟨hb,2,none⟩ (.pointer none)) 29 #[.int .i64 a,.int .i64 b,.int .i64 ke,.int .i64 pa];rw [World.size_setCell] at bF1;have hS1:Spares [hb] w ((w.setCell ⟨hb,2,none⟩ (.pointer none)).alloc (.cells #[.int .i64 a,.int .i64 b,.int .i64 ke,.int .i64 pa] 29)):=((Spares.of_below (Below.refl _ w)).set (by simp) _ _).alloc _;have bH1:=(hH.set 2 (.pointer none)).alloc (.cells #[.int .i64 a,.int .i64 b,.int .i64 ke,.int .i64 pa] 29);have bD1:=hS1.box hD (by simpa using Ne.symm hne)
 have hP1:CrP hb db w.heap.size ke pa ((w.setCell ⟨hb,2,none⟩ (.pointer none)).alloc (.cells #[.int .i64 a,.int .i64 b,.int .i64 ke,.int .i64 pa] 29)).drew:=⟨bH1.cell 0 rfl,bF1.cell 2 rfl,bF1.cell 3 rfl⟩
 have hC1:=hC ((w.setCell ⟨hb,2,none⟩ (.pointer none)).alloc (.cells #[.int .i64 a,.int .i64 b,.int .i64 ke,.int .i64 pa] 29)).drew hS1.drew bD1;unfold Yn;go_enter func42,ntmps42
 go_wp2_with fail
 generalize ((w.setCell ⟨hb,2,none⟩ (.pointer none)).alloc (.cells #[.int .i64 a,.int .i64 b,.int .i64 ke,.int .i64 pa] 29))=W1 at *
 go_region_held3 (CrP hb db w.heap.size ke pa) (first
  | with_reducible exact hP1
  | with_reducible exact hP2
  | with_reducible assumption) (first | (go_at_call 54;refine hC1.mono ?_;rintro e w2 ⟨rfl,mn',hmn,hD2,hS2⟩;have bD2:=hD2.box;have bH2:=Spares.box (W:=W1.drew) hS2 bH1 (by simpa using hne);have bF2:=Spares.box (W:=W1.drew) hS2 bF1 (by simp;omega);have hP2:CrP hb db w.heap.size ke pa w2:=⟨bH2.cell 0 rfl,bF2.cell 2 rfl,bF2.cell 3 rfl⟩))
 go_wp2_with fail
 go_region_held3 (DnP hb db) (first
  | with_reducible exact DnP.of bH2 rfl bD2 rfl
  | with_reducible exact DnP.of1 bH2 rfl bD2 rfl _ _
  | with_reducible exact DnP.of2 bH2 rfl bD2 rfl _ _ _ _
  | with_reducible assumption) (fail)
 all_goals
  go_wp2
  go_end0
  have hS3:Spares [db] w2 ((w2.setCell ⟨db,3,none⟩ (.int .i64 (-1))).setCell ⟨db,4,none⟩ (.int .i64 (-1))).drew:=(((Spares.of_below (Below.refl _ w2)).set (by simp) _ _).set (by simp) _ _).drew;exact⟨rfl,hS3.box bH2 (by simpa using hne),⟨mn',hmn,hD2.cells hS3 ((bD2.set 3 _).set 4 _)⟩,((hS1.drew.mono (by simp)).trans (hS2.mono (by simp))).trans (hS3.mono (by simp))⟩
end Go.Proofs
