import Derived.Test.YtjbekgjdempbiaaGreatDoorJOpenA
import Derived.Deep.Slices
import Derived.ChangeArms
import Derived.SizedLaws
import Derived.Test.YtjbekgjdempbiaaGreatDoorJLawC
set_option maxRecDepth 100000
set_option maxHeartbeats 8000000
namespace Go.Proofs
open Go.RowKit Go.Sort Go.Lib Go.Shelf Go.Maps
abbrev HostP (hb db rb:Nat) (W:World):Prop:=W.cell? ⟨hb,0,none⟩=some (.pointer (some ⟨db,0,none⟩))∧W.cell? ⟨hb,1,none⟩=some (.pointer (some ⟨rb,0,none⟩))
theorem HostP.drew {hb db rb:Nat} {W:World} (h:HostP hb db rb W):HostP hb db rb W.drew:=h
theorem Tryz.hOpen0 (B hb db rb md mn:Nat) (vv ra rc:Value) (l f:Int) (now c d:Int) (w:World) (hH:BoxN w hb 78 #[.pointer (some ⟨db,0,none⟩),.pointer (some ⟨rb,0,none⟩),vv]) (hD:DiskAt w db md mn none none (.slice none 0 0) l f) (hR:BoxN w rb 88 #[ra,rc]) (hlo:B≤hb∧B≤db∧B≤rb∧B≤md∧B≤mn) (hBw:B≤w.heap.size) (b9:9≤B) (hE:Env w) (hG:ErrT w) (t0:0≤now) (t1:now≤18446744073709551615) :
  Calls prog 33 #[.pointer (some ⟨hb,0,none⟩),.int .u64 now,fallV (-1) (-1) c d] w fun e w'=>e=.returned (.int .i64 0)∧(∃ k vx,Sys B w' hb rb ⟨k,vx,now,⟨0,0,[rootE],[]⟩,[]⟩)∧Below B w w':=by
 obtain⟨lo1,lo2,lo3,lo4,lo5⟩:=hlo;have hne:=hH.ne hD.box (by decide);have hnr:=hH.ne hR (by decide);have hnd:=hD.box.ne hR (by decide);have lH:=hH.lt;have lD:=hD.lt;have bF:=BoxN.new w 29 #[.int .i64 (-1),.int .i64 (-1),.int .i64 c,.int .i64 d];have hB0:Below w.heap.size w (w.alloc (.cells #[.int .i64 (-1),.int .i64 (-1),.int .i64 c,.int .i64 d] 29)):=(Below.refl _ w).alloc (Nat.le_refl _) _;have hBf:=before hb db _ _ _ _ _ _ _ _ (-1) (-1) c d _ (hH.alloc (.cells #[.int .i64 (-1),.int .i64 (-1),.int .i64 c,.int .i64 d] 29)) (hD.box.alloc _)
 have hO:=fun W (hD':DiskAt W db md mn none none (.slice none 0 0) (-1) (-1)) (hb':Below B w W)=>open_nil db md mn rb (-1) (-1) now W hD' (hE.below hb' (by omega)) (by have:=hb'.size;omega) (hG.below (hb'.mono b9)) t0 t1 ⟨by omega,by omega,by omega⟩
 unfold fallV at hBf ⊢;go_enter func33,ntmps33
 go_wp2_with (go_at_call 40;refine hBf.mono ?_;rintro e w1 ⟨rfl,bD1,hg1⟩)
 have bH1:=(hH.alloc (.cells #[.int .i64 (-1),.int .i64 (-1),.int .i64 c,.int .i64 d] 29)).kept hg1 (by intro e;injection e with e;exact hne e);have bR1:=(hR.alloc (.cells #[.int .i64 (-1),.int .i64 (-1),.int .i64 c,.int .i64 d] 29)).kept hg1 (by intro e;injection e with e;exact hnd e.symm);have bF1:=bF.kept hg1 (by intro e;injection e with e;omega);have hD1:=(hD.below hB0).cells (Spares.of_grown hg1 (by simp)) bD1;have hB1:Below B w w1:=(hB0.mono hBw).grown hg1 (by simp;omega) (fun q hq=>by cases hq;exact lo2)
 have hP1:HostP hb db rb w1:=⟨bH1.cell 0 rfl,bH1.cell 1 rfl⟩
 have l1:=bH1.lt;have hO1:=hO w1.drew (hD1.below (Below.refl _ _).drew) hB1.drew;unfold diskV at hO1;clear hBf hO
 go_region_held3 (HostP hb db rb) (first
  | with_reducible exact HostP.drew hP1
  | with_reducible assumption) (first | (go_at_call 55;refine hO1.mono ?_;rintro e w2 ⟨vb,mt,ml,jb,rfl,hW2,hlo2,hb2⟩;have bH2:=BoxN.below (W:=w1.drew) bH1 hb2 bH1.lt;have hP2:HostP hb db rb w2:=⟨bH2.cell 0 rfl,bH2.cell 1 rfl⟩))
 have hz1:w1.drew.heap.size=w1.heap.size:=rfl;have bF2:=BoxN.below (W:=w1.drew) bF1 hb2 bF1.lt;have bR2:=BoxN.below (W:=w1.drew) bR1 hb2 bR1.lt;have hB2:Below B w w2:=hB1.drew.trans (hb2.mono (by have:=hB1.size;omega));have hS3:Spares [hb] w2 (w2.setCell ⟨hb,2,none⟩ (.pointer (some ⟨vb,0,none⟩))):=(Spares.of_below (Below.refl _ _)).set (by simp) _ _;have bH3:=bH2.set 2 (.pointer (some ⟨vb,0,none⟩));have bF3:=hS3.box bF2 (by simp;omega);have bR3:=hS3.box bR2 (by simpa using Ne.symm hnr)
 have hW3:=hW2.spared hS3 (fun b hb'=>by
  obtain⟨fd,fn,hd,-,-⟩:=hW2.d;obtain⟨n3,-,m3⟩:=hd.dm;obtain⟨n4,-,m4⟩:=hd.nm;have hz:=hlo2;simp only [Blk.turns,List.mem_cons,List.not_mem_nil,or_false] at hb';simp only [List.mem_singleton]
  rcases hb' with rfl | rfl | rfl | rfl | rfl | rfl
  ·omega
  ·omega
  ·omega
  ·exact Ne.symm hne
  ·exact BoxN.ne_map' bH2 m3
  ·exact BoxN.ne_map' bH2 m4) (by simp;omega) (fun b x hx=>by simpa using hx.ne bH2 (by decide)) (by simp;omega)
 have hB3:=hB2.setCell (p:=⟨hb,2,none⟩) lo1 (.pointer (some ⟨vb,0,none⟩));obtain⟨fd3,fn3,hD3,-,-⟩:=hW3.d;have hBa:=after hb db _ _ _ _ _ _ _ (-1) (-1) c d _ bH3 hD3.box;have fz:=bH2.frozen 2;have h2:=bH2.cell 2 (v:=vv) rfl;have g0:=bF2.cell 0 (v:=.int .i64 (-1)) rfl;have g1:=bF2.cell 1 (v:=.int .i64 (-1)) rfl;have g2:=bF2.cell 2 (v:=.int .i64 c) rfl;have g3:=bF2.cell 3 (v:=.int .i64 d) rfl
 have nF:w.heap.size≠hb:=by omega
 unfold fallV at hBa;have HW3:=hid_intro hW3;clear hW3 hW2 hD3
 go_wp2_with (first
  | (go_at_call 42;refine hBa.mono ?_;rintro e w4 ⟨rfl,bD4,hg4⟩)
  | (go_at_call 43;refine(told_nil _).mono ?_;rintro e w5 ⟨rfl,hb5⟩))
 go_ret;have kH:=bH3.kept hg4 (by intro e;injection e with e;exact hne e);have kR:=bR3.kept hg4 (by intro e;injection e with e;exact hnd e.symm);have hW4:=(hid_elim HW3).setLF (Spares.of_grown hg4 (by simp)) bD4;have hB4:=hB3.grown hg4 (by have:=hB3.size;omega) (fun q hq=>by cases hq;exact lo2);have hz:=hlo2
 have hSys:Sys B w4 hb rb ⟨⟨vb,mt,ml,jb,db,md,mn⟩,⟨.pointer (some ⟨jb,0,none⟩),.iface 75 (.pointer (some ⟨rb,0,none⟩)),false,.slice none 0 0⟩,now,⟨0,0,[rootE],[]⟩,[]⟩:={
  host:=kH,wh:=hW4,err:=hG.below (hB4.mono b9),b9:=b9,hlow:=lo1,
  low:=fun b hb'=>by
   have:=hB1.size;simp only [Blk.turns,List.mem_cons,List.not_mem_nil,or_false] at hb'
   omega,
  rvb:=⟨_,_,kR⟩,rlow:=lo3,vrv:=rfl,vtk:=rfl,due:=World.ownsRow_nil _ _ _ _ }
 exact⟨rfl,⟨_,_,hSys.below hb5⟩,hB4.trans (hb5.mono (by have:=hB4.size;omega))⟩
def StepOk (st:StepD):Prop:=(0≤st.a∧st.a≤18446744073709551615)∧(0≤st.b∧st.b≤18446744073709551615)∧(0≤st.f∧st.f≤18446744073709551615)
def StepSmall (st:StepD):Prop:=st.s.length+st.t.length≤16384
theorem Tryz.Inv.start {w0 W:World} {B hb rb ra g:Nat} {k:Blk} {vx:VX} {tm:Int} (hbel:Below B w0 W) (hB:B≤W.heap.size) (hS:Sys B W hb rb ⟨k,vx,tm,⟨0,0,[rootE],[]⟩,[]⟩) (hR:RVAt B W ra g 1 [rootT] tm 1 1) (hra:B≤ra) :
  Inv w0 B 0 W.heap.size hb (W.alloc (.cells #[.pointer (some ⟨hb,0,none⟩),.pointer (some ⟨ra,0,none⟩),.pointer none,.bool false,.bool false] 69)):=by
 have hba:Below W.heap.size W (W.alloc (.cells #[.pointer (some ⟨hb,0,none⟩),.pointer (some ⟨ra,0,none⟩),.pointer none,.bool false,.bool false] 69)):=(Below.refl _ W).alloc (Nat.le_refl _) _
 have hrel:Rel [rootE] [] [rootT]:=⟨rfl,rfl,fun t ht=>by rw [List.mem_singleton.1 ht];exact .inr rfl,fun l hl=>(by cases hl)⟩
 exact⟨hbel.trans (hba.mono hB),by simp;omega,hB,⟨rb,_,ra,g,1,_,hS.below hba,hR.below hba,hrel,BoxN.new W _ _,⟨by simp,by simp,by simp,by simp,by simp,by simp,Alive.start,⟨_,rfl,rfl,rfl⟩⟩,hra⟩⟩
theorem Tryz.Inv.looksAt {w0:World} {B N wb hb ra:Nat} {W:World} (h:Inv w0 B N wb hb W) (hc:W.cell? ⟨wb,1,none⟩=some (.pointer (some ⟨ra,0,none⟩))) :
  Calls prog 38 #[.pointer (some ⟨wb,0,none⟩),.pointer (some ⟨ra,0,none⟩)] W fun e w'=>e=.returned (.bool true)∧Below W.heap.size W w':=by
 obtain⟨rb,σ,ra',g,cap,L,hS,hR,hl,hW,-⟩:=h.ex;have h1:=hW.cell 1 (v:=.pointer (some ⟨ra',0,none⟩)) rfl;rw [hc] at h1
 obtain rfl:ra=ra':=by simpa using h1
 exact looks B wb hb ra g cap σ.k.vb σ.k.mt σ.k.ml σ.vx σ.tm σ.s.tn σ.s.ln _ _ σ.s.tks σ.s.lks L _ _ _ _ _ _ W hW hS.host hS.wh.v.va hR hl
def inB (ks:List Int) (kind:Int) (j:Nat):Bool:=(ks.take j).any (fun k=>kind==k)
theorem inB_succ {ks:List Int} {kind v:Int} {j:Nat} (h:ks[j]? = some v):inB ks kind (j+1)=(inB ks kind j||kind==v):=by
 unfold inB;rw [List.take_add_one,h];simp
theorem inB_all {ks:List Int} {kind:Int} (h:inB ks kind ks.length=true):kind∈ks:=by
 unfold inB at h;rw [List.take_length] at h;obtain⟨k,hk,e⟩:=List.any_eq_true.1 h
 have:kind=k:=by simpa using e
 rw [this];exact hk
def KindsAt (W:World) (kb:Nat) (ks:List Int):Prop:=∀ j v,ks[j]? = some v→W.cell? ⟨kb,j,none⟩=some (.int .i64 v)
theorem KindsAt.below {W W':World} {kb B:Nat} {ks:List Int} (h:KindsAt W kb ks) (hb:Below B W W') (hB:kb<B):KindsAt W' kb ks:=fun j v hv=>(hb.cell (p:=⟨kb,j,none⟩) hB).trans (h j v hv)
structure Tryz.Keeps (w:World) (S:List StepD) (ks:List Int) (failing:Bool) (I:Nat→Nat→Nat→World→Prop):Prop where
 bel:∀ {wb hb k W},I wb hb k W→Below w.heap.size w W
 later:∀ {wb hb k W W'},I wb hb k W→Below W.heap.size W W'→I wb hb k W'
 more:∀ {wb hb k W},I wb hb k W→I wb hb (k+1) W
 start:∀ {wb hb W},Tryz.Inv w w.heap.size 0 wb hb W→I wb hb 0 W
 step:∀ {wb hb k W st},k<16384→st∈S→StepSmall st→StepOk st→st.kind∈ks→I wb hb k W→Calls Tryz.prog 39 #[.pointer (some ⟨wb,0,none⟩),.agg (StepD.cells st),.bool failing] W fun e w'=>e=.returned (.bool true)∧I wb hb (k+1) w'
theorem Tryz.playsG (p:Option Addr) (cap kb:Nat) (ks:List Int) (failing:Bool) (S:List StepD) (I:Nat→Nat→Nat→World→Prop) (w:World) (hS:SliceAt w p S) (hpl:S ≠ []→∀ a,p=some a→a.block<w.heap.size) (hl:S.length≤281474976710656) (hz:∀ st∈S,st.s.length≤281474976710656∧st.t.length≤281474976710656) (hok:∀ st∈S,StepOk st) (hK:KindsAt w kb ks) (hkb:kb<w.heap.size) (hkl:ks.length≤20) (h9:9≤w.heap.size) (hE:Env w) (hT:ErrT w) (hI:Keeps w S ks failing I) :
  Calls prog 14 #[.slice p S.length cap,.slice (some ⟨kb,0,none⟩) ks.length ks.length,.bool failing] w fun e w'=>e=.returned (.bool true)∧Below w.heap.size w w':=by
 have hSm:=small p cap S w hS hl hz
 have hWl:=fun W=>well W
 unfold fallV at hWl
 have hOp:=fun(W:World) (hb db rb md mn:Nat) (hBW:Below 9 w W) (h1:w.heap.size≤W.heap.size) (bH:BoxN W hb 78 #[.pointer (some ⟨db,0,none⟩),.pointer (some ⟨rb,0,none⟩),.pointer none]) (hD:DiskAt W db md mn none none (.slice none 0 0) (-1) (-1)) (bR:BoxN W rb 88 #[.slice none 0 0,.int .u64 0]) (hlo:w.heap.size≤hb∧w.heap.size≤db∧w.heap.size≤rb∧w.heap.size≤md∧w.heap.size≤mn)=>hOpen0 w.heap.size hb db rb md mn _ _ _ (-1) (-1) 7 0 0 W bH hD bR hlo h1 h9 (hE.below (hBW.mono (by decide)) (Nat.le_refl _)) (hT.below hBW) (by decide) (by decide)
 unfold fallV at hOp
 obtain⟨len,hlen⟩:∃ len,S.length=len:=⟨_,rfl⟩
 rw [hlen] at hSm ⊢;have Hlen:=hid_intro hlen;clear hlen hl
 obtain⟨kn,hkn⟩:∃ kn,ks.length=kn:=⟨_,rfl⟩
 rw [hkn] at hkl ⊢;have Hkn:=hid_intro hkn;clear hkn;go_enter func14,ntmps14
 go_upto_region 2 with(go_at_call 34;refine hSm.mono ?_;rintro e w1 ⟨b,rfl,hsm,hb1⟩)
 cases b
 ·go_wp2
  go_ret;exact⟨rfl,hb1⟩
 ·obtain⟨hl,hz2⟩:=hsm rfl
  have l0:=hb1.size
  go_wp2_with (first
   | (go_at_call 35;refine(newHost _).mono ?_;rintro e w2 ⟨hb,db,rb,md,mn,rfl,bH,hD,bR,hlo,hb2⟩;have bel2:=hb1.trans (hb2.mono l0))
   | (go_at_call 16;refine(hWl _).mono ?_;rintro e w3 ⟨rfl,hb3⟩;have bel3:=bel2.trans (hb3.mono bel2.size);have hlo3:w.heap.size≤hb∧w.heap.size≤db∧w.heap.size≤rb∧w.heap.size≤md∧w.heap.size≤mn:=by omega)
   | (go_at_call 33;refine(hOp w3 hb db rb md mn (bel3.mono h9) bel3.size (bH.below hb3 bH.lt) (hD.below hb3) (bR.below hb3 bR.lt) hlo3).mono ?_;rintro e w4 ⟨rfl,⟨k,vx,hS4⟩,hb4⟩;have bel4:=bel3.trans hb4)
   | (go_at_call 36;refine(hIs hb _ _ _ w4 hS4.host).mono ?_;rintro e w5 ⟨rfl,rfl⟩)
   | (go_at_call 37;refine(rNew 7 _).mono ?_;rintro e w6 ⟨rfl,hR6,hb6⟩;have bel6:=bel4.trans (hb6.mono bel4.size);have hIn:=Inv.start bel6 bel6.size (hS4.below hb6) (hR6.lower bel4.size) (by have:=bel4.size;omega))
   | (go_at_call 38;refine(hIn.looksAt (BoxN.cell (BoxN.new w6 69 _) 1 rfl)).mono ?_;rintro e w7 ⟨rfl,hb7⟩))
  have hI7:=hI.start (hIn.below hb7);generalize w6.heap.size=wb at *;clear hIn hb7 hb6 hR6 bel6 hS4 hb4 bel4 bel3 hlo3 hb3 bel2 bH hD bR hb2 hSm hOp hWl hsm;have HI:=hid_intro hI;clear hI
  go_loopw [7,12] (fun ok i wr=>∃ k:Nat,k≤len∧i=.int .i64 k∧ok=.bool true∧I wb hb k wr) (fun _ i _=>len-(intOf i).toNat)
  case atStart=>exact⟨0,Nat.zero_le _,rfl,rfl,hI7⟩
  case round =>
   obtain⟨k,hk,rfl,rfl,hIk⟩:=hrel
   by_cases hkl2:k<len
   ·obtain⟨st,hst⟩:∃ st,S[k]? = some st:=⟨S[k]'(by have:=hid_elim Hlen;omega),by have:=hid_elim Hlen;simp [this,hkl2]⟩
    have hmem:=List.mem_of_getElem? hst
    have hne:S ≠ []:=fun e=>by rw [e] at hst;simp at hst
    obtain⟨b,off,rfl,hsc⟩:=hS.resolve_left hne;have hbl:b<w.heap.size:=hpl hne _ rfl
    have hSt:=fun W (h:I wb hb k W) (hin:st.kind∈ks)=>(hid_elim HI).step (by omega) hmem (hz2 st hmem) (hok st hmem) hin h
    have hcs:=fun W (h:I wb hb k W)=>(hsc.below ((hid_elim HI).bel h) hbl) k st hst
    have hks:=fun W (h:I wb hb k W)=>hK.below ((hid_elim HI).bel h) hkb
    obtain⟨kind,ss,tt,aa,bb,ff,fl,fu,ke,pa⟩:=st;simp only [StepD.cells] at hSt hcs;have Hst:=hid_intro hst;clear hst hok hz hz2 hsc hK hE hT;go_wp2
    go_loopw [13,14] (fun inn j wq=>∃ jj:Nat,jj≤kn∧j=.int .i64 jj∧inn=.bool (inB ks kind jj)∧I wb hb k wq) (fun _ j _=>kn-(intOf j).toNat)
    case atStart=>exact⟨0,by omega,rfl,rfl,hIk⟩
    case round =>
     obtain⟨jj,hjj,rfl,rfl,hIq⟩:=hrel
     by_cases hj4:jj<kn
     ·obtain⟨v,hv⟩:∃ v,ks[jj]? = some v:=⟨ks[jj]'(by have:=hid_elim Hkn;omega),by have:=hid_elim Hkn;simp [this,hj4]⟩
      have hkk:=hks _ hIq jj v hv;obtain⟨y0,-⟩:=hcs _ hIq;have hsu:=hid_intro (inB_succ (kind:=kind) hv);clear hv;generalize inB ks kind jj=ib at *;cases ib
      ·go_wp2
       go_quiet (fail);go_wp2;exact⟨⟨jj+1,by omega,rfl,by rw [hid_elim hsu];simp,(hid_elim HI).later hIq (below_drewN (Below.refl _ _) _)⟩,by simp [intOf];omega⟩
      ·go_wp2
       go_quiet (fail);go_wp2;exact⟨⟨jj+1,by omega,rfl,by rw [hid_elim hsu];simp,(hid_elim HI).later hIq (below_drewN (Below.refl _ _) _)⟩,by simp [intOf];omega⟩
     ·obtain rfl:jj=kn:=by omega
      have hib:Hid (inB ks kind jj=true→kind∈ks):=hid_intro (fun e=>inB_all (by rw [hid_elim Hkn];exact e));obtain⟨y0,y1,y2,y3,y4,y5,y6,y7,y8,y9⟩:=hcs _ hIq;have hSt1:=hSt _ hIq;clear hSt hcs hks;generalize inB ks kind jj=ib at *;cases ib
      ·go_wp2
       go_roundw
       case rel=>exact⟨k+1,by omega,rfl,rfl,(hid_elim HI).more hIq⟩
       case measure=>simp [intOf];omega
      ·have hSt2:=hSt1 (hid_elim hib rfl)
       clear hSt1
       go_wp2_with (go_at_call 39;refine hSt2.mono ?_;rintro e w8 ⟨rfl,hI8⟩)
       go_roundw
       case rel=>exact⟨k+1,by omega,rfl,rfl,hI8⟩
       case measure=>simp [intOf];omega
   ·obtain rfl:k=len:=by omega
    go_wp2;go_ret;exact⟨rfl,(hid_elim HI).bel hIk⟩
theorem SliceAt.below {W W':World} {p:Option Addr} {S:List StepD} (h:SliceAt W p S) {B:Nat} (hb:Below B W W') (hp:S ≠ []→∀ a,p=some a→a.block<B):SliceAt W' p S:=by
 rcases h with h | ⟨b,off,rfl,h⟩
 ·exact .inl h
 ·by_cases hS:S = []
  ·exact .inl hS
  ·exact .inr ⟨b,off,rfl,h.below hb (hp hS _ rfl)⟩
theorem Tryz.cellsStep:prog.cellsOf 72=10:=by kernel_rfl
theorem Tryz.cellsFall:prog.cellsOf 29=4:=by kernel_rfl
theorem Tryz.cellsInt:prog.cellsOf 3=1:=by kernel_rfl
theorem Tryz.cellsStr:prog.cellsOf 9=1:=by kernel_rfl
theorem list10 {α:Type} {l:List α} (h:l.length=10):∃ a b c d e f g i j k,l = [a,b,c,d,e,f,g,i,j,k]:=by
 match l,h with
 | [a,b,c,d,e,f,g,i,j,k],_=>exact⟨a,b,c,d,e,f,g,i,j,k,rfl⟩
theorem u64_range {z:Int} (h:(Lit.int .u64 z).wf=true):0≤z∧z≤18446744073709551615:=by
 simp [Lit.wf,IntKind.min,IntKind.max,IntKind.bits,IntKind.signed] at h;omega
theorem weightsAll_mem {H:Type} {P:Program} {e:TypeId}:∀(l:List (DataW H)) (d:DataW H) (x:Nat),d∈l→x∈d.weights P e→x∈DataW.weightsAll P e l
 | [],_,_,h,_=>by cases h
 | a :: l,d,x,h,hx=>by
  simp only [DataW.weightsAll]
  rcases List.mem_cons.1 h with rfl | h
  ·exact List.mem_append_left _ hx
  ·exact List.mem_append_right _ (weightsAll_mem l d x h hx)
theorem Tryz.openStep {H:Type} {enc:TypeId × Value→H} {w:World} {base:Nat} {sp:Nat→Bool} {held:Bool} {fuel:Nat} {cs:List Value} {x:DataW H × List MemPlace} (h:DataW.trod enc prog w base sp held fuel 72 cs=some x) :
  ∃ st:StepD,cs=st.cells.toList∧StepOk st∧st.s.length∈x.1.weights prog 72∧st.t.length∈x.1.weights prog 72:=by
 obtain⟨xs,n,-,rfl,hl,hlen,hf⟩:=DataW.trod_struct underlying72 h;rw [cellsStep] at hl;obtain⟨c0,c1,c2,c3,c4,c5,c6,c7,c8,c9,rfl⟩:=list10 hl;have hlen7:xs.length=7:=hlen
 obtain⟨y0,y1,y2,y3,y4,y5,y6,rfl⟩:∃ y0 y1 y2 y3 y4 y5 y6,xs = [y0,y1,y2,y3,y4,y5,y6]:=by
  match xs,hlen7 with
  | [y0,y1,y2,y3,y4,y5,y6],_=>exact⟨y0,y1,y2,y3,y4,y5,y6,rfl⟩
 have f0:=hf 0 _ rfl;have f1:=hf 1 _ rfl;have f2:=hf 2 _ rfl;have f3:=hf 3 _ rfl;have f4:=hf 4 _ rfl;have f5:=hf 5 _ rfl;have f6:=hf 6 _ rfl;simp [cellsInt,cellsStr,cellsU64,cellsFall] at f0 f1 f2 f3 f4 f5 f6;obtain⟨z0,e0,-,-⟩:=DataW.trod_int underlying3 f0;obtain⟨s1,e1,r1,-⟩:=DataW.trod_string underlying9 f1;obtain⟨s2,e2,r2,-⟩:=DataW.trod_string underlying9 f2;obtain⟨z3,e3,-,k3⟩:=DataW.trod_int underlying31 f3;obtain⟨z4,e4,-,k4⟩:=DataW.trod_int underlying31 f4;obtain⟨z5,e5,-,k5⟩:=DataW.trod_int underlying31 f5;obtain⟨us,m,-,-,-,hus,hg⟩:=DataW.trod_struct underlying29 f6;have hus4:us.length=4:=hus
 obtain⟨u0,u1,u2,u3,rfl⟩:∃ u0 u1 u2 u3,us = [u0,u1,u2,u3]:=by
  match us,hus4 with
  | [u0,u1,u2,u3],_=>exact⟨u0,u1,u2,u3,rfl⟩
 have g0:=hg 0 _ rfl;have g1:=hg 1 _ rfl;have g2:=hg 2 _ rfl;have g3:=hg 3 _ rfl;simp [cellsInt] at g0 g1 g2 g3;obtain⟨z6,e6,-,-⟩:=DataW.trod_int underlying3 g0;obtain⟨z7,e7,-,-⟩:=DataW.trod_int underlying3 g1;obtain⟨z8,e8,-,-⟩:=DataW.trod_int underlying3 g2;obtain⟨z9,e9,-,-⟩:=DataW.trod_int underlying3 g3;simp at e0 e1 e2 e3 e4 e5 e6 e7 e8 e9;subst e0 e1 e2 e3 e4 e5 e6 e7 e8 e9;obtain⟨⟨l1⟩⟩:=s1;obtain⟨⟨l2⟩⟩:=s2;refine⟨⟨z0,l1,l2,z3,z4,z5,z6,z7,z8,z9⟩,rfl,⟨u64_range k3,u64_range k4,u64_range k5⟩,?_,?_⟩
 ·simp [DataW.weights,underlying72,DataW.weightsEach,r1,r2]
 ·simp [DataW.weights,underlying72,DataW.weightsEach,r1,r2]
theorem skolem {α:Type} (d:α) {n:Nat} {p:Nat→α→Prop} (h:∀ i,i<n→∃ x,p i x):∃ f:Nat→α,∀ i,i<n→p i (f i):=by
 classical
 exact⟨fun i=>if hi:i<n then Classical.choose (h i hi) else d,fun i hi=>by
  show p i (if hi:i<n then Classical.choose (h i hi) else d)
  rw [dif_pos hi]
  exact Classical.choose_spec (h i hi)⟩
theorem Tryz.openScript {H:Type} {enc:TypeId × Value→H} {w:World} {base fuel:Nat} {held:Bool} {p:Option Addr} {len cap:Nat} {x:DataW H × List MemPlace} (h:DataW.trod enc prog w base (fun _=>true) held fuel 22 [.slice p len cap]=some x) (hsz:∀ y∈x.1.weights prog 22,y≤reachBytes) :
  ∃ S:List StepD,S.length=len∧SliceAt w p S∧(S ≠ []→∀ a,p=some a→a.block<w.heap.size)∧S.length≤281474976710656∧(∀ st∈S,st.s.length≤281474976710656∧st.t.length≤281474976710656)∧∀ st∈S,StepOk st:=by
 have hrb:reachBytes≤281474976710656:=by decide
 rcases Go.Deep.open_slice underlying22 h with⟨e,-⟩ | ⟨a,len',cap',m,n,D,Pl,e,-,hl,-,hm,rfl,hx⟩
 ·simp at e
  obtain⟨rfl,rfl,rfl⟩:=e;exact⟨[],rfl,.inl rfl,fun h=>absurd rfl h,by simp,by simp,by simp⟩
 ·simp at e
  obtain⟨rfl,rfl,rfl⟩:=e;simp at hm;subst hm
  obtain⟨f,hf⟩:=skolem (⟨0,[],[],0,0,0,0,0,0,0⟩:StepD) (n:=m) (p:=fun i st=>w.cells? base (a.add (i*10)) 10=some st.cells.toList∧StepOk st∧st.s.length∈(D i).weights prog 72∧st.t.length∈(D i).weights prog 72) (fun i hi=>by
   obtain⟨cs',hc,ht⟩:=hx i hi;obtain⟨st,rfl,h1,h2,h3⟩:=openStep ht;rw [cellsStep] at hc
   exact⟨st,hc,h1,h2,h3⟩)
  have hlen:len≤281474976710656:=by
   have:=hsz ((((List.range len).map D).length+((List.range (m-len)).map fun j=>D (len+j)).length)*prog.bytesOf 72) (by simp [DataW.weights,underlying22])
   have hby:prog.bytesOf 72=96:=by kernel_rfl
   rw [hby] at this;simp at this;omega
  have hS:∀(i:Nat) (st:StepD),((List.range len).map f)[i]? = some st→i<len∧st=f i:=fun i st hi=>by
   by_cases hil:i<len
   ·simp [hil] at hi
    exact⟨hil,hi.symm⟩
   ·simp [hil] at hi
  have hmem:∀ st∈(List.range len).map f,∃ i,i<len∧st=f i:=fun st hst=>by
   obtain⟨i,hi,rfl⟩:=List.mem_map.1 hst;exact⟨i,List.mem_range.1 hi,rfl⟩
  have hw:∀ i,i<len→∀ y∈(D i).weights prog 72,y≤281474976710656:=fun i hi y hy=>by
   have:y∈(DataW.slice ((List.range len).map D) ((List.range (m-len)).map fun j=>D (len+j))).weights prog 22:=by
    simp only [DataW.weights,underlying22];exact List.mem_cons_of_mem _ (List.mem_append_left _ (weightsAll_mem _ (D i) y (List.mem_map.2 ⟨i,List.mem_range.2 hi,rfl⟩) hy))
   exact Nat.le_trans (hsz y this) hrb
  obtain⟨b,off,spot⟩:=a;refine⟨(List.range len).map f,by simp,?_,fun hne a' ha'=>?_,by simpa using hlen,fun st hst=>?_,fun st hst=>?_⟩
  ·by_cases h0:len=0
   ·exact .inl (by simp [h0])
   ·have hc0:=(World.cells?_some (hf 0 (by omega)).1).2.2 0 (by omega)
    have hspot:spot=none:=by simpa [Addr.add] using World.cell?_spot (show w.cell? _=some _ from hc0)
    subst hspot;refine .inr ⟨b,off,rfl,fun i st hi=>?_⟩;obtain⟨hil,rfl⟩:=hS i st hi;have hc:=(World.cells?_some (hf i (by omega)).1).2.2
    have hcc:∀ j,j<10→w.cell? ⟨b,off+i*10+j,none⟩=(f i).cells.toList[j]?:=fun j hj=>by
     have:=hc j hj;rw [Lib.add_plain,Lib.add_plain] at this;exact this
    exact⟨hcc 0 (by omega),hcc 1 (by omega),hcc 2 (by omega),hcc 3 (by omega),hcc 4 (by omega),hcc 5 (by omega),hcc 6 (by omega),hcc 7 (by omega),hcc 8 (by omega),hcc 9 (by omega)⟩
  ·cases ha'
   have h0:0<len:=by
    rcases Nat.eq_zero_or_pos len with h | h
    ·exact absurd (by simp [h]) hne
    ·exact h
   exact World.cells?_block (hf 0 (by omega)).1 (by omega)
  ·obtain⟨i,hi,rfl⟩:=hmem st hst
   obtain⟨-,-,h1,h2⟩:=hf i (by omega);exact⟨hw i hi _ h1,hw i hi _ h2⟩
  ·obtain⟨i,hi,rfl⟩:=hmem st hst
   exact(hf i (by omega)).2.1
theorem Tryz.askRevoke (B wb hb ra g cap:Nat) (tm:Int) (L:List ThingD) (tr lr:Int) (w:World) (HP HP':World→Prop) (lo1:Lone HP) (lo2:Lone HP') (hP:HP w) (hR:RVAt B w ra g cap L tm tr lr) (hpos:0<L.length) (hW:BoxN w wb 69 #[.pointer (some ⟨hb,0,none⟩),.pointer (some ⟨ra,0,none⟩),.pointer none,.bool false,.bool false]) (hB:B≤w.heap.size) (hB9:9≤B) (hwb:B≤wb) (hra:B≤ra)
  (ss tt:List UInt8) (aa bb ff fl fu ke pa:Int) (k:Int) (Q2:List ThingD→Int→Int→Prop)
  (hH:∀ W,w.heap.size≤W.heap.size→HP W→Calls prog 28 #[.pointer (some ⟨hb,0,none⟩),.string ⟨ss.toArray⟩,.agg #[.int .i64 fl,.int .i64 fu,.int .i64 ke,.int .i64 pa]] W fun e w'=>e=.returned (.int .i64 k)∧HP' w'∧HostSp B W w')
  (hC:∀ B' W nb g' cap',B'≤W.heap.size→B'≤nb→RVAt B' W nb g' cap' L tm tr lr→Calls prog 114 #[.pointer (some ⟨nb,0,none⟩),.string ⟨ss.toArray⟩] W fun e w'=>∃ g2 cap2 L2 tr2 lr2,Q2 L2 tr2 lr2∧e=.returned (.int .i64 k)∧RVAt B' w' nb g2 cap2 L2 tm tr2 lr2∧Spares [nb,g'] W w') :
  Calls prog 62 #[.pointer (some ⟨wb,0,none⟩),.agg (StepD.cells ⟨5,ss,tt,aa,bb,ff,fl,fu,ke,pa⟩)] w fun e w'=>e=.returned (.bool true)∧After w B wb hb tm HP' Q2 w':=by
 have lW:=hW.lt;have hb0:Below w.heap.size w (w.alloc (.cells (StepD.cells ⟨5,ss,tt,aa,bb,ff,fl,fu,ke,pa⟩) 72)):=(Below.refl _ w).alloc (Nat.le_refl _) _;have bS:=BoxN.new w 72 (StepD.cells ⟨5,ss,tt,aa,bb,ff,fl,fu,ke,pa⟩);have bW0:=hW.alloc (.cells (StepD.cells ⟨5,ss,tt,aa,bb,ff,fl,fu,ke,pa⟩) 72);have hCp:=rCopy B ra g cap L tm tr lr _ (hR.below hb0) hpos;rw [World.size_alloc] at hCp;have w1c:=bW0.cell 1 (v:=.pointer (some ⟨ra,0,none⟩)) rfl;have s0c:=bS.cell 0 (v:=.int .i64 5) rfl;simp only [StepD.cells] at *
 all_goals
  go_enter func62,ntmps62
  go_wp2_with (first
   | (go_at_call 106;refine hCp.mono ?_;rintro e w1 ⟨g',cap',rfl,hR1,hb1⟩;have bS1:=bS.below hb1 (by simp);have s01:=bS1.cell 0 (v:=.int .i64 5) rfl))
  have hb1':Below w.heap.size w w1:=hb0.trans (hb1.mono (by omega));have bW1:=bW0.below hb1 (by omega);have hP1:AskP wb hb w.heap.size ⟨5,ss,tt,aa,bb,ff,fl,fu,ke,pa⟩ w1:=AskP.mk' bW1 bS1;have hh1:HP w1.drew:=lo1.below hP hb1'.drew;have hg'l:=hR1.glt;have hg'b:w.heap.size+1≤g':=(hR1.row.lt g' rfl).1;have hH1:=hH w1.drew (by have:=hb1'.size;exact this) hh1;have hRo1:RVAt B w1.drew ra g cap L tm tr lr:=hR.below hb1'.drew;have hRn1:RVAt (w.heap.size+1) w1.drew (w.heap.size+1) g' cap' L tm tr lr:=hR1.below (Below.refl _ _).drew
  have fW:Foreign w1.drew wb:=⟨by omega,_,_,bW1,by decide⟩
  have fS:Foreign w1.drew w.heap.size:=⟨by omega,_,_,bS1,by decide⟩
  obtain⟨fA,fG⟩:=hRo1.foreign hB9 (by omega);obtain⟨fN,fH⟩:=hRn1.foreign (by omega) (by omega);simp only [AskP] at hP1
  go_region_held3 (AskP wb hb w.heap.size ⟨5,ss,tt,aa,bb,ff,fl,fu,ke,pa⟩) (first
   | with_reducible exact AskP.drew hP1
   | with_reducible assumption) (first | (go_at_call 28;refine hH1.mono ?_;rintro e w2 ⟨rfl,hp2,hs,hsp2,hso⟩;have bW2:=Spares.box (W:=w1.drew) hsp2 bW1 (fun hx=>(hso _ hx).2 fW);have bS2:=Spares.box (W:=w1.drew) hsp2 bS1 (fun hx=>(hso _ hx).2 fS);have hP2:=AskP.mk' (st:=⟨5,ss,tt,aa,bb,ff,fl,fu,ke,pa⟩) bW2 bS2))
  have hRn2:RVAt (w.heap.size+1) w2 (w.heap.size+1) g' cap' L tm tr lr:=hRn1.spares hsp2 (fun hx=>(hso _ hx).2 fN) (fun hx=>(hso _ hx).2 fH);have hC2:=hC (w.heap.size+1) w2 (w.heap.size+1) g' cap' (by have:=hRn2.v.lt;omega) (Nat.le_refl _) hRn2;obtain⟨⟨q0,q1,q2,q3,q4⟩,q6,q7,q8,q9⟩:=hP2;have hgd:=hRn2.gbox;have lra:=hR.v.lt;have lgg:=hR.glt;have hRo2:RVAt B w2 ra g cap L tm tr lr:=hRo1.spares hsp2 (fun hx=>(hso _ hx).2 fA) (fun hx=>(hso _ hx).2 fG);have hbB2:Below B w w2:=(hb1'.mono hB).drew.trans (hsp2.below (by have:=hb1'.size;exact Nat.le_trans hB this) (fun b hb=>(hso b hb).1));have HBB:=hid_intro hbB2;clear hP1 hCp hH hC hH1 w1c s0c s01 hsp2 hso hbB2
  go_wp2_with (first
   | (go_at_call 114;refine hC2.mono ?_;rintro e w3 ⟨g2,cap2,L2,tr2,lr2,hQ2,rfl,hR3,hsp3⟩;have bW3:=hsp3.box bW2 (fun hx=>by rcases List.mem_cons.1 hx with e | e;omega;have:=List.mem_singleton.1 e;omega);have c13:=bW3.cell 1 (v:=.pointer (some ⟨ra,0,none⟩)) rfl;have hRo3:RVAt B w3 ra g cap L tm tr lr:=hRo2.spares hsp3 (fun hx=>by rcases List.mem_cons.1 hx with e | e;omega;have:=List.mem_singleton.1 e;omega) (fun hx=>by rcases List.mem_cons.1 hx with e | e;omega;have:=List.mem_singleton.1 e;omega))
   | (go_at_call 113;refine(changes _ _ _ _ _ _ _ _ _ _ _ _ _ _ _ _ w3 hR3 hRo3).mono ?_;rintro e w5 ⟨tb,rfl,hb5⟩;have bW5:=bW3.below hb5 bW3.lt;have hTu:=turned wb (w.heap.size+1) k tb _ _ _ _ w5 bW5)
   | (go_at_call 110;refine hTu.mono ?_;rintro e w4 ⟨rfl,rfl⟩))
  go_ret;refine⟨by first | rfl | simp,?_⟩;obtain⟨cur,hcur⟩:=hgd
  have hp3:HP' w3:=lo2.other hp2 hsp3 (fun b hb=>by
   rcases List.mem_cons.1 hb with rfl | hb
   ·exact Foreign.of hRn2.v (by omega) (by decide)
   ·rw [List.mem_singleton.1 hb];exact Foreign.of hcur (by omega) (by decide))
  have hp5:HP' w5:=lo2.below hp3 hb5;have hR5:=hR3.below hb5;have hsp4:Spares [wb] w5 (w5.setCell ⟨wb,1,none⟩ (.pointer (some ⟨w.heap.size+1,0,none⟩))):=(Spares.of_below (Below.refl _ _)).set (by simp) _ _
  have nW:wb≠g2:=fun e=>by obtain⟨c,hc⟩:=hR5.gbox;exact bW5.ne hc (by decide) e
  have hp4:HP' (w5.setCell ⟨wb,1,none⟩ (.pointer (some ⟨w.heap.size+1,0,none⟩))):=lo2.other hp5 hsp4 (fun b hb=>by rw [List.mem_singleton.1 hb];exact Foreign.of bW5 (by omega) (by decide));have hR4:=(RVAt.spares hR5 hsp4 (by simp;omega) (by simpa using Ne.symm nW)).lower (B':=B) (by omega)
  have hB3:Below B w w3:=(hid_elim HBB).trans (hsp3.below (by have:=hRn2.v.lt;omega) (fun b hb=>by
   rcases List.mem_cons.1 hb with rfl | hb
   ·omega
   ·rw [List.mem_singleton.1 hb];omega))
  exact⟨hp4,⟨L2,tr2,lr2,_,g2,cap2,hQ2,hR4,by omega,bW5.set 1 _⟩,(hB3.trans (hb5.mono (by have:=hR3.v.lt;omega))).setCell (p:=⟨wb,1,none⟩) hwb _⟩
theorem Tryz.askPrefix (B wb hb ra g cap:Nat) (tm:Int) (L:List ThingD) (tr lr:Int) (w:World) (HP HP':World→Prop) (lo1:Lone HP) (lo2:Lone HP') (hP:HP w) (hR:RVAt B w ra g cap L tm tr lr) (hpos:0<L.length) (hW:BoxN w wb 69 #[.pointer (some ⟨hb,0,none⟩),.pointer (some ⟨ra,0,none⟩),.pointer none,.bool false,.bool false]) (hB:B≤w.heap.size) (hB9:9≤B) (hwb:B≤wb) (hra:B≤ra)
  (ss tt:List UInt8) (aa bb ff fl fu ke pa:Int) (k:Int) (rs:Int) (hkr:k≠0→rs=0) (Q2:List ThingD→Int→Int→Prop)
  (hH:∀ W,w.heap.size≤W.heap.size→HP W→Calls prog 29 #[.pointer (some ⟨hb,0,none⟩),.string ⟨tt.toArray⟩,.agg #[.int .i64 fl,.int .i64 fu,.int .i64 ke,.int .i64 pa]] W fun e w'=>e=.returned (.tuple #[.int .i64 rs,.int .i64 k])∧HP' w'∧HostSp B W w')
  (hC:∀ B' W nb g' cap',B'≤W.heap.size→B'≤nb→RVAt B' W nb g' cap' L tm tr lr→Calls prog 115 #[.pointer (some ⟨nb,0,none⟩),.string ⟨tt.toArray⟩] W fun e w'=>∃ g2 cap2 L2 tr2 lr2,Q2 L2 tr2 lr2∧e=.returned (.tuple #[.int .i64 rs,.int .i64 k])∧RVAt B' w' nb g2 cap2 L2 tm tr2 lr2∧Spares [nb,g'] W w') :
  Calls prog 62 #[.pointer (some ⟨wb,0,none⟩),.agg (StepD.cells ⟨6,ss,tt,aa,bb,ff,fl,fu,ke,pa⟩)] w fun e w'=>e=.returned (.bool true)∧After w B wb hb tm HP' Q2 w':=by
 have lW:=hW.lt;have hb0:Below w.heap.size w (w.alloc (.cells (StepD.cells ⟨6,ss,tt,aa,bb,ff,fl,fu,ke,pa⟩) 72)):=(Below.refl _ w).alloc (Nat.le_refl _) _;have bS:=BoxN.new w 72 (StepD.cells ⟨6,ss,tt,aa,bb,ff,fl,fu,ke,pa⟩);have bW0:=hW.alloc (.cells (StepD.cells ⟨6,ss,tt,aa,bb,ff,fl,fu,ke,pa⟩) 72);have hCp:=rCopy B ra g cap L tm tr lr _ (hR.below hb0) hpos;rw [World.size_alloc] at hCp;have w1c:=bW0.cell 1 (v:=.pointer (some ⟨ra,0,none⟩)) rfl;have s0c:=bS.cell 0 (v:=.int .i64 6) rfl
 obtain⟨kz,hkz⟩:∃ kz:Bool,(k != 0)=kz:=⟨_,rfl⟩
 have hkz':(k==0) = !kz:=by rw [← hkz];simp [bne]
 have Hkz:Hid (kz=true→rs=0):=hid_intro (fun e=>hkr (by rw [e] at hkz;simpa using hkz));clear hkr;simp only [StepD.cells] at *;cases kz
 all_goals
  try (have hzz:=hid_elim Hkz rfl)
  try subst hzz
  go_enter func62,ntmps62
  go_wp2_with (first
   | (go_at_call 106;refine hCp.mono ?_;rintro e w1 ⟨g',cap',rfl,hR1,hb1⟩;have bS1:=bS.below hb1 (by simp);have s01:=bS1.cell 0 (v:=.int .i64 6) rfl))
  have hb1':Below w.heap.size w w1:=hb0.trans (hb1.mono (by omega));have bW1:=bW0.below hb1 (by omega);have hP1:AskP wb hb w.heap.size ⟨6,ss,tt,aa,bb,ff,fl,fu,ke,pa⟩ w1:=AskP.mk' bW1 bS1;have hh1:HP w1.drew:=lo1.below hP hb1'.drew;have hg'l:=hR1.glt;have hg'b:w.heap.size+1≤g':=(hR1.row.lt g' rfl).1;have hH1:=hH w1.drew (by have:=hb1'.size;exact this) hh1;have hRo1:RVAt B w1.drew ra g cap L tm tr lr:=hR.below hb1'.drew;have hRn1:RVAt (w.heap.size+1) w1.drew (w.heap.size+1) g' cap' L tm tr lr:=hR1.below (Below.refl _ _).drew
  have fW:Foreign w1.drew wb:=⟨by omega,_,_,bW1,by decide⟩
  have fS:Foreign w1.drew w.heap.size:=⟨by omega,_,_,bS1,by decide⟩
  obtain⟨fA,fG⟩:=hRo1.foreign hB9 (by omega);obtain⟨fN,fH⟩:=hRn1.foreign (by omega) (by omega);simp only [AskP] at hP1
  go_region_held3 (AskP wb hb w.heap.size ⟨6,ss,tt,aa,bb,ff,fl,fu,ke,pa⟩) (first
   | with_reducible exact AskP.drew hP1
   | with_reducible assumption) (first | (go_at_call 29;refine hH1.mono ?_;rintro e w2 ⟨rfl,hp2,hs,hsp2,hso⟩;have bW2:=Spares.box (W:=w1.drew) hsp2 bW1 (fun hx=>(hso _ hx).2 fW);have bS2:=Spares.box (W:=w1.drew) hsp2 bS1 (fun hx=>(hso _ hx).2 fS);have hP2:=AskP.mk' (st:=⟨6,ss,tt,aa,bb,ff,fl,fu,ke,pa⟩) bW2 bS2))
  have hRn2:RVAt (w.heap.size+1) w2 (w.heap.size+1) g' cap' L tm tr lr:=hRn1.spares hsp2 (fun hx=>(hso _ hx).2 fN) (fun hx=>(hso _ hx).2 fH);have hC2:=hC (w.heap.size+1) w2 (w.heap.size+1) g' cap' (by have:=hRn2.v.lt;omega) (Nat.le_refl _) hRn2;obtain⟨⟨q0,q1,q2,q3,q4⟩,q6,q7,q8,q9⟩:=hP2;have hgd:=hRn2.gbox;have lra:=hR.v.lt;have lgg:=hR.glt;have hRo2:RVAt B w2 ra g cap L tm tr lr:=hRo1.spares hsp2 (fun hx=>(hso _ hx).2 fA) (fun hx=>(hso _ hx).2 fG);have hbB2:Below B w w2:=(hb1'.mono hB).drew.trans (hsp2.below (by have:=hb1'.size;exact Nat.le_trans hB this) (fun b hb=>(hso b hb).1));have HBB:=hid_intro hbB2;clear hP1 hCp hH hC hH1 w1c s0c s01 hsp2 hso hbB2
  go_wp2_with (first
   | (go_at_call 115;refine hC2.mono ?_;rintro e w3 ⟨g2,cap2,L2,tr2,lr2,hQ2,rfl,hR3,hsp3⟩;have bW3:=hsp3.box bW2 (fun hx=>by rcases List.mem_cons.1 hx with e | e;omega;have:=List.mem_singleton.1 e;omega);have c13:=bW3.cell 1 (v:=.pointer (some ⟨ra,0,none⟩)) rfl;have hRo3:RVAt B w3 ra g cap L tm tr lr:=hRo2.spares hsp3 (fun hx=>by rcases List.mem_cons.1 hx with e | e;omega;have:=List.mem_singleton.1 e;omega) (fun hx=>by rcases List.mem_cons.1 hx with e | e;omega;have:=List.mem_singleton.1 e;omega))
   | (go_at_call 113;refine(changes _ _ _ _ _ _ _ _ _ _ _ _ _ _ _ _ w3 hR3 hRo3).mono ?_;rintro e w5 ⟨tb,rfl,hb5⟩;have bW5:=bW3.below hb5 bW3.lt;have hTu:=turned wb (w.heap.size+1) k tb _ _ _ _ w5 bW5)
   | (go_at_call 110;refine hTu.mono ?_;rintro e w4 ⟨rfl,rfl⟩))
  go_ret;refine⟨by first | rfl | simp,?_⟩;obtain⟨cur,hcur⟩:=hgd
  have hp3:HP' w3:=lo2.other hp2 hsp3 (fun b hb=>by
   rcases List.mem_cons.1 hb with rfl | hb
   ·exact Foreign.of hRn2.v (by omega) (by decide)
   ·rw [List.mem_singleton.1 hb];exact Foreign.of hcur (by omega) (by decide))
  have hp5:HP' w5:=lo2.below hp3 hb5;have hR5:=hR3.below hb5;have hsp4:Spares [wb] w5 (w5.setCell ⟨wb,1,none⟩ (.pointer (some ⟨w.heap.size+1,0,none⟩))):=(Spares.of_below (Below.refl _ _)).set (by simp) _ _
  have nW:wb≠g2:=fun e=>by obtain⟨c,hc⟩:=hR5.gbox;exact bW5.ne hc (by decide) e
  have hp4:HP' (w5.setCell ⟨wb,1,none⟩ (.pointer (some ⟨w.heap.size+1,0,none⟩))):=lo2.other hp5 hsp4 (fun b hb=>by rw [List.mem_singleton.1 hb];exact Foreign.of bW5 (by omega) (by decide));have hR4:=(RVAt.spares hR5 hsp4 (by simp;omega) (by simpa using Ne.symm nW)).lower (B':=B) (by omega)
  have hB3:Below B w w3:=(hid_elim HBB).trans (hsp3.below (by have:=hRn2.v.lt;omega) (fun b hb=>by
   rcases List.mem_cons.1 hb with rfl | hb
   ·omega
   ·rw [List.mem_singleton.1 hb];omega))
  exact⟨hp4,⟨L2,tr2,lr2,_,g2,cap2,hQ2,hR4,by omega,bW5.set 1 _⟩,(hB3.trans (hb5.mono (by have:=hR3.v.lt;omega))).setCell (p:=⟨wb,1,none⟩) hwb _⟩
theorem Tryz.askTree (B wb hb ra g cap:Nat) (tm:Int) (L:List ThingD) (tr lr:Int) (w:World) (HP HP':World→Prop) (lo1:Lone HP) (lo2:Lone HP') (hP:HP w) (hR:RVAt B w ra g cap L tm tr lr) (hpos:0<L.length) (hW:BoxN w wb 69 #[.pointer (some ⟨hb,0,none⟩),.pointer (some ⟨ra,0,none⟩),.pointer none,.bool false,.bool false]) (hB:B≤w.heap.size) (hB9:9≤B) (hwb:B≤wb) (hra:B≤ra)
  (ss tt:List UInt8) (aa bb ff fl fu ke pa:Int) (k:Int) (Q2:List ThingD→Int→Int→Prop)
  (hH:∀ W,w.heap.size≤W.heap.size→HP W→Calls prog 26 #[.pointer (some ⟨hb,0,none⟩),.string ⟨ss.toArray⟩,.agg #[.int .i64 fl,.int .i64 fu,.int .i64 ke,.int .i64 pa]] W fun e w'=>e=.returned (.int .i64 k)∧HP' w'∧HostSp B W w')
  (hC:∀ B' W nb g' cap',B'≤W.heap.size→B'≤nb→RVAt B' W nb g' cap' L tm tr lr→Calls prog 116 #[.pointer (some ⟨nb,0,none⟩),.string ⟨ss.toArray⟩] W fun e w'=>∃ g2 cap2 L2 tr2 lr2,Q2 L2 tr2 lr2∧e=.returned (.int .i64 k)∧RVAt B' w' nb g2 cap2 L2 tm tr2 lr2∧Spares [nb,g'] W w') :
  Calls prog 62 #[.pointer (some ⟨wb,0,none⟩),.agg (StepD.cells ⟨7,ss,tt,aa,bb,ff,fl,fu,ke,pa⟩)] w fun e w'=>e=.returned (.bool true)∧After w B wb hb tm HP' Q2 w':=by
 have lW:=hW.lt;have hb0:Below w.heap.size w (w.alloc (.cells (StepD.cells ⟨7,ss,tt,aa,bb,ff,fl,fu,ke,pa⟩) 72)):=(Below.refl _ w).alloc (Nat.le_refl _) _;have bS:=BoxN.new w 72 (StepD.cells ⟨7,ss,tt,aa,bb,ff,fl,fu,ke,pa⟩);have bW0:=hW.alloc (.cells (StepD.cells ⟨7,ss,tt,aa,bb,ff,fl,fu,ke,pa⟩) 72);have hCp:=rCopy B ra g cap L tm tr lr _ (hR.below hb0) hpos;rw [World.size_alloc] at hCp;have w1c:=bW0.cell 1 (v:=.pointer (some ⟨ra,0,none⟩)) rfl;have s0c:=bS.cell 0 (v:=.int .i64 7) rfl;simp only [StepD.cells] at *
 all_goals
  go_enter func62,ntmps62
  go_wp2_with (first
   | (go_at_call 106;refine hCp.mono ?_;rintro e w1 ⟨g',cap',rfl,hR1,hb1⟩;have bS1:=bS.below hb1 (by simp);have s01:=bS1.cell 0 (v:=.int .i64 7) rfl))
  have hb1':Below w.heap.size w w1:=hb0.trans (hb1.mono (by omega));have bW1:=bW0.below hb1 (by omega);have hP1:AskP wb hb w.heap.size ⟨7,ss,tt,aa,bb,ff,fl,fu,ke,pa⟩ w1:=AskP.mk' bW1 bS1;have hh1:HP w1.drew:=lo1.below hP hb1'.drew;have hg'l:=hR1.glt;have hg'b:w.heap.size+1≤g':=(hR1.row.lt g' rfl).1;have hH1:=hH w1.drew (by have:=hb1'.size;exact this) hh1;have hRo1:RVAt B w1.drew ra g cap L tm tr lr:=hR.below hb1'.drew;have hRn1:RVAt (w.heap.size+1) w1.drew (w.heap.size+1) g' cap' L tm tr lr:=hR1.below (Below.refl _ _).drew
  have fW:Foreign w1.drew wb:=⟨by omega,_,_,bW1,by decide⟩
  have fS:Foreign w1.drew w.heap.size:=⟨by omega,_,_,bS1,by decide⟩
  obtain⟨fA,fG⟩:=hRo1.foreign hB9 (by omega);obtain⟨fN,fH⟩:=hRn1.foreign (by omega) (by omega);simp only [AskP] at hP1
  go_region_held3 (AskP wb hb w.heap.size ⟨7,ss,tt,aa,bb,ff,fl,fu,ke,pa⟩) (first
   | with_reducible exact AskP.drew hP1
   | with_reducible assumption) (first | (go_at_call 26;refine hH1.mono ?_;rintro e w2 ⟨rfl,hp2,hs,hsp2,hso⟩;have bW2:=Spares.box (W:=w1.drew) hsp2 bW1 (fun hx=>(hso _ hx).2 fW);have bS2:=Spares.box (W:=w1.drew) hsp2 bS1 (fun hx=>(hso _ hx).2 fS);have hP2:=AskP.mk' (st:=⟨7,ss,tt,aa,bb,ff,fl,fu,ke,pa⟩) bW2 bS2))
  have hRn2:RVAt (w.heap.size+1) w2 (w.heap.size+1) g' cap' L tm tr lr:=hRn1.spares hsp2 (fun hx=>(hso _ hx).2 fN) (fun hx=>(hso _ hx).2 fH);have hC2:=hC (w.heap.size+1) w2 (w.heap.size+1) g' cap' (by have:=hRn2.v.lt;omega) (Nat.le_refl _) hRn2;obtain⟨⟨q0,q1,q2,q3,q4⟩,q6,q7,q8,q9⟩:=hP2;have hgd:=hRn2.gbox;have lra:=hR.v.lt;have lgg:=hR.glt;have hRo2:RVAt B w2 ra g cap L tm tr lr:=hRo1.spares hsp2 (fun hx=>(hso _ hx).2 fA) (fun hx=>(hso _ hx).2 fG);have hbB2:Below B w w2:=(hb1'.mono hB).drew.trans (hsp2.below (by have:=hb1'.size;exact Nat.le_trans hB this) (fun b hb=>(hso b hb).1));have HBB:=hid_intro hbB2;clear hP1 hCp hH hC hH1 w1c s0c s01 hsp2 hso hbB2
  go_wp2_with (first
   | (go_at_call 116;refine hC2.mono ?_;rintro e w3 ⟨g2,cap2,L2,tr2,lr2,hQ2,rfl,hR3,hsp3⟩;have bW3:=hsp3.box bW2 (fun hx=>by rcases List.mem_cons.1 hx with e | e;omega;have:=List.mem_singleton.1 e;omega);have c13:=bW3.cell 1 (v:=.pointer (some ⟨ra,0,none⟩)) rfl;have hRo3:RVAt B w3 ra g cap L tm tr lr:=hRo2.spares hsp3 (fun hx=>by rcases List.mem_cons.1 hx with e | e;omega;have:=List.mem_singleton.1 e;omega) (fun hx=>by rcases List.mem_cons.1 hx with e | e;omega;have:=List.mem_singleton.1 e;omega))
   | (go_at_call 113;refine(changes _ _ _ _ _ _ _ _ _ _ _ _ _ _ _ _ w3 hR3 hRo3).mono ?_;rintro e w5 ⟨tb,rfl,hb5⟩;have bW5:=bW3.below hb5 bW3.lt;have hTu:=turned wb (w.heap.size+1) k tb _ _ _ _ w5 bW5)
   | (go_at_call 110;refine hTu.mono ?_;rintro e w4 ⟨rfl,rfl⟩))
  go_ret;refine⟨by first | rfl | simp,?_⟩;obtain⟨cur,hcur⟩:=hgd
  have hp3:HP' w3:=lo2.other hp2 hsp3 (fun b hb=>by
   rcases List.mem_cons.1 hb with rfl | hb
   ·exact Foreign.of hRn2.v (by omega) (by decide)
   ·rw [List.mem_singleton.1 hb];exact Foreign.of hcur (by omega) (by decide))
  have hp5:HP' w5:=lo2.below hp3 hb5;have hR5:=hR3.below hb5;have hsp4:Spares [wb] w5 (w5.setCell ⟨wb,1,none⟩ (.pointer (some ⟨w.heap.size+1,0,none⟩))):=(Spares.of_below (Below.refl _ _)).set (by simp) _ _
  have nW:wb≠g2:=fun e=>by obtain⟨c,hc⟩:=hR5.gbox;exact bW5.ne hc (by decide) e
  have hp4:HP' (w5.setCell ⟨wb,1,none⟩ (.pointer (some ⟨w.heap.size+1,0,none⟩))):=lo2.other hp5 hsp4 (fun b hb=>by rw [List.mem_singleton.1 hb];exact Foreign.of bW5 (by omega) (by decide));have hR4:=(RVAt.spares hR5 hsp4 (by simp;omega) (by simpa using Ne.symm nW)).lower (B':=B) (by omega)
  have hB3:Below B w w3:=(hid_elim HBB).trans (hsp3.below (by have:=hRn2.v.lt;omega) (fun b hb=>by
   rcases List.mem_cons.1 hb with rfl | hb
   ·omega
   ·rw [List.mem_singleton.1 hb];omega))
  exact⟨hp4,⟨L2,tr2,lr2,_,g2,cap2,hQ2,hR4,by omega,bW5.set 1 _⟩,(hB3.trans (hb5.mono (by have:=hR3.v.lt;omega))).setCell (p:=⟨wb,1,none⟩) hwb _⟩
end Go.Proofs
