import Derived.Test.YtjbekgjdempbiaaGreatDoorJRefK
import Derived.Test.YtjbekgjdempbiaaGreatDoorJVIssue
set_option maxRecDepth 100000
set_option maxHeartbeats 8000000
namespace Go.Proofs
open Go.RowKit Go.Sort Go.Lib Go.Shelf
def waitN:Nat→Int
 | 0=>2
 | 1=>4
 | 2=>8
 | 3=>16
 | _=>32
theorem waitN_lt {k:Nat} (h:k<4):waitN k<32∧0<waitN k∧waitN k*2=waitN (k+1):=by
 match k,h with
 | 0,_=>decide
 | 1,_=>decide
 | 2,_=>decide
 | 3,_=>decide
theorem waitN_top {k:Nat} (h:4≤k):waitN k=32:=by
 match k,h with
 | k+4,_=>rfl
theorem waitN_le (k:Nat):0<waitN k∧waitN k≤32:=by
 by_cases h:k<4
 ·have:=waitN_lt h;omega
 ·rw [waitN_top (by omega)];omega
def failAt (tm:Int) (t:ThingD):ThingD:={ t with tries:=t.tries+1,doomed:=true,at_:=plusI tm (waitN t.tries.toNat) }
theorem Tryz.RVAt.tried1 {B:Nat} {W:World} {vb g cap:Nat} {L:List ThingD} {tm tn ln:Int} (h:RVAt B W vb g cap L tm tn ln) (hne:vb≠g) {i:Nat} {t:ThingD} (hi:L[i]? = some t) :
  RVAt B ((W.setCell ⟨g,i*8+7,none⟩ (.int .i64 (t.tries+1))).setCell ⟨g,i*8+6,none⟩ (.bool true)) vb g cap (L.set i { t with tries:=t.tries+1,doomed:=true }) tm tn ln:=by
 have hil:i<L.length:=(List.getElem?_eq_some_iff.1 hi).1;have h1:=h.setF hne hi (j:=7) (t':={ t with tries:=t.tries+1 }) (by omega) (.int .i64 (t.tries+1)) rfl rfl rfl;have h2:=h1.setF hne (i:=i) (j:=6) (t:={ t with tries:=t.tries+1 }) (t':={ t with tries:=t.tries+1,doomed:=true }) (by simp [hil]) (by omega) (.bool true) rfl rfl rfl;rw [List.set_set] at h2;exact h2
theorem Tryz.RVAt.tried2 {B:Nat} {W:World} {vb g cap:Nat} {L:List ThingD} {tm tn ln:Int} {i:Nat} {t:ThingD} (h:RVAt B W vb g cap (L.set i { t with tries:=t.tries+1,doomed:=true }) tm tn ln) (hne:vb≠g) (hi:L[i]? = some t) :
  RVAt B (W.setCell ⟨g,i*8+4,none⟩ (.int .u64 (plusI tm (waitN t.tries.toNat)))) vb g cap (L.set i (failAt tm t)) tm tn ln:=by
 have hil:i<L.length:=(List.getElem?_eq_some_iff.1 hi).1;have h2:=h.setF hne (i:=i) (j:=4) (t:={ t with tries:=t.tries+1,doomed:=true }) (t':=failAt tm t) (by simp [hil]) (by omega) (.int .u64 (plusI tm (waitN t.tries.toNat))) rfl rfl rfl;rw [List.set_set] at h2;exact h2
theorem Tryz.rTried_fail (B:Nat) (vb g cap:Nat) (L:List ThingD) (tm tn ln:Int) (w:World) (h:RVAt B w vb g cap L tm tn ln) (hB:B≤w.heap.size) (hne:vb≠g) (htm:0≤tm) (i:Nat) (t:ThingD) (ht:L[i]? = some t) (hr0:0≤t.tries) (hr1:t.tries<1000000) :
  Calls prog 107 #[.pointer (some ⟨vb,0,none⟩),.int .i64 i,.bool false] w fun e w'=>e=.returned (.tuple #[])∧RVAt B w' vb g cap (L.set i (failAt tm t)) tm tn ln∧Below B w w'∧Spares [vb,g] w w':=by
 have hlim:=h.lim;have hil:i<L.length:=(List.getElem?_eq_some_iff.1 ht).1;have hgB:B≤g:=(h.row.lt g rfl).1;obtain⟨x0,x1,x2,x3,x4,x5,x6,x7⟩:=h.cells ht;have v0:=h.v.cell 0 (v:=.slice (some ⟨g,0,none⟩) L.length cap) rfl;have f7:=h.frozenG (i*8+7);have f6:=h.frozenG (i*8+6)
 have hP:=fun W=>rPlus tm (waitN t.tries.toNat) htm (by have:=waitN_le t.tries.toNat;omega) (by have:=waitN_le t.tries.toNat;omega) W
 have r1:=h.tried1 hne ht;have r2:=r1.tried2 hne ht;have lv:=h.v.lt
 obtain⟨len,hlen⟩:∃ len,L.length=len:=⟨_,rfl⟩
 have p1:=r1.doomP (len:=len) (i:=i) (by rw [List.length_set];exact hlen) (by rw [List.length_set];exact hil);have p2:=r2.doomP (len:=len) (i:=i) (by rw [List.length_set];exact hlen) (by rw [List.length_set];exact hil);have R2:=hid_intro r2;rw [hlen] at hil hlim v0;clear hlen r1 r2
 obtain⟨tr,htr⟩:∃ tr,t.tries=tr:=⟨_,rfl⟩
 rw [htr] at x7 hr0 hr1 hP p1 p2 R2;have Htr:=hid_intro htr;clear htr;go_enter func107,ntmps107;go_wp2
 go_loopw [7,8] (fun x i wr=>∃ k:Nat,(k:Int)≤tr∧k≤4∧i=.int .i64 k∧x=.int .u64 (waitN k)∧wr=w) (fun _ i _=>4-(intOf i).toNat)
 case atStart=>exact⟨0,by omega,by omega,rfl,rfl,rfl⟩
 case round =>
  obtain⟨k,hk1,hk4,rfl,rfl,rfl⟩:=hrel
  by_cases hkt:(k:Int)<tr∧k<4
  ·obtain⟨hkt,hk⟩:=hkt
   obtain⟨hx,hx0,hx2⟩:=waitN_lt hk;have HX:=hid_intro hx2;clear hx2;generalize waitN k=x at *
   have hx2:x*2<18446744073709551616:=by omega
   go_wp2
   go_roundw
   case rel=>exact⟨k+1,by omega,by omega,rfl,by rw [← hid_elim HX],by first | rfl | trivial⟩
   case measure=>simp [intOf];omega
  ·have hwt:Hid (waitN k=waitN tr.toNat):=hid_intro (by
    by_cases h4:k<4
    ·rw [show tr.toNat=k by omega]
    ·rw [waitN_top (by omega),waitN_top (k:=tr.toNat) (by omega)])
   have hxl:=(waitN_le k).2;have e:=hid_elim hwt;rw [← e] at hP p2 R2;clear e
   by_cases hlt:(k:Int)<tr
   ·have hx:waitN k=32:=waitN_top (by omega)
    clear hwt hkt;rw [hx] at hP p2 R2 hxl ⊢;clear hx;go_wp2
    go_region_held3 (DoomP g vb i (.slice (some ⟨g,0,none⟩) len cap) tm) (first
     | with_reducible exact p1
     | with_reducible exact p2
     | with_reducible assumption) (first | (go_at_call 153;refine(hP _).mono ?_;rintro e w2 ⟨rfl,rfl⟩))
    all_goals
     go_wp2
     go_end0
     exact⟨rfl,(hid_elim R2).below (Grew.below (Grew.refl _).drew),((((Below.refl B wr).setCell (p:=⟨g,i*8+7,none⟩) hgB _).setCell (p:=⟨g,i*8+6,none⟩) hgB _).setCell (p:=⟨g,i*8+4,none⟩) hgB _).drew,((((Spares.of_below (Below.refl _ _)).set (by simp) _ _).set (by simp) _ _).set (by simp) _ _).drew⟩
   ·clear hk4
    clear hwt hkt;generalize waitN k=x at *;go_wp2
    go_region_held3 (DoomP g vb i (.slice (some ⟨g,0,none⟩) len cap) tm) (first
     | with_reducible exact p1
     | with_reducible exact p2
     | with_reducible assumption) (first | (go_at_call 153;refine(hP _).mono ?_;rintro e w2 ⟨rfl,rfl⟩))
    all_goals
     go_wp2
     go_end0
     exact⟨rfl,(hid_elim R2).below (Grew.below (Grew.refl _).drew),((((Below.refl B wr).setCell (p:=⟨g,i*8+7,none⟩) hgB _).setCell (p:=⟨g,i*8+6,none⟩) hgB _).setCell (p:=⟨g,i*8+4,none⟩) hgB _).drew,((((Spares.of_below (Below.refl _ _)).set (by simp) _ _).set (by simp) _ _).set (by simp) _ _).drew⟩
end Go.Proofs
namespace Go.Proofs
open Go.RowKit Go.Sort Go.Lib Go.Shelf Go.Maps
theorem Tryz.wait (n:Nat) (f:Int) (hf:f=(n:Int)+1) (hn:f≤9223372036854775807) (w:World):Calls prog 199 #[.int .i64 f] w fun e w'=>e=.returned (.int .u64 (waitN n))∧w'=w:=by
 have Hf:=hid_intro hf
 obtain⟨r,hr⟩:∃ r,waitN n=r:=⟨_,rfl⟩
 rw [hr];have Hr:=hid_intro hr
 have h1:1≤f:=by omega
 clear hf hr;go_enter func199,ntmps199;go_wp2
 go_loopw [3,4] (fun x i wr=>∃ k:Nat,(k:Int)+1≤f∧k≤4∧i=.int .i64 ((k:Int)+1)∧x=.int .u64 (waitN k)∧wr=w) (fun _ i _=>5-(intOf i).toNat)
 case atStart=>exact⟨0,by omega,by omega,rfl,rfl,rfl⟩
 case round =>
  obtain⟨k,hk,hk4,rfl,rfl,rfl⟩:=hrel
  by_cases hlt:(k:Int)+1<f
  ·by_cases h4:k<4
   ·obtain⟨hx,hx0,hx2⟩:=waitN_lt h4
    have HX:=hid_intro hx2;generalize waitN k=x at *;clear hx2;go_wp2;exact⟨⟨k+1,by omega,by omega,congrArg (Value.int .i64) (by omega),by rw [← hid_elim HX];exact⟨rfl,trivial⟩⟩,by simp [intOf];omega⟩
   ·have hx:waitN k=32:=waitN_top (by omega)
    have hfin:Hid (32=r):=hid_intro (by rw [← hid_elim Hr];exact(waitN_top (by have:=hid_elim Hf;omega)).symm);rw [hx];clear hx;go_wp2;go_ret;exact⟨ret_int (hid_elim hfin),rfl⟩
  ·have hfin:Hid (waitN k=r):=hid_intro (by rw [← hid_elim Hr,show n=k by have:=hid_elim Hf;omega])
   have hxl:=waitN_le k;generalize waitN k=x at *;go_wp2;go_ret;exact⟨ret_int (by rw [← hid_elim hfin];omega),rfl⟩
theorem Tryz.eFail (b:Nat) (ty:TypeId) (ak au at_ tr tm:Int) (pd:Bool) (rest:List Value) (w:World) (hB:BoxN w b ty (#[.int .i64 ak,.int .u64 au,.int .u64 at_,.int .i64 tr,.bool pd] ++ rest.toArray)) (h0:0≤tr) (h1:tr<9223372036854775807) (t0:0≤tm) (t1:tm≤18446744073709551615) :
  Calls prog 168 #[.pointer (some ⟨b,0,none⟩),.int .u64 tm] w fun e w'=>e=.returned (.tuple #[])∧BoxN w' b ty (#[.int .i64 ak,.int .u64 au,.int .u64 (plusI tm (waitN tr.toNat)),.int .i64 (tr+1),.bool true] ++ rest.toArray)∧Spares [b] w w':=by
 have hW:=fun W=>wait tr.toNat (tr+1) (by omega) (by omega) W
 have hwl:=waitN_le tr.toNat
 have hL:=fun W=>later tm (waitN tr.toNat) t0 t1 (by omega) (by omega) W
 generalize plusI tm (waitN tr.toNat)=at2 at *;generalize waitN tr.toNat=wn at *;have c2:=hB.cell 2 (v:=.int .u64 at_) (by simp);have c3:=hB.cell 3 (v:=.int .i64 tr) (by simp);have c4:=hB.cell 4 (v:=.bool pd) (by simp);have f2:=hB.frozen 2;have f3:=hB.frozen 3;have f4:=hB.frozen 4;have hfin:=((hB.set 4 (.bool true)).set 3 (.int .i64 (tr+1))).set 2 (.int .u64 at2);have HF:=hid_intro hfin;clear hfin;go_enter func168,ntmps168
 go_wp2_with (first
  | (go_at_call 199;refine(hW _).mono ?_;rintro e w1 ⟨rfl,rfl⟩)
  | (go_at_call 65;refine(hL _).mono ?_;rintro e w2 ⟨rfl,rfl⟩))
 go_end0
 refine⟨rfl,?_,(((Spares.of_below (Below.refl _ w)).set (by simp) _ _).set (by simp) _ _).set (by simp) _ _⟩;have:=hid_elim HF
 simpa using this
structure Tryz.LkP1 (vb c m nb:Nat) (tm:TypeId) (k u:Int) (r:Value) (W:World):Prop where
 mp:W.cell? ⟨vb,c,none⟩=some (.map (some m))
 n0:W.cell? ⟨nb,0,none⟩=some (.int .i64 k)
 n1:W.cell? ⟨nb,1,none⟩=some (.int .u64 u)
 lk:(Instr.lookup tm (.map (some m)) (.agg #[.int .i64 k,.int .u64 u]) false).run Tryz.prog W=.ok r W
theorem Tryz.aboveOf_tok (vb mt:Nat) (x:Int × Int) (ak au at_ tr:Int) (pd:Bool) (w:World) (hP:∀ W,Below w.heap.size w W→W.cell? ⟨vb,3,none⟩=some (.map (some mt))∧(Instr.lookup 120 (.map (some mt)) (nmV x) true).run prog W=.ok (.tuple #[.agg #[.int .i64 ak,.int .u64 au,.int .u64 at_,.int .i64 tr,.bool pd],.bool true]) W) :
  Calls prog 134 #[.pointer (some ⟨vb,0,none⟩),nmV x] w fun e w'=>e=.returned (nmV (ak,au))∧Below w.heap.size w w':=by
 have hB0:Below w.heap.size w ((w.alloc (.cells #[.int .i64 x.1,.int .u64 x.2] 114)).alloc (.cells #[.int .i64 0,.int .u64 0] 114)):=((Below.refl _ w).alloc (Nat.le_refl _) _).alloc (by simp) _;have bN:=(BoxN.new w 114 #[.int .i64 x.1,.int .u64 x.2]).alloc (.cells #[.int .i64 0,.int .u64 0] 114);have bR:=BoxN.new (w.alloc (.cells #[.int .i64 x.1,.int .u64 x.2] 114)) 114 #[.int .i64 0,.int .u64 0];rw [World.size_alloc] at bR
 have hs0:((w.alloc (.cells #[.int .i64 x.1,.int .u64 x.2] 114)).alloc (.cells #[.int .i64 0,.int .u64 0] 114)).heap.size=w.heap.size+2:=by simp
 unfold nmV;go_enter func134,ntmps134
 go_wp2_with fail
 generalize (w.alloc (.cells #[.int .i64 x.1,.int .u64 x.2] 114)).alloc (.cells #[.int .i64 0,.int .u64 0] 114)=W1 at *
 have hS:∀ W,Below (w.heap.size+2) W1 W→LkP vb 3 mt w.heap.size 120 x.1 x.2 (.tuple #[.agg #[.int .i64 ak,.int .u64 au,.int .u64 at_,.int .i64 tr,.bool pd],.bool true]) W:=fun W hb=>by
  have bN':=bN.below hb (by omega);obtain⟨h1,h2⟩:=hP W (hB0.trans (hb.mono (by omega)));exact⟨h1,bN'.cell 0 rfl,bN'.cell 1 rfl,h2⟩
 have hb1:Below (w.heap.size+2) W1 W1.drew:=(Below.refl _ _).drew;refine wp_region_held_drew (S:=(LkP vb 3 mt w.heap.size 120 x.1 x.2 (.tuple #[.agg #[.int .i64 ak,.int .u64 au,.int .u64 at_,.int .i64 tr,.bool pd],.bool true]))) (by kernel_rfl) (hS _ hb1) (fun hS0=>?_);refine wpAnyH_take (i:=0) (v:=?v0) rfl (by kernel_rfl) (by kernel_rfl) (by kernel_rfl) (fun _ _ _ h=>h) (Or.inl ⟨by kernel_rfl,?y0⟩) hS0 ?_
 case y0=>(intro w hSw;obtain⟨q0,q1,q2,q3⟩:=hSw;go_simp;try with_reducible rfl)
 refine wpAnyH_take (i:=1) (v:=?v1) rfl (by kernel_rfl) (by kernel_rfl) (by kernel_rfl) (fun _ _ _ h=>h) (Or.inl ⟨by kernel_rfl,?y1⟩) hS0 ?_
 case y1=>(intro w hSw;obtain⟨q0,q1,q2,q3⟩:=hSw;go_simp;try with_reducible rfl)
 refine wpAnyH_take (i:=2) (v:=?v2) rfl (by kernel_rfl) (by kernel_rfl) (by kernel_rfl) (fun _ _ _ h=>h) (Or.inl ⟨by kernel_rfl,?y2⟩) hS0 ?_
 case y2=>(intro w hSw;obtain⟨q0,q1,q2,q3⟩:=hSw;go_simp;try with_reducible rfl)
 refine wpAnyH_take (i:=3) (v:=?v3) rfl (by kernel_rfl) (by kernel_rfl) (by kernel_rfl) (fun _ _ _ h=>h) (Or.inl ⟨by kernel_rfl,?y3⟩) hS0 ?_
 case y3=>(intro w hSw;obtain⟨q0,q1,q2,q3⟩:=hSw;go_simp;try with_reducible rfl)
 refine wpAnyH_take (i:=4) (v:=?v4) rfl (by kernel_rfl) (by kernel_rfl) (by kernel_rfl) (fun _ _ _ h=>h) (Or.inl ⟨by kernel_rfl,?y4⟩) hS0 ?_
 case y4=>(intro w hSw;obtain⟨q0,q1,q2,q3⟩:=hSw;go_simp;try with_reducible rfl)
 refine wpAnyH_take (i:=5) (v:=?v5) rfl (by kernel_rfl) (by kernel_rfl) (by kernel_rfl) (fun _ _ _ h=>h) (Or.inl ⟨by kernel_rfl,?y5⟩) hS0 ?_
 case y5=>(intro w hSw;obtain⟨q0,q1,q2,q3⟩:=hSw;go_simp;try with_reducible rfl)
 refine wpAnyH_take (i:=6) (v:=?v6) rfl (by kernel_rfl) (by kernel_rfl) (by kernel_rfl) (fun _ _ _ h=>h) (Or.inl ⟨by kernel_rfl,?y6⟩) hS0 ?_
 case y6=>(intro w hSw;obtain⟨q0,q1,q2,q3⟩:=hSw;go_simp;try with_reducible rfl)
 refine wpAnyH_take (i:=7) (v:=?v7) rfl (by kernel_rfl) (by kernel_rfl) (by kernel_rfl) (fun _ _ _ h=>h) (Or.inl ⟨by kernel_rfl,?y7⟩) hS0 ?_
 case y7=>(intro w hSw;obtain⟨q0,q1,q2,q3⟩:=hSw;go_simp;try with_reducible rfl)
 refine wpAnyH_take (i:=8) (v:=?v8) rfl (by kernel_rfl) (by kernel_rfl) (by kernel_rfl) (fun _ _ _ h=>h) (Or.inl ⟨by kernel_rfl,?y8⟩) hS0 ?_
 case y8=>(intro w hSw;obtain⟨q0,q1,q2,q3⟩:=hSw;go_simp;try with_reducible rfl)
 refine wpAnyH_ready (rs:=[9]) (by kernel_rfl) (by simp) ?_;refine AllReadyH.cons rfl (fun K hK=>?_) AllReadyH.nil;go_simp;refine hK.out _ _ (hS _ (hb1.alloc (by simp [hs0]) _)) (fun hS1=>?_);clear hK K;refine wpAnyH_ready (rs:=[10]) (by kernel_rfl) (by simp) ?_;refine AllReadyH.cons rfl (fun K hK=>?_) AllReadyH.nil;go_simp;have hb2:Below (w.heap.size+2) W1 (W1.alloc (.cells #[.int .i64 ak,.int .u64 au,.int .u64 at_,.int .i64 tr,.bool pd] 153)).drew:=((Below.refl _ _).alloc (by omega) _).drew;refine hK.out _ _ (hS _ hb2) (fun hS2=>?_);clear hK K;refine wpAnyH_ready (rs:=[11]) (by kernel_rfl) (by simp) ?_;refine AllReadyH.cons rfl (fun K hK=>?_) AllReadyH.nil;go_simp;refine hK.out _ _ hS2 (fun _=>?_);clear hK K hS0 hS1 hS2;refine wpAnyH_done (by kernel_rfl) ?_ _
 have bT:BoxN (W1.alloc (.cells #[.int .i64 ak,.int .u64 au,.int .u64 at_,.int .i64 tr,.bool pd] 153)).drew (w.heap.size+2) 153 #[.int .i64 ak,.int .u64 au,.int .u64 at_,.int .i64 tr,.bool pd]:=by
  have h:=BoxN.new W1 153 #[.int .i64 ak,.int .u64 au,.int .u64 at_,.int .i64 tr,.bool pd];rw [hs0] at h;exact h
 have bR2:=bR.below hb2 (by omega);have hBf:=hB0.trans (hb2.mono (by omega));clear hS hP hb1 hb2 hB0 bN bR;generalize (W1.alloc (.cells #[.int .i64 ak,.int .u64 au,.int .u64 at_,.int .i64 tr,.bool pd] 153)).drew=W2 at *;have y0:=bT.cell 0 (v:=.int .i64 ak) rfl;have y1:=bT.cell 1 (v:=.int .u64 au) rfl;have z0:=bR2.cell 0 (v:=.int .i64 0) rfl;have z1:=bR2.cell 1 (v:=.int .u64 0) rfl;have f0:=bR2.frozen 0;have f1:=bR2.frozen 1;have hfin:=(bR2.set 0 (.int .i64 ak)).set 1 (.int .u64 au);have r0:=hfin.cell 0 (v:=.int .i64 ak) (by simp);have r1:=hfin.cell 1 (v:=.int .u64 au) (by simp);go_wp2;exact bodyPost_ret (v:=.agg #[.int .i64 ak,.int .u64 au]) (by simp [results,results134,go_sem,r0,r1]) rfl ⟨rfl,(hBf.setCell (p:=⟨w.heap.size+1,0,none⟩) (by show w.heap.size≤w.heap.size+1;omega) _).setCell (p:=⟨w.heap.size+1,1,none⟩) (by show w.heap.size≤w.heap.size+1;omega) _⟩
theorem Tryz.fieldL (ak au at_ tr:Int) (pd:Bool) (pth:ByteArray) (la:Int) (w:World):Sem.run prog (Instr.field 131 (.agg #[.int .i64 ak,.int .u64 au,.int .u64 at_,.int .i64 tr,.bool pd,.string pth,.int .u64 la]) 0) w=.ok (.agg #[.int .i64 ak,.int .u64 au,.int .u64 at_,.int .i64 tr,.bool pd]) w:=by kernel_rfl
theorem Tryz.fieldE (ak au at_ tr:Int) (pd:Bool) (w:World):Sem.run prog (Instr.field 129 (.agg #[.int .i64 ak,.int .u64 au,.int .u64 at_,.int .i64 tr,.bool pd]) 0) w=.ok (.agg #[.int .i64 ak,.int .u64 au]) w:=by kernel_rfl
theorem Tryz.aboveOf_lea (vb mt ml:Nat) (x:Int × Int) (ak au at_ tr:Int) (pd:Bool) (pth:List UInt8) (la:Int) (w:World) (hP:∀ W,Below w.heap.size w W→W.cell? ⟨vb,3,none⟩=some (.map (some mt))∧(Instr.lookup 120 (.map (some mt)) (nmV x) true).run prog W=.ok (.tuple #[.agg #[.int .i64 0,.int .u64 0,.int .u64 0,.int .i64 0,.bool false],.bool false]) W)
  (hP2:∀ W,Below w.heap.size w W→W.cell? ⟨vb,4,none⟩=some (.map (some ml))∧(Instr.lookup 121 (.map (some ml)) (nmV x) false).run prog W=.ok (.agg #[.int .i64 ak,.int .u64 au,.int .u64 at_,.int .i64 tr,.bool pd,.string ⟨pth.toArray⟩,.int .u64 la]) W) :
  Calls prog 134 #[.pointer (some ⟨vb,0,none⟩),nmV x] w fun e w'=>e=.returned (nmV (ak,au))∧Below w.heap.size w w':=by
 have hB0:Below w.heap.size w ((w.alloc (.cells #[.int .i64 x.1,.int .u64 x.2] 114)).alloc (.cells #[.int .i64 0,.int .u64 0] 114)):=((Below.refl _ w).alloc (Nat.le_refl _) _).alloc (by simp) _;have bN:=(BoxN.new w 114 #[.int .i64 x.1,.int .u64 x.2]).alloc (.cells #[.int .i64 0,.int .u64 0] 114);have bR:=BoxN.new (w.alloc (.cells #[.int .i64 x.1,.int .u64 x.2] 114)) 114 #[.int .i64 0,.int .u64 0];rw [World.size_alloc] at bR
 have hs0:((w.alloc (.cells #[.int .i64 x.1,.int .u64 x.2] 114)).alloc (.cells #[.int .i64 0,.int .u64 0] 114)).heap.size=w.heap.size+2:=by simp
 unfold nmV at hP hP2 ⊢;go_enter func134,ntmps134
 go_wp2_with fail
 generalize (w.alloc (.cells #[.int .i64 x.1,.int .u64 x.2] 114)).alloc (.cells #[.int .i64 0,.int .u64 0] 114)=W1 at *
 have hS:∀ W,Below (w.heap.size+2) W1 W→LkP vb 3 mt w.heap.size 120 x.1 x.2 (.tuple #[.agg #[.int .i64 0,.int .u64 0,.int .u64 0,.int .i64 0,.bool false],.bool false]) W:=fun W hb=>by
  have bN':=bN.below hb (by omega);obtain⟨h1,h2⟩:=hP W (hB0.trans (hb.mono (by omega)));exact⟨h1,bN'.cell 0 rfl,bN'.cell 1 rfl,h2⟩
 have hb1:Below (w.heap.size+2) W1 W1.drew:=(Below.refl _ _).drew;refine wp_region_held_drew (S:=(LkP vb 3 mt w.heap.size 120 x.1 x.2 (.tuple #[.agg #[.int .i64 0,.int .u64 0,.int .u64 0,.int .i64 0,.bool false],.bool false]))) (by kernel_rfl) (hS _ hb1) (fun hS0=>?_);refine wpAnyH_take (i:=0) (v:=?v0) rfl (by kernel_rfl) (by kernel_rfl) (by kernel_rfl) (fun _ _ _ h=>h) (Or.inl ⟨by kernel_rfl,?y0⟩) hS0 ?_
 case y0=>(intro w hSw;obtain⟨q0,q1,q2,q3⟩:=hSw;go_simp;try with_reducible rfl)
 refine wpAnyH_take (i:=1) (v:=?v1) rfl (by kernel_rfl) (by kernel_rfl) (by kernel_rfl) (fun _ _ _ h=>h) (Or.inl ⟨by kernel_rfl,?y1⟩) hS0 ?_
 case y1=>(intro w hSw;obtain⟨q0,q1,q2,q3⟩:=hSw;go_simp;try with_reducible rfl)
 refine wpAnyH_take (i:=2) (v:=?v2) rfl (by kernel_rfl) (by kernel_rfl) (by kernel_rfl) (fun _ _ _ h=>h) (Or.inl ⟨by kernel_rfl,?y2⟩) hS0 ?_
 case y2=>(intro w hSw;obtain⟨q0,q1,q2,q3⟩:=hSw;go_simp;try with_reducible rfl)
 refine wpAnyH_take (i:=3) (v:=?v3) rfl (by kernel_rfl) (by kernel_rfl) (by kernel_rfl) (fun _ _ _ h=>h) (Or.inl ⟨by kernel_rfl,?y3⟩) hS0 ?_
 case y3=>(intro w hSw;obtain⟨q0,q1,q2,q3⟩:=hSw;go_simp;try with_reducible rfl)
 refine wpAnyH_take (i:=4) (v:=?v4) rfl (by kernel_rfl) (by kernel_rfl) (by kernel_rfl) (fun _ _ _ h=>h) (Or.inl ⟨by kernel_rfl,?y4⟩) hS0 ?_
 case y4=>(intro w hSw;obtain⟨q0,q1,q2,q3⟩:=hSw;go_simp;try with_reducible rfl)
 refine wpAnyH_take (i:=5) (v:=?v5) rfl (by kernel_rfl) (by kernel_rfl) (by kernel_rfl) (fun _ _ _ h=>h) (Or.inl ⟨by kernel_rfl,?y5⟩) hS0 ?_
 case y5=>(intro w hSw;obtain⟨q0,q1,q2,q3⟩:=hSw;go_simp;try with_reducible rfl)
 refine wpAnyH_take (i:=6) (v:=?v6) rfl (by kernel_rfl) (by kernel_rfl) (by kernel_rfl) (fun _ _ _ h=>h) (Or.inl ⟨by kernel_rfl,?y6⟩) hS0 ?_
 case y6=>(intro w hSw;obtain⟨q0,q1,q2,q3⟩:=hSw;go_simp;try with_reducible rfl)
 refine wpAnyH_take (i:=7) (v:=?v7) rfl (by kernel_rfl) (by kernel_rfl) (by kernel_rfl) (fun _ _ _ h=>h) (Or.inl ⟨by kernel_rfl,?y7⟩) hS0 ?_
 case y7=>(intro w hSw;obtain⟨q0,q1,q2,q3⟩:=hSw;go_simp;try with_reducible rfl)
 refine wpAnyH_take (i:=8) (v:=?v8) rfl (by kernel_rfl) (by kernel_rfl) (by kernel_rfl) (fun _ _ _ h=>h) (Or.inl ⟨by kernel_rfl,?y8⟩) hS0 ?_
 case y8=>(intro w hSw;obtain⟨q0,q1,q2,q3⟩:=hSw;go_simp;try with_reducible rfl)
 refine wpAnyH_ready (rs:=[9]) (by kernel_rfl) (by simp) ?_;refine AllReadyH.cons rfl (fun K hK=>?_) AllReadyH.nil;go_simp;refine hK.out _ _ (hS _ (hb1.alloc (by simp [hs0]) _)) (fun hS1=>?_);clear hK K;refine wpAnyH_ready (rs:=[10]) (by kernel_rfl) (by simp) ?_;refine AllReadyH.cons rfl (fun K hK=>?_) AllReadyH.nil;go_simp;have hb2:Below (w.heap.size+2) W1 (W1.alloc (.cells #[.int .i64 0,.int .u64 0,.int .u64 0,.int .i64 0,.bool false] 153)).drew:=((Below.refl _ _).alloc (by omega) _).drew;refine hK.out _ _ (hS _ hb2) (fun hS2=>?_);clear hK K;refine wpAnyH_ready (rs:=[11]) (by kernel_rfl) (by simp) ?_;refine AllReadyH.cons rfl (fun K hK=>?_) AllReadyH.nil;go_simp;refine hK.out _ _ hS2 (fun _=>?_);clear hK K hS0 hS1 hS2;refine wpAnyH_done (by kernel_rfl) ?_ _;have bR2:=bR.below hb2 (by omega);have bN2:=bN.below hb2 (by omega);have hBf:=hB0.trans (hb2.mono (by omega));obtain⟨hc4,hl4⟩:=hP2 _ hBf.drew;clear hS hP hP2 hb1 hb2 hB0 bN bR;generalize (W1.alloc (.cells #[.int .i64 0,.int .u64 0,.int .u64 0,.int .i64 0,.bool false] 153)).drew=W2 at *;have hc5:W2.cell? ⟨vb,4,none⟩=some (.map (some ml)):=hc4;have y0:=bN2.cell 0 (v:=.int .i64 x.1) rfl;have y1:=bN2.cell 1 (v:=.int .u64 x.2) rfl;have z0:=bR2.cell 0 (v:=.int .i64 0) rfl;have z1:=bR2.cell 1 (v:=.int .u64 0) rfl;have f0:=bR2.frozen 0;have f1:=bR2.frozen 1;have hfin:=(bR2.set 0 (.int .i64 ak)).set 1 (.int .u64 au);have r0:=hfin.cell 0 (v:=.int .i64 ak) (by simp);have r1:=hfin.cell 1 (v:=.int .u64 au) (by simp);have e1:=fieldL ak au at_ tr pd ⟨pth.toArray⟩ la;have e2:=fieldE ak au at_ tr pd
 go_wp2_with fail
 go_region
 go_wp2;exact bodyPost_ret (v:=.agg #[.int .i64 ak,.int .u64 au]) (by simp [results,results134,go_sem,r0,r1]) rfl ⟨rfl,((hBf.setCell (p:=⟨w.heap.size+1,0,none⟩) (by show w.heap.size≤w.heap.size+1;omega) _).setCell (p:=⟨w.heap.size+1,1,none⟩) (by show w.heap.size≤w.heap.size+1;omega) _).drew⟩
theorem Tryz.failed_tok (vb mt:Nat) (x:Int × Int) (tm ak au at_ tr:Int) (pd:Bool) (w:World) (hP:∀ W,Below w.heap.size w W→W.cell? ⟨vb,3,none⟩=some (.map (some mt))∧W.cell? ⟨vb,2,none⟩=some (.int .u64 tm)∧(Instr.lookup 120 (.map (some mt)) (nmV x) true).run prog W=.ok (.tuple #[.agg #[.int .i64 ak,.int .u64 au,.int .u64 at_,.int .i64 tr,.bool pd],.bool true]) W) (h0:0≤tr) (h1:tr<9223372036854775807) (t0:0≤tm) (t1:tm≤18446744073709551615) :
  Calls prog 135 #[.pointer (some ⟨vb,0,none⟩),nmV x] w fun e w'=>e=.returned (.agg (recCells 1 x.1 x.2 ak au true (plusI tm (waitN tr.toNat)) (tr+1) 0 []))∧Below w.heap.size w w':=by
 have hB0:Below w.heap.size w ((w.alloc (.cells #[.int .i64 x.1,.int .u64 x.2] 114)).alloc (.cells #[.int .i64 0,.int .i64 0,.int .u64 0,.int .i64 0,.int .u64 0,.bool false,.int .u64 0,.int .i64 0,.int .u64 0,.string ⟨#[]⟩] 135)):=((Below.refl _ w).alloc (Nat.le_refl _) _).alloc (by simp) _;have bN:=(BoxN.new w 114 #[.int .i64 x.1,.int .u64 x.2]).alloc (.cells #[.int .i64 0,.int .i64 0,.int .u64 0,.int .i64 0,.int .u64 0,.bool false,.int .u64 0,.int .i64 0,.int .u64 0,.string ⟨#[]⟩] 135);have bR:=BoxN.new (w.alloc (.cells #[.int .i64 x.1,.int .u64 x.2] 114)) 135 #[.int .i64 0,.int .i64 0,.int .u64 0,.int .i64 0,.int .u64 0,.bool false,.int .u64 0,.int .i64 0,.int .u64 0,.string ⟨#[]⟩];rw [World.size_alloc] at bR
 have hs0:((w.alloc (.cells #[.int .i64 x.1,.int .u64 x.2] 114)).alloc (.cells #[.int .i64 0,.int .i64 0,.int .u64 0,.int .i64 0,.int .u64 0,.bool false,.int .u64 0,.int .i64 0,.int .u64 0,.string ⟨#[]⟩] 135)).heap.size=w.heap.size+2:=by simp
 unfold nmV recCells at *
 obtain⟨at2,hat2⟩:∃ at2,plusI tm (waitN tr.toNat)=at2:=⟨_,rfl⟩
 rw [hat2];have HA:=hid_intro hat2;clear hat2;go_enter func135,ntmps135
 go_wp2_with fail
 generalize ((w.alloc (.cells #[.int .i64 x.1,.int .u64 x.2] 114)).alloc (.cells #[.int .i64 0,.int .i64 0,.int .u64 0,.int .i64 0,.int .u64 0,.bool false,.int .u64 0,.int .i64 0,.int .u64 0,.string ⟨#[]⟩] 135))=W1 at *
 have hS:∀ W,Below (w.heap.size+2) W1 W→LkP vb 3 mt w.heap.size 120 x.1 x.2 (.tuple #[.agg #[.int .i64 ak,.int .u64 au,.int .u64 at_,.int .i64 tr,.bool pd],.bool true]) W:=fun W hb=>by
  have bN':=bN.below hb (by omega);obtain⟨h1,h2,h3⟩:=hP W (hB0.trans (hb.mono (by omega)));exact⟨h1,bN'.cell 0 rfl,bN'.cell 1 rfl,h3⟩
 have hb1:Below (w.heap.size+2) W1 W1.drew:=(Below.refl _ _).drew;refine wp_region_held_drew (S:=(LkP vb 3 mt w.heap.size 120 x.1 x.2 (.tuple #[.agg #[.int .i64 ak,.int .u64 au,.int .u64 at_,.int .i64 tr,.bool pd],.bool true]))) (by kernel_rfl) (hS _ hb1) (fun hS0=>?_);refine wpAnyH_take (i:=0) (v:=?v0) rfl (by kernel_rfl) (by kernel_rfl) (by kernel_rfl) (fun _ _ _ h=>h) (Or.inl ⟨by kernel_rfl,?y0⟩) hS0 ?_
 case y0=>(intro w hSw;obtain⟨q0,q1,q2,q3⟩:=hSw;go_simp;try with_reducible rfl)
 refine wpAnyH_take (i:=1) (v:=?v1) rfl (by kernel_rfl) (by kernel_rfl) (by kernel_rfl) (fun _ _ _ h=>h) (Or.inl ⟨by kernel_rfl,?y1⟩) hS0 ?_
 case y1=>(intro w hSw;obtain⟨q0,q1,q2,q3⟩:=hSw;go_simp;try with_reducible rfl)
 refine wpAnyH_take (i:=2) (v:=?v2) rfl (by kernel_rfl) (by kernel_rfl) (by kernel_rfl) (fun _ _ _ h=>h) (Or.inl ⟨by kernel_rfl,?y2⟩) hS0 ?_
 case y2=>(intro w hSw;obtain⟨q0,q1,q2,q3⟩:=hSw;go_simp;try with_reducible rfl)
 refine wpAnyH_take (i:=3) (v:=?v3) rfl (by kernel_rfl) (by kernel_rfl) (by kernel_rfl) (fun _ _ _ h=>h) (Or.inl ⟨by kernel_rfl,?y3⟩) hS0 ?_
 case y3=>(intro w hSw;obtain⟨q0,q1,q2,q3⟩:=hSw;go_simp;try with_reducible rfl)
 refine wpAnyH_take (i:=4) (v:=?v4) rfl (by kernel_rfl) (by kernel_rfl) (by kernel_rfl) (fun _ _ _ h=>h) (Or.inl ⟨by kernel_rfl,?y4⟩) hS0 ?_
 case y4=>(intro w hSw;obtain⟨q0,q1,q2,q3⟩:=hSw;go_simp;try with_reducible rfl)
 refine wpAnyH_take (i:=5) (v:=?v5) rfl (by kernel_rfl) (by kernel_rfl) (by kernel_rfl) (fun _ _ _ h=>h) (Or.inl ⟨by kernel_rfl,?y5⟩) hS0 ?_
 case y5=>(intro w hSw;obtain⟨q0,q1,q2,q3⟩:=hSw;go_simp;try with_reducible rfl)
 refine wpAnyH_take (i:=6) (v:=?v6) rfl (by kernel_rfl) (by kernel_rfl) (by kernel_rfl) (fun _ _ _ h=>h) (Or.inl ⟨by kernel_rfl,?y6⟩) hS0 ?_
 case y6=>(intro w hSw;obtain⟨q0,q1,q2,q3⟩:=hSw;go_simp;try with_reducible rfl)
 refine wpAnyH_take (i:=7) (v:=?v7) rfl (by kernel_rfl) (by kernel_rfl) (by kernel_rfl) (fun _ _ _ h=>h) (Or.inl ⟨by kernel_rfl,?y7⟩) hS0 ?_
 case y7=>(intro w hSw;obtain⟨q0,q1,q2,q3⟩:=hSw;go_simp;try with_reducible rfl)
 refine wpAnyH_take (i:=8) (v:=?v8) rfl (by kernel_rfl) (by kernel_rfl) (by kernel_rfl) (fun _ _ _ h=>h) (Or.inl ⟨by kernel_rfl,?y8⟩) hS0 ?_
 case y8=>(intro w hSw;obtain⟨q0,q1,q2,q3⟩:=hSw;go_simp;try with_reducible rfl)
 refine wpAnyH_ready (rs:=[9]) (by kernel_rfl) (by simp) ?_;refine AllReadyH.cons rfl (fun K hK=>?_) AllReadyH.nil;go_simp;refine hK.out _ _ (hS _ (hb1.alloc (by simp [hs0]) _)) (fun hS1=>?_);clear hK K;refine wpAnyH_ready (rs:=[10]) (by kernel_rfl) (by simp) ?_;refine AllReadyH.cons rfl (fun K hK=>?_) AllReadyH.nil;go_simp;have hb2:Below (w.heap.size+2) W1 (W1.alloc (.cells #[.int .i64 ak,.int .u64 au,.int .u64 at_,.int .i64 tr,.bool pd] 153)).drew:=((Below.refl _ _).alloc (by omega) _).drew;refine hK.out _ _ (hS _ hb2) (fun hS2=>?_);clear hK K;refine wpAnyH_ready (rs:=[11]) (by kernel_rfl) (by simp) ?_;refine AllReadyH.cons rfl (fun K hK=>?_) AllReadyH.nil;go_simp;refine hK.out _ _ hS2 (fun _=>?_);clear hK K hS0 hS1 hS2;refine wpAnyH_done (by kernel_rfl) ?_ _
 have bT:BoxN (W1.alloc (.cells #[.int .i64 ak,.int .u64 au,.int .u64 at_,.int .i64 tr,.bool pd] 153)).drew (w.heap.size+2) 153 #[.int .i64 ak,.int .u64 au,.int .u64 at_,.int .i64 tr,.bool pd]:=by
  have h:=BoxN.new W1 153 #[.int .i64 ak,.int .u64 au,.int .u64 at_,.int .i64 tr,.bool pd];rw [hs0] at h;exact h
 have hsz2:(W1.alloc (.cells #[.int .i64 ak,.int .u64 au,.int .u64 at_,.int .i64 tr,.bool pd] 153)).drew.heap.size=w.heap.size+3:=by simp [hs0]
 have bR2:=bR.below hb2 (by omega);have bN2:=bN.below hb2 (by omega);have hBf:=hB0.trans (hb2.mono (by omega));obtain⟨-,ct,-⟩:=hP _ hBf;clear hS hP hb1 hb2 hB0 bN bR hs0;generalize (W1.alloc (.cells #[.int .i64 ak,.int .u64 au,.int .u64 at_,.int .i64 tr,.bool pd] 153)).drew=W2 at *;have hF:=eFail (w.heap.size+2) 153 ak au at_ tr tm pd [] W2 (by simpa using bT) h0 h1 t0 t1;rw [hid_elim HA] at hF;clear HA bT
 go_wp2_with (first
  | (go_at_call 168;refine hF.mono ?_;rintro e w3 ⟨rfl,bT3,hS3⟩;have hB3:Below w.heap.size w w3:=⟨hS3.os.trans hBf.os,hS3.tape.trans hBf.tape,hS3.output.trans hBf.output,Nat.le_trans hBf.size hS3.size,fun k hk=>(hS3.block k (Nat.lt_of_lt_of_le hk hBf.size) (by simp;omega)).trans (hBf.block k hk)⟩;have bR3:=hS3.box bR2 (by simp);have bN3:=hS3.box bN2 (by simp);have n0:=bN3.cell 0 (v:=.int .i64 x.1) rfl;have n1:=bN3.cell 1 (v:=.int .u64 x.2) rfl;have hE:=entRecord (w.heap.size+2) x.1 x.2 ak au at2 (tr+1) true w3 (bT3.cell 0 (by simp)) (bT3.cell 1 (by simp)) (bT3.cell 2 (by simp)) (bT3.cell 3 (by simp)) (bT3.cell 4 (by simp));unfold recCells at hE)
  | (go_at_call 84;refine hE.mono ?_;rintro e w4 ⟨rfl,hb4⟩;have hB4:=hB3.trans (hb4.mono hB3.size);have bR4:=bR3.below hb4 bR3.lt;have z0:=bR4.cell 0 (v:=.int .i64 0) rfl;have f0:=bR4.frozen 0;have z1:=bR4.cell 1 (v:=.int .i64 0) rfl;have f1:=bR4.frozen 1;have z2:=bR4.cell 2 (v:=.int .u64 0) rfl;have f2:=bR4.frozen 2;have z3:=bR4.cell 3 (v:=.int .i64 0) rfl;have f3:=bR4.frozen 3;have z4:=bR4.cell 4 (v:=.int .u64 0) rfl;have f4:=bR4.frozen 4;have z5:=bR4.cell 5 (v:=.bool false) rfl;have f5:=bR4.frozen 5;have z6:=bR4.cell 6 (v:=.int .u64 0) rfl;have f6:=bR4.frozen 6;have z7:=bR4.cell 7 (v:=.int .i64 0) rfl;have f7:=bR4.frozen 7;have z8:=bR4.cell 8 (v:=.int .u64 0) rfl;have f8:=bR4.frozen 8;have z9:=bR4.cell 9 (v:=.string ⟨#[]⟩) rfl;have f9:=bR4.frozen 9))
 have z0:=bR4.cell 0 (v:=.int .i64 0) rfl;have f0:=bR4.frozen 0;have z1:=bR4.cell 1 (v:=.int .i64 0) rfl;have f1:=bR4.frozen 1;have z2:=bR4.cell 2 (v:=.int .u64 0) rfl;have f2:=bR4.frozen 2;have z3:=bR4.cell 3 (v:=.int .i64 0) rfl;have f3:=bR4.frozen 3;have z4:=bR4.cell 4 (v:=.int .u64 0) rfl;have f4:=bR4.frozen 4;have z5:=bR4.cell 5 (v:=.bool false) rfl;have f5:=bR4.frozen 5;have z6:=bR4.cell 6 (v:=.int .u64 0) rfl;have f6:=bR4.frozen 6;have z7:=bR4.cell 7 (v:=.int .i64 0) rfl;have f7:=bR4.frozen 7;have z8:=bR4.cell 8 (v:=.int .u64 0) rfl;have f8:=bR4.frozen 8;have z9:=bR4.cell 9 (v:=.string ⟨#[]⟩) rfl;have f9:=bR4.frozen 9
 have hfin:=((((((((((bR4.set 0 (.int .i64 1)).set 1 (.int .i64 x.1)).set 2 (.int .u64 x.2)).set 3 (.int .i64 ak)).set 4 (.int .u64 au)).set 5 (.bool true)).set 6 (.int .u64 at2)).set 7 (.int .i64 (tr+1))).set 8 (.int .u64 0)).set 9 (.string ⟨#[]⟩))
 have r0:=hfin.cell 0 (v:=.int .i64 1) (by simp);have r1:=hfin.cell 1 (v:=.int .i64 x.1) (by simp);have r2:=hfin.cell 2 (v:=.int .u64 x.2) (by simp);have r3:=hfin.cell 3 (v:=.int .i64 ak) (by simp);have r4:=hfin.cell 4 (v:=.int .u64 au) (by simp);have r5:=hfin.cell 5 (v:=.bool true) (by simp);have r6:=hfin.cell 6 (v:=.int .u64 at2) (by simp);have r7:=hfin.cell 7 (v:=.int .i64 (tr+1)) (by simp);have r8:=hfin.cell 8 (v:=.int .u64 0) (by simp);have r9:=hfin.cell 9 (v:=.string ⟨#[]⟩) (by simp);have hBw:=hid_intro ((((((((((hB4.setCell (p:=⟨w.heap.size+1,0,none⟩) (by show w.heap.size≤w.heap.size+1;omega) (.int .i64 1)).setCell (p:=⟨w.heap.size+1,1,none⟩) (by show w.heap.size≤w.heap.size+1;omega) (.int .i64 x.1)).setCell (p:=⟨w.heap.size+1,2,none⟩) (by show w.heap.size≤w.heap.size+1;omega) (.int .u64 x.2)).setCell (p:=⟨w.heap.size+1,3,none⟩) (by show w.heap.size≤w.heap.size+1;omega) (.int .i64 ak)).setCell (p:=⟨w.heap.size+1,4,none⟩) (by show w.heap.size≤w.heap.size+1;omega) (.int .u64 au)).setCell (p:=⟨w.heap.size+1,5,none⟩) (by show w.heap.size≤w.heap.size+1;omega) (.bool true)).setCell (p:=⟨w.heap.size+1,6,none⟩) (by show w.heap.size≤w.heap.size+1;omega) (.int .u64 at2)).setCell (p:=⟨w.heap.size+1,7,none⟩) (by show w.heap.size≤w.heap.size+1;omega) (.int .i64 (tr+1))).setCell (p:=⟨w.heap.size+1,8,none⟩) (by show w.heap.size≤w.heap.size+1;omega) (.int .u64 0)).setCell (p:=⟨w.heap.size+1,9,none⟩) (by show w.heap.size≤w.heap.size+1;omega) (.string ⟨#[]⟩));clear hfin;exact bodyPost_ret (v:=.agg #[.int .i64 1,.int .i64 x.1,.int .u64 x.2,.int .i64 ak,.int .u64 au,.bool true,.int .u64 at2,.int .i64 (tr+1),.int .u64 0,.string ⟨#[]⟩]) (by simp [results,results135,go_sem,r0,r1,r2,r3,r4,r5,r6,r7,r8,r9]) rfl ⟨rfl,hid_elim hBw⟩
theorem Tryz.failed_lea (vb mt ml:Nat) (x:Int × Int) (tm ak au at_ tr:Int) (pd:Bool) (pth:List UInt8) (la:Int) (w:World) (hvb:vb<w.heap.size) (hP:∀ W,Below w.heap.size w W→W.cell? ⟨vb,3,none⟩=some (.map (some mt))∧W.cell? ⟨vb,2,none⟩=some (.int .u64 tm)∧(Instr.lookup 120 (.map (some mt)) (nmV x) true).run prog W=.ok (.tuple #[.agg #[.int .i64 0,.int .u64 0,.int .u64 0,.int .i64 0,.bool false],.bool false]) W)
  (hP2:∀ W,Below w.heap.size w W→W.cell? ⟨vb,4,none⟩=some (.map (some ml))∧(Instr.lookup 121 (.map (some ml)) (nmV x) false).run prog W=.ok (.agg #[.int .i64 ak,.int .u64 au,.int .u64 at_,.int .i64 tr,.bool pd,.string ⟨pth.toArray⟩,.int .u64 la]) W) (h0:0≤tr) (h1:tr<9223372036854775807) (t0:0≤tm) (t1:tm≤18446744073709551615) :
  Calls prog 135 #[.pointer (some ⟨vb,0,none⟩),nmV x] w fun e w'=>e=.returned (.agg (recCells 1 x.1 x.2 ak au true (plusI tm (waitN tr.toNat)) (tr+1) la pth))∧Below w.heap.size w w':=by
 have hB0:Below w.heap.size w ((w.alloc (.cells #[.int .i64 x.1,.int .u64 x.2] 114)).alloc (.cells #[.int .i64 0,.int .i64 0,.int .u64 0,.int .i64 0,.int .u64 0,.bool false,.int .u64 0,.int .i64 0,.int .u64 0,.string ⟨#[]⟩] 135)):=((Below.refl _ w).alloc (Nat.le_refl _) _).alloc (by simp) _;have bN:=(BoxN.new w 114 #[.int .i64 x.1,.int .u64 x.2]).alloc (.cells #[.int .i64 0,.int .i64 0,.int .u64 0,.int .i64 0,.int .u64 0,.bool false,.int .u64 0,.int .i64 0,.int .u64 0,.string ⟨#[]⟩] 135);have bR:=BoxN.new (w.alloc (.cells #[.int .i64 x.1,.int .u64 x.2] 114)) 135 #[.int .i64 0,.int .i64 0,.int .u64 0,.int .i64 0,.int .u64 0,.bool false,.int .u64 0,.int .i64 0,.int .u64 0,.string ⟨#[]⟩];rw [World.size_alloc] at bR
 have hs0:((w.alloc (.cells #[.int .i64 x.1,.int .u64 x.2] 114)).alloc (.cells #[.int .i64 0,.int .i64 0,.int .u64 0,.int .i64 0,.int .u64 0,.bool false,.int .u64 0,.int .i64 0,.int .u64 0,.string ⟨#[]⟩] 135)).heap.size=w.heap.size+2:=by simp
 unfold nmV recCells at *
 obtain⟨at2,hat2⟩:∃ at2,plusI tm (waitN tr.toNat)=at2:=⟨_,rfl⟩
 rw [hat2];have HA:=hid_intro hat2;clear hat2;go_enter func135,ntmps135
 go_wp2_with fail
 generalize ((w.alloc (.cells #[.int .i64 x.1,.int .u64 x.2] 114)).alloc (.cells #[.int .i64 0,.int .i64 0,.int .u64 0,.int .i64 0,.int .u64 0,.bool false,.int .u64 0,.int .i64 0,.int .u64 0,.string ⟨#[]⟩] 135))=W1 at *
 have hS:∀ W,Below (w.heap.size+2) W1 W→LkP vb 3 mt w.heap.size 120 x.1 x.2 (.tuple #[.agg #[.int .i64 0,.int .u64 0,.int .u64 0,.int .i64 0,.bool false],.bool false]) W:=fun W hb=>by
  have bN':=bN.below hb (by omega);obtain⟨h1,h2,h3⟩:=hP W (hB0.trans (hb.mono (by omega)));exact⟨h1,bN'.cell 0 rfl,bN'.cell 1 rfl,h3⟩
 have hb1:Below (w.heap.size+2) W1 W1.drew:=(Below.refl _ _).drew;refine wp_region_held_drew (S:=(LkP vb 3 mt w.heap.size 120 x.1 x.2 (.tuple #[.agg #[.int .i64 0,.int .u64 0,.int .u64 0,.int .i64 0,.bool false],.bool false]))) (by kernel_rfl) (hS _ hb1) (fun hS0=>?_);refine wpAnyH_take (i:=0) (v:=?v0) rfl (by kernel_rfl) (by kernel_rfl) (by kernel_rfl) (fun _ _ _ h=>h) (Or.inl ⟨by kernel_rfl,?y0⟩) hS0 ?_
 case y0=>(intro w hSw;obtain⟨q0,q1,q2,q3⟩:=hSw;go_simp;try with_reducible rfl)
 refine wpAnyH_take (i:=1) (v:=?v1) rfl (by kernel_rfl) (by kernel_rfl) (by kernel_rfl) (fun _ _ _ h=>h) (Or.inl ⟨by kernel_rfl,?y1⟩) hS0 ?_
 case y1=>(intro w hSw;obtain⟨q0,q1,q2,q3⟩:=hSw;go_simp;try with_reducible rfl)
 refine wpAnyH_take (i:=2) (v:=?v2) rfl (by kernel_rfl) (by kernel_rfl) (by kernel_rfl) (fun _ _ _ h=>h) (Or.inl ⟨by kernel_rfl,?y2⟩) hS0 ?_
 case y2=>(intro w hSw;obtain⟨q0,q1,q2,q3⟩:=hSw;go_simp;try with_reducible rfl)
 refine wpAnyH_take (i:=3) (v:=?v3) rfl (by kernel_rfl) (by kernel_rfl) (by kernel_rfl) (fun _ _ _ h=>h) (Or.inl ⟨by kernel_rfl,?y3⟩) hS0 ?_
 case y3=>(intro w hSw;obtain⟨q0,q1,q2,q3⟩:=hSw;go_simp;try with_reducible rfl)
 refine wpAnyH_take (i:=4) (v:=?v4) rfl (by kernel_rfl) (by kernel_rfl) (by kernel_rfl) (fun _ _ _ h=>h) (Or.inl ⟨by kernel_rfl,?y4⟩) hS0 ?_
 case y4=>(intro w hSw;obtain⟨q0,q1,q2,q3⟩:=hSw;go_simp;try with_reducible rfl)
 refine wpAnyH_take (i:=5) (v:=?v5) rfl (by kernel_rfl) (by kernel_rfl) (by kernel_rfl) (fun _ _ _ h=>h) (Or.inl ⟨by kernel_rfl,?y5⟩) hS0 ?_
 case y5=>(intro w hSw;obtain⟨q0,q1,q2,q3⟩:=hSw;go_simp;try with_reducible rfl)
 refine wpAnyH_take (i:=6) (v:=?v6) rfl (by kernel_rfl) (by kernel_rfl) (by kernel_rfl) (fun _ _ _ h=>h) (Or.inl ⟨by kernel_rfl,?y6⟩) hS0 ?_
 case y6=>(intro w hSw;obtain⟨q0,q1,q2,q3⟩:=hSw;go_simp;try with_reducible rfl)
 refine wpAnyH_take (i:=7) (v:=?v7) rfl (by kernel_rfl) (by kernel_rfl) (by kernel_rfl) (fun _ _ _ h=>h) (Or.inl ⟨by kernel_rfl,?y7⟩) hS0 ?_
 case y7=>(intro w hSw;obtain⟨q0,q1,q2,q3⟩:=hSw;go_simp;try with_reducible rfl)
 refine wpAnyH_take (i:=8) (v:=?v8) rfl (by kernel_rfl) (by kernel_rfl) (by kernel_rfl) (fun _ _ _ h=>h) (Or.inl ⟨by kernel_rfl,?y8⟩) hS0 ?_
 case y8=>(intro w hSw;obtain⟨q0,q1,q2,q3⟩:=hSw;go_simp;try with_reducible rfl)
 refine wpAnyH_ready (rs:=[9]) (by kernel_rfl) (by simp) ?_;refine AllReadyH.cons rfl (fun K hK=>?_) AllReadyH.nil;go_simp;refine hK.out _ _ (hS _ (hb1.alloc (by simp [hs0]) _)) (fun hS1=>?_);clear hK K;refine wpAnyH_ready (rs:=[10]) (by kernel_rfl) (by simp) ?_;refine AllReadyH.cons rfl (fun K hK=>?_) AllReadyH.nil;go_simp;have hb2:Below (w.heap.size+2) W1 (W1.alloc (.cells #[.int .i64 0,.int .u64 0,.int .u64 0,.int .i64 0,.bool false] 153)).drew:=((Below.refl _ _).alloc (by omega) _).drew;refine hK.out _ _ (hS _ hb2) (fun hS2=>?_);clear hK K;refine wpAnyH_ready (rs:=[11]) (by kernel_rfl) (by simp) ?_;refine AllReadyH.cons rfl (fun K hK=>?_) AllReadyH.nil;go_simp;refine hK.out _ _ hS2 (fun _=>?_);clear hK K hS0 hS1 hS2;refine wpAnyH_done (by kernel_rfl) ?_ _
 have bT:BoxN (W1.alloc (.cells #[.int .i64 0,.int .u64 0,.int .u64 0,.int .i64 0,.bool false] 153)).drew (w.heap.size+2) 153 #[.int .i64 0,.int .u64 0,.int .u64 0,.int .i64 0,.bool false]:=by
  have h:=BoxN.new W1 153 #[.int .i64 0,.int .u64 0,.int .u64 0,.int .i64 0,.bool false];rw [hs0] at h;exact h
 have hsz2:(W1.alloc (.cells #[.int .i64 0,.int .u64 0,.int .u64 0,.int .i64 0,.bool false] 153)).drew.heap.size=w.heap.size+3:=by simp [hs0]
 have bR2:=bR.below hb2 (by omega);have bN2:=bN.below hb2 (by omega);have hBf:=hB0.trans (hb2.mono (by omega));clear bT;obtain⟨-,ct,-⟩:=hP _ hBf;clear hS hP hb1 hb2 hB0 bN bR hs0;generalize (W1.alloc (.cells #[.int .i64 0,.int .u64 0,.int .u64 0,.int .i64 0,.bool false] 153)).drew=W2 at *
 go_wp2_with fail
 clear W1;generalize W2=W1 at *;have hs0:=hsz2
 have hS:∀ W,Below (w.heap.size+3) W1 W→LkP1 vb 4 ml w.heap.size 121 x.1 x.2 (.agg #[.int .i64 ak,.int .u64 au,.int .u64 at_,.int .i64 tr,.bool pd,.string ⟨pth.toArray⟩,.int .u64 la]) W:=fun W hb=>by
  have bN':=bN2.below hb (by omega);obtain⟨h1,h2⟩:=hP2 W (hBf.trans (hb.mono (by omega)));exact⟨h1,bN'.cell 0 rfl,bN'.cell 1 rfl,h2⟩
 have hb1:Below (w.heap.size+3) W1 W1.drew:=(Below.refl _ _).drew;refine wp_region_held_drew (S:=(LkP1 vb 4 ml w.heap.size 121 x.1 x.2 (.agg #[.int .i64 ak,.int .u64 au,.int .u64 at_,.int .i64 tr,.bool pd,.string ⟨pth.toArray⟩,.int .u64 la]))) (by kernel_rfl) (hS _ hb1) (fun hS0=>?_);refine wpAnyH_take (i:=0) (v:=?vk0) rfl (by kernel_rfl) (by kernel_rfl) (by kernel_rfl) (fun _ _ _ h=>h) (Or.inl ⟨by kernel_rfl,?yk0⟩) hS0 ?_
 case yk0=>(intro w hSw;obtain⟨q0,q1,q2,q3⟩:=hSw;go_simp;try with_reducible rfl)
 refine wpAnyH_take (i:=1) (v:=?vk1) rfl (by kernel_rfl) (by kernel_rfl) (by kernel_rfl) (fun _ _ _ h=>h) (Or.inl ⟨by kernel_rfl,?yk1⟩) hS0 ?_
 case yk1=>(intro w hSw;obtain⟨q0,q1,q2,q3⟩:=hSw;go_simp;try with_reducible rfl)
 refine wpAnyH_take (i:=2) (v:=?vk2) rfl (by kernel_rfl) (by kernel_rfl) (by kernel_rfl) (fun _ _ _ h=>h) (Or.inl ⟨by kernel_rfl,?yk2⟩) hS0 ?_
 case yk2=>(intro w hSw;obtain⟨q0,q1,q2,q3⟩:=hSw;go_simp;try with_reducible rfl)
 refine wpAnyH_take (i:=3) (v:=?vk3) rfl (by kernel_rfl) (by kernel_rfl) (by kernel_rfl) (fun _ _ _ h=>h) (Or.inl ⟨by kernel_rfl,?yk3⟩) hS0 ?_
 case yk3=>(intro w hSw;obtain⟨q0,q1,q2,q3⟩:=hSw;go_simp;try with_reducible rfl)
 refine wpAnyH_take (i:=4) (v:=?vk4) rfl (by kernel_rfl) (by kernel_rfl) (by kernel_rfl) (fun _ _ _ h=>h) (Or.inl ⟨by kernel_rfl,?yk4⟩) hS0 ?_
 case yk4=>(intro w hSw;obtain⟨q0,q1,q2,q3⟩:=hSw;go_simp;try with_reducible rfl)
 refine wpAnyH_take (i:=5) (v:=?vk5) rfl (by kernel_rfl) (by kernel_rfl) (by kernel_rfl) (fun _ _ _ h=>h) (Or.inl ⟨by kernel_rfl,?yk5⟩) hS0 ?_
 case yk5=>(intro w hSw;obtain⟨q0,q1,q2,q3⟩:=hSw;go_simp;try with_reducible rfl)
 refine wpAnyH_ready (rs:=[6]) (by kernel_rfl) (by simp) ?_;refine AllReadyH.cons rfl (fun K hK=>?_) AllReadyH.nil;go_simp;refine hK.out _ _ (hS _ (hb1.alloc (by simp [hs0]) _)) (fun hS1=>?_);clear hK K;refine wpAnyH_ready (rs:=[7]) (by kernel_rfl) (by simp) ?_;refine AllReadyH.cons rfl (fun K hK=>?_) AllReadyH.nil;go_simp;have hb2:Below (w.heap.size+3) W1 (W1.alloc (.cells #[.int .i64 ak,.int .u64 au,.int .u64 at_,.int .i64 tr,.bool pd,.string ⟨pth.toArray⟩,.int .u64 la] 131)).drew:=((Below.refl _ _).alloc (by omega) _).drew;refine hK.out _ _ (hS _ hb2) (fun hS2=>?_);clear hK K hS0 hS1 hS2;refine wpAnyH_done (by kernel_rfl) ?_ _
 have bL8:BoxN (W1.alloc (.cells #[.int .i64 ak,.int .u64 au,.int .u64 at_,.int .i64 tr,.bool pd,.string ⟨pth.toArray⟩,.int .u64 la] 131)).drew (w.heap.size+3) 131 #[.int .i64 ak,.int .u64 au,.int .u64 at_,.int .i64 tr,.bool pd,.string ⟨pth.toArray⟩,.int .u64 la]:=by
  have h:=BoxN.new W1 131 #[.int .i64 ak,.int .u64 au,.int .u64 at_,.int .i64 tr,.bool pd,.string ⟨pth.toArray⟩,.int .u64 la];rw [hs0] at h;exact h
 have bR8:=bR2.below hb2 (by omega);have bN8:=bN2.below hb2 (by omega);have hB7':=hBf.trans (hb2.mono (by omega));have ct8:(W1.alloc (.cells #[.int .i64 ak,.int .u64 au,.int .u64 at_,.int .i64 tr,.bool pd,.string ⟨pth.toArray⟩,.int .u64 la] 131)).drew.cell? ⟨vb,2,none⟩=some (.int .u64 tm):=(cell_of_block (hb2.block vb (by omega)) _).1.trans ct;clear hS hP2 hb1 hb2 hBf ct bN2 bR2 hs0 hsz2;generalize (W1.alloc (.cells #[.int .i64 ak,.int .u64 au,.int .u64 at_,.int .i64 tr,.bool pd,.string ⟨pth.toArray⟩,.int .u64 la] 131)).drew=W8 at *;have hF:=eFail (w.heap.size+3) 131 ak au at_ tr tm pd [.string ⟨pth.toArray⟩,.int .u64 la] W8 (by simpa using bL8) h0 h1 t0 t1;rw [hid_elim HA] at hF;clear HA bL8
 go_wp2_with (first
  | (go_at_call 168;refine hF.mono ?_;rintro e w3 ⟨rfl,bT3,hS3⟩;have hB3:Below w.heap.size w w3:=⟨hS3.os.trans hB7'.os,hS3.tape.trans hB7'.tape,hS3.output.trans hB7'.output,Nat.le_trans hB7'.size hS3.size,fun k hk=>(hS3.block k (Nat.lt_of_lt_of_le hk hB7'.size) (by simp;omega)).trans (hB7'.block k hk)⟩;have bR3:=hS3.box bR8 (by simp);have bN3:=hS3.box bN8 (by simp);have n0:=bN3.cell 0 (v:=.int .i64 x.1) rfl;have n1:=bN3.cell 1 (v:=.int .u64 x.2) rfl;have hE:=leaRecord (w.heap.size+3) x.1 x.2 ak au at2 (tr+1) true pth la w3 (bT3.cell 0 (by simp)) (bT3.cell 1 (by simp)) (bT3.cell 2 (by simp)) (bT3.cell 3 (by simp)) (bT3.cell 4 (by simp)) (bT3.cell 5 (by simp)) (bT3.cell 6 (by simp));unfold recCells at hE)
  | (go_at_call 67;refine hE.mono ?_;rintro e w4 ⟨rfl,hb4⟩;have hB4:=hB3.trans (hb4.mono hB3.size);have bR4:=bR3.below hb4 bR3.lt;have z0:=bR4.cell 0 (v:=.int .i64 0) rfl;have f0:=bR4.frozen 0;have z1:=bR4.cell 1 (v:=.int .i64 0) rfl;have f1:=bR4.frozen 1;have z2:=bR4.cell 2 (v:=.int .u64 0) rfl;have f2:=bR4.frozen 2;have z3:=bR4.cell 3 (v:=.int .i64 0) rfl;have f3:=bR4.frozen 3;have z4:=bR4.cell 4 (v:=.int .u64 0) rfl;have f4:=bR4.frozen 4;have z5:=bR4.cell 5 (v:=.bool false) rfl;have f5:=bR4.frozen 5;have z6:=bR4.cell 6 (v:=.int .u64 0) rfl;have f6:=bR4.frozen 6;have z7:=bR4.cell 7 (v:=.int .i64 0) rfl;have f7:=bR4.frozen 7;have z8:=bR4.cell 8 (v:=.int .u64 0) rfl;have f8:=bR4.frozen 8;have z9:=bR4.cell 9 (v:=.string ⟨#[]⟩) rfl;have f9:=bR4.frozen 9))
 have z0:=bR4.cell 0 (v:=.int .i64 0) rfl;have f0:=bR4.frozen 0;have z1:=bR4.cell 1 (v:=.int .i64 0) rfl;have f1:=bR4.frozen 1;have z2:=bR4.cell 2 (v:=.int .u64 0) rfl;have f2:=bR4.frozen 2;have z3:=bR4.cell 3 (v:=.int .i64 0) rfl;have f3:=bR4.frozen 3;have z4:=bR4.cell 4 (v:=.int .u64 0) rfl;have f4:=bR4.frozen 4;have z5:=bR4.cell 5 (v:=.bool false) rfl;have f5:=bR4.frozen 5;have z6:=bR4.cell 6 (v:=.int .u64 0) rfl;have f6:=bR4.frozen 6;have z7:=bR4.cell 7 (v:=.int .i64 0) rfl;have f7:=bR4.frozen 7;have z8:=bR4.cell 8 (v:=.int .u64 0) rfl;have f8:=bR4.frozen 8;have z9:=bR4.cell 9 (v:=.string ⟨#[]⟩) rfl;have f9:=bR4.frozen 9
 have hfin:=((((((((((bR4.set 0 (.int .i64 1)).set 1 (.int .i64 x.1)).set 2 (.int .u64 x.2)).set 3 (.int .i64 ak)).set 4 (.int .u64 au)).set 5 (.bool true)).set 6 (.int .u64 at2)).set 7 (.int .i64 (tr+1))).set 8 (.int .u64 la)).set 9 (.string ⟨pth.toArray⟩))
 have r0:=hfin.cell 0 (v:=.int .i64 1) (by simp);have r1:=hfin.cell 1 (v:=.int .i64 x.1) (by simp);have r2:=hfin.cell 2 (v:=.int .u64 x.2) (by simp);have r3:=hfin.cell 3 (v:=.int .i64 ak) (by simp);have r4:=hfin.cell 4 (v:=.int .u64 au) (by simp);have r5:=hfin.cell 5 (v:=.bool true) (by simp);have r6:=hfin.cell 6 (v:=.int .u64 at2) (by simp);have r7:=hfin.cell 7 (v:=.int .i64 (tr+1)) (by simp);have r8:=hfin.cell 8 (v:=.int .u64 la) (by simp);have r9:=hfin.cell 9 (v:=.string ⟨pth.toArray⟩) (by simp);have hBw:=hid_intro ((((((((((hB4.setCell (p:=⟨w.heap.size+1,0,none⟩) (by show w.heap.size≤w.heap.size+1;omega) (.int .i64 1)).setCell (p:=⟨w.heap.size+1,1,none⟩) (by show w.heap.size≤w.heap.size+1;omega) (.int .i64 x.1)).setCell (p:=⟨w.heap.size+1,2,none⟩) (by show w.heap.size≤w.heap.size+1;omega) (.int .u64 x.2)).setCell (p:=⟨w.heap.size+1,3,none⟩) (by show w.heap.size≤w.heap.size+1;omega) (.int .i64 ak)).setCell (p:=⟨w.heap.size+1,4,none⟩) (by show w.heap.size≤w.heap.size+1;omega) (.int .u64 au)).setCell (p:=⟨w.heap.size+1,5,none⟩) (by show w.heap.size≤w.heap.size+1;omega) (.bool true)).setCell (p:=⟨w.heap.size+1,6,none⟩) (by show w.heap.size≤w.heap.size+1;omega) (.int .u64 at2)).setCell (p:=⟨w.heap.size+1,7,none⟩) (by show w.heap.size≤w.heap.size+1;omega) (.int .i64 (tr+1))).setCell (p:=⟨w.heap.size+1,8,none⟩) (by show w.heap.size≤w.heap.size+1;omega) (.int .u64 la)).setCell (p:=⟨w.heap.size+1,9,none⟩) (by show w.heap.size≤w.heap.size+1;omega) (.string ⟨pth.toArray⟩));clear hfin;exact bodyPost_ret (v:=.agg #[.int .i64 1,.int .i64 x.1,.int .u64 x.2,.int .i64 ak,.int .u64 au,.bool true,.int .u64 at2,.int .i64 (tr+1),.int .u64 la,.string ⟨pth.toArray⟩]) (by simp [results,results135,go_sem,r0,r1,r2,r3,r4,r5,r6,r7,r8,r9]) rfl ⟨rfl,hid_elim hBw⟩
end Go.Proofs
