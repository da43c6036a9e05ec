import Derived.Test.YtjbekgjdempbiaaGreatDoorJStr
import Derived.Test.YtjbekgjdempbiaaGreatDoorJMapOps
import Derived.Deep.RegionHeld3
import Derived.Deep.DeepCutAuto
import Derived.BigQuiet
set_option maxRecDepth 100000
set_option maxHeartbeats 8000000
namespace Go.Proofs
open Go.RowKit Go.Sort Go.Lib Go.Shelf
theorem Tryz.Vr (b:Nat) (pd:Bool) (w:World) (h4:w.cell? ⟨b,4,none⟩=some (.bool pd)):Calls prog 89 #[.pointer (some ⟨b,0,none⟩)] w fun e w'=>e=.returned (.bool !pd)/\w'=w:=by
 go_enter func89,ntmps89;go_wp2;go_ret;exact⟨rfl,rfl⟩
theorem Tryz.Jy (b:Nat) (pd:Bool) (at_ tm:Int) (w:World) (h4:w.cell? ⟨b,4,none⟩=some (.bool pd)) (h2:w.cell? ⟨b,2,none⟩=some (.int .u64 at_)) :
  Calls prog 91 #[.pointer (some ⟨b,0,none⟩),.int .u64 tm] w fun e w'=>e=.returned (.bool (!pd&&decide (tm<at_)))/\w'=w:=by
 have hl:=fun W h=>Vr b pd W h
 cases pd with
 | true =>
  go_enter func91,ntmps91
  go_wp2_with (go_at_call 89;refine(hl _ h4).mono ?_;rintro e w' ⟨rfl,rfl⟩)
  go_ret;exact⟨rfl,rfl⟩
 | false =>
  go_enter func91,ntmps91
  go_wp2_with (go_at_call 89;refine(hl _ h4).mono ?_;rintro e w' ⟨rfl,rfl⟩)
  go_ret;exact⟨by simp,rfl⟩
def Yb (id:List UInt8) (st:Int) (at_:Int) (tr:Int) (tok pth:List UInt8):Array Value:=#[.string ⟨id.toArray⟩,.int .i64 st,.int .u64 at_,.int .i64 tr,.string ⟨tok.toArray⟩,.string ⟨pth.toArray⟩]
abbrev U7 (W:World) (rb:Nat):Prop:=
 (W.cell? ⟨rb,0,none⟩=some (X5 W ⟨rb,0,none⟩)/\W.cell? ⟨rb,1,none⟩=some (X5 W ⟨rb,1,none⟩)/\W.cell? ⟨rb,2,none⟩=some (X5 W ⟨rb,2,none⟩)/\W.cell? ⟨rb,3,none⟩=some (X5 W ⟨rb,3,none⟩)/\W.cell? ⟨rb,4,none⟩=some (X5 W ⟨rb,4,none⟩)/\W.cell? ⟨rb,5,none⟩=some (X5 W ⟨rb,5,none⟩)) /\
 (W.frozen? ⟨rb,0,none⟩=false/\W.frozen? ⟨rb,1,none⟩=false/\W.frozen? ⟨rb,2,none⟩=false/\W.frozen? ⟨rb,3,none⟩=false/\W.frozen? ⟨rb,4,none⟩=false/\W.frozen? ⟨rb,5,none⟩=false)
theorem U7.below {W W':World} {rb:Nat} (h:U7 W rb) (hb:Below W.heap.size W W'):U7 W' rb:=by
 have hlt:rb<W.heap.size:=World.block_lt_of_cell? _ _ h.1.1
 have c:∀ i,W'.cell? ⟨rb,i,none⟩=W.cell? ⟨rb,i,none⟩:=fun i=>hb.cell (p:=⟨rb,i,none⟩) hlt
 have f:∀ i,W'.frozen? ⟨rb,i,none⟩=W.frozen? ⟨rb,i,none⟩:=fun i=>hb.frozen (p:=⟨rb,i,none⟩) hlt
 have e:∀ i,X5 W' ⟨rb,i,none⟩=X5 W ⟨rb,i,none⟩:=fun i=>by unfold X5;rw [c i]
 simp only [U7,c,f,e];exact h
theorem U7.mk {W:World} {rb:Nat} (h:∀ i,i<6->(W.cell? ⟨rb,i,none⟩).isSome) (f:∀ i,i<6->W.frozen? ⟨rb,i,none⟩=false):U7 W rb:=
 ⟨⟨Xg (h 0 (by omega)),Xg (h 1 (by omega)),Xg (h 2 (by omega)),Xg (h 3 (by omega)),Xg (h 4 (by omega)),Xg (h 5 (by omega))⟩,f 0 (by omega),f 1 (by omega),f 2 (by omega),f 3 (by omega),f 4 (by omega),f 5 (by omega)⟩
theorem U7.some {W:World} {rb:Nat} (h:U7 W rb):(∀ i,i<6->(W.cell? ⟨rb,i,none⟩).isSome)/\(∀ i,i<6->W.frozen? ⟨rb,i,none⟩=false):=by
 obtain⟨⟨c0,c1,c2,c3,c4,c5⟩,f0,f1,f2,f3,f4,f5⟩:=h;refine⟨fun i hi=>?_,fun i hi=>?_⟩
 ·match i,hi with
  | 0,_=>rw [c0];rfl
  | 1,_=>rw [c1];rfl
  | 2,_=>rw [c2];rfl
  | 3,_=>rw [c3];rfl
  | 4,_=>rw [c4];rfl
  | 5,_=>rw [c5];rfl
 match i,hi with
 | 0,_=>exact f0
 | 1,_=>exact f1
 | 2,_=>exact f2
 | 3,_=>exact f3
 | 4,_=>exact f4
 | 5,_=>exact f5
theorem U7.set {W:World} {rb:Nat} (h:U7 W rb) (a:Addr) (v:Value):U7 (W.setCell a v) rb:=by
 obtain⟨hs,hf⟩:=h.some;refine U7.mk (fun i hi=>?_) (fun i hi=>by rw [World.frozen?_setCell];exact hf i hi);obtain⟨x,hx⟩:=Option.isSome_iff_exists.1 (hs i hi);obtain⟨y,hy⟩:=cell?_setCell_some (w:=W) (p:=a) (x:=v) hx;rw [hy];rfl
theorem U7.new (W:World) (t:TypeId) (c0 c1 c2 c3 c4 c5:Value):U7 (W.alloc (.cells #[c0,c1,c2,c3,c4,c5] t)) W.heap.size:=by
 have hb:=BoxN.new W t #[c0,c1,c2,c3,c4,c5];refine U7.mk (fun i hi=>?_) (fun i _=>hb.frozen i);rw [hb.cell i (v:=#[c0,c1,c2,c3,c4,c5][i]) (by simp [hi])];rfl
abbrev Tryz.Zy (w0:World) (nb b rb:Nat) (k:Int) (u:Nat) (ak:Int) (au:Nat) (at_ tr:Int) (W:World):Prop:=
 (W.cell? ⟨nb,0,none⟩=some (.int .i64 k)/\W.cell? ⟨nb,1,none⟩=some (.int .u64 u)/\W.cell? ⟨b,0,none⟩=some (.int .i64 ak)/\W.cell? ⟨b,1,none⟩=some (.int .u64 au)/\W.cell? ⟨b,2,none⟩=some (.int .u64 at_)/\W.cell? ⟨b,3,none⟩=some (.int .i64 tr)) /\
 U7 W rb/\Env W/\6<=W.heap.size/\Below w0.heap.size w0 W
theorem Tryz.Zy.below {w0 W W':World} {nb b rb:Nat} {k:Int} {u:Nat} {ak:Int} {au:Nat} {at_ tr:Int} (h:Zy w0 nb b rb k u ak au at_ tr W) (hb:Below W.heap.size W W'):Zy w0 nb b rb k u ak au at_ tr W':=by
 obtain⟨⟨c0,c1,c2,c3,c4,c5⟩,hr,hE,h6,hB⟩:=h;exact⟨⟨cell_later hb c0,cell_later hb c1,cell_later hb c2,cell_later hb c3,cell_later hb c4,cell_later hb c5⟩,hr.below hb,hE.below hb h6,Nat.le_trans h6 hb.size,hB.trans (hb.mono hB.size)⟩
abbrev Tryz.Zc (w0:World) (nb b rb:Nat) (k:Int) (u:Nat) (ak:Int) (au:Nat) (at_ tr:Int) (pd:Bool) (W:World):Prop:=
 Zy w0 nb b rb k u ak au at_ tr W/\W.cell? ⟨b,4,none⟩=some (.bool pd)
theorem Tryz.Zc.below {w0 W W':World} {nb b rb:Nat} {k:Int} {u:Nat} {ak:Int} {au:Nat} {at_ tr:Int} {pd:Bool} (h:Zc w0 nb b rb k u ak au at_ tr pd W) (hb:Below W.heap.size W W'):Zc w0 nb b rb k u ak au at_ tr pd W':=⟨h.1.below hb,cell_later hb h.2⟩
theorem Tryz.Zy.drew {w0 W:World} {nb b rb:Nat} {k:Int} {u:Nat} {ak:Int} {au:Nat} {at_ tr:Int} (h:Zy w0 nb b rb k u ak au at_ tr W):Zy w0 nb b rb k u ak au at_ tr W.drew:=h.below (Xp.below (Xp.refl W).drew)
theorem Tryz.Zy.set {w0 W:World} {nb b rb:Nat} {k:Int} {u:Nat} {ak:Int} {au:Nat} {at_ tr:Int} (h:Zy w0 nb b rb k u ak au at_ tr W) (hn:nb≠rb) (hb:b≠rb) (hr:w0.heap.size<=rb) (hr6:6<=w0.heap.size) (i:Nat) (v:Value):Zy w0 nb b rb k u ak au at_ tr (W.setCell ⟨rb,i,none⟩ v):=by
 obtain⟨⟨c0,c1,c2,c3,c4,c5⟩,hrow,hE,h6,hB⟩:=h
 have o:∀(q j:Nat),q≠rb->(W.setCell ⟨rb,i,none⟩ v).cell? ⟨q,j,none⟩=W.cell? ⟨q,j,none⟩:=fun q j hq=>World.cell?_setCell_other _ _ _ _ (by simp)
 have hB':=hB.setCell (p:=⟨rb,i,none⟩) hr v;refine⟨⟨(o _ _ hn).trans c0,(o _ _ hn).trans c1,(o _ _ hb).trans c2,(o _ _ hb).trans c3,(o _ _ hb).trans c4,(o _ _ hb).trans c5⟩,hrow.set _ _,?_,?_,hB'⟩
 ·exact hE.below ((Below.refl w0.heap.size W).setCell (p:=⟨rb,i,none⟩) hr v) hr6
 have:=hB'.size;omega
theorem Tryz.Zc.set {w0 W:World} {nb b rb:Nat} {k:Int} {u:Nat} {ak:Int} {au:Nat} {at_ tr:Int} {pd:Bool} (h:Zc w0 nb b rb k u ak au at_ tr pd W) (hn:nb≠rb) (hb:b≠rb) (hr:w0.heap.size<=rb) (hr6:6<=w0.heap.size) (i:Nat) (v:Value):Zc w0 nb b rb k u ak au at_ tr pd (W.setCell ⟨rb,i,none⟩ v):=
 ⟨h.1.set hn hb hr hr6 i v,(World.cell?_setCell_other _ _ _ _ (by simp)).trans h.2⟩
theorem Tryz.Zy.start {w:World} {b:Nat} {k:Int} {u:Nat} {ak:Int} {au:Nat} {at_ tr:Int} (hE:Env w) (h6:6<=w.heap.size)
  (h0:w.cell? ⟨b,0,none⟩=some (.int .i64 ak)) (h1:w.cell? ⟨b,1,none⟩=some (.int .u64 au)) (h2:w.cell? ⟨b,2,none⟩=some (.int .u64 at_)) (h3:w.cell? ⟨b,3,none⟩=some (.int .i64 tr)) (c0 c1 c2 c3 c4 c5:Value) :
  Zy w w.heap.size b (w.heap.size+1) k u ak au at_ tr ((w.alloc (.cells #[.int .i64 k,.int .u64 u] 114)).alloc (.cells #[c0,c1,c2,c3,c4,c5] 49)):=by
 have hb1:Below w.heap.size w (w.alloc (.cells #[.int .i64 k,.int .u64 u] 114)):=(Below.refl _ w).alloc (Nat.le_refl _) _;have hb2:Below w.heap.size w ((w.alloc (.cells #[.int .i64 k,.int .u64 u] 114)).alloc (.cells #[c0,c1,c2,c3,c4,c5] 49)):=hb1.alloc (by simp) _;have bn:=(BoxN.new w 114 #[.int .i64 k,.int .u64 u]).alloc (.cells #[c0,c1,c2,c3,c4,c5] 49);have hr:=U7.new (w.alloc (.cells #[.int .i64 k,.int .u64 u] 114)) 49 c0 c1 c2 c3 c4 c5;rw [World.size_alloc] at hr;exact⟨⟨bn.cell 0 rfl,bn.cell 1 rfl,cell_later hb2 h0,cell_later hb2 h1,cell_later hb2 h2,cell_later hb2 h3⟩,hr,hE.below hb2 h6,by simp;omega,hb2⟩
theorem Tryz.Zc.start {w:World} {b:Nat} {k:Int} {u:Nat} {ak:Int} {au:Nat} {at_ tr:Int} {pd:Bool} (hE:Env w) (h6:6<=w.heap.size)
  (h0:w.cell? ⟨b,0,none⟩=some (.int .i64 ak)) (h1:w.cell? ⟨b,1,none⟩=some (.int .u64 au)) (h2:w.cell? ⟨b,2,none⟩=some (.int .u64 at_)) (h3:w.cell? ⟨b,3,none⟩=some (.int .i64 tr)) (h4:w.cell? ⟨b,4,none⟩=some (.bool pd)) (c0 c1 c2 c3 c4 c5:Value) :
  Zc w w.heap.size b (w.heap.size+1) k u ak au at_ tr pd ((w.alloc (.cells #[.int .i64 k,.int .u64 u] 114)).alloc (.cells #[c0,c1,c2,c3,c4,c5] 49)).drew:=
 ⟨(Zy.start hE h6 h0 h1 h2 h3 c0 c1 c2 c3 c4 c5).drew,cell_later (Xp.below (((Xp.refl w).alloc _).alloc _).drew) h4⟩
theorem Xd1 {W:World} {rb:Nat} (h:U7 W rb) (v0 v1 v2 v3 v4 v5:Value) :
  ((((((W.setCell ⟨rb,0,none⟩ v0).setCell ⟨rb,1,none⟩ v1).setCell ⟨rb,2,none⟩ v2).setCell ⟨rb,3,none⟩ v3).setCell ⟨rb,4,none⟩ v4).setCell ⟨rb,5,none⟩ v5).cell? ⟨rb,0,none⟩=some v0 /\
  ((((((W.setCell ⟨rb,0,none⟩ v0).setCell ⟨rb,1,none⟩ v1).setCell ⟨rb,2,none⟩ v2).setCell ⟨rb,3,none⟩ v3).setCell ⟨rb,4,none⟩ v4).setCell ⟨rb,5,none⟩ v5).cell? ⟨rb,1,none⟩=some v1 /\
  ((((((W.setCell ⟨rb,0,none⟩ v0).setCell ⟨rb,1,none⟩ v1).setCell ⟨rb,2,none⟩ v2).setCell ⟨rb,3,none⟩ v3).setCell ⟨rb,4,none⟩ v4).setCell ⟨rb,5,none⟩ v5).cell? ⟨rb,2,none⟩=some v2 /\
  ((((((W.setCell ⟨rb,0,none⟩ v0).setCell ⟨rb,1,none⟩ v1).setCell ⟨rb,2,none⟩ v2).setCell ⟨rb,3,none⟩ v3).setCell ⟨rb,4,none⟩ v4).setCell ⟨rb,5,none⟩ v5).cell? ⟨rb,3,none⟩=some v3 /\
  ((((((W.setCell ⟨rb,0,none⟩ v0).setCell ⟨rb,1,none⟩ v1).setCell ⟨rb,2,none⟩ v2).setCell ⟨rb,3,none⟩ v3).setCell ⟨rb,4,none⟩ v4).setCell ⟨rb,5,none⟩ v5).cell? ⟨rb,4,none⟩=some v4 /\
  ((((((W.setCell ⟨rb,0,none⟩ v0).setCell ⟨rb,1,none⟩ v1).setCell ⟨rb,2,none⟩ v2).setCell ⟨rb,3,none⟩ v3).setCell ⟨rb,4,none⟩ v4).setCell ⟨rb,5,none⟩ v5).cell? ⟨rb,5,none⟩=some v5:=by
 have h0:=h;have h1:=h0.set ⟨rb,0,none⟩ v0;have h2:=h1.set ⟨rb,1,none⟩ v1;have h3:=h2.set ⟨rb,2,none⟩ v2;have h4:=h3.set ⟨rb,3,none⟩ v3;have h5:=h4.set ⟨rb,4,none⟩ v4;have s0:=World.cell?_setCell_same _ _ v0 h0.1.1;have s1:=World.cell?_setCell_same _ _ v1 h1.1.2.1;have s2:=World.cell?_setCell_same _ _ v2 h2.1.2.2.1;have s3:=World.cell?_setCell_same _ _ v3 h3.1.2.2.2.1;have s4:=World.cell?_setCell_same _ _ v4 h4.1.2.2.2.2.1;have s5:=World.cell?_setCell_same _ _ v5 h5.1.2.2.2.2.2
 have o:∀(V:World) (i j:Nat) (v:Value),i≠j->(V.setCell ⟨rb,i,none⟩ v).cell? ⟨rb,j,none⟩=V.cell? ⟨rb,j,none⟩:=fun V i j v _=>World.cell?_setCell_other _ _ _ _ (by simp)
 refine⟨?_,?_,?_,?_,?_,s5⟩
 ·rw [o _ 5 0 _ (by omega),o _ 4 0 _ (by omega),o _ 3 0 _ (by omega),o _ 2 0 _ (by omega),o _ 1 0 _ (by omega),s0]
 ·rw [o _ 5 1 _ (by omega),o _ 4 1 _ (by omega),o _ 3 1 _ (by omega),o _ 2 1 _ (by omega),s1]
 ·rw [o _ 5 2 _ (by omega),o _ 4 2 _ (by omega),o _ 3 2 _ (by omega),s2]
 ·rw [o _ 5 3 _ (by omega),o _ 4 3 _ (by omega),s3]
 rw [o _ 5 4 _ (by omega),s4]
theorem Tryz.Xgs (b:Nat) (k:Int) (u:Nat) (ak:Int) (au:Nat) (at_ tr:Int) (lv:Bool) (hu:u<18446744073709551616) (hau:au<18446744073709551616) (w:World) (hE:Env w) (h6:6<=w.heap.size)
  (h0:w.cell? ⟨b,0,none⟩=some (.int .i64 ak)) (h1:w.cell? ⟨b,1,none⟩=some (.int .u64 au)) (h2:w.cell? ⟨b,2,none⟩=some (.int .u64 at_)) (h3:w.cell? ⟨b,3,none⟩=some (.int .i64 tr)) (hb:b<w.heap.size) :
  Calls prog 138 #[.pointer (some ⟨b,0,none⟩),.agg #[.int .i64 k,.int .u64 u],.bool lv] w fun e w'=>e=.returned (.agg (Yb (nmStr k u) (if lv then 1 else 2) at_ tr (nmStr ak au) []))/\Below w.heap.size w w':=by
 have hS1:=fun W (hI:Zy w w.heap.size b (w.heap.size+1) k u ak au at_ tr W)=>Zf k u hu W hI.2.2.1 hI.2.2.2.1
 have hS2:=fun W (hI:Zy w w.heap.size b (w.heap.size+1) k u ak au at_ tr W)=>Zf ak au hau W hI.2.2.1 hI.2.2.2.1
 generalize nmStr k u=s1 at *;generalize nmStr ak au=s2 at *
 cases lv with
 | true =>
  go_enter func138,ntmps138
  go_wp2_with fail
  go_region_held3 (Zy w w.heap.size b (w.heap.size+1) k u ak au at_ tr) (first
   | with_reducible exact(Zy.start hE h6 h0 h1 h2 h3 _ _ _ _ _ _).drew
   | with_reducible exact Zy.below (by assumption) (by assumption)
   | with_reducible exact((((((Zy.set (by assumption) (by omega) (by omega) (by omega) h6 0 _).set (by omega) (by omega) (by omega) h6 1 _).set (by omega) (by omega) (by omega) h6 2 _).set (by omega) (by omega) (by omega) h6 3 _).set (by omega) (by omega) (by omega) h6 4 _).set (by omega) (by omega) (by omega) h6 5 _)) (first
   | (go_at_call_of 68 (Value.int .u64 (u:Int));refine(hS1 _ (by assumption)).mono ?_;rintro e w1 ⟨rfl,hbS1⟩)
   | (go_at_call_of 68 (Value.int .u64 (au:Int));refine(hS2 _ (by assumption)).mono ?_;rintro e w2 ⟨rfl,hbS2⟩))
  go_wp2
  rename_i hI
  have hBF:=hI.2.2.2.2;have hR:=U7.new (w.alloc (.cells #[.int .i64 k,.int .u64 u] 114)) 49 (.string ⟨#[]⟩) (.int .i64 0) (.int .u64 0) (.int .i64 0) (.string ⟨#[]⟩) (.string ⟨#[]⟩);rw [World.size_alloc] at hR;obtain⟨g0,g1,g2,g3,g4,g5⟩:=Xd1 (((hR.below (Xp.below (Xp.refl _).drew)).below hbS1).below hbS2) (.string ⟨s1.toArray⟩) (.int .i64 1) (.int .u64 at_) (.int .i64 tr) (.string ⟨s2.toArray⟩) (.string ⟨#[]⟩);clear hI hS1 hS2 h0 h1 h2 h3 hR hbS1 hbS2;exact bodyPost_ret (v:=.agg (Yb s1 1 at_ tr s2 [])) (by simp [results,results138,go_sem,g0,g1,g2,g3,g4,g5,Yb]) rfl ⟨rfl,hBF⟩
 | false =>
  go_enter func138,ntmps138
  go_wp2_with fail
  go_region_held3 (Zy w w.heap.size b (w.heap.size+1) k u ak au at_ tr) (first
   | with_reducible exact(Zy.start hE h6 h0 h1 h2 h3 _ _ _ _ _ _).drew
   | with_reducible exact Zy.below (by assumption) (by assumption)
   | with_reducible exact((((((Zy.set (by assumption) (by omega) (by omega) (by omega) h6 0 _).set (by omega) (by omega) (by omega) h6 1 _).set (by omega) (by omega) (by omega) h6 2 _).set (by omega) (by omega) (by omega) h6 3 _).set (by omega) (by omega) (by omega) h6 4 _).set (by omega) (by omega) (by omega) h6 5 _)) (first
   | (go_at_call_of 68 (Value.int .u64 (u:Int));refine(hS1 _ (by assumption)).mono ?_;rintro e w1 ⟨rfl,hbS1⟩)
   | (go_at_call_of 68 (Value.int .u64 (au:Int));refine(hS2 _ (by assumption)).mono ?_;rintro e w2 ⟨rfl,hbS2⟩))
  go_wp2
  rename_i hI
  have hBF:=hI.2.2.2.2;have hR:=U7.new (w.alloc (.cells #[.int .i64 k,.int .u64 u] 114)) 49 (.string ⟨#[]⟩) (.int .i64 0) (.int .u64 0) (.int .i64 0) (.string ⟨#[]⟩) (.string ⟨#[]⟩);rw [World.size_alloc] at hR;obtain⟨g0,g1,g2,g3,g4,g5⟩:=Xd1 (((hR.below (Xp.below (Xp.refl _).drew)).below hbS1).below hbS2) (.string ⟨s1.toArray⟩) (.int .i64 2) (.int .u64 at_) (.int .i64 tr) (.string ⟨s2.toArray⟩) (.string ⟨#[]⟩);clear hI hS1 hS2 h0 h1 h2 h3 hR hbS1 hbS2;exact bodyPost_ret (v:=.agg (Yb s1 2 at_ tr s2 [])) (by simp [results,results138,go_sem,g0,g1,g2,g3,g4,g5,Yb]) rfl ⟨rfl,hBF⟩
theorem Tryz.Xoq (b:Nat) (k:Int) (u:Nat) (ak:Int) (au:Nat) (at_ tr:Int) (pd:Bool) (hu:u<18446744073709551616) (hau:au<18446744073709551616) (w:World) (hE:Env w) (h6:6<=w.heap.size)
  (h0:w.cell? ⟨b,0,none⟩=some (.int .i64 ak)) (h1:w.cell? ⟨b,1,none⟩=some (.int .u64 au)) (h2:w.cell? ⟨b,2,none⟩=some (.int .u64 at_)) (h3:w.cell? ⟨b,3,none⟩=some (.int .i64 tr)) (h4:w.cell? ⟨b,4,none⟩=some (.bool pd)) :
  Calls prog 80 #[.pointer (some ⟨b,0,none⟩),.agg #[.int .i64 k,.int .u64 u]] w fun e w'=>e=.returned (.agg (Yb (nmStr k u) (if !pd then 1 else 2) at_ tr (nmStr ak au) []))/\Below w.heap.size w w':=by
 have hb:b<w.heap.size:=World.block_lt_of_cell? _ _ h0
 have hS1:=fun W (hI:Zc w w.heap.size b (w.heap.size+1) k u ak au at_ tr pd W)=>Vr b pd W hI.2
 have hS2:=fun W (hI:Zc w w.heap.size b (w.heap.size+1) k u ak au at_ tr pd W)=>Xgs b k u ak au at_ tr (!pd) hu hau W hI.1.2.2.1 hI.1.2.2.2.1 hI.1.1.2.2.1 hI.1.1.2.2.2.1 hI.1.1.2.2.2.2.1 hI.1.1.2.2.2.2.2 (Nat.lt_of_lt_of_le hb hI.1.2.2.2.2.size)
 generalize nmStr k u=s1 at *;generalize nmStr ak au=s2 at *;unfold Yb at hS2 ⊢;generalize (if !pd then (1:Int) else 2)=st at *;go_enter func80,ntmps80
 go_wp2_with fail
 go_region_held3 (Zc w w.heap.size b (w.heap.size+1) k u ak au at_ tr pd) (first
  | with_reducible exact Zc.start hE h6 h0 h1 h2 h3 h4 _ _ _ _ _ _
  | with_reducible exact Zc.below (by assumption) (by assumption)
  | with_reducible assumption
  | with_reducible exact((((((Zc.set (by assumption) (by omega) (by omega) (by omega) h6 0 _).set (by omega) (by omega) (by omega) h6 1 _).set (by omega) (by omega) (by omega) h6 2 _).set (by omega) (by omega) (by omega) h6 3 _).set (by omega) (by omega) (by omega) h6 4 _).set (by omega) (by omega) (by omega) h6 5 _)) (first
  | (go_at_call 89;refine(hS1 _ (by assumption)).mono ?_;rintro e w1 ⟨rfl,rfl⟩)
  | (go_at_call 138;refine(hS2 _ (by assumption)).mono ?_;rintro e w2 ⟨rfl,hbS2⟩))
 go_wp2
 rename_i hI
 have hBF:=hI.1.2.2.2.2;have hR:=U7.new (w.alloc (.cells #[.int .i64 k,.int .u64 u] 114)) 49 (.string ⟨#[]⟩) (.int .i64 0) (.int .u64 0) (.int .i64 0) (.string ⟨#[]⟩) (.string ⟨#[]⟩);rw [World.size_alloc] at hR;obtain⟨g0,g1,g2,g3,g4,g5⟩:=Xd1 ((hR.below (Xp.below (Xp.refl _).drew)).below hbS2) (.string ⟨s1.toArray⟩) (.int .i64 st) (.int .u64 at_) (.int .i64 tr) (.string ⟨s2.toArray⟩) (.string ⟨#[]⟩);clear hI hS1 hS2 h0 h1 h2 h3 hR hbS2;exact bodyPost_ret (v:=.agg #[.string ⟨s1.toArray⟩,.int .i64 st,.int .u64 at_,.int .i64 tr,.string ⟨s2.toArray⟩,.string ⟨#[]⟩]) (by simp [results,results80,go_sem,g0,g1,g2,g3,g4,g5]) rfl ⟨rfl,hBF⟩
theorem Xh3 {W:World} {q:Nat} {t:TypeId} {c0 c1 c2 c3 c4 c5:Value} (h:BoxN W q t #[c0,c1,c2,c3,c4,c5]) (v0 v1 v2 v3 v4 v5:Value) :
  BoxN ((((((W.setCell ⟨q,0,none⟩ v0).setCell ⟨q,1,none⟩ v1).setCell ⟨q,2,none⟩ v2).setCell ⟨q,3,none⟩ v3).setCell ⟨q,4,none⟩ v4).setCell ⟨q,5,none⟩ v5) q t #[v0,v1,v2,v3,v4,v5]:=
 (((((h.set 0 v0).set 1 v1).set 2 v2).set 3 v3).set 4 v4).set 5 v5
theorem Tryz.Zc.Xph {w0 W:World} {nb b rb:Nat} {k:Int} {u:Nat} {ak:Int} {au:Nat} {at_ tr:Int} {pd:Bool} (h:Zc w0 nb b rb k u ak au at_ tr pd W) (q i:Nat) (v:Value) (hn:nb≠q) (hb:b≠q) (_hr:rb≠q) (hq:w0.heap.size<=q) (h6:6<=w0.heap.size):Zc w0 nb b rb k u ak au at_ tr pd (W.setCell ⟨q,i,none⟩ v):=by
 obtain⟨⟨⟨c0,c1,c2,c3,c4,c5⟩,hrow,hE,h6',hB⟩,hp⟩:=h
 have o:∀(p j:Nat),p≠q->(W.setCell ⟨q,i,none⟩ v).cell? ⟨p,j,none⟩=W.cell? ⟨p,j,none⟩:=fun p j hp=>World.cell?_setCell_other _ _ _ _ (by simp)
 have hB':=hB.setCell (p:=⟨q,i,none⟩) hq v;refine⟨⟨⟨(o _ _ hn).trans c0,(o _ _ hn).trans c1,(o _ _ hb).trans c2,(o _ _ hb).trans c3,(o _ _ hb).trans c4,(o _ _ hb).trans c5⟩,hrow.set _ _,hE.below ((Below.refl w0.heap.size W).setCell (p:=⟨q,i,none⟩) hq v) h6,?_,hB'⟩,(o _ _ hb).trans hp⟩;have:=hB'.size;omega
theorem Tryz.Xo5 (b:Nat) (k:Int) (u:Nat) (ak:Int) (au:Nat) (at_ tr:Int) (pd:Bool) (tm:Int) (pth:List UInt8) (hu:u<18446744073709551616) (hau:au<18446744073709551616) (w:World) (hE:Env w) (h6:6<=w.heap.size)
  (h0:w.cell? ⟨b,0,none⟩=some (.int .i64 ak)) (h1:w.cell? ⟨b,1,none⟩=some (.int .u64 au)) (h2:w.cell? ⟨b,2,none⟩=some (.int .u64 at_)) (h3:w.cell? ⟨b,3,none⟩=some (.int .i64 tr)) (h4:w.cell? ⟨b,4,none⟩=some (.bool pd)) (h5:w.cell? ⟨b,5,none⟩=some (.string ⟨pth.toArray⟩)) :
  Calls prog 82 #[.pointer (some ⟨b,0,none⟩),.agg #[.int .i64 k,.int .u64 u],.int .u64 tm] w fun e w'=>e=.returned (.agg (Yb (nmStr k u) (if (!pd&&decide (tm<at_)) then 1 else 2) at_ tr (nmStr ak au) pth))/\Below w.heap.size w w':=by
 have hb:b<w.heap.size:=World.block_lt_of_cell? _ _ h0
 have hS1:=fun W (hI:Zc w w.heap.size b (w.heap.size+1) k u ak au at_ tr pd W)=>Jy b pd at_ tm W hI.2 hI.1.1.2.2.2.2.1
 generalize (!pd&&decide (tm<at_))=lv at *
 have hS2:=fun W (hI:Zc w w.heap.size b (w.heap.size+1) k u ak au at_ tr pd W)=>Xgs b k u ak au at_ tr lv hu hau W hI.1.2.2.1 hI.1.2.2.2.1 hI.1.1.2.2.1 hI.1.1.2.2.2.1 hI.1.1.2.2.2.2.1 hI.1.1.2.2.2.2.2 (Nat.lt_of_lt_of_le hb hI.1.2.2.2.2.size)
 generalize nmStr k u=s1 at *;generalize nmStr ak au=s2 at *;unfold Yb at hS2 ⊢;generalize (if lv then (1:Int) else 2)=st at *;go_enter func82,ntmps82
 go_wp2_with fail
 go_cut [7] (fun t7 wx=>∃ q:Nat,t7=.pointer (some ⟨q,0,none⟩)/\(BoxN wx q 49 #[.string ⟨s1.toArray⟩,.int .i64 st,.int .u64 at_,.int .i64 tr,.string ⟨s2.toArray⟩,.string ⟨#[]⟩]/\U7 wx (w.heap.size+1))/\wx.cell? ⟨b,5,none⟩=some (.string ⟨pth.toArray⟩)/\Below w.heap.size w wx/\w.heap.size+1<q)
 case first =>
  go_region_held3 (Zc w w.heap.size b (w.heap.size+1) k u ak au at_ tr pd) (first
   | with_reducible exact Zc.start hE h6 h0 h1 h2 h3 h4 _ _ _ _ _ _
   | with_reducible exact Zc.below (by assumption) (by assumption)
   | with_reducible assumption
   | with_reducible exact((((((Zc.Xph (by assumption) _ 0 _ (by omega) (by omega) (by omega) (by omega) h6).Xph _ 1 _ (by omega) (by omega) (by omega) (by omega) h6).Xph _ 2 _ (by omega) (by omega) (by omega) (by omega) h6).Xph _ 3 _ (by omega) (by omega) (by omega) (by omega) h6).Xph _ 4 _ (by omega) (by omega) (by omega) (by omega) h6).Xph _ 5 _ (by omega) (by omega) (by omega) (by omega) h6)
   | with_reducible exact Zc.below (Xa hK2) ((Below.refl _ _).alloc (Nat.le_refl _) _)
   | with_reducible exact Zc.below (by assumption) ((Below.refl _ _).alloc (Nat.le_refl _) _)) (first
   | (go_at_call 91;refine(hS1 _ (by assumption)).mono ?_;rintro e w1 ⟨rfl,rfl⟩)
   | (go_at_call 138;refine(hS2 _ (by assumption)).mono ?_;rintro e w2 ⟨rfl,hbS2⟩;have hK2:=Xb (Zc.below (show Zc w w.heap.size b (w.heap.size+1) k u ak au at_ tr pd _ from by assumption) hbS2);obtain⟨hc2,hf2⟩:=Xuj hbS2;have hz2:=hbS2.size))
  ·go_wp2_with fail
   go_meet
   case rel =>
    have hI2:=Xa hK2;have hB2:=hI2.1.2.2.2.2.alloc hI2.1.2.2.2.2.size (.cells #[.string ⟨s1.toArray⟩,.int .i64 st,.int .u64 at_,.int .i64 tr,.string ⟨s2.toArray⟩,.string ⟨#[]⟩] 49);simp at hz2;exact⟨_,rfl,⟨BoxN.new _ _ _,hI2.1.2.1.below ((Below.refl _ _).alloc (Nat.le_refl _) _)⟩,cell_later hB2 h5,hB2,by omega⟩
  all_goals
   go_wp2_with fail
   go_meet
   case rel =>
    have hI2:=Xa hK2
    have b0:=(BoxN.new ((w.alloc (.cells #[.int .i64 k,.int .u64 u] 114)).alloc (.cells #[.string ⟨#[]⟩,.int .i64 0,.int .u64 0,.int .i64 0,.string ⟨#[]⟩,.string ⟨#[]⟩] 49)) 49 #[.string ⟨#[]⟩,.int .i64 0,.int .u64 0,.int .i64 0,.string ⟨#[]⟩,.string ⟨#[]⟩])
    simp only [World.size_alloc] at b0;have b1:BoxN w2 (w.heap.size+1+1) 49 #[.string ⟨#[]⟩,.int .i64 0,.int .u64 0,.int .i64 0,.string ⟨#[]⟩,.string ⟨#[]⟩]:=(hbS2.block (w.heap.size+1+1) (by simp)).trans b0;have bF:=Xh3 b1 (.string ⟨s1.toArray⟩) (.int .i64 st) (.int .u64 at_) (.int .i64 tr) (.string ⟨s2.toArray⟩) (.string ⟨#[]⟩);have hR:=(((((hI2.1.2.1.set ⟨w.heap.size+1+1,0,none⟩ (.string ⟨s1.toArray⟩)).set ⟨w.heap.size+1+1,1,none⟩ (.int .i64 st)).set ⟨w.heap.size+1+1,2,none⟩ (.int .u64 at_)).set ⟨w.heap.size+1+1,3,none⟩ (.int .i64 tr)).set ⟨w.heap.size+1+1,4,none⟩ (.string ⟨s2.toArray⟩)).set ⟨w.heap.size+1+1,5,none⟩ (.string ⟨#[]⟩);have hB2:=(((((hI2.1.2.2.2.2.setCell (p:=⟨w.heap.size+1+1,0,none⟩) (by simp;omega) (.string ⟨s1.toArray⟩)).setCell (p:=⟨w.heap.size+1+1,1,none⟩) (by simp;omega) (.int .i64 st)).setCell (p:=⟨w.heap.size+1+1,2,none⟩) (by simp;omega) (.int .u64 at_)).setCell (p:=⟨w.heap.size+1+1,3,none⟩) (by simp;omega) (.int .i64 tr)).setCell (p:=⟨w.heap.size+1+1,4,none⟩) (by simp;omega) (.string ⟨s2.toArray⟩)).setCell (p:=⟨w.heap.size+1+1,5,none⟩) (by simp;omega) (.string ⟨#[]⟩);exact⟨_,rfl,⟨bF,hR⟩,cell_later hB2 h5,hB2,by omega⟩
 case rest =>
  obtain⟨q,rfl,⟨bq,hr⟩,h5',hB,hq⟩:=hcut
  have hne:q≠w.heap.size+1:=by omega
  have q0:=bq.cell 0 (v:=.string ⟨s1.toArray⟩) rfl;have q1:=bq.cell 1 (v:=.int .i64 st) rfl;have q2:=bq.cell 2 (v:=.int .u64 at_) rfl;have q3:=bq.cell 3 (v:=.int .i64 tr) rfl;have q4:=bq.cell 4 (v:=.string ⟨s2.toArray⟩) rfl;have q5:=bq.cell 5 (v:=.string ⟨#[]⟩) rfl;have qf:=bq.frozen 5;have HR:=Xb (hr.set ⟨q,5,none⟩ (.string ⟨pth.toArray⟩));obtain⟨⟨r0,r1,r2,r3,r4,r5⟩,f0,f1,f2,f3,f4,f5⟩:=hr;go_wp2;obtain⟨g0,g1,g2,g3,g4,g5⟩:=Xd1 (Xa HR) (.string ⟨s1.toArray⟩) (.int .i64 st) (.int .u64 at_) (.int .i64 tr) (.string ⟨s2.toArray⟩) (.string ⟨pth.toArray⟩);have hBF:=((((((hB.setCell (p:=⟨q,5,none⟩) (by simp;omega) (.string ⟨pth.toArray⟩)).setCell (p:=⟨w.heap.size+1,0,none⟩) (by simp) (.string ⟨s1.toArray⟩)).setCell (p:=⟨w.heap.size+1,1,none⟩) (by simp) (.int .i64 st)).setCell (p:=⟨w.heap.size+1,2,none⟩) (by simp) (.int .u64 at_)).setCell (p:=⟨w.heap.size+1,3,none⟩) (by simp) (.int .i64 tr)).setCell (p:=⟨w.heap.size+1,4,none⟩) (by simp) (.string ⟨s2.toArray⟩)).setCell (p:=⟨w.heap.size+1,5,none⟩) (by simp) (.string ⟨pth.toArray⟩);clear r0 r1 r2 r3 r4 r5 q0 q1 q2 q3 q4 q5;exact bodyPost_ret (v:=.agg #[.string ⟨s1.toArray⟩,.int .i64 st,.int .u64 at_,.int .i64 tr,.string ⟨s2.toArray⟩,.string ⟨pth.toArray⟩]) (by simp [results,results82,go_sem,g0,g1,g2,g3,g4,g5]) rfl ⟨rfl,hBF⟩
end Go.Proofs
namespace Go.Proofs
open Go.RowKit Go.Sort Go.Lib Go.Shelf Go.Maps
structure Xd where
 n:Nat
 ak:Int
 au:Nat
 at_:Int
 tr:Int
 pd:Bool
structure Xc where
 n:Nat
 ak:Int
 au:Nat
 at_:Int
 tr:Int
 pd:Bool
 pth:List UInt8
 last:Int
structure InfoD where
 id:List UInt8
 st:Int
 at_:Int
 tr:Int
 tok:List UInt8
 pth:List UInt8
def InfoD.cells (x:InfoD):Array Value:=Yb x.id x.st x.at_ x.tr x.tok x.pth
def Xd.info (t:Xd):InfoD:=⟨nmStr 1 t.n,if !t.pd then 1 else 2,t.at_,t.tr,nmStr t.ak t.au,[]⟩
def Xc.info (tm:Int) (l:Xc):InfoD:=⟨nmStr 2 l.n,if (!l.pd&&decide (tm<l.at_)) then 1 else 2,l.at_,l.tr,nmStr l.ak l.au,l.pth⟩
def Xd.cells (t:Xd):Array Value:=#[.int .i64 t.ak,.int .u64 t.au,.int .u64 t.at_,.int .i64 t.tr,.bool t.pd]
def Xc.cells (l:Xc):Array Value:=#[.int .i64 l.ak,.int .u64 l.au,.int .u64 l.at_,.int .i64 l.tr,.bool l.pd,.string ⟨l.pth.toArray⟩,.int .u64 l.last]
def Xd.key (t:Xd):(Int × Int) × Value:=((1,(t.n:Int)),.agg t.cells)
def Xc.key (l:Xc):(Int × Int) × Value:=((2,(l.n:Int)),.agg l.cells)
theorem Xd.sh (tks:List Xd):∀ p∈tks.map Xd.key,Xqe p.2:=fun p hp=>by
 obtain⟨t,_,rfl⟩:=List.mem_map.1 hp;exact⟨_,_,_,_,_,rfl⟩
theorem Xc.sh (lks:List Xc):∀ p∈lks.map Xc.key,Xqx p.2:=fun p hp=>by
 obtain⟨t,_,rfl⟩:=List.mem_map.1 hp;exact⟨_,_,_,_,_,_,_,rfl⟩
structure VX where
 jn:Value
 rv:Value
 tk:Bool
 due:Value
def Tryz.Y7 (vx:VX) (tm:Int) (mt ml:Nat) (tn ln:Int):Array Value:=#[vx.jn,vx.rv,.int .u64 tm,.map (some mt),.map (some ml),.int .u64 tn,.int .u64 ln,.bool vx.tk,vx.due]
def Xo:Nat:=18446744073709551616
structure Tryz.Mk (W:World) (mt ml:Nat) (tks:List Xd) (lks:List Xc):Prop where
 mapT:∃ n,n<=1000/\W.ownsMap Tryz.prog 114 Ye mt n (mapD (tks.map Xd.key).reverse)
 mapL:∃ n,n<=1000/\W.ownsMap Tryz.prog 114 Ye ml n (mapD (lks.map Xc.key).reverse)
structure Xx (tks:List Xd) (lks:List Xc):Prop where
 lenT:tks.length<=500
 lenL:lks.length<=500
 incT:tks.Pairwise (fun a b=>a.n<b.n)
 incL:lks.Pairwise (fun a b=>a.n<b.n)
 limT:∀ t∈tks,t.n<Xo/\t.au<Xo
 limL:∀ l∈lks,l.n<Xo/\l.au<Xo
theorem Xdx {k:Int} (hk:k=1\/k=2) {n:Nat} (h:n<Xo):Zr (k,(n:Int)):=by
 unfold Xo at h;refine⟨?_,?_⟩
 ·rcases hk with rfl | rfl
  ·show (Lit.int .i64 1).wf=true;decide
  show (Lit.int .i64 2).wf=true;decide
 show (Lit.int .u64 (n:Int)).wf=true
 simp [Lit.wf,IntKind.min,IntKind.max,IntKind.bits,IntKind.signed];omega
theorem Xnm {l:List ((Int × Int) × Value)} (k:Int) (hk:k=1\/k=2) (hs:l.Pairwise (fun a b=>a.1.2<b.1.2)) (h1:∀ p∈l,p.1.1=k/\∃ n:Nat,p.1.2=(n:Int)/\n<Xo) :
  Zd l.reverse/\J4 (l.map (·.1)):=by
 have hp:(l.map (·.1)).Pairwise (fun x y=>x.2<y.2):=List.pairwise_map.2 hs;refine⟨⟨fun p hp'=>?_,?_⟩,?_⟩
 ·obtain⟨e1,n,e2,hn⟩:=h1 p (by simpa using hp')
  have:=Xdx hk hn;rw [<- e1,<- e2] at this;exact this
 ·rw [List.map_reverse]
  exact List.pairwise_reverse.2 (hp.imp fun {a b} h e=>by rw [e] at h;omega)
 have h2:∀ x∈l.map (·.1),x.1=k:=fun x hx=>by
  obtain⟨p,hp',rfl⟩:=List.mem_map.1 hx;exact(h1 p hp').1
 refine hp.imp_of_mem fun {a b} ha hb h=>?_
 rw [Jl,decide_eq_true_iff];exact Or.inr ⟨by rw [h2 a ha,h2 b hb],h⟩
theorem Xx.ksT {tks:List Xd} {lks:List Xc} (h:Xx tks lks):Zd (tks.map Xd.key).reverse/\J4 ((tks.map Xd.key).map (·.1)):=
 Xnm 1 (Or.inl rfl) (List.pairwise_map.2 (h.incT.imp fun {a b} hab=>by simp [Xd.key];omega)) (fun p hp=>by
  obtain⟨t,ht,rfl⟩:=List.mem_map.1 hp
  exact⟨rfl,t.n,rfl,(h.limT t ht).1⟩)
theorem Xx.ksL {tks:List Xd} {lks:List Xc} (h:Xx tks lks):Zd (lks.map Xc.key).reverse/\J4 ((lks.map Xc.key).map (·.1)):=
 Xnm 2 (Or.inr rfl) (List.pairwise_map.2 (h.incL.imp fun {a b} hab=>by simp [Xc.key];omega)) (fun p hp=>by
  obtain⟨t,ht,rfl⟩:=List.mem_map.1 hp
  exact⟨rfl,t.n,rfl,(h.limL t ht).1⟩)
theorem Tryz.Mk.keeps {bad:TypeId->Bool} {W W':World} {mt ml:Nat} {tks:List Xd} {lks:List Xc} (h:Mk W mt ml tks lks) (hk:KeepsT bad W W'):Mk W' mt ml tks lks:=by
 obtain⟨⟨n,hn,hm⟩,⟨n',hn',hm'⟩⟩:=h;exact⟨⟨n,hn,hk.map hm⟩,⟨n',hn',hk.map hm'⟩⟩
theorem Tryz.Mk.from {β:Type} (B mt ml:Nat) (tks:List Xd) (lks:List Xc) (hmt:mt<B) (hml:ml<B):OwnFrom B (fun(_:β) W=>Mk W mt ml tks lks):=fun _ W W' row h hg hr=>by
 obtain⟨⟨n,hn,hm⟩,⟨n',hn',hm'⟩⟩:=h;exact⟨⟨n,hn,hm.kept hg (fun e=>by have:=(hr _ e.symm).1;omega)⟩,⟨n',hn',hm'.kept hg (fun e=>by have:=(hr _ e.symm).1;omega)⟩⟩
theorem Tryz.Mk.lt {W:World} {mt ml:Nat} {tks:List Xd} {lks:List Xc} (h:Mk W mt ml tks lks):mt<W.heap.size/\ml<W.heap.size:=by
 obtain⟨⟨n,hn,hm⟩,⟨n',hn',hm'⟩⟩:=h;exact⟨hm.lt,hm'.lt⟩
end Go.Proofs
namespace Go.Proofs
open Go.RowKit Go.Sort Go.Lib Go.Shelf
def plusI (a b:Int):Int:=if 18446744073709551615-b<a then 18446744073709551615 else a+b
theorem Tryz.Xgk (a b:Int) (ha:0<=a) (hb0:0<=b) (hb:b<=18446744073709551615) (w:World) :
  Calls prog 153 #[.int .u64 a,.int .u64 b] w fun e w'=>e=.returned (.int .u64 (plusI a b))/\w'=w:=by
 by_cases h:18446744073709551615-b<a
 ·have hp:Hid (plusI a b=18446744073709551615):=Xb (by simp [plusI,h])
  generalize plusI a b=r at *;go_enter func153,ntmps153;go_wp2;go_ret;exact⟨by rw [Xa hp];rfl,rfl⟩
 have hp:Hid (plusI a b=a+b):=Xb (by simp [plusI,h]);generalize plusI a b=r at *
 have hle:a+b<=18446744073709551615:=by omega
 go_enter func153,ntmps153;go_wp2;go_ret;exact⟨by rw [Xa hp];rfl,rfl⟩
theorem Xt5 (d:Nat) (h:d<10):((UInt8.ofNat (48+d)).toNat:Int)=48+(d:Int):=by
 have:(UInt8.ofNat (48+d)).toNat=48+d:=by simp;omega
 omega
theorem Tryz.Xjr (d:Nat) (h:d<10) (w:World) (c:UInt8) (hc:c=UInt8.ofNat (48+d)):(convert 267 9 (.slice (some ⟨w.heap.size,0,none⟩) 1 1)).run prog (w.alloc (.cells #[.int .u8 (48+(d:Int))] 5))=.ok (.string ⟨#[c]⟩) (w.alloc (.cells #[.int .u8 (48+(d:Int))] 5)):=by
 subst hc
 exact run_convert_bytes_back (P:=prog) (w.alloc (.cells #[.int .u8 (48+(d:Int))] 5)) 267 9 5 ⟨w.heap.size,0,none⟩ 1 [UInt8.ofNat (48+d)] underlying267 underlying5 underlying9 (fun j hj=>by
  have:j=0:=by simpa using hj
  subst this;have hc:=(BoxN.new w 5 #[.int .u8 (48+(d:Int))]).cell 0 (v:=.int .u8 (48+(d:Int))) rfl;rw [Lib.add_plain];refine hc.trans ?_
  rw [List.getElem_singleton,Xt5 d h])
theorem Tryz.Xmx (n:Nat):∀(_:n<9223372036854775808) (w:World),
  Calls prog 151 #[.int .i64 n] w fun e w'=>e=.returned (.string ⟨(Lib.decDigits n).toArray⟩)/\Below w.heap.size w w':=by
 induction n using Nat.strongRecOn with
 | _ n ih =>
  intro hn w
  by_cases h:n<10
  ·have hi:(n:Int)<10:=by omega
   have hf0:=Lib.decDigits_one h
   obtain⟨c,hc⟩:∃ c,c=UInt8.ofNat (48+n):=⟨_,rfl⟩
   have hcv:=Xjr n h w c hc;rw [<- hc] at hf0;have hf:=Xb hf0;clear hc hf0;generalize Lib.decDigits n=r at *;go_enter func151,ntmps151;go_wp2;go_ret;exact⟨by rw [Xa hf];rfl,(Below.refl _ w).alloc (Nat.le_refl _) _⟩
  have hi:¬ (n:Int)<10:=by omega
  have hI:=ih (n / 10) (by omega) (by omega)
  have hf0:Lib.decDigits n=Lib.decDigits (n / 10) ++ [UInt8.ofNat (48+n % 10)]:=by rw [Lib.decDigits,dif_neg h]
  obtain⟨c,hc⟩:∃ c,c=UInt8.ofNat (48+n % 10):=⟨_,rfl⟩
  have hcv:=fun W=>Xjr (n % 10) (by omega) W c hc
  rw [show (48+((n % 10:Nat):Int))=48+(n:Int) % 10 by omega] at hcv;rw [<- hc] at hf0;have hf:=Xb hf0;clear hc hf0
  have hlen:¬ 9223372036854775807<(Lib.decDigits (n / 10)).length+1:=by have:=Ya (n / 10) (by omega);omega
  generalize Lib.decDigits n=r at *;generalize Lib.decDigits (n / 10)=r' at *;go_enter func151,ntmps151
  go_wp2_with (go_at_call 151;refine(hI _).mono ?_;rintro e w' ⟨rfl,hb⟩)
  go_ret;exact⟨by rw [Xa hf];exact Mb (ByteArray.ext (by simp)),hb.alloc hb.size _⟩
structure ThingD where
 token:Bool
 n:Nat
 of_:Int
 pth:List UInt8
 at_:Int
 last:Int
 doomed:Bool
 tries:Int
def ThingD.cells (t:ThingD):Array Value:=#[.bool t.token,.int .i64 t.n,.int .i64 t.of_,.string ⟨t.pth.toArray⟩,.int .u64 t.at_,.int .u64 t.last,.bool t.doomed,.int .i64 t.tries]
def ThingD.id (t:ThingD):List UInt8:=(if t.token then 116 else 108) :: Lib.decDigits t.n
def ThingD.state (tm:Int) (t:ThingD):Int:=if t.doomed||(!t.token&&decide (t.at_<=tm)) then 2 else 1
theorem Tryz.rId (t:ThingD) (hn:t.n<9223372036854775808) (w:World) :
  Calls prog 105 #[.agg t.cells] w fun e w'=>e=.returned (.string ⟨t.id.toArray⟩)/\Below w.heap.size w w':=by
 obtain⟨tk,n,o,p,a,l,dm,tr⟩:=t;simp only [ThingD.cells,ThingD.id] at hn ⊢
 have hD:=fun W=>Xmx n hn W
 have hlen:¬ 9223372036854775807<1+(Lib.decDigits n).length:=by have:=Ya n (by omega);omega
 have hlen':¬ 9223372036854775807<(Lib.decDigits n).length+1:=by omega
 generalize Lib.decDigits n=r at *
 have bX:=fun(V:World) (hb:Below (w.alloc (.cells #[.bool tk,.int .i64 n,.int .i64 o,.string ⟨p.toArray⟩,.int .u64 a,.int .u64 l,.bool dm,.int .i64 tr] 105)).heap.size (w.alloc (.cells #[.bool tk,.int .i64 n,.int .i64 o,.string ⟨p.toArray⟩,.int .u64 a,.int .u64 l,.bool dm,.int .i64 tr] 105)) V)=>cell_later hb ((BoxN.new w 105 #[.bool tk,.int .i64 n,.int .i64 o,.string ⟨p.toArray⟩,.int .u64 a,.int .u64 l,.bool dm,.int .i64 tr]).cell 0 (v:=.bool tk) rfl)
 have hB0:Below w.heap.size w (w.alloc (.cells #[.bool tk,.int .i64 n,.int .i64 o,.string ⟨p.toArray⟩,.int .u64 a,.int .u64 l,.bool dm,.int .i64 tr] 105)):=(Below.refl _ w).alloc (Nat.le_refl _) _
 cases tk with
 | true =>
  go_enter func105,ntmps105
  go_wp2_with (go_at_call 151;refine(hD _).mono ?_;rintro e w' ⟨rfl,hb⟩;have c0:=bX w' hb)
  go_ret;exact⟨Mb (Uw 116 r),hB0.trans (hb.mono (by simp))⟩
 | false =>
  go_enter func105,ntmps105
  go_wp2_with (go_at_call 151;refine(hD _).mono ?_;rintro e w' ⟨rfl,hb⟩;have c0:=bX w' hb)
  go_ret;exact⟨Mb (Uw 108 r),hB0.trans (hb.mono (by simp))⟩
theorem Tryz.Xfo (t:ThingD) (vb:Nat) (tm:Int) (w:World) (h1:w.cell? ⟨vb,1,none⟩=some (.int .u64 tm)) :
  Calls prog 150 #[.pointer (some ⟨vb,0,none⟩),.agg t.cells] w fun e w'=>e=.returned (.int .i64 (t.state tm))/\Below w.heap.size w w':=by
 obtain⟨tk,n,o,p,a,l,dm,tr⟩:=t;have hr:Hid (ThingD.state tm ⟨tk,n,o,p,a,l,dm,tr⟩=if dm||(!tk&&decide (a<=tm)) then 2 else 1):=Xb rfl;generalize ThingD.state tm ⟨tk,n,o,p,a,l,dm,tr⟩=r at *;simp only [ThingD.cells];have hB0:Below w.heap.size w (w.alloc (.cells #[.bool tk,.int .i64 n,.int .i64 o,.string ⟨p.toArray⟩,.int .u64 a,.int .u64 l,.bool dm,.int .i64 tr] 105)):=(Below.refl _ w).alloc (Nat.le_refl _) _;have h1':=cell_later hB0 h1
 cases dm with
 | true =>
  go_enter func150,ntmps150
  go_wp2_with fail
  go_quiet (fail);go_wp2;go_ret;exact⟨by rw [Xa hr];rfl,below_drewN hB0 _⟩
 | false =>
  cases tk with
  | true =>
   go_enter func150,ntmps150
   go_wp2_with fail
   go_quiet (fail);go_wp2;go_ret;exact⟨by rw [Xa hr];rfl,below_drewN hB0 _⟩
  | false =>
   by_cases h:a<=tm
   focus
    have hr':Hid (r=2):=Xb (by rw [Xa hr];simp [h])
   rotate_left
   focus
    have hr':Hid (r=1):=Xb (by rw [Xa hr];simp [h])
   rotate_left
   all_goals
    clear hr;go_enter func150,ntmps150
    go_wp2_with fail
    go_quiet (fail);go_wp2;go_ret;exact⟨by rw [Xa hr'];rfl,below_drewN hB0 _⟩
def X9 (xs:List ThingD):List Value:=xs.flatMap fun x=>x.cells.toList
theorem Xef (xs:List ThingD) (x:ThingD):X9 (xs ++ [x])=X9 xs++x.cells.toList:=by simp [X9]
theorem ThingD.cells_size (x:ThingD):x.cells.toList.length=8:=rfl
theorem Z3 (xs:List ThingD):(X9 xs).length=xs.length*8:=by
 induction xs with
 | nil=>rfl
 | cons x xs ih=>simp only [X9,List.flatMap_cons,List.length_append,ThingD.cells_size,List.length_cons] at ih ⊢;omega
theorem Xgz:∀(xs:List ThingD) (k j:Nat) (t:ThingD),xs[k]? = some t->j<8->(X9 xs)[k*8+j]? = t.cells[j]?
 | [],_,_,_,h,_=>by simp at h
 | x :: xs,0,j,t,h,hj=>by
  obtain rfl:x=t:=by simpa using h
  show (x.cells.toList++X9 xs)[0*8+j]? = _
  rw [List.getElem?_append_left (by rw [ThingD.cells_size];omega)];simp
 | x :: xs,k+1,j,t,h,hj=>by
  show (x.cells.toList++X9 xs)[(k+1)*8+j]? = _
  rw [List.getElem?_append_right (by rw [ThingD.cells_size];omega),ThingD.cells_size,show (k+1)*8+j-8=k*8+j by omega];exact Xgz xs k j t (by simpa using h) hj
def ThingD.OfOk (t:ThingD):Prop:=t.of_ = -1\/∃ m:Nat,t.of_=(m:Int)/\m<9223372036854775808
structure Tryz.Xk (B:Nat) (W:World) (vb g cap:Nat) (L:List ThingD) (tm tn ln:Int):Prop where
 v:BoxN W vb 108 #[.slice (some ⟨g,0,none⟩) L.length cap,.int .u64 tm,.int .i64 tn,.int .i64 ln]
 row:W.ownsRow B 105 8 (.slice (some ⟨g,0,none⟩) L.length cap) L.length (X9 L)
 lim:L.length<=100
 num:∀ t∈L,t.n<9223372036854775808
 ofs:∀ t∈L,t.OfOk
theorem Tryz.Xk.cell {B:Nat} {W:World} {vb g cap:Nat} {L:List ThingD} {tm tn ln:Int} (h:Xk B W vb g cap L tm tn ln) {k:Nat} {t:ThingD} (hk:L[k]? = some t) (j:Nat) (hj:j<8):W.cell? ⟨g,k*8+j,none⟩=t.cells[j]?:=by
 have hc:=h.row.cells (g:=g) rfl (k*8+j);have hs:j<t.cells.size:=hj;have:=hc (t.cells[j]) (by rw [Xgz L k j t hk hj];simp [hs]);rw [Lib.add_plain] at this;simp only [Nat.zero_add] at this;rw [this];simp [hs]
theorem Tryz.Xk.cells {B:Nat} {W:World} {vb g cap:Nat} {L:List ThingD} {tm tn ln:Int} (h:Xk B W vb g cap L tm tn ln) {k:Nat} {t:ThingD} (hk:L[k]? = some t) :
  W.cell? ⟨g,k*8,none⟩=some (.bool t.token)/\W.cell? ⟨g,k*8+1,none⟩=some (.int .i64 t.n)/\W.cell? ⟨g,k*8+2,none⟩=some (.int .i64 t.of_)/\W.cell? ⟨g,k*8+3,none⟩=some (.string ⟨t.pth.toArray⟩)/\W.cell? ⟨g,k*8+4,none⟩=some (.int .u64 t.at_)/\W.cell? ⟨g,k*8+5,none⟩=some (.int .u64 t.last)/\W.cell? ⟨g,k*8+6,none⟩=some (.bool t.doomed)/\W.cell? ⟨g,k*8+7,none⟩=some (.int .i64 t.tries):=
 ⟨h.cell hk 0 (by omega),h.cell hk 1 (by omega),h.cell hk 2 (by omega),h.cell hk 3 (by omega),h.cell hk 4 (by omega),h.cell hk 5 (by omega),h.cell hk 6 (by omega),h.cell hk 7 (by omega)⟩
theorem Tryz.Xk.glt {B:Nat} {W:World} {vb g cap:Nat} {L:List ThingD} {tm tn ln:Int} (h:Xk B W vb g cap L tm tn ln):g<W.heap.size:=(h.row.lt g rfl).2
theorem Tryz.Xk.below {B:Nat} {W W':World} {vb g cap:Nat} {L:List ThingD} {tm tn ln:Int} (h:Xk B W vb g cap L tm tn ln) (hb:Below W.heap.size W W'):Xk B W' vb g cap L tm tn ln:=
 ⟨h.v.below hb h.v.lt,h.row.kept (row:=none) ⟨hb.os,hb.tape,hb.output,hb.size,fun k hk _=>hb.block k hk⟩ (Or.inr (by simp [Value.ownBlock])),h.lim,h.num,h.ofs⟩
theorem Zs {α:Type} {L:List α} {k:Nat} {t:α} (h:L[k]? = some t):L.take (k+1)=L.take k ++ [t]:=by
 rw [List.take_add_one,h];rfl
theorem Ua {α:Type} {L:List α} {k:Nat} (h:L.length<=k):L.take k=L:=List.take_of_length_le h
def countI (tk:Bool) (L:List ThingD):Nat:=(L.filter (fun t=>t.token==tk)).length
theorem Xjs (tk:Bool) (L:List ThingD) (t:ThingD):countI tk (L ++ [t])=countI tk L+(if t.token==tk then 1 else 0):=by
 unfold countI
 by_cases h:(t.token==tk)=true <;> simp [h]
theorem Xok (tk:Bool) (L:List ThingD):countI tk L<=L.length:=List.length_filter_le _ _
theorem Tryz.Xe0 (B:Nat) (vb g cap:Nat) (L:List ThingD) (tm tn ln:Int) (tk:Bool) (w:World) (h:Xk B w vb g cap L tm tn ln) :
  Calls prog 155 #[.pointer (some ⟨vb,0,none⟩),.bool tk] w fun e w'=>e=.returned (.int .i64 (countI tk L))/\w'=w:=by
 have c0:=h.v.cell 0 (v:=.slice (some ⟨g,0,none⟩) L.length cap) rfl;have hlim:=h.lim
 obtain⟨len,hlen⟩:∃ len,L.length=len:=⟨_,rfl⟩
 rw [hlen] at c0 hlim;have Hlen:=Xb hlen;clear hlen;go_enter func155,ntmps155;go_wp2
 go_loopw [5,6] (fun n i wr=>∃ k:Nat,k<=len/\i=.int .i64 k/\n=.int .i64 (countI tk (L.take k))/\wr=w) (fun _ i _=>len-(intOf i).toNat)
 case atStart=>exact⟨0,Nat.zero_le _,rfl,rfl,rfl⟩
 case round =>
  obtain⟨k,hk,rfl,rfl,rfl⟩:=hrel
  by_cases hkl:k<len
  ·obtain⟨t,ht⟩:∃ t,L[k]? = some t:=⟨L[k]'(by have:=Xa Hlen;omega),by simp [Xa Hlen,hkl]⟩
   have hc:=(h.cells ht).1;have hsn:=Xb (Xjs tk (L.take k) t);have htk:=Xb (Zs ht);have hcl:=Xok tk (L.take k)
   have hcl':(L.take k).length<=k:=by simp;omega
   generalize t.token=b at *;generalize countI tk (L.take k)=c at *
   cases b <;> cases tk
   all_goals
    go_wp2
    go_roundw
    case rel=>exact⟨k+1,by omega,rfl,by rw [Xa htk,Xa hsn];rfl,by first | rfl | trivial⟩
    case measure=>simp [intOf];omega
  obtain rfl:k=len:=by omega
  have htk:=Xb (Ua (Nat.le_of_eq (Xa Hlen)));generalize hcc:countI tk (L.take k)=c at *;go_wp2;go_ret;exact⟨by rw [<- hcc,Xa htk];rfl,rfl⟩
def minT (L:List ThingD):Int:=L.foldl (fun m t=>min m t.at_) 18446744073709551615
theorem Xn2 (L:List ThingD) (t:ThingD):minT (L ++ [t])=min (minT L) t.at_:=by simp [minT]
theorem Tryz.rNext (B:Nat) (vb g cap:Nat) (L:List ThingD) (tm tn ln:Int) (w:World) (h:Xk B w vb g cap L tm tn ln) :
  Calls prog 59 #[.pointer (some ⟨vb,0,none⟩)] w fun e w'=>e=.returned (.int .u64 (minT L))/\w'=w:=by
 have c0:=h.v.cell 0 (v:=.slice (some ⟨g,0,none⟩) L.length cap) rfl;have hlim:=h.lim
 obtain⟨len,hlen⟩:∃ len,L.length=len:=⟨_,rfl⟩
 rw [hlen] at c0 hlim;have Hlen:=Xb hlen;clear hlen;go_enter func59,ntmps59;go_wp2
 go_loopw [3,4] (fun n i wr=>∃ k:Nat,k<=len/\i=.int .i64 k/\n=.int .u64 (minT (L.take k))/\wr=w) (fun _ i _=>len-(intOf i).toNat)
 case atStart=>exact⟨0,Nat.zero_le _,rfl,rfl,rfl⟩
 case round =>
  obtain⟨k,hk,rfl,rfl,rfl⟩:=hrel
  by_cases hkl:k<len
  ·obtain⟨t,ht⟩:∃ t,L[k]? = some t:=⟨L[k]'(by have:=Xa Hlen;omega),by simp [Xa Hlen,hkl]⟩
   obtain⟨-,-,-,-,hc,-⟩:=h.cells ht;have hsn:=Xb (Xn2 (L.take k) t);have htk:=Xb (Zs ht);generalize t.at_=a at *;generalize minT (L.take k)=c at *
   by_cases hac:a<c
   focus
    have hm:Hid (min c a=a):=Xb (by omega)
   rotate_left
   focus
    have hm:Hid (min c a=c):=Xb (by omega)
   rotate_left
   all_goals
    go_wp2
    go_roundw
    case rel=>exact⟨k+1,by omega,rfl,by rw [Xa htk,Xa hsn,Xa hm],by first | rfl | trivial⟩
    case measure=>simp [intOf];omega
  obtain rfl:k=len:=by omega
  have htk:=Xb (Ua (Nat.le_of_eq (Xa Hlen)));generalize hcc:minT (L.take k)=c at *;go_wp2;go_ret;exact⟨by rw [<- hcc,Xa htk];rfl,rfl⟩
def Ud (id:List UInt8) (L:List ThingD):Int:=match L.findIdx? (fun t=>t.id==id) with | some i=>(i:Int) | none=>-1
theorem Xo8 {id:List UInt8} {L:List ThingD} {k:Nat} {t:ThingD} (hb:∀ x∈L.take k,x.id≠id) (hk:L[k]? = some t) (ht:t.id=id):Ud id L=k:=by
 have:L.findIdx? (fun t=>t.id==id)=some k:=by
  rw [List.findIdx?_eq_some_iff_getElem];obtain⟨hlt,hg⟩:=List.getElem?_eq_some_iff.1 hk;refine⟨hlt,by simp [hg,ht],fun j hj=>?_⟩;have:=hb (L[j]) (List.mem_take_iff_getElem.2 ⟨j,by omega,rfl⟩)
  simpa using this
 rw [Ud,this]
theorem Xlc {id:List UInt8} {L:List ThingD} (hb:∀ x∈L,x.id≠id):Ud id L = -1:=by
 have:L.findIdx? (fun t=>t.id==id)=none:=by
  rw [List.findIdx?_eq_none_iff];intro x hx
  simpa using hb x hx
 rw [Ud,this]
theorem Tryz.Xj4 (B:Nat) (vb g cap:Nat) (L:List ThingD) (tm tn ln:Int) (id:List UInt8) (w:World) (h:Xk B w vb g cap L tm tn ln) :
  Calls prog 157 #[.pointer (some ⟨vb,0,none⟩),.string ⟨id.toArray⟩] w fun e w'=>e=.returned (.int .i64 (Ud id L))/\Below w.heap.size w w':=by
 have hlim:=h.lim
 obtain⟨len,hlen⟩:∃ len,L.length=len:=⟨_,rfl⟩
 rw [hlen] at hlim;have Hlen:=Xb hlen;clear hlen;go_enter func157,ntmps157;go_wp2
 go_loopw [5] (fun i wr=>∃ k:Nat,k<=len/\i=.int .i64 k/\Hid (∀ x∈L.take k,x.id≠id)/\Below w.heap.size w wr) (fun i _=>len-(intOf i).toNat)
 case atStart=>exact⟨0,Nat.zero_le _,rfl,Xb (by simp),Below.refl _ _⟩
 case round =>
  obtain⟨k,hk,rfl,hno,hB⟩:=hrel;have h':=h.below hB;have c0:=h'.v.cell 0 (v:=.slice (some ⟨g,0,none⟩) L.length cap) rfl;rw [Xa Hlen] at c0
  by_cases hkl:k<len
  ·obtain⟨t,ht⟩:∃ t,L[k]? = some t:=⟨L[k]'(by have:=Xa Hlen;omega),by simp [Xa Hlen,hkl]⟩
   obtain⟨x0,x1,x2,x3,x4,x5,x6,x7⟩:=h'.cells ht;have htk:=Xb (Zs ht)
   have hID:=fun W=>rId t (h.num t (List.mem_of_getElem? ht)) W
   simp only [ThingD.cells] at hID
   by_cases hid:t.id=id
   ·have hres:=Xb (Xo8 (Xa hno) ht hid)
    rw [hid] at hID
    go_wp2_with (go_at_call 105;refine(hID _).mono ?_;rintro e w1 ⟨rfl,hb1⟩)
    go_ret;exact⟨by rw [Xa hres];rfl,hB.trans (hb1.mono hB.size)⟩
   have hne:(t.id==id)=false:=by simpa using hid
   have hno':Hid (∀ x∈L.take k ++ [t],x.id≠id):=Xb (fun x hx=>by
    rcases List.mem_append.1 hx with hx | hx
    ·exact Xa hno x hx
    rw [List.mem_singleton.1 hx];exact hid)
   have hid':=Xb hid;clear hid;generalize t.id=tid at *
   go_wp2_with (go_at_call 105;refine(hID _).mono ?_;rintro e w1 ⟨rfl,hb1⟩)
   go_roundw
   case rel=>exact⟨k+1,by omega,rfl,by rw [Xa htk];exact hno',hB.trans (hb1.mono hB.size)⟩
   case measure=>simp [intOf];omega
  obtain rfl:k=len:=by omega
  have hres:=Xb (Xlc (L:=L) (id:=id) (by have:=Xa hno;rwa [Ua (Nat.le_of_eq (Xa Hlen))] at this));go_wp2;go_ret;exact⟨by rw [Xa hres];rfl,hB⟩
def liveI (tm:Int) (id:List UInt8) (tk:Bool) (L:List ThingD):Int:=
 match L.findIdx? (fun t=>t.id==id) with
 | some i=>match L[i]? with
  | some t=>if t.token==tk&&t.state tm==1 then (i:Int) else -1
  | none=>-1
 | none=>-1
theorem M8 (id:List UInt8) (L:List ThingD):(∃(i:Nat) (t:ThingD),L.findIdx? (fun t=>t.id==id)=some i/\L[i]? = some t/\Ud id L=i)\/(L.findIdx? (fun t=>t.id==id)=none/\Ud id L = -1):=by
 cases he:L.findIdx? (fun t=>t.id==id) with
 | none=>exact .inr ⟨rfl,by rw [Ud,he]⟩
 | some i =>
  obtain⟨hlt,-⟩:=List.findIdx?_eq_some_iff_getElem.1 he;exact .inl ⟨i,L[i],rfl,by simp [hlt],by rw [Ud,he]⟩
theorem Tryz.Xcg (B:Nat) (vb g cap:Nat) (L:List ThingD) (tm tn ln:Int) (id:List UInt8) (tk:Bool) (w:World) (h:Xk B w vb g cap L tm tn ln) :
  Calls prog 154 #[.pointer (some ⟨vb,0,none⟩),.string ⟨id.toArray⟩,.bool tk] w fun e w'=>e=.returned (.int .i64 (liveI tm id tk L))/\Below w.heap.size w w':=by
 have hF:=Xj4 B vb g cap L tm tn ln id w h;have hlim:=h.lim
 rcases M8 id L with⟨i,t,he,ht,hfi⟩ | ⟨he,hfi⟩
 ·have hres:Hid (liveI tm id tk L=if t.token==tk&&t.state tm==1 then (i:Int) else -1):=Xb (by simp [liveI,he,ht])
  rw [hfi] at hF;clear hfi he;have hil:i<L.length:=(List.getElem?_eq_some_iff.1 ht).1
  have hc:=fun W (hb:Below w.heap.size w W)=>(h.below hb).cells ht
  have hv:=fun W (hb:Below w.heap.size w W)=>(h.below hb).v.cell 0 (v:=.slice (some ⟨g,0,none⟩) L.length cap) rfl
  have hS:=fun W (hb:Below w.heap.size w W)=>Xfo t vb tm W ((h.below hb).v.cell 1 (v:=.int .u64 tm) rfl)
  simp only [ThingD.cells] at hS;generalize t.state tm=st at *;generalize L.length=len at *;generalize liveI tm id tk L=res at *;generalize t.token=b at *
  have hnn:¬ (i:Int)<0:=by omega
  by_cases hst:st=1
  ·subst hst
   cases b <;> cases tk
   all_goals
    go_enter func154,ntmps154
    go_wp2_with (first
     | (go_at_call 157;refine hF.mono ?_;rintro e w1 ⟨rfl,hb1⟩;obtain⟨x0,x1,x2,x3,x4,x5,x6,x7⟩:=hc w1 hb1;have v0:=hv w1 hb1)
     | (go_at_call 150;refine(hS _ hb1).mono ?_;rintro e w2 ⟨rfl,hb2⟩))
    go_ret
    first
     | exact⟨by rw [Xa hres];rfl,hb1.trans (hb2.mono hb1.size)⟩
     | exact⟨by rw [Xa hres];rfl,hb1⟩
  have hst':(st==1)=false:=by simpa using hst
  have hres':Hid (res = -1):=Xb (by rw [Xa hres,hst'];simp);clear hres hst
  cases b <;> cases tk
  all_goals
   go_enter func154,ntmps154
   go_wp2_with (first
    | (go_at_call 157;refine hF.mono ?_;rintro e w1 ⟨rfl,hb1⟩;obtain⟨x0,x1,x2,x3,x4,x5,x6,x7⟩:=hc w1 hb1;have v0:=hv w1 hb1)
    | (go_at_call 150;refine(hS _ hb1).mono ?_;rintro e w2 ⟨rfl,hb2⟩))
   go_ret
   first
    | exact⟨by rw [Xa hres'];rfl,hb1.trans (hb2.mono hb1.size)⟩
    | exact⟨by rw [Xa hres'];rfl,hb1⟩
 have hres:Hid (liveI tm id tk L = -1):=Xb (by simp [liveI,he]);rw [hfi] at hF;clear hfi he;generalize liveI tm id tk L=res at *;go_enter func154,ntmps154
 go_wp2_with (go_at_call 157;refine hF.mono ?_;rintro e w1 ⟨rfl,hb1⟩)
 go_ret;exact⟨by rw [Xa hres];rfl,hb1⟩
end Go.Proofs
