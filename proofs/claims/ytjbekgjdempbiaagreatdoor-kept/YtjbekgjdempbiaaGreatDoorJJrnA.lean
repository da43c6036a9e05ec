import Derived.Test.YtjbekgjdempbiaaGreatDoorJRefG
import Derived.Test.YtjbekgjdempbiaaGreatDoorJMapOps
import Derived.Deep.DeepCutAuto
import Derived.Test.YtjbekgjdempbiaaGreatDoorJStr
import Derived.Laws.RangeAny
set_option maxRecDepth 100000
set_option maxHeartbeats 8000000
namespace Go.Proofs
open Go.RowKit Go.Sort
theorem BoxN.Xut {W:World} {q:Nat} {t:TypeId} {c0 c1 c2 c3 c4:Value} (h:BoxN W q t #[c0,c1,c2,c3,c4]):(W.cell? ⟨q,0,none⟩=some c0/\W.cell? ⟨q,1,none⟩=some c1/\W.cell? ⟨q,2,none⟩=some c2/\W.cell? ⟨q,3,none⟩=some c3/\W.cell? ⟨q,4,none⟩=some c4)/\(W.frozen? ⟨q,0,none⟩=false/\W.frozen? ⟨q,1,none⟩=false/\W.frozen? ⟨q,2,none⟩=false/\W.frozen? ⟨q,3,none⟩=false/\W.frozen? ⟨q,4,none⟩=false):=
 ⟨⟨h.cell 0 rfl,h.cell 1 rfl,h.cell 2 rfl,h.cell 3 rfl,h.cell 4 rfl⟩,⟨h.frozen 0,h.frozen 1,h.frozen 2,h.frozen 3,h.frozen 4⟩⟩
theorem BoxN.sets5 {W:World} {q:Nat} {t:TypeId} {c0 c1 c2 c3 c4:Value} (h:BoxN W q t #[c0,c1,c2,c3,c4]) (v0 v1 v2 v3 v4:Value):BoxN (((((W.setCell ⟨q,0,none⟩ v0).setCell ⟨q,1,none⟩ v1).setCell ⟨q,2,none⟩ v2).setCell ⟨q,3,none⟩ v3).setCell ⟨q,4,none⟩ v4) q t #[v0,v1,v2,v3,v4]:=by
 have h1:BoxN (W.setCell ⟨q,0,none⟩ v0) q t #[v0,c1,c2,c3,c4]:=h.set 0 v0;have h2:BoxN ((W.setCell ⟨q,0,none⟩ v0).setCell ⟨q,1,none⟩ v1) q t #[v0,v1,c2,c3,c4]:=h1.set 1 v1;have h3:BoxN (((W.setCell ⟨q,0,none⟩ v0).setCell ⟨q,1,none⟩ v1).setCell ⟨q,2,none⟩ v2) q t #[v0,v1,v2,c3,c4]:=h2.set 2 v2;have h4:BoxN ((((W.setCell ⟨q,0,none⟩ v0).setCell ⟨q,1,none⟩ v1).setCell ⟨q,2,none⟩ v2).setCell ⟨q,3,none⟩ v3) q t #[v0,v1,v2,v3,c4]:=h3.set 3 v3;have h5:BoxN (((((W.setCell ⟨q,0,none⟩ v0).setCell ⟨q,1,none⟩ v1).setCell ⟨q,2,none⟩ v2).setCell ⟨q,3,none⟩ v3).setCell ⟨q,4,none⟩ v4) q t #[v0,v1,v2,v3,v4]:=h4.set 4 v4;exact h5
theorem Xly {B:Nat} {w W:World} (hb:Below B w W) {q:Nat} (hq:B<=q) (v0 v1 v2 v3 v4:Value):Below B w (((((W.setCell ⟨q,0,none⟩ v0).setCell ⟨q,1,none⟩ v1).setCell ⟨q,2,none⟩ v2).setCell ⟨q,3,none⟩ v3).setCell ⟨q,4,none⟩ v4):=(((((hb.setCell (p:=⟨q,0,none⟩) hq v0).setCell (p:=⟨q,1,none⟩) hq v1).setCell (p:=⟨q,2,none⟩) hq v2).setCell (p:=⟨q,3,none⟩) hq v3).setCell (p:=⟨q,4,none⟩) hq v4)
abbrev Xqr (W:World) (rb:Nat):Prop:=
 (W.cell? ⟨rb,0,none⟩=some (X5 W ⟨rb,0,none⟩)/\W.cell? ⟨rb,1,none⟩=some (X5 W ⟨rb,1,none⟩)/\W.cell? ⟨rb,2,none⟩=some (X5 W ⟨rb,2,none⟩)/\W.cell? ⟨rb,3,none⟩=some (X5 W ⟨rb,3,none⟩)/\W.cell? ⟨rb,4,none⟩=some (X5 W ⟨rb,4,none⟩)) /\
 (W.frozen? ⟨rb,0,none⟩=false/\W.frozen? ⟨rb,1,none⟩=false/\W.frozen? ⟨rb,2,none⟩=false/\W.frozen? ⟨rb,3,none⟩=false/\W.frozen? ⟨rb,4,none⟩=false)
theorem Xqr.set {W:World} {rb:Nat} (h:Xqr W rb) (a:Addr) (v:Value):Xqr (W.setCell a v) rb:=by
 obtain⟨⟨c0,c1,c2,c3,c4⟩,f0,f1,f2,f3,f4⟩:=h
 have g:∀ i,(W.cell? ⟨rb,i,none⟩).isSome->((W.setCell a v).cell? ⟨rb,i,none⟩).isSome:=fun i hi=>by
  obtain⟨x,hx⟩:=Option.isSome_iff_exists.1 hi;obtain⟨y,hy⟩:=cell?_setCell_some (w:=W) (p:=a) (x:=v) hx;rw [hy];rfl
 have f:∀ i,(W.setCell a v).frozen? ⟨rb,i,none⟩=W.frozen? ⟨rb,i,none⟩:=fun i=>World.frozen?_setCell _ _ _ _
 exact⟨⟨Xg (g 0 (by rw [c0];rfl)),Xg (g 1 (by rw [c1];rfl)),Xg (g 2 (by rw [c2];rfl)),Xg (g 3 (by rw [c3];rfl)),Xg (g 4 (by rw [c4];rfl))⟩,(f 0).trans f0,(f 1).trans f1,(f 2).trans f2,(f 3).trans f3,(f 4).trans f4⟩
theorem Xqr.sets {W:World} {rb:Nat} (h:Xqr W rb) (v0 v1 v2 v3 v4:Value):(((((W.setCell ⟨rb,0,none⟩ v0).setCell ⟨rb,1,none⟩ v1).setCell ⟨rb,2,none⟩ v2).setCell ⟨rb,3,none⟩ v3).setCell ⟨rb,4,none⟩ v4).cell? ⟨rb,0,none⟩=some v0/\(((((W.setCell ⟨rb,0,none⟩ v0).setCell ⟨rb,1,none⟩ v1).setCell ⟨rb,2,none⟩ v2).setCell ⟨rb,3,none⟩ v3).setCell ⟨rb,4,none⟩ v4).cell? ⟨rb,1,none⟩=some v1/\(((((W.setCell ⟨rb,0,none⟩ v0).setCell ⟨rb,1,none⟩ v1).setCell ⟨rb,2,none⟩ v2).setCell ⟨rb,3,none⟩ v3).setCell ⟨rb,4,none⟩ v4).cell? ⟨rb,2,none⟩=some v2/\(((((W.setCell ⟨rb,0,none⟩ v0).setCell ⟨rb,1,none⟩ v1).setCell ⟨rb,2,none⟩ v2).setCell ⟨rb,3,none⟩ v3).setCell ⟨rb,4,none⟩ v4).cell? ⟨rb,3,none⟩=some v3/\(((((W.setCell ⟨rb,0,none⟩ v0).setCell ⟨rb,1,none⟩ v1).setCell ⟨rb,2,none⟩ v2).setCell ⟨rb,3,none⟩ v3).setCell ⟨rb,4,none⟩ v4).cell? ⟨rb,4,none⟩=some v4:=by
 have o:∀(V:World) (i j:Nat) (v:Value),i≠j->(V.setCell ⟨rb,i,none⟩ v).cell? ⟨rb,j,none⟩=V.cell? ⟨rb,j,none⟩:=fun V i j v _=>World.cell?_setCell_other _ _ _ _ (by simp)
 have h0:=h;have h1:=h0.set ⟨rb,0,none⟩ v0;have h2:=h1.set ⟨rb,1,none⟩ v1;have h3:=h2.set ⟨rb,2,none⟩ v2;have h4:=h3.set ⟨rb,3,none⟩ v3;have s0:=World.cell?_setCell_same _ _ v0 h0.1.1;have s1:=World.cell?_setCell_same _ _ v1 h1.1.2.1;have s2:=World.cell?_setCell_same _ _ v2 h2.1.2.2.1;have s3:=World.cell?_setCell_same _ _ v3 h3.1.2.2.2.1;have s4:=World.cell?_setCell_same _ _ v4 h4.1.2.2.2.2;refine⟨?_,?_,?_,?_,s4⟩
 ·rw [o _ 4 0 _ (by omega),o _ 3 0 _ (by omega),o _ 2 0 _ (by omega),o _ 1 0 _ (by omega),s0]
 ·rw [o _ 4 1 _ (by omega),o _ 3 1 _ (by omega),o _ 2 1 _ (by omega),s1]
 ·rw [o _ 4 2 _ (by omega),o _ 3 2 _ (by omega),s2]
 rw [o _ 4 3 _ (by omega),s3]
theorem BoxN.open7 {W:World} {q:Nat} {t:TypeId} {c0 c1 c2 c3 c4 c5 c6:Value} (h:BoxN W q t #[c0,c1,c2,c3,c4,c5,c6]):(W.cell? ⟨q,0,none⟩=some c0/\W.cell? ⟨q,1,none⟩=some c1/\W.cell? ⟨q,2,none⟩=some c2/\W.cell? ⟨q,3,none⟩=some c3/\W.cell? ⟨q,4,none⟩=some c4/\W.cell? ⟨q,5,none⟩=some c5/\W.cell? ⟨q,6,none⟩=some c6)/\(W.frozen? ⟨q,0,none⟩=false/\W.frozen? ⟨q,1,none⟩=false/\W.frozen? ⟨q,2,none⟩=false/\W.frozen? ⟨q,3,none⟩=false/\W.frozen? ⟨q,4,none⟩=false/\W.frozen? ⟨q,5,none⟩=false/\W.frozen? ⟨q,6,none⟩=false):=
 ⟨⟨h.cell 0 rfl,h.cell 1 rfl,h.cell 2 rfl,h.cell 3 rfl,h.cell 4 rfl,h.cell 5 rfl,h.cell 6 rfl⟩,⟨h.frozen 0,h.frozen 1,h.frozen 2,h.frozen 3,h.frozen 4,h.frozen 5,h.frozen 6⟩⟩
theorem BoxN.sets7 {W:World} {q:Nat} {t:TypeId} {c0 c1 c2 c3 c4 c5 c6:Value} (h:BoxN W q t #[c0,c1,c2,c3,c4,c5,c6]) (v0 v1 v2 v3 v4 v5 v6:Value):BoxN (((((((W.setCell ⟨q,0,none⟩ v0).setCell ⟨q,1,none⟩ v1).setCell ⟨q,2,none⟩ v2).setCell ⟨q,3,none⟩ v3).setCell ⟨q,4,none⟩ v4).setCell ⟨q,5,none⟩ v5).setCell ⟨q,6,none⟩ v6) q t #[v0,v1,v2,v3,v4,v5,v6]:=by
 have h1:BoxN (W.setCell ⟨q,0,none⟩ v0) q t #[v0,c1,c2,c3,c4,c5,c6]:=h.set 0 v0;have h2:BoxN ((W.setCell ⟨q,0,none⟩ v0).setCell ⟨q,1,none⟩ v1) q t #[v0,v1,c2,c3,c4,c5,c6]:=h1.set 1 v1;have h3:BoxN (((W.setCell ⟨q,0,none⟩ v0).setCell ⟨q,1,none⟩ v1).setCell ⟨q,2,none⟩ v2) q t #[v0,v1,v2,c3,c4,c5,c6]:=h2.set 2 v2;have h4:BoxN ((((W.setCell ⟨q,0,none⟩ v0).setCell ⟨q,1,none⟩ v1).setCell ⟨q,2,none⟩ v2).setCell ⟨q,3,none⟩ v3) q t #[v0,v1,v2,v3,c4,c5,c6]:=h3.set 3 v3;have h5:BoxN (((((W.setCell ⟨q,0,none⟩ v0).setCell ⟨q,1,none⟩ v1).setCell ⟨q,2,none⟩ v2).setCell ⟨q,3,none⟩ v3).setCell ⟨q,4,none⟩ v4) q t #[v0,v1,v2,v3,v4,c5,c6]:=h4.set 4 v4;have h6:BoxN ((((((W.setCell ⟨q,0,none⟩ v0).setCell ⟨q,1,none⟩ v1).setCell ⟨q,2,none⟩ v2).setCell ⟨q,3,none⟩ v3).setCell ⟨q,4,none⟩ v4).setCell ⟨q,5,none⟩ v5) q t #[v0,v1,v2,v3,v4,v5,c6]:=h5.set 5 v5;have h7:BoxN (((((((W.setCell ⟨q,0,none⟩ v0).setCell ⟨q,1,none⟩ v1).setCell ⟨q,2,none⟩ v2).setCell ⟨q,3,none⟩ v3).setCell ⟨q,4,none⟩ v4).setCell ⟨q,5,none⟩ v5).setCell ⟨q,6,none⟩ v6) q t #[v0,v1,v2,v3,v4,v5,v6]:=h6.set 6 v6;exact h7
abbrev Xbx (W:World) (rb:Nat):Prop:=
 (W.cell? ⟨rb,0,none⟩=some (X5 W ⟨rb,0,none⟩)/\W.cell? ⟨rb,1,none⟩=some (X5 W ⟨rb,1,none⟩)/\W.cell? ⟨rb,2,none⟩=some (X5 W ⟨rb,2,none⟩)/\W.cell? ⟨rb,3,none⟩=some (X5 W ⟨rb,3,none⟩)/\W.cell? ⟨rb,4,none⟩=some (X5 W ⟨rb,4,none⟩)/\W.cell? ⟨rb,5,none⟩=some (X5 W ⟨rb,5,none⟩)/\W.cell? ⟨rb,6,none⟩=some (X5 W ⟨rb,6,none⟩)) /\
 (W.frozen? ⟨rb,0,none⟩=false/\W.frozen? ⟨rb,1,none⟩=false/\W.frozen? ⟨rb,2,none⟩=false/\W.frozen? ⟨rb,3,none⟩=false/\W.frozen? ⟨rb,4,none⟩=false/\W.frozen? ⟨rb,5,none⟩=false/\W.frozen? ⟨rb,6,none⟩=false)
theorem Xbx.below {W W':World} {rb:Nat} (h:Xbx W rb) (hb:Below W.heap.size W W'):Xbx W' rb:=by
 have hlt:rb<W.heap.size:=World.block_lt_of_cell? _ _ h.1.1
 have c:∀ i,W'.cell? ⟨rb,i,none⟩=W.cell? ⟨rb,i,none⟩:=fun i=>hb.cell (p:=⟨rb,i,none⟩) hlt
 have f:∀ i,W'.frozen? ⟨rb,i,none⟩=W.frozen? ⟨rb,i,none⟩:=fun i=>hb.frozen (p:=⟨rb,i,none⟩) hlt
 have e:∀ i,X5 W' ⟨rb,i,none⟩=X5 W ⟨rb,i,none⟩:=fun i=>by unfold X5;rw [c i]
 simp only [Xbx,c,f,e];exact h
theorem Xbx.mk {W:World} {rb:Nat} (h:∀ i,i<7->(W.cell? ⟨rb,i,none⟩).isSome) (f:∀ i,i<7->W.frozen? ⟨rb,i,none⟩=false):Xbx W rb:=
 ⟨⟨Xg (h 0 (by omega)),Xg (h 1 (by omega)),Xg (h 2 (by omega)),Xg (h 3 (by omega)),Xg (h 4 (by omega)),Xg (h 5 (by omega)),Xg (h 6 (by omega))⟩,f 0 (by omega),f 1 (by omega),f 2 (by omega),f 3 (by omega),f 4 (by omega),f 5 (by omega),f 6 (by omega)⟩
theorem BoxN.row7 {W:World} {q:Nat} {t:TypeId} {c0 c1 c2 c3 c4 c5 c6:Value} (h:BoxN W q t #[c0,c1,c2,c3,c4,c5,c6]):Xbx W q:=by
 refine Xbx.mk (fun i hi=>?_) (fun i _=>h.frozen i);rw [h.cell i (v:=#[c0,c1,c2,c3,c4,c5,c6][i]) (by simp [hi])];rfl
theorem Xbx.set {W:World} {rb:Nat} (h:Xbx W rb) (a:Addr) (v:Value):Xbx (W.setCell a v) rb:=by
 obtain⟨⟨c0,c1,c2,c3,c4,c5,c6⟩,f0,f1,f2,f3,f4,f5,f6⟩:=h
 have g:∀ i,(W.cell? ⟨rb,i,none⟩).isSome->((W.setCell a v).cell? ⟨rb,i,none⟩).isSome:=fun i hi=>by
  obtain⟨x,hx⟩:=Option.isSome_iff_exists.1 hi;obtain⟨y,hy⟩:=cell?_setCell_some (w:=W) (p:=a) (x:=v) hx;rw [hy];rfl
 have f:∀ i,(W.setCell a v).frozen? ⟨rb,i,none⟩=W.frozen? ⟨rb,i,none⟩:=fun i=>World.frozen?_setCell _ _ _ _
 exact⟨⟨Xg (g 0 (by rw [c0];rfl)),Xg (g 1 (by rw [c1];rfl)),Xg (g 2 (by rw [c2];rfl)),Xg (g 3 (by rw [c3];rfl)),Xg (g 4 (by rw [c4];rfl)),Xg (g 5 (by rw [c5];rfl)),Xg (g 6 (by rw [c6];rfl))⟩,(f 0).trans f0,(f 1).trans f1,(f 2).trans f2,(f 3).trans f3,(f 4).trans f4,(f 5).trans f5,(f 6).trans f6⟩
theorem Xbx.sets {W:World} {rb:Nat} (h:Xbx W rb) (v0 v1 v2 v3 v4 v5 v6:Value):(((((((W.setCell ⟨rb,0,none⟩ v0).setCell ⟨rb,1,none⟩ v1).setCell ⟨rb,2,none⟩ v2).setCell ⟨rb,3,none⟩ v3).setCell ⟨rb,4,none⟩ v4).setCell ⟨rb,5,none⟩ v5).setCell ⟨rb,6,none⟩ v6).cell? ⟨rb,0,none⟩=some v0/\(((((((W.setCell ⟨rb,0,none⟩ v0).setCell ⟨rb,1,none⟩ v1).setCell ⟨rb,2,none⟩ v2).setCell ⟨rb,3,none⟩ v3).setCell ⟨rb,4,none⟩ v4).setCell ⟨rb,5,none⟩ v5).setCell ⟨rb,6,none⟩ v6).cell? ⟨rb,1,none⟩=some v1/\(((((((W.setCell ⟨rb,0,none⟩ v0).setCell ⟨rb,1,none⟩ v1).setCell ⟨rb,2,none⟩ v2).setCell ⟨rb,3,none⟩ v3).setCell ⟨rb,4,none⟩ v4).setCell ⟨rb,5,none⟩ v5).setCell ⟨rb,6,none⟩ v6).cell? ⟨rb,2,none⟩=some v2/\(((((((W.setCell ⟨rb,0,none⟩ v0).setCell ⟨rb,1,none⟩ v1).setCell ⟨rb,2,none⟩ v2).setCell ⟨rb,3,none⟩ v3).setCell ⟨rb,4,none⟩ v4).setCell ⟨rb,5,none⟩ v5).setCell ⟨rb,6,none⟩ v6).cell? ⟨rb,3,none⟩=some v3/\(((((((W.setCell ⟨rb,0,none⟩ v0).setCell ⟨rb,1,none⟩ v1).setCell ⟨rb,2,none⟩ v2).setCell ⟨rb,3,none⟩ v3).setCell ⟨rb,4,none⟩ v4).setCell ⟨rb,5,none⟩ v5).setCell ⟨rb,6,none⟩ v6).cell? ⟨rb,4,none⟩=some v4/\(((((((W.setCell ⟨rb,0,none⟩ v0).setCell ⟨rb,1,none⟩ v1).setCell ⟨rb,2,none⟩ v2).setCell ⟨rb,3,none⟩ v3).setCell ⟨rb,4,none⟩ v4).setCell ⟨rb,5,none⟩ v5).setCell ⟨rb,6,none⟩ v6).cell? ⟨rb,5,none⟩=some v5/\(((((((W.setCell ⟨rb,0,none⟩ v0).setCell ⟨rb,1,none⟩ v1).setCell ⟨rb,2,none⟩ v2).setCell ⟨rb,3,none⟩ v3).setCell ⟨rb,4,none⟩ v4).setCell ⟨rb,5,none⟩ v5).setCell ⟨rb,6,none⟩ v6).cell? ⟨rb,6,none⟩=some v6:=by
 have o:∀(V:World) (i j:Nat) (v:Value),i≠j->(V.setCell ⟨rb,i,none⟩ v).cell? ⟨rb,j,none⟩=V.cell? ⟨rb,j,none⟩:=fun V i j v _=>World.cell?_setCell_other _ _ _ _ (by simp)
 have h0:=h;have h1:=h0.set ⟨rb,0,none⟩ v0;have h2:=h1.set ⟨rb,1,none⟩ v1;have h3:=h2.set ⟨rb,2,none⟩ v2;have h4:=h3.set ⟨rb,3,none⟩ v3;have h5:=h4.set ⟨rb,4,none⟩ v4;have h6:=h5.set ⟨rb,5,none⟩ v5;have s0:=World.cell?_setCell_same _ _ v0 h0.1.1;have s1:=World.cell?_setCell_same _ _ v1 h1.1.2.1;have s2:=World.cell?_setCell_same _ _ v2 h2.1.2.2.1;have s3:=World.cell?_setCell_same _ _ v3 h3.1.2.2.2.1;have s4:=World.cell?_setCell_same _ _ v4 h4.1.2.2.2.2.1;have s5:=World.cell?_setCell_same _ _ v5 h5.1.2.2.2.2.2.1;have s6:=World.cell?_setCell_same _ _ v6 h6.1.2.2.2.2.2.2;refine⟨?_,?_,?_,?_,?_,?_,s6⟩
 ·rw [o _ 6 0 _ (by omega),o _ 5 0 _ (by omega),o _ 4 0 _ (by omega),o _ 3 0 _ (by omega),o _ 2 0 _ (by omega),o _ 1 0 _ (by omega),s0]
 ·rw [o _ 6 1 _ (by omega),o _ 5 1 _ (by omega),o _ 4 1 _ (by omega),o _ 3 1 _ (by omega),o _ 2 1 _ (by omega),s1]
 ·rw [o _ 6 2 _ (by omega),o _ 5 2 _ (by omega),o _ 4 2 _ (by omega),o _ 3 2 _ (by omega),s2]
 ·rw [o _ 6 3 _ (by omega),o _ 5 3 _ (by omega),o _ 4 3 _ (by omega),s3]
 ·rw [o _ 6 4 _ (by omega),o _ 5 4 _ (by omega),s4]
 rw [o _ 6 5 _ (by omega),s5]
theorem BoxN.Xmv {W:World} {q:Nat} {t:TypeId} {c0 c1 c2 c3 c4 c5 c6 c7 c8 c9:Value} (h:BoxN W q t #[c0,c1,c2,c3,c4,c5,c6,c7,c8,c9]):(W.cell? ⟨q,0,none⟩=some c0/\W.cell? ⟨q,1,none⟩=some c1/\W.cell? ⟨q,2,none⟩=some c2/\W.cell? ⟨q,3,none⟩=some c3/\W.cell? ⟨q,4,none⟩=some c4/\W.cell? ⟨q,5,none⟩=some c5/\W.cell? ⟨q,6,none⟩=some c6/\W.cell? ⟨q,7,none⟩=some c7/\W.cell? ⟨q,8,none⟩=some c8/\W.cell? ⟨q,9,none⟩=some c9)/\(W.frozen? ⟨q,0,none⟩=false/\W.frozen? ⟨q,1,none⟩=false/\W.frozen? ⟨q,2,none⟩=false/\W.frozen? ⟨q,3,none⟩=false/\W.frozen? ⟨q,4,none⟩=false/\W.frozen? ⟨q,5,none⟩=false/\W.frozen? ⟨q,6,none⟩=false/\W.frozen? ⟨q,7,none⟩=false/\W.frozen? ⟨q,8,none⟩=false/\W.frozen? ⟨q,9,none⟩=false):=
 ⟨⟨h.cell 0 rfl,h.cell 1 rfl,h.cell 2 rfl,h.cell 3 rfl,h.cell 4 rfl,h.cell 5 rfl,h.cell 6 rfl,h.cell 7 rfl,h.cell 8 rfl,h.cell 9 rfl⟩,⟨h.frozen 0,h.frozen 1,h.frozen 2,h.frozen 3,h.frozen 4,h.frozen 5,h.frozen 6,h.frozen 7,h.frozen 8,h.frozen 9⟩⟩
theorem BoxN.sets10 {W:World} {q:Nat} {t:TypeId} {c0 c1 c2 c3 c4 c5 c6 c7 c8 c9:Value} (h:BoxN W q t #[c0,c1,c2,c3,c4,c5,c6,c7,c8,c9]) (v0 v1 v2 v3 v4 v5 v6 v7 v8 v9:Value):BoxN ((((((((((W.setCell ⟨q,0,none⟩ v0).setCell ⟨q,1,none⟩ v1).setCell ⟨q,2,none⟩ v2).setCell ⟨q,3,none⟩ v3).setCell ⟨q,4,none⟩ v4).setCell ⟨q,5,none⟩ v5).setCell ⟨q,6,none⟩ v6).setCell ⟨q,7,none⟩ v7).setCell ⟨q,8,none⟩ v8).setCell ⟨q,9,none⟩ v9) q t #[v0,v1,v2,v3,v4,v5,v6,v7,v8,v9]:=by
 have h1:BoxN (W.setCell ⟨q,0,none⟩ v0) q t #[v0,c1,c2,c3,c4,c5,c6,c7,c8,c9]:=h.set 0 v0;have h2:BoxN ((W.setCell ⟨q,0,none⟩ v0).setCell ⟨q,1,none⟩ v1) q t #[v0,v1,c2,c3,c4,c5,c6,c7,c8,c9]:=h1.set 1 v1;have h3:BoxN (((W.setCell ⟨q,0,none⟩ v0).setCell ⟨q,1,none⟩ v1).setCell ⟨q,2,none⟩ v2) q t #[v0,v1,v2,c3,c4,c5,c6,c7,c8,c9]:=h2.set 2 v2;have h4:BoxN ((((W.setCell ⟨q,0,none⟩ v0).setCell ⟨q,1,none⟩ v1).setCell ⟨q,2,none⟩ v2).setCell ⟨q,3,none⟩ v3) q t #[v0,v1,v2,v3,c4,c5,c6,c7,c8,c9]:=h3.set 3 v3;have h5:BoxN (((((W.setCell ⟨q,0,none⟩ v0).setCell ⟨q,1,none⟩ v1).setCell ⟨q,2,none⟩ v2).setCell ⟨q,3,none⟩ v3).setCell ⟨q,4,none⟩ v4) q t #[v0,v1,v2,v3,v4,c5,c6,c7,c8,c9]:=h4.set 4 v4;have h6:BoxN ((((((W.setCell ⟨q,0,none⟩ v0).setCell ⟨q,1,none⟩ v1).setCell ⟨q,2,none⟩ v2).setCell ⟨q,3,none⟩ v3).setCell ⟨q,4,none⟩ v4).setCell ⟨q,5,none⟩ v5) q t #[v0,v1,v2,v3,v4,v5,c6,c7,c8,c9]:=h5.set 5 v5;have h7:BoxN (((((((W.setCell ⟨q,0,none⟩ v0).setCell ⟨q,1,none⟩ v1).setCell ⟨q,2,none⟩ v2).setCell ⟨q,3,none⟩ v3).setCell ⟨q,4,none⟩ v4).setCell ⟨q,5,none⟩ v5).setCell ⟨q,6,none⟩ v6) q t #[v0,v1,v2,v3,v4,v5,v6,c7,c8,c9]:=h6.set 6 v6;have h8:BoxN ((((((((W.setCell ⟨q,0,none⟩ v0).setCell ⟨q,1,none⟩ v1).setCell ⟨q,2,none⟩ v2).setCell ⟨q,3,none⟩ v3).setCell ⟨q,4,none⟩ v4).setCell ⟨q,5,none⟩ v5).setCell ⟨q,6,none⟩ v6).setCell ⟨q,7,none⟩ v7) q t #[v0,v1,v2,v3,v4,v5,v6,v7,c8,c9]:=h7.set 7 v7;have h9:BoxN (((((((((W.setCell ⟨q,0,none⟩ v0).setCell ⟨q,1,none⟩ v1).setCell ⟨q,2,none⟩ v2).setCell ⟨q,3,none⟩ v3).setCell ⟨q,4,none⟩ v4).setCell ⟨q,5,none⟩ v5).setCell ⟨q,6,none⟩ v6).setCell ⟨q,7,none⟩ v7).setCell ⟨q,8,none⟩ v8) q t #[v0,v1,v2,v3,v4,v5,v6,v7,v8,c9]:=h8.set 8 v8;have h10:BoxN ((((((((((W.setCell ⟨q,0,none⟩ v0).setCell ⟨q,1,none⟩ v1).setCell ⟨q,2,none⟩ v2).setCell ⟨q,3,none⟩ v3).setCell ⟨q,4,none⟩ v4).setCell ⟨q,5,none⟩ v5).setCell ⟨q,6,none⟩ v6).setCell ⟨q,7,none⟩ v7).setCell ⟨q,8,none⟩ v8).setCell ⟨q,9,none⟩ v9) q t #[v0,v1,v2,v3,v4,v5,v6,v7,v8,v9]:=h9.set 9 v9;exact h10
theorem Xkd {B:Nat} {w W:World} (hb:Below B w W) {q:Nat} (hq:B<=q) (v0 v1 v2 v3 v4 v5 v6 v7 v8 v9:Value):Below B w ((((((((((W.setCell ⟨q,0,none⟩ v0).setCell ⟨q,1,none⟩ v1).setCell ⟨q,2,none⟩ v2).setCell ⟨q,3,none⟩ v3).setCell ⟨q,4,none⟩ v4).setCell ⟨q,5,none⟩ v5).setCell ⟨q,6,none⟩ v6).setCell ⟨q,7,none⟩ v7).setCell ⟨q,8,none⟩ v8).setCell ⟨q,9,none⟩ v9):=((((((((((hb.setCell (p:=⟨q,0,none⟩) hq v0).setCell (p:=⟨q,1,none⟩) hq v1).setCell (p:=⟨q,2,none⟩) hq v2).setCell (p:=⟨q,3,none⟩) hq v3).setCell (p:=⟨q,4,none⟩) hq v4).setCell (p:=⟨q,5,none⟩) hq v5).setCell (p:=⟨q,6,none⟩) hq v6).setCell (p:=⟨q,7,none⟩) hq v7).setCell (p:=⟨q,8,none⟩) hq v8).setCell (p:=⟨q,9,none⟩) hq v9)
abbrev Uj (W:World) (rb:Nat):Prop:=
 (W.cell? ⟨rb,0,none⟩=some (X5 W ⟨rb,0,none⟩)/\W.cell? ⟨rb,1,none⟩=some (X5 W ⟨rb,1,none⟩)/\W.cell? ⟨rb,2,none⟩=some (X5 W ⟨rb,2,none⟩)/\W.cell? ⟨rb,3,none⟩=some (X5 W ⟨rb,3,none⟩)/\W.cell? ⟨rb,4,none⟩=some (X5 W ⟨rb,4,none⟩)/\W.cell? ⟨rb,5,none⟩=some (X5 W ⟨rb,5,none⟩)/\W.cell? ⟨rb,6,none⟩=some (X5 W ⟨rb,6,none⟩)/\W.cell? ⟨rb,7,none⟩=some (X5 W ⟨rb,7,none⟩)/\W.cell? ⟨rb,8,none⟩=some (X5 W ⟨rb,8,none⟩)/\W.cell? ⟨rb,9,none⟩=some (X5 W ⟨rb,9,none⟩)) /\
 (W.frozen? ⟨rb,0,none⟩=false/\W.frozen? ⟨rb,1,none⟩=false/\W.frozen? ⟨rb,2,none⟩=false/\W.frozen? ⟨rb,3,none⟩=false/\W.frozen? ⟨rb,4,none⟩=false/\W.frozen? ⟨rb,5,none⟩=false/\W.frozen? ⟨rb,6,none⟩=false/\W.frozen? ⟨rb,7,none⟩=false/\W.frozen? ⟨rb,8,none⟩=false/\W.frozen? ⟨rb,9,none⟩=false)
theorem Uj.below {W W':World} {rb:Nat} (h:Uj W rb) (hb:Below W.heap.size W W'):Uj W' rb:=by
 have hlt:rb<W.heap.size:=World.block_lt_of_cell? _ _ h.1.1
 have c:∀ i,W'.cell? ⟨rb,i,none⟩=W.cell? ⟨rb,i,none⟩:=fun i=>hb.cell (p:=⟨rb,i,none⟩) hlt
 have f:∀ i,W'.frozen? ⟨rb,i,none⟩=W.frozen? ⟨rb,i,none⟩:=fun i=>hb.frozen (p:=⟨rb,i,none⟩) hlt
 have e:∀ i,X5 W' ⟨rb,i,none⟩=X5 W ⟨rb,i,none⟩:=fun i=>by unfold X5;rw [c i]
 simp only [Uj,c,f,e];exact h
theorem Uj.mk {W:World} {rb:Nat} (h:∀ i,i<10->(W.cell? ⟨rb,i,none⟩).isSome) (f:∀ i,i<10->W.frozen? ⟨rb,i,none⟩=false):Uj W rb:=
 ⟨⟨Xg (h 0 (by omega)),Xg (h 1 (by omega)),Xg (h 2 (by omega)),Xg (h 3 (by omega)),Xg (h 4 (by omega)),Xg (h 5 (by omega)),Xg (h 6 (by omega)),Xg (h 7 (by omega)),Xg (h 8 (by omega)),Xg (h 9 (by omega))⟩,f 0 (by omega),f 1 (by omega),f 2 (by omega),f 3 (by omega),f 4 (by omega),f 5 (by omega),f 6 (by omega),f 7 (by omega),f 8 (by omega),f 9 (by omega)⟩
theorem BoxN.row10 {W:World} {q:Nat} {t:TypeId} {c0 c1 c2 c3 c4 c5 c6 c7 c8 c9:Value} (h:BoxN W q t #[c0,c1,c2,c3,c4,c5,c6,c7,c8,c9]):Uj W q:=by
 refine Uj.mk (fun i hi=>?_) (fun i _=>h.frozen i);rw [h.cell i (v:=#[c0,c1,c2,c3,c4,c5,c6,c7,c8,c9][i]) (by simp [hi])];rfl
theorem Uj.set {W:World} {rb:Nat} (h:Uj W rb) (a:Addr) (v:Value):Uj (W.setCell a v) rb:=by
 obtain⟨⟨c0,c1,c2,c3,c4,c5,c6,c7,c8,c9⟩,f0,f1,f2,f3,f4,f5,f6,f7,f8,f9⟩:=h
 have g:∀ i,(W.cell? ⟨rb,i,none⟩).isSome->((W.setCell a v).cell? ⟨rb,i,none⟩).isSome:=fun i hi=>by
  obtain⟨x,hx⟩:=Option.isSome_iff_exists.1 hi;obtain⟨y,hy⟩:=cell?_setCell_some (w:=W) (p:=a) (x:=v) hx;rw [hy];rfl
 have f:∀ i,(W.setCell a v).frozen? ⟨rb,i,none⟩=W.frozen? ⟨rb,i,none⟩:=fun i=>World.frozen?_setCell _ _ _ _
 exact⟨⟨Xg (g 0 (by rw [c0];rfl)),Xg (g 1 (by rw [c1];rfl)),Xg (g 2 (by rw [c2];rfl)),Xg (g 3 (by rw [c3];rfl)),Xg (g 4 (by rw [c4];rfl)),Xg (g 5 (by rw [c5];rfl)),Xg (g 6 (by rw [c6];rfl)),Xg (g 7 (by rw [c7];rfl)),Xg (g 8 (by rw [c8];rfl)),Xg (g 9 (by rw [c9];rfl))⟩,(f 0).trans f0,(f 1).trans f1,(f 2).trans f2,(f 3).trans f3,(f 4).trans f4,(f 5).trans f5,(f 6).trans f6,(f 7).trans f7,(f 8).trans f8,(f 9).trans f9⟩
theorem Uj.sets {W:World} {rb:Nat} (h:Uj W rb) (v0 v1 v2 v3 v4 v5 v6 v7 v8 v9:Value):((((((((((W.setCell ⟨rb,0,none⟩ v0).setCell ⟨rb,1,none⟩ v1).setCell ⟨rb,2,none⟩ v2).setCell ⟨rb,3,none⟩ v3).setCell ⟨rb,4,none⟩ v4).setCell ⟨rb,5,none⟩ v5).setCell ⟨rb,6,none⟩ v6).setCell ⟨rb,7,none⟩ v7).setCell ⟨rb,8,none⟩ v8).setCell ⟨rb,9,none⟩ v9).cell? ⟨rb,0,none⟩=some v0/\((((((((((W.setCell ⟨rb,0,none⟩ v0).setCell ⟨rb,1,none⟩ v1).setCell ⟨rb,2,none⟩ v2).setCell ⟨rb,3,none⟩ v3).setCell ⟨rb,4,none⟩ v4).setCell ⟨rb,5,none⟩ v5).setCell ⟨rb,6,none⟩ v6).setCell ⟨rb,7,none⟩ v7).setCell ⟨rb,8,none⟩ v8).setCell ⟨rb,9,none⟩ v9).cell? ⟨rb,1,none⟩=some v1/\((((((((((W.setCell ⟨rb,0,none⟩ v0).setCell ⟨rb,1,none⟩ v1).setCell ⟨rb,2,none⟩ v2).setCell ⟨rb,3,none⟩ v3).setCell ⟨rb,4,none⟩ v4).setCell ⟨rb,5,none⟩ v5).setCell ⟨rb,6,none⟩ v6).setCell ⟨rb,7,none⟩ v7).setCell ⟨rb,8,none⟩ v8).setCell ⟨rb,9,none⟩ v9).cell? ⟨rb,2,none⟩=some v2/\((((((((((W.setCell ⟨rb,0,none⟩ v0).setCell ⟨rb,1,none⟩ v1).setCell ⟨rb,2,none⟩ v2).setCell ⟨rb,3,none⟩ v3).setCell ⟨rb,4,none⟩ v4).setCell ⟨rb,5,none⟩ v5).setCell ⟨rb,6,none⟩ v6).setCell ⟨rb,7,none⟩ v7).setCell ⟨rb,8,none⟩ v8).setCell ⟨rb,9,none⟩ v9).cell? ⟨rb,3,none⟩=some v3/\((((((((((W.setCell ⟨rb,0,none⟩ v0).setCell ⟨rb,1,none⟩ v1).setCell ⟨rb,2,none⟩ v2).setCell ⟨rb,3,none⟩ v3).setCell ⟨rb,4,none⟩ v4).setCell ⟨rb,5,none⟩ v5).setCell ⟨rb,6,none⟩ v6).setCell ⟨rb,7,none⟩ v7).setCell ⟨rb,8,none⟩ v8).setCell ⟨rb,9,none⟩ v9).cell? ⟨rb,4,none⟩=some v4/\((((((((((W.setCell ⟨rb,0,none⟩ v0).setCell ⟨rb,1,none⟩ v1).setCell ⟨rb,2,none⟩ v2).setCell ⟨rb,3,none⟩ v3).setCell ⟨rb,4,none⟩ v4).setCell ⟨rb,5,none⟩ v5).setCell ⟨rb,6,none⟩ v6).setCell ⟨rb,7,none⟩ v7).setCell ⟨rb,8,none⟩ v8).setCell ⟨rb,9,none⟩ v9).cell? ⟨rb,5,none⟩=some v5/\((((((((((W.setCell ⟨rb,0,none⟩ v0).setCell ⟨rb,1,none⟩ v1).setCell ⟨rb,2,none⟩ v2).setCell ⟨rb,3,none⟩ v3).setCell ⟨rb,4,none⟩ v4).setCell ⟨rb,5,none⟩ v5).setCell ⟨rb,6,none⟩ v6).setCell ⟨rb,7,none⟩ v7).setCell ⟨rb,8,none⟩ v8).setCell ⟨rb,9,none⟩ v9).cell? ⟨rb,6,none⟩=some v6/\((((((((((W.setCell ⟨rb,0,none⟩ v0).setCell ⟨rb,1,none⟩ v1).setCell ⟨rb,2,none⟩ v2).setCell ⟨rb,3,none⟩ v3).setCell ⟨rb,4,none⟩ v4).setCell ⟨rb,5,none⟩ v5).setCell ⟨rb,6,none⟩ v6).setCell ⟨rb,7,none⟩ v7).setCell ⟨rb,8,none⟩ v8).setCell ⟨rb,9,none⟩ v9).cell? ⟨rb,7,none⟩=some v7/\((((((((((W.setCell ⟨rb,0,none⟩ v0).setCell ⟨rb,1,none⟩ v1).setCell ⟨rb,2,none⟩ v2).setCell ⟨rb,3,none⟩ v3).setCell ⟨rb,4,none⟩ v4).setCell ⟨rb,5,none⟩ v5).setCell ⟨rb,6,none⟩ v6).setCell ⟨rb,7,none⟩ v7).setCell ⟨rb,8,none⟩ v8).setCell ⟨rb,9,none⟩ v9).cell? ⟨rb,8,none⟩=some v8/\((((((((((W.setCell ⟨rb,0,none⟩ v0).setCell ⟨rb,1,none⟩ v1).setCell ⟨rb,2,none⟩ v2).setCell ⟨rb,3,none⟩ v3).setCell ⟨rb,4,none⟩ v4).setCell ⟨rb,5,none⟩ v5).setCell ⟨rb,6,none⟩ v6).setCell ⟨rb,7,none⟩ v7).setCell ⟨rb,8,none⟩ v8).setCell ⟨rb,9,none⟩ v9).cell? ⟨rb,9,none⟩=some v9:=by
 have o:∀(V:World) (i j:Nat) (v:Value),i≠j->(V.setCell ⟨rb,i,none⟩ v).cell? ⟨rb,j,none⟩=V.cell? ⟨rb,j,none⟩:=fun V i j v _=>World.cell?_setCell_other _ _ _ _ (by simp)
 have h0:=h;have h1:=h0.set ⟨rb,0,none⟩ v0;have h2:=h1.set ⟨rb,1,none⟩ v1;have h3:=h2.set ⟨rb,2,none⟩ v2;have h4:=h3.set ⟨rb,3,none⟩ v3;have h5:=h4.set ⟨rb,4,none⟩ v4;have h6:=h5.set ⟨rb,5,none⟩ v5;have h7:=h6.set ⟨rb,6,none⟩ v6;have h8:=h7.set ⟨rb,7,none⟩ v7;have h9:=h8.set ⟨rb,8,none⟩ v8;have s0:=World.cell?_setCell_same _ _ v0 h0.1.1;have s1:=World.cell?_setCell_same _ _ v1 h1.1.2.1;have s2:=World.cell?_setCell_same _ _ v2 h2.1.2.2.1;have s3:=World.cell?_setCell_same _ _ v3 h3.1.2.2.2.1;have s4:=World.cell?_setCell_same _ _ v4 h4.1.2.2.2.2.1;have s5:=World.cell?_setCell_same _ _ v5 h5.1.2.2.2.2.2.1;have s6:=World.cell?_setCell_same _ _ v6 h6.1.2.2.2.2.2.2.1;have s7:=World.cell?_setCell_same _ _ v7 h7.1.2.2.2.2.2.2.2.1;have s8:=World.cell?_setCell_same _ _ v8 h8.1.2.2.2.2.2.2.2.2.1;have s9:=World.cell?_setCell_same _ _ v9 h9.1.2.2.2.2.2.2.2.2.2;refine⟨?_,?_,?_,?_,?_,?_,?_,?_,?_,s9⟩
 ·rw [o _ 9 0 _ (by omega),o _ 8 0 _ (by omega),o _ 7 0 _ (by omega),o _ 6 0 _ (by omega),o _ 5 0 _ (by omega),o _ 4 0 _ (by omega),o _ 3 0 _ (by omega),o _ 2 0 _ (by omega),o _ 1 0 _ (by omega),s0]
 ·rw [o _ 9 1 _ (by omega),o _ 8 1 _ (by omega),o _ 7 1 _ (by omega),o _ 6 1 _ (by omega),o _ 5 1 _ (by omega),o _ 4 1 _ (by omega),o _ 3 1 _ (by omega),o _ 2 1 _ (by omega),s1]
 ·rw [o _ 9 2 _ (by omega),o _ 8 2 _ (by omega),o _ 7 2 _ (by omega),o _ 6 2 _ (by omega),o _ 5 2 _ (by omega),o _ 4 2 _ (by omega),o _ 3 2 _ (by omega),s2]
 ·rw [o _ 9 3 _ (by omega),o _ 8 3 _ (by omega),o _ 7 3 _ (by omega),o _ 6 3 _ (by omega),o _ 5 3 _ (by omega),o _ 4 3 _ (by omega),s3]
 ·rw [o _ 9 4 _ (by omega),o _ 8 4 _ (by omega),o _ 7 4 _ (by omega),o _ 6 4 _ (by omega),o _ 5 4 _ (by omega),s4]
 ·rw [o _ 9 5 _ (by omega),o _ 8 5 _ (by omega),o _ 7 5 _ (by omega),o _ 6 5 _ (by omega),s5]
 ·rw [o _ 9 6 _ (by omega),o _ 8 6 _ (by omega),o _ 7 6 _ (by omega),s6]
 ·rw [o _ 9 7 _ (by omega),o _ 8 7 _ (by omega),s7]
 rw [o _ 9 8 _ (by omega),s8]
theorem M7 (w:World) (o o':Obj):Below w.heap.size w ((w.alloc o).alloc o'):=((Below.refl _ w).alloc (Nat.le_refl _) _).alloc (by simp) _
structure Yf where
 kind:Int
 nk:Int
 nn:Nat
 ak:Int
 an:Nat
 pd:Bool
 at_:Int
 tr:Int
 last:Int
 pth:List UInt8
def Xi (kind nk nn ak an:Int) (pd:Bool) (at_ tr last:Int) (pth:List UInt8):Array Value:=#[.int .i64 kind,.int .i64 nk,.int .u64 nn,.int .i64 ak,.int .u64 an,.bool pd,.int .u64 at_,.int .i64 tr,.int .u64 last,.string ⟨pth.toArray⟩]
def Yf.cells (r:Yf):Array Value:=Xi r.kind r.nk r.nn r.ak r.an r.pd r.at_ r.tr r.last r.pth
abbrev Uh (W:World) (rb:Nat) (c0 c1 c2 c3 c4 c5 c6 c7 c8 c9:Value):Prop:=(W.cell? ⟨rb,0,none⟩=some c0/\W.cell? ⟨rb,1,none⟩=some c1/\W.cell? ⟨rb,2,none⟩=some c2/\W.cell? ⟨rb,3,none⟩=some c3/\W.cell? ⟨rb,4,none⟩=some c4/\W.cell? ⟨rb,5,none⟩=some c5/\W.cell? ⟨rb,6,none⟩=some c6/\W.cell? ⟨rb,7,none⟩=some c7/\W.cell? ⟨rb,8,none⟩=some c8/\W.cell? ⟨rb,9,none⟩=some c9)
section
variable {W W':World} {rb:Nat} {c0 c1 c2 c3 c4 c5 c6 c7 c8 c9:Value}
theorem Uh.below (h:Uh W rb c0 c1 c2 c3 c4 c5 c6 c7 c8 c9) (hb:Below W.heap.size W W'):Uh W' rb c0 c1 c2 c3 c4 c5 c6 c7 c8 c9:=by
 have hlt:rb<W.heap.size:=World.block_lt_of_cell? _ _ h.1
 have c:∀ i,W'.cell? ⟨rb,i,none⟩=W.cell? ⟨rb,i,none⟩:=fun i=>hb.cell (p:=⟨rb,i,none⟩) hlt
 simp only [Uh,c];exact h
theorem Uh.set (h:Uh W rb c0 c1 c2 c3 c4 c5 c6 c7 c8 c9) {q:Nat} (_:rb≠q) (j:Nat) (v:Value):Uh (W.setCell ⟨q,j,none⟩ v) rb c0 c1 c2 c3 c4 c5 c6 c7 c8 c9:=by
 have c:∀ i,(W.setCell ⟨q,j,none⟩ v).cell? ⟨rb,i,none⟩=W.cell? ⟨rb,i,none⟩:=fun i=>World.cell?_setCell_other _ _ _ _ (by simp)
 simp only [Uh,c];exact h
theorem BoxN.Xc5 {t:TypeId} (h:BoxN W rb t #[c0,c1,c2,c3,c4,c5,c6,c7,c8,c9]):Uh W rb c0 c1 c2 c3 c4 c5 c6 c7 c8 c9:=h.Xmv.1
end
theorem Tryz.Xnq (kind nk nn ak an:Int) (pd:Bool) (at_ tr last:Int) (pth:List UInt8) (w:World) :
  Calls prog 216 #[.agg (Xi kind nk nn ak an pd at_ tr last pth)] w fun e w'=>e=.returned (.agg #[.int .i64 ak,.int .u64 an,.int .u64 at_,.int .i64 tr,.bool pd])/\Below w.heap.size w w':=by
 unfold Xi;go_enter func216,ntmps216;go_wp2;exact bodyPost_ret (v:=.agg #[.int .i64 ak,.int .u64 an,.int .u64 at_,.int .i64 tr,.bool pd]) (by simp [results,results216,go_sem]) rfl ⟨rfl,M7 _ _ _⟩
theorem Tryz.Xst (kind nk nn ak an:Int) (pd:Bool) (at_ tr last:Int) (pth:List UInt8) (w:World) :
  Calls prog 187 #[.agg (Xi kind nk nn ak an pd at_ tr last pth)] w fun e w'=>e=.returned (.agg #[.int .i64 ak,.int .u64 an,.int .u64 at_,.int .i64 tr,.bool pd])/\Below w.heap.size w w':=by
 have hE:=fun W=>Xnq kind nk nn ak an pd at_ tr last pth W
 unfold Xi at hE ⊢;have b0:=BoxN.new (w.alloc (.cells #[.int .i64 kind,.int .i64 nk,.int .u64 nn,.int .i64 ak,.int .u64 an,.bool pd,.int .u64 at_,.int .i64 tr,.int .u64 last,.string ⟨pth.toArray⟩] 135)) 153 #[.int .i64 0,.int .u64 0,.int .u64 0,.int .i64 0,.bool false];rw [World.size_alloc] at b0;go_enter func187,ntmps187
 go_wp2_with (go_at_call 216;refine(hE _).mono ?_;rintro e w1 ⟨rfl,hb1⟩;have hb:=(M7 w _ _).trans (hb1.mono (by simp;omega));have bR:=b0.below hb1 (by simp);obtain⟨⟨r0,r1,r2,r3,r4⟩,f0,f1,f2,f3,f4⟩:=bR.Xut)
 have bF:=bR.sets5 (.int .i64 ak) (.int .u64 an) (.int .u64 at_) (.int .i64 tr) (.bool pd);have hB:=Xly hb (q:=w.heap.size+1) (by omega) (.int .i64 ak) (.int .u64 an) (.int .u64 at_) (.int .i64 tr) (.bool pd);obtain⟨⟨g0,g1,g2,g3,g4⟩,-⟩:=bF.Xut;clear r0 r1 r2 r3 r4;exact bodyPost_ret (v:=.agg #[.int .i64 ak,.int .u64 an,.int .u64 at_,.int .i64 tr,.bool pd]) (by simp [results,results187,go_sem,g0,g1,g2,g3,g4]) rfl ⟨rfl,hB⟩
abbrev Xcw (w0:World) (rb nb:Nat) (c0 c1 c2 c3 c4 c5 c6 c7 c8 c9:Value) (W:World):Prop:=Uh W rb c0 c1 c2 c3 c4 c5 c6 c7 c8 c9/\Xbx W nb/\Below w0.heap.size w0 W
section
variable {w0 W W':World} {rb nb:Nat} {c0 c1 c2 c3 c4 c5 c6 c7 c8 c9:Value}
theorem Xcw.below (h:Xcw w0 rb nb c0 c1 c2 c3 c4 c5 c6 c7 c8 c9 W) (hb:Below W.heap.size W W'):Xcw w0 rb nb c0 c1 c2 c3 c4 c5 c6 c7 c8 c9 W':=⟨h.1.below hb,h.2.1.below hb,h.2.2.trans (hb.mono h.2.2.size)⟩
theorem Xcw.drew (h:Xcw w0 rb nb c0 c1 c2 c3 c4 c5 c6 c7 c8 c9 W):Xcw w0 rb nb c0 c1 c2 c3 c4 c5 c6 c7 c8 c9 W.drew:=⟨h.1,h.2.1,h.2.2.drew⟩
theorem Xcw.set (h:Xcw w0 rb nb c0 c1 c2 c3 c4 c5 c6 c7 c8 c9 W) (hn:rb≠nb) (hw:w0.heap.size<=nb) (j:Nat) (v:Value):Xcw w0 rb nb c0 c1 c2 c3 c4 c5 c6 c7 c8 c9 (W.setCell ⟨nb,j,none⟩ v):=⟨h.1.set hn j v,h.2.1.set _ v,h.2.2.setCell (p:=⟨nb,j,none⟩) hw v⟩
end
theorem Tryz.Xt3 (kind nk nn ak an:Int) (pd:Bool) (at_ tr last:Int) (pth:List UInt8) (w:World) :
  Calls prog 188 #[.agg (Xi kind nk nn ak an pd at_ tr last pth)] w fun e w'=>e=.returned (.agg #[.int .i64 ak,.int .u64 an,.int .u64 at_,.int .i64 tr,.bool pd,.string ⟨pth.toArray⟩,.int .u64 last])/\Below w.heap.size w w':=by
 have hE:=fun W=>Xnq kind nk nn ak an pd at_ tr last pth W
 unfold Xi at hE ⊢;have b0:=BoxN.new (w.alloc (.cells #[.int .i64 kind,.int .i64 nk,.int .u64 nn,.int .i64 ak,.int .u64 an,.bool pd,.int .u64 at_,.int .i64 tr,.int .u64 last,.string ⟨pth.toArray⟩] 135)) 131 #[.int .i64 0,.int .u64 0,.int .u64 0,.int .i64 0,.bool false,.string ⟨#[]⟩,.int .u64 0];have bq:=(BoxN.new w 135 #[.int .i64 kind,.int .i64 nk,.int .u64 nn,.int .i64 ak,.int .u64 an,.bool pd,.int .u64 at_,.int .i64 tr,.int .u64 last,.string ⟨pth.toArray⟩]).alloc (.cells #[.int .i64 0,.int .u64 0,.int .u64 0,.int .i64 0,.bool false,.string ⟨#[]⟩,.int .u64 0] 131);rw [World.size_alloc] at b0;have hS0:=Xcw.drew ⟨bq.Xc5,b0.row7,M7 w _ _⟩;go_enter func188,ntmps188
 go_wp2_with fail
 go_region_held3 (Xcw w w.heap.size (w.heap.size+1) (.int .i64 kind) (.int .i64 nk) (.int .u64 nn) (.int .i64 ak) (.int .u64 an) (.bool pd) (.int .u64 at_) (.int .i64 tr) (.int .u64 last) (.string ⟨pth.toArray⟩)) (first
  | with_reducible exact hS0
  | with_reducible exact Xcw.below (by assumption) (by assumption)
  | with_reducible assumption
  | with_reducible exact(((((((Xcw.set (by assumption) (by omega) (by omega) 0 _).set (by omega) (by omega) 1 _).set (by omega) (by omega) 2 _).set (by omega) (by omega) 3 _).set (by omega) (by omega) 4 _).set (by omega) (by omega) 5 _).set (by omega) (by omega) 6 _)) (first
  | (go_at_call 216;refine(hE _).mono ?_;rintro e w1 ⟨rfl,hb1⟩))
 all_goals
  go_wp2
  rename_i hI
  have hBF:=hI.2.2;have bR:BoxN w1 (w.heap.size+1) 131 #[.int .i64 0,.int .u64 0,.int .u64 0,.int .i64 0,.bool false,.string ⟨#[]⟩,.int .u64 0]:=(hb1.block (w.heap.size+1) (by simp [World.drew])).trans b0;have bF:=bR.sets7 (.int .i64 ak) (.int .u64 an) (.int .u64 at_) (.int .i64 tr) (.bool pd) (.string ⟨pth.toArray⟩) (.int .u64 last);obtain⟨⟨g0,g1,g2,g3,g4,g5,g6⟩,-⟩:=bF.open7;clear hI;exact bodyPost_ret (v:=.agg #[.int .i64 ak,.int .u64 an,.int .u64 at_,.int .i64 tr,.bool pd,.string ⟨pth.toArray⟩,.int .u64 last]) (by simp [results,results188,go_sem,g0,g1,g2,g3,g4,g5,g6]) rfl ⟨rfl,hBF⟩
theorem Tryz.now (vb:Nat) (tm:Int) (w:World) (hT:w.cell? ⟨vb,2,none⟩=some (.int .u64 tm)) :
  Calls prog 121 #[.pointer (some ⟨vb,0,none⟩)] w fun e w'=>e=.returned (.agg (Xi 0 0 0 0 0 false tm 0 0 []))/\Below w.heap.size w w':=by
 unfold Xi;have lt:vb<w.heap.size:=World.block_lt_of_cell? _ _ hT;go_enter func121,ntmps121;go_wp2;exact bodyPost_ret (v:=.agg #[.int .i64 0,.int .i64 0,.int .u64 0,.int .i64 0,.int .u64 0,.bool false,.int .u64 tm,.int .i64 0,.int .u64 0,.string ⟨#[]⟩]) (by simp [results,results121,go_sem]) rfl ⟨rfl,(Below.refl _ w).alloc (Nat.le_refl _) _⟩
theorem Tryz.Xak (b:Nat) (k u ak au at_ tr:Int) (pd:Bool) (w:World)
  (h0:w.cell? ⟨b,0,none⟩=some (.int .i64 ak)) (h1:w.cell? ⟨b,1,none⟩=some (.int .u64 au)) (h2:w.cell? ⟨b,2,none⟩=some (.int .u64 at_)) (h3:w.cell? ⟨b,3,none⟩=some (.int .i64 tr)) (h4:w.cell? ⟨b,4,none⟩=some (.bool pd)) :
  Calls prog 84 #[.pointer (some ⟨b,0,none⟩),.agg #[.int .i64 k,.int .u64 u]] w fun e w'=>e=.returned (.agg (Xi 1 k u ak au pd at_ tr 0 []))/\Below w.heap.size w w':=by
 unfold Xi;have lt:b<w.heap.size:=World.block_lt_of_cell? _ _ h0;go_enter func84,ntmps84;go_wp2
 go_region
 go_wp2;exact bodyPost_ret (v:=.agg #[.int .i64 1,.int .i64 k,.int .u64 u,.int .i64 ak,.int .u64 au,.bool pd,.int .u64 at_,.int .i64 tr,.int .u64 0,.string ⟨#[]⟩]) (by simp [results,results84,go_sem]) rfl ⟨rfl,(M7 w _ _).drew⟩
abbrev LrP (w0:World) (nb b rb:Nat) (k u ak au at_ tr:Int) (pd:Bool) (pth:List UInt8) (last:Int) (W:World):Prop:=
 (W.cell? ⟨nb,0,none⟩=some (.int .i64 k)/\W.cell? ⟨nb,1,none⟩=some (.int .u64 u)) /\
 (W.cell? ⟨b,0,none⟩=some (.int .i64 ak)/\W.cell? ⟨b,1,none⟩=some (.int .u64 au)/\W.cell? ⟨b,2,none⟩=some (.int .u64 at_)/\W.cell? ⟨b,3,none⟩=some (.int .i64 tr)/\W.cell? ⟨b,4,none⟩=some (.bool pd)/\W.cell? ⟨b,5,none⟩=some (.string ⟨pth.toArray⟩)/\W.cell? ⟨b,6,none⟩=some (.int .u64 last)) /\
 Uj W rb/\Below w0.heap.size w0 W
section
variable {w0 W W':World} {nb b rb:Nat} {k u ak au at_ tr:Int} {pd:Bool} {pth:List UInt8} {last:Int}
theorem LrP.below (h:LrP w0 nb b rb k u ak au at_ tr pd pth last W) (hb:Below W.heap.size W W'):LrP w0 nb b rb k u ak au at_ tr pd pth last W':=by
 obtain⟨⟨n0,n1⟩,⟨c0,c1,c2,c3,c4,c5,c6⟩,hr,hB⟩:=h;exact⟨⟨cell_later hb n0,cell_later hb n1⟩,⟨cell_later hb c0,cell_later hb c1,cell_later hb c2,cell_later hb c3,cell_later hb c4,cell_later hb c5,cell_later hb c6⟩,hr.below hb,hB.trans (hb.mono hB.size)⟩
theorem LrP.drew (h:LrP w0 nb b rb k u ak au at_ tr pd pth last W):LrP w0 nb b rb k u ak au at_ tr pd pth last W.drew:=⟨h.1,h.2.1,h.2.2.1,h.2.2.2.drew⟩
theorem LrP.set (h:LrP w0 nb b rb k u ak au at_ tr pd pth last W) (q:Nat) (hn:nb≠q) (hb:b≠q) (hw:w0.heap.size<=q) (j:Nat) (v:Value):LrP w0 nb b rb k u ak au at_ tr pd pth last (W.setCell ⟨q,j,none⟩ v):=by
 obtain⟨⟨n0,n1⟩,⟨c0,c1,c2,c3,c4,c5,c6⟩,hr,hB⟩:=h
 have o:∀(p i:Nat),p≠q->(W.setCell ⟨q,j,none⟩ v).cell? ⟨p,i,none⟩=W.cell? ⟨p,i,none⟩:=fun p i hp=>World.cell?_setCell_other _ _ _ _ (by simp)
 exact⟨⟨(o _ _ hn).trans n0,(o _ _ hn).trans n1⟩,⟨(o _ _ hb).trans c0,(o _ _ hb).trans c1,(o _ _ hb).trans c2,(o _ _ hb).trans c3,(o _ _ hb).trans c4,(o _ _ hb).trans c5,(o _ _ hb).trans c6⟩,hr.set _ v,hB.setCell (p:=⟨q,j,none⟩) hw v⟩
theorem LrP.sets10 (h:LrP w0 nb b rb k u ak au at_ tr pd pth last W) (q:Nat) (hn:nb≠q) (hb:b≠q) (hw:w0.heap.size<=q) (v0 v1 v2 v3 v4 v5 v6 v7 v8 v9:Value) :
  LrP w0 nb b rb k u ak au at_ tr pd pth last ((((((((((W.setCell ⟨q,0,none⟩ v0).setCell ⟨q,1,none⟩ v1).setCell ⟨q,2,none⟩ v2).setCell ⟨q,3,none⟩ v3).setCell ⟨q,4,none⟩ v4).setCell ⟨q,5,none⟩ v5).setCell ⟨q,6,none⟩ v6).setCell ⟨q,7,none⟩ v7).setCell ⟨q,8,none⟩ v8).setCell ⟨q,9,none⟩ v9):=by
 have h0:=h.set q hn hb hw 0 v0;have h1:=h0.set q hn hb hw 1 v1;have h2:=h1.set q hn hb hw 2 v2;have h3:=h2.set q hn hb hw 3 v3;have h4:=h3.set q hn hb hw 4 v4;have h5:=h4.set q hn hb hw 5 v5;have h6:=h5.set q hn hb hw 6 v6;have h7:=h6.set q hn hb hw 7 v7;have h8:=h7.set q hn hb hw 8 v8;exact h8.set q hn hb hw 9 v9
end
theorem Tryz.Un (b:Nat) (k u ak au at_ tr:Int) (pd:Bool) (pth:List UInt8) (last:Int) (w:World)
  (h0:w.cell? ⟨b,0,none⟩=some (.int .i64 ak)) (h1:w.cell? ⟨b,1,none⟩=some (.int .u64 au)) (h2:w.cell? ⟨b,2,none⟩=some (.int .u64 at_)) (h3:w.cell? ⟨b,3,none⟩=some (.int .i64 tr)) (h4:w.cell? ⟨b,4,none⟩=some (.bool pd)) (h5:w.cell? ⟨b,5,none⟩=some (.string ⟨pth.toArray⟩)) (h6:w.cell? ⟨b,6,none⟩=some (.int .u64 last)) :
  Calls prog 67 #[.pointer (some ⟨b,0,none⟩),.agg #[.int .i64 k,.int .u64 u]] w fun e w'=>e=.returned (.agg (Xi 1 k u ak au pd at_ tr last pth))/\Below w.heap.size w w':=by
 have lt:b<w.heap.size:=World.block_lt_of_cell? _ _ h0
 have hE:=fun W (hI:LrP w w.heap.size b (w.heap.size+1) k u ak au at_ tr pd pth last W)=>Xak b k u ak au at_ tr pd W hI.2.1.1 hI.2.1.2.1 hI.2.1.2.2.1 hI.2.1.2.2.2.1 hI.2.1.2.2.2.2.1
 unfold Xi at hE ⊢;have b0:=BoxN.new (w.alloc (.cells #[.int .i64 k,.int .u64 u] 114)) 135 #[.int .i64 0,.int .i64 0,.int .u64 0,.int .i64 0,.int .u64 0,.bool false,.int .u64 0,.int .i64 0,.int .u64 0,.string ⟨#[]⟩];have bn:=(BoxN.new w 114 #[.int .i64 k,.int .u64 u]).alloc (.cells #[.int .i64 0,.int .i64 0,.int .u64 0,.int .i64 0,.int .u64 0,.bool false,.int .u64 0,.int .i64 0,.int .u64 0,.string ⟨#[]⟩] 135);rw [World.size_alloc] at b0;have hb2:=M7 w (.cells #[.int .i64 k,.int .u64 u] 114) (.cells #[.int .i64 0,.int .i64 0,.int .u64 0,.int .i64 0,.int .u64 0,.bool false,.int .u64 0,.int .i64 0,.int .u64 0,.string ⟨#[]⟩] 135);have hS0:LrP w w.heap.size b (w.heap.size+1) k u ak au at_ tr pd pth last _:=LrP.drew ⟨⟨bn.cell 0 rfl,bn.cell 1 rfl⟩,⟨cell_later hb2 h0,cell_later hb2 h1,cell_later hb2 h2,cell_later hb2 h3,cell_later hb2 h4,cell_later hb2 h5,cell_later hb2 h6⟩,b0.row10,hb2⟩;go_enter func67,ntmps67
 go_wp2_with fail
 go_cut [5] (fun t5 wx=>∃ q:Nat,t5=.pointer (some ⟨q,0,none⟩)/\BoxN wx q 135 #[.int .i64 1,.int .i64 k,.int .u64 u,.int .i64 ak,.int .u64 au,.bool pd,.int .u64 at_,.int .i64 tr,.int .u64 0,.string ⟨#[]⟩]/\Uj wx (w.heap.size+1)/\(wx.cell? ⟨b,5,none⟩=some (.string ⟨pth.toArray⟩)/\wx.cell? ⟨b,6,none⟩=some (.int .u64 last))/\Below w.heap.size w wx/\w.heap.size+1<q)
 case first =>
  go_region_held3 (LrP w w.heap.size b (w.heap.size+1) k u ak au at_ tr pd pth last) (first
   | with_reducible exact hS0
   | with_reducible exact LrP.below (by assumption) (by assumption)
   | with_reducible assumption
   | with_reducible exact LrP.sets10 (by assumption) _ (by omega) (by omega) (by omega) _ _ _ _ _ _ _ _ _ _
   | with_reducible exact LrP.below (Xa hK2) ((Below.refl _ _).alloc (Nat.le_refl _) _)
   | with_reducible exact LrP.below (by assumption) ((Below.refl _ _).alloc (Nat.le_refl _) _)) (first
   | (go_at_call 84;refine(hE _ (by assumption)).mono ?_;rintro e w2 ⟨rfl,hbS2⟩;have hK2:=Xb (LrP.below (show LrP w w.heap.size b (w.heap.size+1) k u ak au at_ tr pd pth last _ from by assumption) hbS2);obtain⟨hc2,hf2⟩:=Xuj hbS2;have hz2:=hbS2.size))
  ·go_wp2_with fail
   go_meet
   case rel =>
    have hI2:=Xa hK2;have hB2:=hI2.2.2.2.alloc hI2.2.2.2.size (.cells #[.int .i64 1,.int .i64 k,.int .u64 u,.int .i64 ak,.int .u64 au,.bool pd,.int .u64 at_,.int .i64 tr,.int .u64 0,.string ⟨#[]⟩] 135);simp at hz2;exact⟨_,rfl,BoxN.new _ _ _,hI2.2.2.1.below ((Below.refl _ _).alloc (Nat.le_refl _) _),⟨cell_later hB2 h5,cell_later hB2 h6⟩,hB2,by omega⟩
  all_goals
   go_wp2_with fail
   go_meet
   case rel =>
    have hI2:=Xa hK2
    have b9:=(BoxN.new ((w.alloc (.cells #[.int .i64 k,.int .u64 u] 114)).alloc (.cells #[.int .i64 0,.int .i64 0,.int .u64 0,.int .i64 0,.int .u64 0,.bool false,.int .u64 0,.int .i64 0,.int .u64 0,.string ⟨#[]⟩] 135)) 135 #[.int .i64 0,.int .i64 0,.int .u64 0,.int .i64 0,.int .u64 0,.bool false,.int .u64 0,.int .i64 0,.int .u64 0,.string ⟨#[]⟩])
    simp only [World.size_alloc] at b9;have b1:BoxN w2 (w.heap.size+1+1) 135 #[.int .i64 0,.int .i64 0,.int .u64 0,.int .i64 0,.int .u64 0,.bool false,.int .u64 0,.int .i64 0,.int .u64 0,.string ⟨#[]⟩]:=(hbS2.block (w.heap.size+1+1) (by simp)).trans b9;have bF:=b1.sets10 (.int .i64 1) (.int .i64 k) (.int .u64 u) (.int .i64 ak) (.int .u64 au) (.bool pd) (.int .u64 at_) (.int .i64 tr) (.int .u64 0) (.string ⟨#[]⟩);have hI3:=hI2.sets10 (w.heap.size+1+1) (by omega) (by omega) (by omega) (.int .i64 1) (.int .i64 k) (.int .u64 u) (.int .i64 ak) (.int .u64 au) (.bool pd) (.int .u64 at_) (.int .i64 tr) (.int .u64 0) (.string ⟨#[]⟩);exact⟨_,rfl,bF,hI3.2.2.1,⟨cell_later hI3.2.2.2 h5,cell_later hI3.2.2.2 h6⟩,hI3.2.2.2,by omega⟩
 case rest =>
  obtain⟨q,rfl,bq,hr,⟨h5',h6'⟩,hB,hq⟩:=hcut;obtain⟨⟨q0,q1,q2,q3,q4,q5,q6,q7,q8,q9⟩,qf⟩:=bq.Xmv;have qf8:=bq.frozen 8;have qf9:=bq.frozen 9
  have hne:q≠w.heap.size+1:=by omega
  clear qf hS0 hb2 bn b0 hE;go_wp2
  go_region
  have bq8:=bq.set 9 (.string ⟨pth.toArray⟩);have bq9:BoxN ((wc.setCell ⟨q,9,none⟩ (.string ⟨pth.toArray⟩)).setCell ⟨q,8,none⟩ (.int .u64 last)).drew q 135 #[.int .i64 1,.int .i64 k,.int .u64 u,.int .i64 ak,.int .u64 au,.bool pd,.int .u64 at_,.int .i64 tr,.int .u64 last,.string ⟨pth.toArray⟩]:=bq8.set 8 (.int .u64 last);have hr9:Uj ((wc.setCell ⟨q,9,none⟩ (.string ⟨pth.toArray⟩)).setCell ⟨q,8,none⟩ (.int .u64 last)).drew (w.heap.size+1):=(hr.set ⟨q,9,none⟩ _).set ⟨q,8,none⟩ _;have hB9:=((hB.setCell (p:=⟨q,9,none⟩) (by simp;omega) (.string ⟨pth.toArray⟩)).setCell (p:=⟨q,8,none⟩) (by simp;omega) (.int .u64 last)).drew;clear q0 q1 q2 q3 q4 q5 q6 q7 q8 q9 qf8 qf9 bq8 bq hr hB h5' h6';generalize ((wc.setCell ⟨q,9,none⟩ (.string ⟨pth.toArray⟩)).setCell ⟨q,8,none⟩ (.int .u64 last)).drew=W9 at *;obtain⟨⟨q0,q1,q2,q3,q4,q5,q6,q7,q8,q9⟩,-⟩:=bq9.Xmv;have hrow:=Xb hr9;obtain⟨⟨r0,r1,r2,r3,r4,r5,r6,r7,r8,r9⟩,f0,f1,f2,f3,f4,f5,f6,f7,f8,f9⟩:=hr9;go_wp2;have hr9:=Xa hrow;have hBF:=Xkd hB9 (q:=w.heap.size+1) (by omega) (.int .i64 1) (.int .i64 k) (.int .u64 u) (.int .i64 ak) (.int .u64 au) (.bool pd) (.int .u64 at_) (.int .i64 tr) (.int .u64 last) (.string ⟨pth.toArray⟩);obtain⟨g0,g1,g2,g3,g4,g5,g6,g7,g8,g9⟩:=hr9.sets (.int .i64 1) (.int .i64 k) (.int .u64 u) (.int .i64 ak) (.int .u64 au) (.bool pd) (.int .u64 at_) (.int .i64 tr) (.int .u64 last) (.string ⟨pth.toArray⟩);clear r0 r1 r2 r3 r4 r5 r6 r7 r8 r9 q0 q1 q2 q3 q4 q5 q6 q7 q8 q9;exact bodyPost_ret (v:=.agg #[.int .i64 1,.int .i64 k,.int .u64 u,.int .i64 ak,.int .u64 au,.bool pd,.int .u64 at_,.int .i64 tr,.int .u64 last,.string ⟨pth.toArray⟩]) (by simp [results,results67,go_sem,g0,g1,g2,g3,g4,g5,g6,g7,g8,g9]) rfl ⟨rfl,hBF⟩
end Go.Proofs
namespace Go.Proofs
open Go.RowKit Go.Sort Go.Lib Go.Shelf
theorem Xc7 (w:World) (o o':Obj) (s:ByteArray) (p:Nat):(((w.alloc o).alloc o').alloc (.stringIter s p)).iterPos (w.heap.size+2)=p:=by
 have:=World.iterPos_iter ((w.alloc o).alloc o') s p
 simpa [World.iter] using this
def Xlj (h:Int) (c:UInt8):Int:=IntKind.u64.wrap (bits BinOp.xor IntKind.u64 h (c.toNat:Int)*1099511628211)
def sumI (s:List UInt8):Int:=s.foldl Xlj 14695981039346656037
theorem Xo3 (h:Int) (c:UInt8):0<=Xlj h c/\Xlj h c<=18446744073709551615:=by
 unfold Xlj;generalize bits BinOp.xor IntKind.u64 h (c.toNat:Int)*1099511628211=z;simp [IntKind.wrap,IntKind.signed,IntKind.bits];omega
theorem Xcu (s:List UInt8):0<=sumI s/\sumI s<=18446744073709551615:=by
 have:∀(s:List UInt8) (h:Int),0<=h/\h<=18446744073709551615->0<=s.foldl Xlj h/\s.foldl Xlj h<=18446744073709551615:=fun s=>by
  induction s with
  | nil=>exact fun h hh=>hh
  | cons c s ih=>exact fun h _=>ih _ (Xo3 h c)
 exact this s _ (by omega)
theorem Xpk {s:List UInt8} {k:Nat} {c:UInt8} (h:s[k]? = some c):sumI (s.take (k+1))=Xlj (sumI (s.take k)) c:=by
 unfold sumI;rw [List.take_add_one,h];simp
theorem Tryz.Xqg (s:List UInt8) (w:World) (hs:s.length<=1000000000000) (ha:∀ b∈s,b.toNat<128) :
  Calls prog 177 #[.string ⟨s.toArray⟩] w fun e w'=>e=.returned (.agg #[.int .u64 (s.length:Int),.int .u64 (sumI s)])/\Below w.heap.size w w':=by
 go_enter func177,ntmps177;go_wp2;unfold World.iter
 go_loopw [] (fun wr=>∃(k:Nat) (a b:Int),(k<=s.length/\Hid (a=k/\b=sumI (s.take k)))/\wr=(((w.alloc (.cells #[.int .u64 0,.int .u64 0] 269)).alloc (.cells #[.int .u64 a,.int .u64 b] 269)).alloc (.stringIter ⟨s.toArray⟩ k))) (fun wr=>s.length-wr.iterPos (w.heap.size+2))
 case atStart=>exact⟨0,_,_,⟨Nat.zero_le _,Xb ⟨rfl,rfl⟩⟩,rfl⟩
 case round =>
  obtain⟨k,a,b,⟨hk,hab⟩,rfl⟩:=hrel
  by_cases hkl:k<s.length
  ·obtain⟨c,hc⟩:∃ c,s[k]? = some c:=⟨s[k],by simp [hkl]⟩
   have hck:((⟨s.toArray⟩:ByteArray)[k]'(by simpa [ByteArray.size] using hkl))=c:=by
    have h1:s[k]'hkl=c:=by simpa [hkl] using hc
    rw [<- h1];rfl
   have hks:k<(⟨s.toArray⟩:ByteArray).size:=by simpa [ByteArray.size] using hkl
   have h128:c.toNat<128:=ha c (List.mem_of_getElem? hc)
   have hnx:=fun ty=>run_next_ascii (P:=prog) ((w.alloc (.cells #[.int .u64 0,.int .u64 0] 269)).alloc (.cells #[.int .u64 a,.int .u64 b] 269)) ⟨s.toArray⟩ k ty hks (by rw [hck];exact h128)
   simp only [hck,World.size_alloc] at hnx
   obtain⟨r,hr⟩:∃ r:Int,(c.toNat:Int)=r:=⟨_,rfl⟩
   rw [hr] at hnx;unfold World.iter at hnx;have Hr:=Xb hr
   have hr0:0<=r:=by omega
   have hr1:r<128:=by omega
   have HT:=Xb (Xpk hc);clear hr;go_wp2;refine⟨⟨k+1,_,_,⟨by omega,Xb ⟨?_,?_⟩⟩,rfl⟩,?_⟩
   ·rw [(Xa hab).1]
    have:(k:Int)<=1000000000000:=by omega
    simp [IntKind.wrap,IntKind.signed,IntKind.bits];omega
   ·rw [Xa HT,(Xa hab).2,<- Xa Hr]
    rfl
   rw [Xc7,Xc7];omega
  obtain rfl:k=s.length:=by omega
  have hks:¬ s.length<(⟨s.toArray⟩:ByteArray).size:=by simp [ByteArray.size]
  have hnx:=fun ty=>run_next_end (P:=prog) ((w.alloc (.cells #[.int .u64 0,.int .u64 0] 269)).alloc (.cells #[.int .u64 a,.int .u64 b] 269)) ⟨s.toArray⟩ s.length ty hks
  simp only [World.size_alloc] at hnx;unfold World.iter at hnx;obtain⟨e1,e2⟩:=Xa hab;rw [List.take_length] at e2;have HZ:=Xb e2;clear e2 hab;subst e1;go_wp2;exact bodyPost_ret (v:=.agg #[.int .u64 (s.length:Int),.int .u64 b]) (by simp [results,results177,go_sem]) rfl ⟨by rw [Xa HZ],(M7 w _ _).alloc (by simp;omega) _⟩
def lineL (t:List UInt8):List UInt8:=10 :: (Lib.decDigits t.length++32 :: (Lib.decDigits (sumI t).toNat++32 :: t))
theorem Xgg (t:List UInt8) (h:t.length<=1000000000000):(lineL t).length<=t.length+43:=by
 have e1:=Ya t.length (by omega);have e2:=Ya (sumI t).toNat (by have:=Xcu t;omega);simp [lineL];omega
theorem Tryz.Xvp (t:List UInt8) (w:World) (hE:Env w) (h6:6<=w.heap.size) (hs:t.length<=1000000000000) (ha:∀ b∈t,b.toNat<128) :
  Calls prog 144 #[.string ⟨t.toArray⟩] w fun e w'=>e=.returned (.string ⟨(lineL t).toArray⟩)/\Below w.heap.size w w':=by
 have hM:=Xqg t w hs ha;have hrg:=Xcu t;have hd1:=Ya t.length (by omega);have hd2:=Ya (sumI t).toNat (by omega);have hL:lineL t=10 :: (Lib.decDigits t.length++32 :: (Lib.decDigits (sumI t).toNat++32 :: t)):=rfl
 have hU1:=fun W hE=>Xcc t.length (by omega) W hE
 have hU2:=fun W hE=>Xcc (sumI t).toNat (by omega) W hE
 obtain⟨zs,hzs⟩:∃ zs:Nat,sumI t=(zs:Int):=⟨(sumI t).toNat,by omega⟩
 rw [hzs] at hM hU2 hL hd2;simp only [Int.toNat_natCast] at hU2 hL hd2;generalize lineL t=res at *;generalize Lib.decDigits t.length=s1 at *;generalize Lib.decDigits zs=s2 at *
 obtain⟨n,hn⟩:∃ n,t.length=n:=⟨_,rfl⟩
 rw [hn] at hM hU1 hs;have HL:=Xb hL
 have hsz1:(⟨s1.toArray⟩:ByteArray).size=s1.length:=by simp [ByteArray.size]
 have hsz2:(⟨s2.toArray⟩:ByteArray).size=s2.length:=by simp [ByteArray.size]
 have hsz3:(⟨t.toArray⟩:ByteArray).size=n:=by simp [ByteArray.size,hn]
 clear hL hrg hzs hn
 have hx0:∀(a b:Int) (W:World),(Instr.index 269 (.agg #[.int .u64 a,.int .u64 b]) (.int .i64 0)).run prog W=.ok (.int .u64 a) W:=fun _ _ _=>by kernel_rfl
 have hx1:∀(a b:Int) (W:World),(Instr.index 269 (.agg #[.int .u64 a,.int .u64 b]) (.int .i64 1)).run prog W=.ok (.int .u64 b) W:=fun _ _ _=>by kernel_rfl
 go_enter func144,ntmps144
 go_wp2_with (go_at_call 177;refine hM.mono ?_;rintro e w1 ⟨rfl,hb1⟩)
 refine wp_loop_rounds 3 ?_;rw [rounds_succ]
 go_wp2_with (go_at_call_of 122 (Value.int .u64 (n:Int));refine(hU1 _ (hE.below hb1 h6)).mono ?_;rintro e w2 ⟨rfl,hb2⟩)
 rw [rounds_succ];have hb3:=hb1.trans (hb2.mono hb1.size)
 go_wp2_with (go_at_call_of 122 (Value.int .u64 (zs:Int));refine(hU2 _ (hE.below hb3 h6)).mono ?_;rintro e w3 ⟨rfl,hb4⟩)
 rw [rounds_succ];go_wp2;go_ret;exact⟨Mb (by rw [Xa HL];apply ByteArray.ext;simp),hb3.trans (hb4.mono hb3.size)⟩
theorem Tryz.Xch (w:World):Calls prog 175 #[.int .u64 0] w fun e w'=>e=.returned (.string ⟨#[106,111,117,114,110,97,108]⟩)/\w'=w:=by
 go_enter func175,ntmps175;go_wp2;go_ret;exact⟨rfl,rfl⟩
end Go.Proofs
