import Derived.Test.YtjbekgjdempbiaaGreatDoorJSets
import Derived.Test.YtjbekgjdempbiaaGreatDoorJMapN
import Derived.Deep.DeepCutAuto
import Derived.Test.YtjbekgjdempbiaaGreatDoorJLInfo
import Derived.Test.YtjbekgjdempbiaaGreatDoorJLay2
import Derived.Lib.Join
import Derived.Test.YtjbekgjdempbiaaGreatDoorProg
import Derived.Test.YtjbekgjdempbiaaGreatDoorJBox
import Derived.WalkKit
import Derived.LaidEql
import Derived.Stop.Asserts
import Derived.RowKitTokens
set_option maxRecDepth 100000
set_option maxHeartbeats 8000000
namespace Go.Proofs
open Go.RowKit Go.Sort
structure X7 where
 kind:Int
 nk:Int
 nn:Nat
 ak:Int
 an:Nat
 pd:Bool
 at_:Int
 tr:Int
 last:Int
 pth:List UInt8
def Xi (kind nk nn ak an:Int) (pd:Bool) (at_ tr last:Int) (pth:List UInt8):Array Value:=#[.int .i64 kind,.int .i64 nk,.int .u64 nn,.int .i64 ak,.int .u64 an,.bool pd,.int .u64 at_,.int .i64 tr,.int .u64 last,.string ⟨pth.toArray⟩]
def X7.cells (r:X7):Array Value:=Xi r.kind r.nk r.nn r.ak r.an r.pd r.at_ r.tr r.last r.pth
abbrev Z5 (W:World) (rb:Nat) (c0 c1 c2 c3 c4 c5 c6 c7 c8 c9:Value):Prop:=(W.cell? ⟨rb,0,none⟩=some c0/\W.cell? ⟨rb,1,none⟩=some c1/\W.cell? ⟨rb,2,none⟩=some c2/\W.cell? ⟨rb,3,none⟩=some c3/\W.cell? ⟨rb,4,none⟩=some c4/\W.cell? ⟨rb,5,none⟩=some c5/\W.cell? ⟨rb,6,none⟩=some c6/\W.cell? ⟨rb,7,none⟩=some c7/\W.cell? ⟨rb,8,none⟩=some c8/\W.cell? ⟨rb,9,none⟩=some c9)
section
variable {W W':World} {rb:Nat} {c0 c1 c2 c3 c4 c5 c6 c7 c8 c9:Value}
theorem Z5.below (h:Z5 W rb c0 c1 c2 c3 c4 c5 c6 c7 c8 c9) (hb:Below W.heap.size W W'):Z5 W' rb c0 c1 c2 c3 c4 c5 c6 c7 c8 c9:=by
 have hlt:rb<W.heap.size:=World.block_lt_of_cell? _ _ h.1
 have c:∀ i,W'.cell? ⟨rb,i,none⟩=W.cell? ⟨rb,i,none⟩:=fun i=>hb.cell (p:=⟨rb,i,none⟩) hlt
 simp only [Z5,c];exact h
theorem Z5.set (h:Z5 W rb c0 c1 c2 c3 c4 c5 c6 c7 c8 c9) {q:Nat} (_:rb≠q) (j:Nat) (v:Value):Z5 (W.setCell ⟨q,j,none⟩ v) rb c0 c1 c2 c3 c4 c5 c6 c7 c8 c9:=by
 have c:∀ i,(W.setCell ⟨q,j,none⟩ v).cell? ⟨rb,i,none⟩=W.cell? ⟨rb,i,none⟩:=fun i=>World.cell?_setCell_other _ _ _ _ (by simp)
 simp only [Z5,c];exact h
theorem BoxN.Xag {t:TypeId} (h:BoxN W rb t #[c0,c1,c2,c3,c4,c5,c6,c7,c8,c9]):Z5 W rb c0 c1 c2 c3 c4 c5 c6 c7 c8 c9:=h.Xh4.1
end
theorem Tryz.Xh9 (kind nk nn ak an:Int) (pd:Bool) (at_ tr last:Int) (pth:List UInt8) (w:World) :
  Calls prog 216 #[.agg (Xi kind nk nn ak an pd at_ tr last pth)] w fun e w'=>e=.returned (.agg #[.int .i64 ak,.int .u64 an,.int .u64 at_,.int .i64 tr,.bool pd])/\Below w.heap.size w w':=by
 unfold Xi;go_enter func216,ntmps216;go_wp2;exact bodyPost_ret (v:=.agg #[.int .i64 ak,.int .u64 an,.int .u64 at_,.int .i64 tr,.bool pd]) (by simp [results,results216,go_sem]) rfl ⟨rfl,Ub _ _ _⟩
theorem Tryz.Xne (kind nk nn ak an:Int) (pd:Bool) (at_ tr last:Int) (pth:List UInt8) (w:World) :
  Calls prog 187 #[.agg (Xi kind nk nn ak an pd at_ tr last pth)] w fun e w'=>e=.returned (.agg #[.int .i64 ak,.int .u64 an,.int .u64 at_,.int .i64 tr,.bool pd])/\Below w.heap.size w w':=by
 have hE:=fun W=>Xh9 kind nk nn ak an pd at_ tr last pth W
 unfold Xi at hE ⊢;have b0:=BoxN.new (w.alloc (.cells #[.int .i64 kind,.int .i64 nk,.int .u64 nn,.int .i64 ak,.int .u64 an,.bool pd,.int .u64 at_,.int .i64 tr,.int .u64 last,.string ⟨pth.toArray⟩] 135)) 153 #[.int .i64 0,.int .u64 0,.int .u64 0,.int .i64 0,.bool false];rw [World.size_alloc] at b0;go_enter func187,ntmps187
 go_wp2_with (go_at_call 216;refine(hE _).mono ?_;rintro e w1 ⟨rfl,hb1⟩;have hb:=(Ub w _ _).trans (hb1.mono (by simp;omega));have bR:=b0.below hb1 (by simp);obtain⟨⟨r0,r1,r2,r3,r4⟩,f0,f1,f2,f3,f4⟩:=bR.Xof)
 have bF:=bR.sets5 (.int .i64 ak) (.int .u64 an) (.int .u64 at_) (.int .i64 tr) (.bool pd);have hB:=Xgf hb (q:=w.heap.size+1) (by omega) (.int .i64 ak) (.int .u64 an) (.int .u64 at_) (.int .i64 tr) (.bool pd);obtain⟨⟨g0,g1,g2,g3,g4⟩,-⟩:=bF.Xof;clear r0 r1 r2 r3 r4;exact bodyPost_ret (v:=.agg #[.int .i64 ak,.int .u64 an,.int .u64 at_,.int .i64 tr,.bool pd]) (by simp [results,results187,go_sem,g0,g1,g2,g3,g4]) rfl ⟨rfl,hB⟩
abbrev Xac (w0:World) (rb nb:Nat) (c0 c1 c2 c3 c4 c5 c6 c7 c8 c9:Value) (W:World):Prop:=Z5 W rb c0 c1 c2 c3 c4 c5 c6 c7 c8 c9/\Mn W nb/\Below w0.heap.size w0 W
section
variable {w0 W W':World} {rb nb:Nat} {c0 c1 c2 c3 c4 c5 c6 c7 c8 c9:Value}
theorem Xac.below (h:Xac w0 rb nb c0 c1 c2 c3 c4 c5 c6 c7 c8 c9 W) (hb:Below W.heap.size W W'):Xac w0 rb nb c0 c1 c2 c3 c4 c5 c6 c7 c8 c9 W':=⟨h.1.below hb,h.2.1.below hb,h.2.2.trans (hb.mono h.2.2.size)⟩
theorem Xac.drew (h:Xac w0 rb nb c0 c1 c2 c3 c4 c5 c6 c7 c8 c9 W):Xac w0 rb nb c0 c1 c2 c3 c4 c5 c6 c7 c8 c9 W.drew:=⟨h.1,h.2.1,h.2.2.drew⟩
theorem Xac.set (h:Xac w0 rb nb c0 c1 c2 c3 c4 c5 c6 c7 c8 c9 W) (hn:rb≠nb) (hw:w0.heap.size<=nb) (j:Nat) (v:Value):Xac w0 rb nb c0 c1 c2 c3 c4 c5 c6 c7 c8 c9 (W.setCell ⟨nb,j,none⟩ v):=⟨h.1.set hn j v,h.2.1.set _ v,h.2.2.setCell (p:=⟨nb,j,none⟩) hw v⟩
end
theorem Tryz.Xm6 (kind nk nn ak an:Int) (pd:Bool) (at_ tr last:Int) (pth:List UInt8) (w:World) :
  Calls prog 188 #[.agg (Xi kind nk nn ak an pd at_ tr last pth)] w fun e w'=>e=.returned (.agg #[.int .i64 ak,.int .u64 an,.int .u64 at_,.int .i64 tr,.bool pd,.string ⟨pth.toArray⟩,.int .u64 last])/\Below w.heap.size w w':=by
 have hE:=fun W=>Xh9 kind nk nn ak an pd at_ tr last pth W
 unfold Xi at hE ⊢;have b0:=BoxN.new (w.alloc (.cells #[.int .i64 kind,.int .i64 nk,.int .u64 nn,.int .i64 ak,.int .u64 an,.bool pd,.int .u64 at_,.int .i64 tr,.int .u64 last,.string ⟨pth.toArray⟩] 135)) 131 #[.int .i64 0,.int .u64 0,.int .u64 0,.int .i64 0,.bool false,.string ⟨#[]⟩,.int .u64 0];have bq:=(BoxN.new w 135 #[.int .i64 kind,.int .i64 nk,.int .u64 nn,.int .i64 ak,.int .u64 an,.bool pd,.int .u64 at_,.int .i64 tr,.int .u64 last,.string ⟨pth.toArray⟩]).alloc (.cells #[.int .i64 0,.int .u64 0,.int .u64 0,.int .i64 0,.bool false,.string ⟨#[]⟩,.int .u64 0] 131);rw [World.size_alloc] at b0;have hS0:=Xac.drew ⟨bq.Xag,b0.row7,Ub w _ _⟩;go_enter func188,ntmps188
 go_wp2_with fail
 go_region_held3 (Xac w w.heap.size (w.heap.size+1) (.int .i64 kind) (.int .i64 nk) (.int .u64 nn) (.int .i64 ak) (.int .u64 an) (.bool pd) (.int .u64 at_) (.int .i64 tr) (.int .u64 last) (.string ⟨pth.toArray⟩)) (first
  | with_reducible exact hS0
  | with_reducible exact Xac.below (by assumption) (by assumption)
  | with_reducible assumption
  | with_reducible exact(((((((Xac.set (by assumption) (by omega) (by omega) 0 _).set (by omega) (by omega) 1 _).set (by omega) (by omega) 2 _).set (by omega) (by omega) 3 _).set (by omega) (by omega) 4 _).set (by omega) (by omega) 5 _).set (by omega) (by omega) 6 _)) (first
  | (go_at_call 216;refine(hE _).mono ?_;rintro e w1 ⟨rfl,hb1⟩))
 all_goals
  go_wp2
  rename_i hI
  have hBF:=hI.2.2;have bR:BoxN w1 (w.heap.size+1) 131 #[.int .i64 0,.int .u64 0,.int .u64 0,.int .i64 0,.bool false,.string ⟨#[]⟩,.int .u64 0]:=(hb1.block (w.heap.size+1) (by simp [World.drew])).trans b0;have bF:=bR.sets7 (.int .i64 ak) (.int .u64 an) (.int .u64 at_) (.int .i64 tr) (.bool pd) (.string ⟨pth.toArray⟩) (.int .u64 last);obtain⟨⟨g0,g1,g2,g3,g4,g5,g6⟩,-⟩:=bF.open7;clear hI;exact bodyPost_ret (v:=.agg #[.int .i64 ak,.int .u64 an,.int .u64 at_,.int .i64 tr,.bool pd,.string ⟨pth.toArray⟩,.int .u64 last]) (by simp [results,results188,go_sem,g0,g1,g2,g3,g4,g5,g6]) rfl ⟨rfl,hBF⟩
theorem Tryz.now (vb:Nat) (tm:Int) (w:World) (hT:w.cell? ⟨vb,2,none⟩=some (.int .u64 tm)) :
  Calls prog 121 #[.pointer (some ⟨vb,0,none⟩)] w fun e w'=>e=.returned (.agg (Xi 0 0 0 0 0 false tm 0 0 []))/\Below w.heap.size w w':=by
 unfold Xi;have lt:vb<w.heap.size:=World.block_lt_of_cell? _ _ hT;go_enter func121,ntmps121;go_wp2;exact bodyPost_ret (v:=.agg #[.int .i64 0,.int .i64 0,.int .u64 0,.int .i64 0,.int .u64 0,.bool false,.int .u64 tm,.int .i64 0,.int .u64 0,.string ⟨#[]⟩]) (by simp [results,results121,go_sem]) rfl ⟨rfl,(Below.refl _ w).alloc (Nat.le_refl _) _⟩
theorem Tryz.M8 (b:Nat) (k u ak au at_ tr:Int) (pd:Bool) (w:World)
  (h0:w.cell? ⟨b,0,none⟩=some (.int .i64 ak)) (h1:w.cell? ⟨b,1,none⟩=some (.int .u64 au)) (h2:w.cell? ⟨b,2,none⟩=some (.int .u64 at_)) (h3:w.cell? ⟨b,3,none⟩=some (.int .i64 tr)) (h4:w.cell? ⟨b,4,none⟩=some (.bool pd)) :
  Calls prog 84 #[.pointer (some ⟨b,0,none⟩),.agg #[.int .i64 k,.int .u64 u]] w fun e w'=>e=.returned (.agg (Xi 1 k u ak au pd at_ tr 0 []))/\Below w.heap.size w w':=by
 unfold Xi;have lt:b<w.heap.size:=World.block_lt_of_cell? _ _ h0;go_enter func84,ntmps84;go_wp2
 go_region
 go_wp2;exact bodyPost_ret (v:=.agg #[.int .i64 1,.int .i64 k,.int .u64 u,.int .i64 ak,.int .u64 au,.bool pd,.int .u64 at_,.int .i64 tr,.int .u64 0,.string ⟨#[]⟩]) (by simp [results,results84,go_sem]) rfl ⟨rfl,(Ub w _ _).drew⟩
abbrev LrP (w0:World) (nb b rb:Nat) (k u ak au at_ tr:Int) (pd:Bool) (pth:List UInt8) (last:Int) (W:World):Prop:=
 (W.cell? ⟨nb,0,none⟩=some (.int .i64 k)/\W.cell? ⟨nb,1,none⟩=some (.int .u64 u)) /\
 (W.cell? ⟨b,0,none⟩=some (.int .i64 ak)/\W.cell? ⟨b,1,none⟩=some (.int .u64 au)/\W.cell? ⟨b,2,none⟩=some (.int .u64 at_)/\W.cell? ⟨b,3,none⟩=some (.int .i64 tr)/\W.cell? ⟨b,4,none⟩=some (.bool pd)/\W.cell? ⟨b,5,none⟩=some (.string ⟨pth.toArray⟩)/\W.cell? ⟨b,6,none⟩=some (.int .u64 last)) /\
 Z6 W rb/\Below w0.heap.size w0 W
section
variable {w0 W W':World} {nb b rb:Nat} {k u ak au at_ tr:Int} {pd:Bool} {pth:List UInt8} {last:Int}
theorem LrP.below (h:LrP w0 nb b rb k u ak au at_ tr pd pth last W) (hb:Below W.heap.size W W'):LrP w0 nb b rb k u ak au at_ tr pd pth last W':=by
 obtain⟨⟨n0,n1⟩,⟨c0,c1,c2,c3,c4,c5,c6⟩,hr,hB⟩:=h;exact⟨⟨cell_later hb n0,cell_later hb n1⟩,⟨cell_later hb c0,cell_later hb c1,cell_later hb c2,cell_later hb c3,cell_later hb c4,cell_later hb c5,cell_later hb c6⟩,hr.below hb,hB.trans (hb.mono hB.size)⟩
theorem LrP.drew (h:LrP w0 nb b rb k u ak au at_ tr pd pth last W):LrP w0 nb b rb k u ak au at_ tr pd pth last W.drew:=⟨h.1,h.2.1,h.2.2.1,h.2.2.2.drew⟩
theorem LrP.set (h:LrP w0 nb b rb k u ak au at_ tr pd pth last W) (q:Nat) (hn:nb≠q) (hb:b≠q) (hw:w0.heap.size<=q) (j:Nat) (v:Value):LrP w0 nb b rb k u ak au at_ tr pd pth last (W.setCell ⟨q,j,none⟩ v):=by
 obtain⟨⟨n0,n1⟩,⟨c0,c1,c2,c3,c4,c5,c6⟩,hr,hB⟩:=h
 have o:∀(p i:Nat),p≠q->(W.setCell ⟨q,j,none⟩ v).cell? ⟨p,i,none⟩=W.cell? ⟨p,i,none⟩:=fun p i hp=>World.cell?_setCell_other _ _ _ _ (by simp)
 exact⟨⟨(o _ _ hn).trans n0,(o _ _ hn).trans n1⟩,⟨(o _ _ hb).trans c0,(o _ _ hb).trans c1,(o _ _ hb).trans c2,(o _ _ hb).trans c3,(o _ _ hb).trans c4,(o _ _ hb).trans c5,(o _ _ hb).trans c6⟩,hr.set _ v,hB.setCell (p:=⟨q,j,none⟩) hw v⟩
theorem LrP.sets10 (h:LrP w0 nb b rb k u ak au at_ tr pd pth last W) (q:Nat) (hn:nb≠q) (hb:b≠q) (hw:w0.heap.size<=q) (v0 v1 v2 v3 v4 v5 v6 v7 v8 v9:Value) :
  LrP w0 nb b rb k u ak au at_ tr pd pth last ((((((((((W.setCell ⟨q,0,none⟩ v0).setCell ⟨q,1,none⟩ v1).setCell ⟨q,2,none⟩ v2).setCell ⟨q,3,none⟩ v3).setCell ⟨q,4,none⟩ v4).setCell ⟨q,5,none⟩ v5).setCell ⟨q,6,none⟩ v6).setCell ⟨q,7,none⟩ v7).setCell ⟨q,8,none⟩ v8).setCell ⟨q,9,none⟩ v9):=by
 have h0:=h.set q hn hb hw 0 v0;have h1:=h0.set q hn hb hw 1 v1;have h2:=h1.set q hn hb hw 2 v2;have h3:=h2.set q hn hb hw 3 v3;have h4:=h3.set q hn hb hw 4 v4;have h5:=h4.set q hn hb hw 5 v5;have h6:=h5.set q hn hb hw 6 v6;have h7:=h6.set q hn hb hw 7 v7;have h8:=h7.set q hn hb hw 8 v8;exact h8.set q hn hb hw 9 v9
end
theorem Tryz.Jw (b:Nat) (k u ak au at_ tr:Int) (pd:Bool) (pth:List UInt8) (last:Int) (w:World)
  (h0:w.cell? ⟨b,0,none⟩=some (.int .i64 ak)) (h1:w.cell? ⟨b,1,none⟩=some (.int .u64 au)) (h2:w.cell? ⟨b,2,none⟩=some (.int .u64 at_)) (h3:w.cell? ⟨b,3,none⟩=some (.int .i64 tr)) (h4:w.cell? ⟨b,4,none⟩=some (.bool pd)) (h5:w.cell? ⟨b,5,none⟩=some (.string ⟨pth.toArray⟩)) (h6:w.cell? ⟨b,6,none⟩=some (.int .u64 last)) :
  Calls prog 67 #[.pointer (some ⟨b,0,none⟩),.agg #[.int .i64 k,.int .u64 u]] w fun e w'=>e=.returned (.agg (Xi 1 k u ak au pd at_ tr last pth))/\Below w.heap.size w w':=by
 have lt:b<w.heap.size:=World.block_lt_of_cell? _ _ h0
 have hE:=fun W (hI:LrP w w.heap.size b (w.heap.size+1) k u ak au at_ tr pd pth last W)=>M8 b k u ak au at_ tr pd W hI.2.1.1 hI.2.1.2.1 hI.2.1.2.2.1 hI.2.1.2.2.2.1 hI.2.1.2.2.2.2.1
 unfold Xi at hE ⊢;have b0:=BoxN.new (w.alloc (.cells #[.int .i64 k,.int .u64 u] 114)) 135 #[.int .i64 0,.int .i64 0,.int .u64 0,.int .i64 0,.int .u64 0,.bool false,.int .u64 0,.int .i64 0,.int .u64 0,.string ⟨#[]⟩];have bn:=(BoxN.new w 114 #[.int .i64 k,.int .u64 u]).alloc (.cells #[.int .i64 0,.int .i64 0,.int .u64 0,.int .i64 0,.int .u64 0,.bool false,.int .u64 0,.int .i64 0,.int .u64 0,.string ⟨#[]⟩] 135);rw [World.size_alloc] at b0;have hb2:=Ub w (.cells #[.int .i64 k,.int .u64 u] 114) (.cells #[.int .i64 0,.int .i64 0,.int .u64 0,.int .i64 0,.int .u64 0,.bool false,.int .u64 0,.int .i64 0,.int .u64 0,.string ⟨#[]⟩] 135);have hS0:LrP w w.heap.size b (w.heap.size+1) k u ak au at_ tr pd pth last _:=LrP.drew ⟨⟨bn.cell 0 rfl,bn.cell 1 rfl⟩,⟨cell_later hb2 h0,cell_later hb2 h1,cell_later hb2 h2,cell_later hb2 h3,cell_later hb2 h4,cell_later hb2 h5,cell_later hb2 h6⟩,b0.row10,hb2⟩;go_enter func67,ntmps67
 go_wp2_with fail
 go_cut [5] (fun t5 wx=>∃ q:Nat,t5=.pointer (some ⟨q,0,none⟩)/\BoxN wx q 135 #[.int .i64 1,.int .i64 k,.int .u64 u,.int .i64 ak,.int .u64 au,.bool pd,.int .u64 at_,.int .i64 tr,.int .u64 0,.string ⟨#[]⟩]/\Z6 wx (w.heap.size+1)/\(wx.cell? ⟨b,5,none⟩=some (.string ⟨pth.toArray⟩)/\wx.cell? ⟨b,6,none⟩=some (.int .u64 last))/\Below w.heap.size w wx/\w.heap.size+1<q)
 case first =>
  go_region_held3 (LrP w w.heap.size b (w.heap.size+1) k u ak au at_ tr pd pth last) (first
   | with_reducible exact hS0
   | with_reducible exact LrP.below (by assumption) (by assumption)
   | with_reducible assumption
   | with_reducible exact LrP.sets10 (by assumption) _ (by omega) (by omega) (by omega) _ _ _ _ _ _ _ _ _ _
   | with_reducible exact LrP.below (Xa hK2) ((Below.refl _ _).alloc (Nat.le_refl _) _)
   | with_reducible exact LrP.below (by assumption) ((Below.refl _ _).alloc (Nat.le_refl _) _)) (first
   | (go_at_call 84;refine(hE _ (by assumption)).mono ?_;rintro e w2 ⟨rfl,hbS2⟩;have hK2:=Xb (LrP.below (show LrP w w.heap.size b (w.heap.size+1) k u ak au at_ tr pd pth last _ from by assumption) hbS2);obtain⟨hc2,hf2⟩:=Xn8 hbS2;have hz2:=hbS2.size))
  ·go_wp2_with fail
   go_meet
   case rel =>
    have hI2:=Xa hK2;have hB2:=hI2.2.2.2.alloc hI2.2.2.2.size (.cells #[.int .i64 1,.int .i64 k,.int .u64 u,.int .i64 ak,.int .u64 au,.bool pd,.int .u64 at_,.int .i64 tr,.int .u64 0,.string ⟨#[]⟩] 135);simp at hz2;exact⟨_,rfl,BoxN.new _ _ _,hI2.2.2.1.below ((Below.refl _ _).alloc (Nat.le_refl _) _),⟨cell_later hB2 h5,cell_later hB2 h6⟩,hB2,by omega⟩
  all_goals
   go_wp2_with fail
   go_meet
   case rel =>
    have hI2:=Xa hK2
    have b9:=(BoxN.new ((w.alloc (.cells #[.int .i64 k,.int .u64 u] 114)).alloc (.cells #[.int .i64 0,.int .i64 0,.int .u64 0,.int .i64 0,.int .u64 0,.bool false,.int .u64 0,.int .i64 0,.int .u64 0,.string ⟨#[]⟩] 135)) 135 #[.int .i64 0,.int .i64 0,.int .u64 0,.int .i64 0,.int .u64 0,.bool false,.int .u64 0,.int .i64 0,.int .u64 0,.string ⟨#[]⟩])
    simp only [World.size_alloc] at b9;have b1:BoxN w2 (w.heap.size+1+1) 135 #[.int .i64 0,.int .i64 0,.int .u64 0,.int .i64 0,.int .u64 0,.bool false,.int .u64 0,.int .i64 0,.int .u64 0,.string ⟨#[]⟩]:=(hbS2.block (w.heap.size+1+1) (by simp)).trans b9;have bF:=b1.sets10 (.int .i64 1) (.int .i64 k) (.int .u64 u) (.int .i64 ak) (.int .u64 au) (.bool pd) (.int .u64 at_) (.int .i64 tr) (.int .u64 0) (.string ⟨#[]⟩);have hI3:=hI2.sets10 (w.heap.size+1+1) (by omega) (by omega) (by omega) (.int .i64 1) (.int .i64 k) (.int .u64 u) (.int .i64 ak) (.int .u64 au) (.bool pd) (.int .u64 at_) (.int .i64 tr) (.int .u64 0) (.string ⟨#[]⟩);exact⟨_,rfl,bF,hI3.2.2.1,⟨cell_later hI3.2.2.2 h5,cell_later hI3.2.2.2 h6⟩,hI3.2.2.2,by omega⟩
 case rest =>
  obtain⟨q,rfl,bq,hr,⟨h5',h6'⟩,hB,hq⟩:=hcut;obtain⟨⟨q0,q1,q2,q3,q4,q5,q6,q7,q8,q9⟩,qf⟩:=bq.Xh4;have qf8:=bq.frozen 8;have qf9:=bq.frozen 9
  have hne:q≠w.heap.size+1:=by omega
  clear qf hS0 hb2 bn b0 hE;go_wp2
  go_region
  have bq8:=bq.set 9 (.string ⟨pth.toArray⟩);have bq9:BoxN ((wc.setCell ⟨q,9,none⟩ (.string ⟨pth.toArray⟩)).setCell ⟨q,8,none⟩ (.int .u64 last)).drew q 135 #[.int .i64 1,.int .i64 k,.int .u64 u,.int .i64 ak,.int .u64 au,.bool pd,.int .u64 at_,.int .i64 tr,.int .u64 last,.string ⟨pth.toArray⟩]:=bq8.set 8 (.int .u64 last);have hr9:Z6 ((wc.setCell ⟨q,9,none⟩ (.string ⟨pth.toArray⟩)).setCell ⟨q,8,none⟩ (.int .u64 last)).drew (w.heap.size+1):=(hr.set ⟨q,9,none⟩ _).set ⟨q,8,none⟩ _;have hB9:=((hB.setCell (p:=⟨q,9,none⟩) (by simp;omega) (.string ⟨pth.toArray⟩)).setCell (p:=⟨q,8,none⟩) (by simp;omega) (.int .u64 last)).drew;clear q0 q1 q2 q3 q4 q5 q6 q7 q8 q9 qf8 qf9 bq8 bq hr hB h5' h6';generalize ((wc.setCell ⟨q,9,none⟩ (.string ⟨pth.toArray⟩)).setCell ⟨q,8,none⟩ (.int .u64 last)).drew=W9 at *;obtain⟨⟨q0,q1,q2,q3,q4,q5,q6,q7,q8,q9⟩,-⟩:=bq9.Xh4;have hrow:=Xb hr9;obtain⟨⟨r0,r1,r2,r3,r4,r5,r6,r7,r8,r9⟩,f0,f1,f2,f3,f4,f5,f6,f7,f8,f9⟩:=hr9;go_wp2;have hr9:=Xa hrow;have hBF:=Xfx hB9 (q:=w.heap.size+1) (by omega) (.int .i64 1) (.int .i64 k) (.int .u64 u) (.int .i64 ak) (.int .u64 au) (.bool pd) (.int .u64 at_) (.int .i64 tr) (.int .u64 last) (.string ⟨pth.toArray⟩);obtain⟨g0,g1,g2,g3,g4,g5,g6,g7,g8,g9⟩:=hr9.sets (.int .i64 1) (.int .i64 k) (.int .u64 u) (.int .i64 ak) (.int .u64 au) (.bool pd) (.int .u64 at_) (.int .i64 tr) (.int .u64 last) (.string ⟨pth.toArray⟩);clear r0 r1 r2 r3 r4 r5 r6 r7 r8 r9 q0 q1 q2 q3 q4 q5 q6 q7 q8 q9;exact bodyPost_ret (v:=.agg #[.int .i64 1,.int .i64 k,.int .u64 u,.int .i64 ak,.int .u64 au,.bool pd,.int .u64 at_,.int .i64 tr,.int .u64 last,.string ⟨pth.toArray⟩]) (by simp [results,results67,go_sem,g0,g1,g2,g3,g4,g5,g6,g7,g8,g9]) rfl ⟨rfl,hBF⟩
end Go.Proofs
namespace Go.Proofs
open Go.RowKit Go.Sort Go.Lib Go.Shelf
structure X7.Ok (r:X7):Prop where
 k0 : -9223372036854775808<=r.kind
 k1:r.kind<=9223372036854775807
 n1:r.nn<18446744073709551616
 a1:r.an<18446744073709551616
 t0:0<=r.at_
 t1:r.at_<=18446744073709551615
 r0 : -9223372036854775808<=r.tr
 r1:r.tr<=9223372036854775807
 l0:0<=r.last
 l1:r.last<=18446744073709551615
 p1:r.pth.length<=1000
def Zf (r:X7):List (List UInt8):=[Lib.itoa r.kind,nmStr r.nk r.nn,nmStr r.ak r.an,Lib.formatBool r.pd,Lib.decDigits r.at_.toNat,Lib.itoa r.tr,Lib.decDigits r.last.toNat,r.pth]
def recStr (r:X7):List UInt8:=Lib.join (Zf r) [32]
theorem V8 (n:Int) (h0 : -9223372036854775808<=n) (h1:n<=9223372036854775807):(Lib.itoa n).length<=21:=by
 unfold Lib.itoa
 split
 ·have:=X1 n.natAbs (by omega)
  simp;omega
 have:=X1 n.toNat (by omega);omega
theorem Jd (k:Int) (u:Nat) (hu:u<18446744073709551616):(nmStr k u).length<=21:=by
 have:=X1 u hu;unfold nmStr
 split
 ·simp;omega
 split
 ·simp;omega
 simp
theorem Vu {r:X7} (h:r.Ok):(recStr r).length<=1200:=by
 have e1:=V8 _ h.k0 h.k1;have e2:=Jd r.nk r.nn h.n1;have e3:=Jd r.ak r.an h.a1
 have e4:(Lib.formatBool r.pd).length<=5:=by cases r.pd <;> decide
 have e5:=X1 r.at_.toNat (by have:=h.t0;have:=h.t1;omega);have e6:=V8 _ h.r0 h.r1;have e7:=X1 r.last.toNat (by have:=h.l0;have:=h.l1;omega);have e8:=h.p1;unfold recStr Zf;rw [Lib.join_length];simp [Lib.lens];omega
theorem Tryz.Xol:Builder.Extra prog Mk where
 sizeBuilder:=by kernel_rfl
 liesBuilder:=by kernel_rfl
 t5:=by kernel_rfl
 a5:=fun _=>by kernel_rfl
 z5:=fun _=>by kernel_rfl
 v5:=fun _=>by kernel_rfl
 infoByte:=by kernel_rfl
 cellsByte:=by kernel_rfl
 sizeByte:=by kernel_rfl
 neB5:=by decide
theorem Tryz.join (bk o c:Nat) (xs:List ByteArray) (sep:ByteArray) (w:World) (hcells:∀(j:Nat) x,xs[j]? = some x->w.cell? ⟨bk,o+j,none⟩=some (.string x)) (hbk:bk<w.heap.size) (hN:xs.length<=140737488355328) (hcap:xs.length<=c) (hlen:(Lib.join (xs.map (·.data.toList)) sep.data.toList).length<=140737488355328) :
  Calls prog 179 #[.slice (some ⟨bk,o,none⟩) xs.length c,.string sep] w fun e w'=>e=.returned (.string ⟨(Lib.join (xs.map (·.data.toList)) sep.data.toList).toArray⟩)/\Below w.heap.size w w':=
 Any.strings_Join Xma Xol bk o c xs sep w hcells hbk hN hcap hlen
theorem Tryz.itoa (n:Int) (h0 : -9223372036854775808<=n) (h1:n<=9223372036854775807) (w:World) (hE:Env w) :
  Calls prog 205 #[.int .i64 n] w fun e w'=>e=.returned (.string ⟨(Lib.itoa n).toArray⟩)/\Below w.heap.size w w':=
 (Any.strconv_Itoa Xmh n h0 h1 w hE.tab).mono fun _ _ ⟨h1,k,os,h2⟩=>⟨h1,Xz.below ⟨k,os,h2⟩⟩
theorem Tryz.Xil (b:Bool) (w:World):Calls prog 206 #[.bool b] w fun e w'=>e=.returned (.string ⟨(Lib.formatBool b).toArray⟩)/\Below w.heap.size w w':=
 (Any.strconv_FormatBool Xpd b w).mono fun _ _ ⟨h1,h2⟩=>⟨h1,by rw [h2];exact Below.refl _ _⟩
abbrev Tryz.J3 (w0:World) (rb:Nat) (c0 c1 c2 c3 c4 c5 c6 c7 c8 c9:Value) (W:World):Prop:=Z5 W rb c0 c1 c2 c3 c4 c5 c6 c7 c8 c9/\Env W/\6<=W.heap.size/\Below w0.heap.size w0 W
section
variable {w0 W W':World} {rb:Nat} {c0 c1 c2 c3 c4 c5 c6 c7 c8 c9:Value}
theorem Tryz.J3.below (h:J3 w0 rb c0 c1 c2 c3 c4 c5 c6 c7 c8 c9 W) (hb:Below W.heap.size W W'):J3 w0 rb c0 c1 c2 c3 c4 c5 c6 c7 c8 c9 W':=⟨h.1.below hb,h.2.1.below hb h.2.2.1,Nat.le_trans h.2.2.1 hb.size,h.2.2.2.trans (hb.mono h.2.2.2.size)⟩
theorem Tryz.J3.drew (h:J3 w0 rb c0 c1 c2 c3 c4 c5 c6 c7 c8 c9 W):J3 w0 rb c0 c1 c2 c3 c4 c5 c6 c7 c8 c9 W.drew:=h.below (Xz.below (Xz.refl W).drew)
theorem Tryz.J3.alloc (h:J3 w0 rb c0 c1 c2 c3 c4 c5 c6 c7 c8 c9 W) (o:Obj):J3 w0 rb c0 c1 c2 c3 c4 c5 c6 c7 c8 c9 (W.alloc o):=h.below ((Below.refl _ _).alloc (Nat.le_refl _) _)
end
theorem Xfo (W:World) (t:TypeId) (a b c d e f g h:ByteArray):∀(j:Nat) x,[a,b,c,d,e,f,g,h][j]? = some x->(W.alloc (.cells #[.string a,.string b,.string c,.string d,.string e,.string f,.string g,.string h] t)).cell? ⟨W.heap.size,0+j,none⟩=some (.string x):=by
 intro j x hj;have bN:=BoxN.new W t #[.string a,.string b,.string c,.string d,.string e,.string f,.string g,.string h]
 match j,hj with
 | 0,hj=>simp at hj;subst hj;exact bN.cell 0 rfl
 | 1,hj=>simp at hj;subst hj;exact bN.cell 1 rfl
 | 2,hj=>simp at hj;subst hj;exact bN.cell 2 rfl
 | 3,hj=>simp at hj;subst hj;exact bN.cell 3 rfl
 | 4,hj=>simp at hj;subst hj;exact bN.cell 4 rfl
 | 5,hj=>simp at hj;subst hj;exact bN.cell 5 rfl
 | 6,hj=>simp at hj;subst hj;exact bN.cell 6 rfl
 | 7,hj=>simp at hj;subst hj;exact bN.cell 7 rfl
 | (k+8),hj=>simp at hj
theorem Tryz.Xc0 (r:X7) (hr:r.Ok) (w:World) (hE:Env w) (h6:6<=w.heap.size) :
  Calls prog 178 #[.agg r.cells] w fun e w'=>e=.returned (.string ⟨(recStr r).toArray⟩)/\Below w.heap.size w w':=by
 have hlen:=Vu hr;have hr':=hr;obtain⟨kind,nk,nn,ak,an,pd,at_,tr,last,pth⟩:=r;obtain⟨k0,k1,n1,a1,t0,t1,r0,r1,l0,l1,p1⟩:=hr;simp only at k0 k1 n1 a1 t0 t1 r0 r1 l0 l1 p1
 obtain⟨ta,rfl⟩:∃ ta:Nat,at_=(ta:Int):=⟨at_.toNat,by omega⟩
 obtain⟨tl,rfl⟩:∃ tl:Nat,last=(tl:Int):=⟨last.toNat,by omega⟩
 have hI1:=fun W hE=>itoa kind k0 k1 W hE
 have hI2:=fun W hE=>itoa tr r0 r1 W hE
 have hN1:=fun W hE h6=>Zb nk nn n1 W hE h6
 have hN2:=fun W hE h6=>Zb ak an a1 W hE h6
 have hB1:=fun W=>Xil pd W
 have hU1:=fun W hE=>U9 ta (by omega) W hE
 have hU2:=fun W hE=>U9 tl (by omega) W hE
 unfold recStr Zf at hlen ⊢;simp only [Int.toNat_natCast] at hlen ⊢;generalize Lib.itoa kind=s0 at *;generalize nmStr nk nn=s1 at *;generalize nmStr ak an=s2 at *;generalize Lib.formatBool pd=s3 at *;generalize Lib.decDigits ta=s4 at *;generalize Lib.itoa tr=s5 at *;generalize Lib.decDigits tl=s6 at *
 have hJ:=fun W=>join W.heap.size 0 8 [⟨s0.toArray⟩,⟨s1.toArray⟩,⟨s2.toArray⟩,⟨s3.toArray⟩,⟨s4.toArray⟩,⟨s5.toArray⟩,⟨s6.toArray⟩,⟨pth.toArray⟩] ⟨#[32]⟩ _ (Xfo W 9 _ _ _ _ _ _ _ _) (by simp) (by simp) (by simp) (by simp;omega)
 simp only [List.map_cons,List.map_nil,List.length_cons,List.length_nil,Nat.reduceAdd] at hJ;generalize Lib.join [s0,s1,s2,s3,s4,s5,s6,pth] [32]=res at *;unfold X7.cells Xi;simp only
 have bq:=(BoxN.new w 135 #[.int .i64 kind,.int .i64 nk,.int .u64 nn,.int .i64 ak,.int .u64 an,.bool pd,.int .u64 ta,.int .i64 tr,.int .u64 tl,.string ⟨pth.toArray⟩])
 have hb0:Below w.heap.size w (w.alloc (.cells #[.int .i64 kind,.int .i64 nk,.int .u64 nn,.int .i64 ak,.int .u64 an,.bool pd,.int .u64 ta,.int .i64 tr,.int .u64 tl,.string ⟨pth.toArray⟩] 135)):=(Below.refl _ _).alloc (Nat.le_refl _) _;have hS0:J3 w w.heap.size _ _ _ _ _ _ _ _ _ _ _:=J3.drew ⟨bq.Xag,hE.below hb0 h6,by simp;omega,hb0⟩;clear k0 k1 n1 a1 t0 t1 r0 r1 l0 l1 p1 hr' hlen;go_enter func178,ntmps178
 go_wp2_with fail
 go_region_held3 (J3 w w.heap.size (.int .i64 kind) (.int .i64 nk) (.int .u64 nn) (.int .i64 ak) (.int .u64 an) (.bool pd) (.int .u64 ta) (.int .i64 tr) (.int .u64 tl) (.string ⟨pth.toArray⟩)) (first
  | with_reducible exact hS0
  | with_reducible exact J3.below (by assumption) (by assumption)
  | with_reducible assumption
  | with_reducible exact J3.alloc (by assumption) _) (first
  | (go_at_call_of 205 (Value.int .i64 kind);refine(hI1 _ (show J3 w w.heap.size (.int .i64 kind) (.int .i64 nk) (.int .u64 nn) (.int .i64 ak) (.int .u64 an) (.bool pd) (.int .u64 ta) (.int .i64 tr) (.int .u64 tl) (.string ⟨pth.toArray⟩) _ from by assumption).2.1).mono ?_;rintro e w1 ⟨rfl,hbS1⟩)
  | (go_at_call_of 68 (Value.int .u64 (nn:Int));have hQ:=(show J3 w w.heap.size (.int .i64 kind) (.int .i64 nk) (.int .u64 nn) (.int .i64 ak) (.int .u64 an) (.bool pd) (.int .u64 ta) (.int .i64 tr) (.int .u64 tl) (.string ⟨pth.toArray⟩) _ from by assumption);refine(hN1 _ hQ.2.1 hQ.2.2.1).mono ?_;clear hQ;rintro e w2 ⟨rfl,hbS2⟩)
  | (go_at_call_of 68 (Value.int .u64 (an:Int));have hQ:=(show J3 w w.heap.size (.int .i64 kind) (.int .i64 nk) (.int .u64 nn) (.int .i64 ak) (.int .u64 an) (.bool pd) (.int .u64 ta) (.int .i64 tr) (.int .u64 tl) (.string ⟨pth.toArray⟩) _ from by assumption);refine(hN2 _ hQ.2.1 hQ.2.2.1).mono ?_;clear hQ;rintro e w3 ⟨rfl,hbS3⟩)
  | (go_at_call 206;refine(hB1 _).mono ?_;rintro e w4 ⟨rfl,hbS4⟩)
  | (go_at_call_of 122 (Value.int .u64 (ta:Int));refine(hU1 _ (show J3 w w.heap.size (.int .i64 kind) (.int .i64 nk) (.int .u64 nn) (.int .i64 ak) (.int .u64 an) (.bool pd) (.int .u64 ta) (.int .i64 tr) (.int .u64 tl) (.string ⟨pth.toArray⟩) _ from by assumption).2.1).mono ?_;rintro e w5 ⟨rfl,hbS5⟩)
  | (go_at_call_of 205 (Value.int .i64 tr);refine(hI2 _ (show J3 w w.heap.size (.int .i64 kind) (.int .i64 nk) (.int .u64 nn) (.int .i64 ak) (.int .u64 an) (.bool pd) (.int .u64 ta) (.int .i64 tr) (.int .u64 tl) (.string ⟨pth.toArray⟩) _ from by assumption).2.1).mono ?_;rintro e w6 ⟨rfl,hbS6⟩)
  | (go_at_call_of 122 (Value.int .u64 (tl:Int));refine(hU2 _ (show J3 w w.heap.size (.int .i64 kind) (.int .i64 nk) (.int .u64 nn) (.int .i64 ak) (.int .u64 an) (.bool pd) (.int .u64 ta) (.int .i64 tr) (.int .u64 tl) (.string ⟨pth.toArray⟩) _ from by assumption).2.1).mono ?_;rintro e w7 ⟨rfl,hbS7⟩)
  | (go_at_call 179;refine(hJ _).mono ?_;rintro e w8 ⟨rfl,hbS8⟩))
 all_goals
  go_wp2
  rename_i hI
  go_ret;exact⟨rfl,hI.2.2.2⟩
def Yo (W:World) (g:Nat) (rs:List X7):Prop:=∀ i r,rs[i]? = some r->∀ j v,r.cells[j]? = some v->W.cell? ⟨g,i*10+j,none⟩=some v
theorem Yo.below {W W':World} {g B:Nat} {rs:List X7} (h:Yo W g rs) (hb:Below B W W') (hg:g<B):Yo W' g rs:=fun i r hr j v hv=>(hb.cell (p:=⟨g,i*10+j,none⟩) hg).trans (h i r hr j v hv)
def Y5 (rs:List X7):List (List UInt8):=rs.map recStr
def recTxt (rs:List X7):List UInt8:=Lib.join (Y5 rs) [59]
def Xjd (s:List UInt8):Value:=.string ⟨s.toArray⟩
def txs (rs:List X7) (k:Nat):List Value:=(rs.take k).map (fun r=>Xjd (recStr r))++List.replicate (rs.length-k) (.string ⟨#[]⟩)
theorem Xng (rs:List X7) (k:Nat) (hk:k<=rs.length):(txs rs k).length=rs.length:=by simp [txs];omega
theorem Xnj {rs:List X7} {k:Nat} {r:X7} (h:rs[k]? = some r):(txs rs k).set k (Xjd (recStr r))=txs rs (k+1):=by
 have hk:k<rs.length:=(List.getElem?_eq_some_iff.1 h).1;unfold txs;rw [List.take_add_one,h,List.set_append,if_neg (by simp;omega)]
 have e1:k-((rs.take k).map (fun r=>Xjd (recStr r))).length=0:=by simp;omega
 obtain⟨m,hm⟩:∃ m,rs.length-k=m+1:=⟨rs.length-k-1,by omega⟩
 rw [e1,hm,List.replicate_succ,List.set_cons_zero,show rs.length-(k+1)=m by omega];simp
theorem Xnx (rs:List X7):txs rs rs.length=rs.map (fun r=>Xjd (recStr r)):=by simp [txs]
theorem Y1 (rs:List X7) (h:∀ r∈rs,r.Ok):(recTxt rs).length<=1201*rs.length:=by
 unfold recTxt Y5
 cases rs with
 | nil=>simp [Lib.join]
 | cons r rs =>
  rw [List.map_cons,Lib.join_length]
  have:∀ l:List X7,(∀ r∈l,r.Ok)->Lib.lens (l.map recStr)<=1200*l.length:=fun l=>by
   induction l with
   | nil=>intro _;simp [Lib.lens]
   | cons x l ih =>
    intro hx;have h1:=Vu (hx x (by simp));have h2:=ih (fun y hy=>hx y (List.mem_cons_of_mem _ hy));simp only [Lib.lens,List.map_cons,List.sum_cons,List.length_cons] at h2 ⊢;omega
  have h3:=this (r :: rs) h;rw [List.map_cons] at h3;simp only [List.length_cons,List.length_map,List.length_nil] at h3 ⊢;omega
theorem Xd6:∀ l:List (List UInt8),(l.map (fun s=>(⟨s.toArray⟩:ByteArray))).map (·.data.toList)=l
 | []=>rfl
 | x :: l=>by rw [List.map_cons,List.map_cons,Xd6 l]
theorem Tryz.Xa8:(prog.info? 9).map (fun i=>(i.zero,i.size,i.bytes))=some (some (.string ⟨#[]⟩),1,16):=by kernel_rfl
theorem Tryz.Xik (g cap:Nat) (rs:List X7) (w:World) (hR:Yo w g rs) (hg:g<w.heap.size) (hok:∀ r∈rs,r.Ok) (hn:rs.length<=1000) (hE:Env w) (h6:6<=w.heap.size) :
  Calls prog 145 #[.slice (some ⟨g,0,none⟩) rs.length cap] w fun e w'=>e=.returned (.string ⟨(recTxt rs).toArray⟩)/\Below w.heap.size w w':=by
 have hlen:=Y1 rs hok
 have hSt:=fun(r:X7) hr W hE h6=>Xc0 r hr W hE h6
 obtain⟨n,hnn⟩:∃ n,rs.length=n:=⟨_,rfl⟩
 rw [hnn] at hn hlen ⊢;have Hn:=Xb hnn;clear hnn;obtain⟨i0,hi,hz0,hz1,hz2⟩:=info_parts Xa8;have hmk:=run_makeSlice (P:=prog) w 40 9 i0 _ underlying40 hi hz0 .i64 .i64 n n (by omega) (Int.le_refl _) (by rw [hz1];omega) (by rw [hz2];omega) (by omega);rw [hz1] at hmk;simp only [Int.toNat_natCast,Nat.mul_one] at hmk
 have hmc:madeCells (Value.string ⟨#[]⟩).cells n=(txs rs 0).toArray:=by
  rw [<- Xa Hn];apply Array.ext
  ·rw [size_madeCells];simp [txs]
  intro j h1 h2;simp [txs,madeCells,Value.cells];rw [Nat.mod_one];rfl
 rw [hmc] at hmk;have bT:=BoxN.new w 9 (txs rs 0).toArray;have hb0:Below w.heap.size w (w.alloc (.cells (txs rs 0).toArray 9)):=(Below.refl _ _).alloc (Nat.le_refl _) _;clear hmc;generalize w.alloc (.cells (txs rs 0).toArray 9)=w0 at *;go_enter func145,ntmps145;go_wp2
 go_loopw [11] (fun i wr=>∃ k:Nat,k<=n/\i=.int .i64 k/\BoxN wr w.heap.size 9 (txs rs k).toArray/\Below w.heap.size w wr) (fun i _=>n-(intOf i).toNat)
 case atStart=>exact⟨0,Nat.zero_le _,rfl,bT,hb0⟩
 case round =>
  obtain⟨k,hk,rfl,bk,hbk⟩:=hrel
  by_cases hkn:k<n
  ·obtain⟨r,hr⟩:∃ r,rs[k]? = some r:=⟨rs[k]'(by have:=Xa Hn;omega),by simp [Xa Hn,hkn]⟩
   have hrk:=(hR.below hbk hg) k r hr;have hS1:=hSt r (hok r (List.mem_of_getElem? hr));have hset:=Xb (Xnj hr)
   have hlt:k<(txs rs k).length:=by rw [Xng _ _ (by have:=Xa Hn;omega)];have:=Xa Hn;omega
   obtain⟨old,hold⟩:∃ v,(txs rs k)[k]? = some v:=⟨(txs rs k)[k],by simp [hlt]⟩
   have c0:=bk.cell k (v:=old) (by simpa using hold);have f0:=bk.frozen k;generalize recStr r=st at *;obtain⟨kind,nk,nn,ak,an,pd,at_,tr,last,pth⟩:=r;unfold X7.cells Xi at hrk hS1;simp only at hrk hS1;have x0:=hrk 0 _ rfl;have x1:=hrk 1 _ rfl;have x2:=hrk 2 _ rfl;have x3:=hrk 3 _ rfl;have x4:=hrk 4 _ rfl;have x5:=hrk 5 _ rfl;have x6:=hrk 6 _ rfl;have x7:=hrk 7 _ rfl;have x8:=hrk 8 _ rfl;have x9:=hrk 9 _ rfl;simp only [Nat.add_zero] at x0;clear hrk hSt hR hlt hmk;have hbA:=hbk.alloc hbk.size (.cells #[.int .i64 kind,.int .i64 nk,.int .u64 nn,.int .i64 ak,.int .u64 an,.bool pd,.int .u64 at_,.int .i64 tr,.int .u64 last,.string ⟨pth.toArray⟩] 135);have bA:=bk.alloc (.cells #[.int .i64 kind,.int .i64 nk,.int .u64 nn,.int .i64 ak,.int .u64 an,.bool pd,.int .u64 at_,.int .i64 tr,.int .u64 last,.string ⟨pth.toArray⟩] 135);have hEA:=hE.below hbA h6
   have h6A:6<=(wr.alloc (.cells #[.int .i64 kind,.int .i64 nk,.int .u64 nn,.int .i64 ak,.int .u64 an,.bool pd,.int .u64 at_,.int .i64 tr,.int .u64 last,.string ⟨pth.toArray⟩] 135)).heap.size:=by have:=hbA.size;omega
   go_wp2_with (go_at_call 178;refine(hS1 _ hEA h6A).mono ?_;rintro e w2 ⟨rfl,hb2⟩;have b2:=bA.below hb2 bA.lt;have c2:=b2.cell k (v:=old) (by simpa using hold);have f2:=b2.frozen k)
   have hb3:=(hbA.trans (hb2.mono hbA.size)).setCell (p:=⟨w.heap.size,k,none⟩) (Nat.le_refl _) (.string ⟨st.toArray⟩)
   have b3:BoxN (w2.setCell ⟨w.heap.size,k,none⟩ (.string ⟨st.toArray⟩)) w.heap.size 9 (txs rs (k+1)).toArray:=by
    have:=b2.set k (.string ⟨st.toArray⟩);rw [<- show (txs rs k).set k (Xjd st)=txs rs (k+1) from Xa hset]
    simpa [Xjd] using this
   have HB:=Xb (And.intro b3 hb3);clear b3 hb3 c2 f2 b2 hb2 hbA bA hEA h6A bk hbk c0 f0;generalize (w2.setCell ⟨w.heap.size,k,none⟩ (.string ⟨st.toArray⟩))=w3 at *
   go_roundw
   case rel=>exact⟨k+1,by omega,rfl,(Xa HB).1,(Xa HB).2⟩
   case measure=>simp [intOf];omega
  obtain rfl:k=n:=by omega
  have hJ:=join w.heap.size 0 k ((Y5 rs).map (fun s=>⟨s.toArray⟩)) ⟨#[59]⟩ wr (fun j x hx=>by
   have hx':(txs rs k)[j]? = some (.string x):=by
    rw [<- Xa Hn,Xnx];simp [Y5] at hx ⊢;obtain⟨a,h1,h2⟩:=hx;exact⟨a,h1,by rw [<- h2];rfl⟩
   have:=bk.cell j (v:=.string x) (by simpa using hx')
   rwa [Nat.zero_add]) bk.lt (by have:=Xa Hn;simp [Y5];omega) (by have:=Xa Hn;simp [Y5];omega) (by
   have e:=Xd6 (Y5 rs);rw [e]
   show (recTxt rs).length<=_
   omega)
  have e:=Xd6 (Y5 rs)
  have e2:((Y5 rs).map (fun s=>(⟨s.toArray⟩:ByteArray))).length=k:=by rw [<- Xa Hn];simp [Y5]
  rw [e,e2] at hJ
  change Calls _ _ _ _ (fun e w'=>e=.returned (.string ⟨(recTxt rs).toArray⟩)/\_) at hJ
  obtain⟨res,hres⟩:∃ res,recTxt rs=res:=⟨_,rfl⟩
  rw [hres] at hJ;have Hres:=Xb hres;clear hres hlen;clear e e2 hR hSt hmk hok
  go_wp2_with (go_at_call 179;refine hJ.mono ?_;rintro e w2 ⟨rfl,hb2⟩)
  go_ret;exact⟨by rw [Xa Hres];rfl,hbk.trans (hb2.mono hbk.size)⟩
end Go.Proofs
namespace Go.Proofs
open Go.RowKit Go.Extern.Stop Go.Stop Go.Extern
theorem Tryz.Xjw (h:Value) (w:World):(Go.method 517 243 (.agg #[h]) "Comparable").run prog w=.ok (343,.agg #[h]) w:=by kernel_rfl
theorem Tryz.Xlt (v:Value) (w:World):(ReflectliteType.typeOf #[.iface 33 v]).run prog w=.ok (.iface 243 (.agg #[.pointer (some ⟨9,33,none⟩)])) w:=by kernel_rfl
def Xo4 (k:Int):Prop:=k=1\/k=2\/k=3\/k=4\/k=5\/k=6\/k=7\/k=8
theorem Tryz.rfEql (k:Int) (hk:Xo4 k) (w:World):(binOp .eql 81 (.iface 33 (.int .i64 k)) (.iface 33 (.int .i64 k))).run prog w=.ok (.bool true) w:=by
 rcases hk with rfl | rfl | rfl | rfl | rfl | rfl | rfl | rfl <;> kernel_rfl
theorem Tryz.Xo0 (k:Int) (hk:Xo4 k) (w:World) :
  Calls prog 70 #[.iface 33 (.int .i64 k),.iface 33 (.int .i64 k)] w fun e w'=>e=.returned (.bool true)/\w'=w:=by
 have h10:=@run_callFunc_extern prog 127 _ ReflectliteType.typeOf func127 (by kernel_rfl) (by kernel_rfl) (by kernel_rfl) (by kernel_rfl);have h32:=@run_callFunc_extern prog 343 _ (ReflectliteType.method fun t=>do Rtype.noPackHeld "Comparable" t;pure (.bool (<- typeInfo t).comparable)) func343 (by kernel_rfl) (by kernel_rfl) (by kernel_rfl) (by kernel_rfl);have tT:=Xlt
 have cT:∀ W,((ReflectliteType.method fun t=>do Rtype.noPackHeld "Comparable" t;Functor.map (fun a=>Value.bool a.comparable) (typeInfo t)) #[.agg #[.pointer (some ⟨9,33,none⟩)]]).run prog W=.ok (.bool true) W:=fun W=>by kernel_rfl
 have mR:=Xjw;have heq:=rfEql k hk;clear hk;go_enter func70,ntmps70;go_wp2;refine wp_loop_rounds 1 ?_;rw [rounds_succ];go_wp2;go_ret;exact⟨rfl,rfl⟩
theorem Tryz.Jh (w:World):Calls prog 43 #[.nilIface] w fun e w'=>e=.returned (.int .i64 0)/\Below w.heap.size w w':=by
 go_enter func43,ntmps43;go_wp2;go_ret;exact⟨rfl,(Below.refl _ _).alloc (Nat.le_refl _) _⟩
end Go.Proofs
namespace Go.Proofs
open Go.RowKit Go.Sort Go.Lib Go.Shelf
def Tryz.Z1 (W:World):Prop:=W.cell? ⟨0,0,none⟩=some (.iface 243 (.agg #[.pointer (some ⟨9,81,none⟩)]))/\∃ m,W.cell? ⟨6,0,none⟩=some (.int .i64 m)
theorem Tryz.Z1.below {W W':World} (h:Z1 W) (hb:Below 9 W W'):Z1 W':=by
 obtain⟨h1,m,h2⟩:=h;exact⟨(hb.cell (p:=⟨0,0,none⟩) (by show 0<9;decide)).trans h1,m,(hb.cell (p:=⟨6,0,none⟩) (by show 6<9;decide)).trans h2⟩
end Go.Proofs
