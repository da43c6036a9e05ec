import Derived.Test.YtjbekgjdempbiaaGreatDoorJSets
import Derived.Test.YtjbekgjdempbiaaGreatDoorJMapOps
import Derived.Deep.DeepCutAuto
import Derived.Test.YtjbekgjdempbiaaGreatDoorJStr
import Derived.Laws.RangeAny
import Derived.Test.YtjbekgjdempbiaaGreatDoorJRefH
import Derived.Carry
import Derived.Deep.RegionHeldLaw
import Derived.Deep.RegionLaw
import Derived.Deep.AppendLies
import Derived.Deep.RegionHeld3
import Derived.RangeFuncBox
import Derived.Laws.IdiomStrings
set_option maxRecDepth 100000
set_option maxHeartbeats 8000000
namespace Go.Proofs
open Go.RowKit Go.Sort
structure RecD where
 kind:Int
 nk:Int
 nn:Nat
 ak:Int
 an:Nat
 pd:Bool
 at_:Int
 tr:Int
 last:Int
 pth:List UInt8
def recCells (kind nk nn ak an:Int) (pd:Bool) (at_ tr last:Int) (pth:List UInt8):Array Value:=#[.int .i64 kind,.int .i64 nk,.int .u64 nn,.int .i64 ak,.int .u64 an,.bool pd,.int .u64 at_,.int .i64 tr,.int .u64 last,.string ⟨pth.toArray⟩]
def RecD.cells (r:RecD):Array Value:=recCells r.kind r.nk r.nn r.ak r.an r.pd r.at_ r.tr r.last r.pth
abbrev Hold10 (W:World) (rb:Nat) (c0 c1 c2 c3 c4 c5 c6 c7 c8 c9:Value):Prop:=(W.cell? ⟨rb,0,none⟩=some c0∧W.cell? ⟨rb,1,none⟩=some c1∧W.cell? ⟨rb,2,none⟩=some c2∧W.cell? ⟨rb,3,none⟩=some c3∧W.cell? ⟨rb,4,none⟩=some c4∧W.cell? ⟨rb,5,none⟩=some c5∧W.cell? ⟨rb,6,none⟩=some c6∧W.cell? ⟨rb,7,none⟩=some c7∧W.cell? ⟨rb,8,none⟩=some c8∧W.cell? ⟨rb,9,none⟩=some c9)
section
variable {W W':World} {rb:Nat} {c0 c1 c2 c3 c4 c5 c6 c7 c8 c9:Value}
theorem Hold10.below (h:Hold10 W rb c0 c1 c2 c3 c4 c5 c6 c7 c8 c9) (hb:Below W.heap.size W W'):Hold10 W' rb c0 c1 c2 c3 c4 c5 c6 c7 c8 c9:=by
 have hlt:rb<W.heap.size:=World.block_lt_of_cell? _ _ h.1
 have c:∀ i,W'.cell? ⟨rb,i,none⟩=W.cell? ⟨rb,i,none⟩:=fun i=>hb.cell (p:=⟨rb,i,none⟩) hlt
 simp only [Hold10,c];exact h
theorem Hold10.set (h:Hold10 W rb c0 c1 c2 c3 c4 c5 c6 c7 c8 c9) {q:Nat} (_:rb≠q) (j:Nat) (v:Value):Hold10 (W.setCell ⟨q,j,none⟩ v) rb c0 c1 c2 c3 c4 c5 c6 c7 c8 c9:=by
 have c:∀ i,(W.setCell ⟨q,j,none⟩ v).cell? ⟨rb,i,none⟩=W.cell? ⟨rb,i,none⟩:=fun i=>World.cell?_setCell_other _ _ _ _ (by simp)
 simp only [Hold10,c];exact h
theorem BoxN.hold10 {t:TypeId} (h:BoxN W rb t #[c0,c1,c2,c3,c4,c5,c6,c7,c8,c9]):Hold10 W rb c0 c1 c2 c3 c4 c5 c6 c7 c8 c9:=h.open10.1
end
theorem Tryz.entryOf (kind nk nn ak an:Int) (pd:Bool) (at_ tr last:Int) (pth:List UInt8) (w:World) :
  Calls prog 216 #[.agg (recCells kind nk nn ak an pd at_ tr last pth)] w fun e w'=>e=.returned (.agg #[.int .i64 ak,.int .u64 an,.int .u64 at_,.int .i64 tr,.bool pd])∧Below w.heap.size w w':=by
 unfold recCells;go_enter func216,ntmps216;go_wp2;exact bodyPost_ret (v:=.agg #[.int .i64 ak,.int .u64 an,.int .u64 at_,.int .i64 tr,.bool pd]) (by simp [results,results216,go_sem]) rfl ⟨rfl,below2 _ _ _⟩
theorem Tryz.tokenOf (kind nk nn ak an:Int) (pd:Bool) (at_ tr last:Int) (pth:List UInt8) (w:World) :
  Calls prog 187 #[.agg (recCells kind nk nn ak an pd at_ tr last pth)] w fun e w'=>e=.returned (.agg #[.int .i64 ak,.int .u64 an,.int .u64 at_,.int .i64 tr,.bool pd])∧Below w.heap.size w w':=by
 have hE:=fun W=>entryOf kind nk nn ak an pd at_ tr last pth W
 unfold recCells at hE ⊢;have b0:=BoxN.new (w.alloc (.cells #[.int .i64 kind,.int .i64 nk,.int .u64 nn,.int .i64 ak,.int .u64 an,.bool pd,.int .u64 at_,.int .i64 tr,.int .u64 last,.string ⟨pth.toArray⟩] 135)) 153 #[.int .i64 0,.int .u64 0,.int .u64 0,.int .i64 0,.bool false];rw [World.size_alloc] at b0;go_enter func187,ntmps187
 go_wp2_with (go_at_call 216;refine(hE _).mono ?_;rintro e w1 ⟨rfl,hb1⟩;have hb:=(below2 w _ _).trans (hb1.mono (by simp;omega));have bR:=b0.below hb1 (by simp);obtain⟨⟨r0,r1,r2,r3,r4⟩,f0,f1,f2,f3,f4⟩:=bR.open5)
 have bF:=bR.sets5 (.int .i64 ak) (.int .u64 an) (.int .u64 at_) (.int .i64 tr) (.bool pd);have hB:=belowSets5 hb (q:=w.heap.size+1) (by omega) (.int .i64 ak) (.int .u64 an) (.int .u64 at_) (.int .i64 tr) (.bool pd);obtain⟨⟨g0,g1,g2,g3,g4⟩,-⟩:=bF.open5;clear r0 r1 r2 r3 r4;exact bodyPost_ret (v:=.agg #[.int .i64 ak,.int .u64 an,.int .u64 at_,.int .i64 tr,.bool pd]) (by simp [results,results187,go_sem,g0,g1,g2,g3,g4]) rfl ⟨rfl,hB⟩
abbrev LofP (w0:World) (rb nb:Nat) (c0 c1 c2 c3 c4 c5 c6 c7 c8 c9:Value) (W:World):Prop:=Hold10 W rb c0 c1 c2 c3 c4 c5 c6 c7 c8 c9∧Row7 W nb∧Below w0.heap.size w0 W
section
variable {w0 W W':World} {rb nb:Nat} {c0 c1 c2 c3 c4 c5 c6 c7 c8 c9:Value}
theorem LofP.below (h:LofP w0 rb nb c0 c1 c2 c3 c4 c5 c6 c7 c8 c9 W) (hb:Below W.heap.size W W'):LofP w0 rb nb c0 c1 c2 c3 c4 c5 c6 c7 c8 c9 W':=⟨h.1.below hb,h.2.1.below hb,h.2.2.trans (hb.mono h.2.2.size)⟩
theorem LofP.drew (h:LofP w0 rb nb c0 c1 c2 c3 c4 c5 c6 c7 c8 c9 W):LofP w0 rb nb c0 c1 c2 c3 c4 c5 c6 c7 c8 c9 W.drew:=⟨h.1,h.2.1,h.2.2.drew⟩
theorem LofP.set (h:LofP w0 rb nb c0 c1 c2 c3 c4 c5 c6 c7 c8 c9 W) (hn:rb≠nb) (hw:w0.heap.size≤nb) (j:Nat) (v:Value):LofP w0 rb nb c0 c1 c2 c3 c4 c5 c6 c7 c8 c9 (W.setCell ⟨nb,j,none⟩ v):=⟨h.1.set hn j v,h.2.1.set _ v,h.2.2.setCell (p:=⟨nb,j,none⟩) hw v⟩
end
theorem Tryz.leaseOf (kind nk nn ak an:Int) (pd:Bool) (at_ tr last:Int) (pth:List UInt8) (w:World) :
  Calls prog 188 #[.agg (recCells kind nk nn ak an pd at_ tr last pth)] w fun e w'=>e=.returned (.agg #[.int .i64 ak,.int .u64 an,.int .u64 at_,.int .i64 tr,.bool pd,.string ⟨pth.toArray⟩,.int .u64 last])∧Below w.heap.size w w':=by
 have hE:=fun W=>entryOf kind nk nn ak an pd at_ tr last pth W
 unfold recCells at hE ⊢;have b0:=BoxN.new (w.alloc (.cells #[.int .i64 kind,.int .i64 nk,.int .u64 nn,.int .i64 ak,.int .u64 an,.bool pd,.int .u64 at_,.int .i64 tr,.int .u64 last,.string ⟨pth.toArray⟩] 135)) 131 #[.int .i64 0,.int .u64 0,.int .u64 0,.int .i64 0,.bool false,.string ⟨#[]⟩,.int .u64 0];have bq:=(BoxN.new w 135 #[.int .i64 kind,.int .i64 nk,.int .u64 nn,.int .i64 ak,.int .u64 an,.bool pd,.int .u64 at_,.int .i64 tr,.int .u64 last,.string ⟨pth.toArray⟩]).alloc (.cells #[.int .i64 0,.int .u64 0,.int .u64 0,.int .i64 0,.bool false,.string ⟨#[]⟩,.int .u64 0] 131);rw [World.size_alloc] at b0;have hS0:=LofP.drew ⟨bq.hold10,b0.row7,below2 w _ _⟩;go_enter func188,ntmps188
 go_wp2_with fail
 go_region_held3 (LofP w w.heap.size (w.heap.size+1) (.int .i64 kind) (.int .i64 nk) (.int .u64 nn) (.int .i64 ak) (.int .u64 an) (.bool pd) (.int .u64 at_) (.int .i64 tr) (.int .u64 last) (.string ⟨pth.toArray⟩)) (first
  | with_reducible exact hS0
  | with_reducible exact LofP.below (by assumption) (by assumption)
  | with_reducible assumption
  | with_reducible exact(((((((LofP.set (by assumption) (by omega) (by omega) 0 _).set (by omega) (by omega) 1 _).set (by omega) (by omega) 2 _).set (by omega) (by omega) 3 _).set (by omega) (by omega) 4 _).set (by omega) (by omega) 5 _).set (by omega) (by omega) 6 _)) (first
  | (go_at_call 216;refine(hE _).mono ?_;rintro e w1 ⟨rfl,hb1⟩))
 all_goals
  go_wp2
  rename_i hI
  have hBF:=hI.2.2;have bR:BoxN w1 (w.heap.size+1) 131 #[.int .i64 0,.int .u64 0,.int .u64 0,.int .i64 0,.bool false,.string ⟨#[]⟩,.int .u64 0]:=(hb1.block (w.heap.size+1) (by simp [World.drew])).trans b0;have bF:=bR.sets7 (.int .i64 ak) (.int .u64 an) (.int .u64 at_) (.int .i64 tr) (.bool pd) (.string ⟨pth.toArray⟩) (.int .u64 last);obtain⟨⟨g0,g1,g2,g3,g4,g5,g6⟩,-⟩:=bF.open7;clear hI;exact bodyPost_ret (v:=.agg #[.int .i64 ak,.int .u64 an,.int .u64 at_,.int .i64 tr,.bool pd,.string ⟨pth.toArray⟩,.int .u64 last]) (by simp [results,results188,go_sem,g0,g1,g2,g3,g4,g5,g6]) rfl ⟨rfl,hBF⟩
theorem Tryz.now (vb:Nat) (tm:Int) (w:World) (hT:w.cell? ⟨vb,2,none⟩=some (.int .u64 tm)) :
  Calls prog 121 #[.pointer (some ⟨vb,0,none⟩)] w fun e w'=>e=.returned (.agg (recCells 0 0 0 0 0 false tm 0 0 []))∧Below w.heap.size w w':=by
 unfold recCells;have lt:vb<w.heap.size:=World.block_lt_of_cell? _ _ hT;go_enter func121,ntmps121;go_wp2;exact bodyPost_ret (v:=.agg #[.int .i64 0,.int .i64 0,.int .u64 0,.int .i64 0,.int .u64 0,.bool false,.int .u64 tm,.int .i64 0,.int .u64 0,.string ⟨#[]⟩]) (by simp [results,results121,go_sem]) rfl ⟨rfl,(Below.refl _ w).alloc (Nat.le_refl _) _⟩
theorem Tryz.entRecord (b:Nat) (k u ak au at_ tr:Int) (pd:Bool) (w:World)
  (h0:w.cell? ⟨b,0,none⟩=some (.int .i64 ak)) (h1:w.cell? ⟨b,1,none⟩=some (.int .u64 au)) (h2:w.cell? ⟨b,2,none⟩=some (.int .u64 at_)) (h3:w.cell? ⟨b,3,none⟩=some (.int .i64 tr)) (h4:w.cell? ⟨b,4,none⟩=some (.bool pd)) :
  Calls prog 84 #[.pointer (some ⟨b,0,none⟩),.agg #[.int .i64 k,.int .u64 u]] w fun e w'=>e=.returned (.agg (recCells 1 k u ak au pd at_ tr 0 []))∧Below w.heap.size w w':=by
 unfold recCells;have lt:b<w.heap.size:=World.block_lt_of_cell? _ _ h0;go_enter func84,ntmps84;go_wp2
 go_region
 go_wp2;exact bodyPost_ret (v:=.agg #[.int .i64 1,.int .i64 k,.int .u64 u,.int .i64 ak,.int .u64 au,.bool pd,.int .u64 at_,.int .i64 tr,.int .u64 0,.string ⟨#[]⟩]) (by simp [results,results84,go_sem]) rfl ⟨rfl,(below2 w _ _).drew⟩
abbrev LrP (w0:World) (nb b rb:Nat) (k u ak au at_ tr:Int) (pd:Bool) (pth:List UInt8) (last:Int) (W:World):Prop:=
 (W.cell? ⟨nb,0,none⟩=some (.int .i64 k)∧W.cell? ⟨nb,1,none⟩=some (.int .u64 u)) ∧
 (W.cell? ⟨b,0,none⟩=some (.int .i64 ak)∧W.cell? ⟨b,1,none⟩=some (.int .u64 au)∧W.cell? ⟨b,2,none⟩=some (.int .u64 at_)∧W.cell? ⟨b,3,none⟩=some (.int .i64 tr)∧W.cell? ⟨b,4,none⟩=some (.bool pd)∧W.cell? ⟨b,5,none⟩=some (.string ⟨pth.toArray⟩)∧W.cell? ⟨b,6,none⟩=some (.int .u64 last)) ∧
 Row10 W rb∧Below w0.heap.size w0 W
section
variable {w0 W W':World} {nb b rb:Nat} {k u ak au at_ tr:Int} {pd:Bool} {pth:List UInt8} {last:Int}
theorem LrP.below (h:LrP w0 nb b rb k u ak au at_ tr pd pth last W) (hb:Below W.heap.size W W'):LrP w0 nb b rb k u ak au at_ tr pd pth last W':=by
 obtain⟨⟨n0,n1⟩,⟨c0,c1,c2,c3,c4,c5,c6⟩,hr,hB⟩:=h;exact⟨⟨cell_later hb n0,cell_later hb n1⟩,⟨cell_later hb c0,cell_later hb c1,cell_later hb c2,cell_later hb c3,cell_later hb c4,cell_later hb c5,cell_later hb c6⟩,hr.below hb,hB.trans (hb.mono hB.size)⟩
theorem LrP.drew (h:LrP w0 nb b rb k u ak au at_ tr pd pth last W):LrP w0 nb b rb k u ak au at_ tr pd pth last W.drew:=⟨h.1,h.2.1,h.2.2.1,h.2.2.2.drew⟩
theorem LrP.set (h:LrP w0 nb b rb k u ak au at_ tr pd pth last W) (q:Nat) (hn:nb≠q) (hb:b≠q) (hw:w0.heap.size≤q) (j:Nat) (v:Value):LrP w0 nb b rb k u ak au at_ tr pd pth last (W.setCell ⟨q,j,none⟩ v):=by
 obtain⟨⟨n0,n1⟩,⟨c0,c1,c2,c3,c4,c5,c6⟩,hr,hB⟩:=h
 have o:∀(p i:Nat),p≠q→(W.setCell ⟨q,j,none⟩ v).cell? ⟨p,i,none⟩=W.cell? ⟨p,i,none⟩:=fun p i hp=>World.cell?_setCell_other _ _ _ _ (by simp)
 exact⟨⟨(o _ _ hn).trans n0,(o _ _ hn).trans n1⟩,⟨(o _ _ hb).trans c0,(o _ _ hb).trans c1,(o _ _ hb).trans c2,(o _ _ hb).trans c3,(o _ _ hb).trans c4,(o _ _ hb).trans c5,(o _ _ hb).trans c6⟩,hr.set _ v,hB.setCell (p:=⟨q,j,none⟩) hw v⟩
theorem LrP.sets10 (h:LrP w0 nb b rb k u ak au at_ tr pd pth last W) (q:Nat) (hn:nb≠q) (hb:b≠q) (hw:w0.heap.size≤q) (v0 v1 v2 v3 v4 v5 v6 v7 v8 v9:Value) :
  LrP w0 nb b rb k u ak au at_ tr pd pth last ((((((((((W.setCell ⟨q,0,none⟩ v0).setCell ⟨q,1,none⟩ v1).setCell ⟨q,2,none⟩ v2).setCell ⟨q,3,none⟩ v3).setCell ⟨q,4,none⟩ v4).setCell ⟨q,5,none⟩ v5).setCell ⟨q,6,none⟩ v6).setCell ⟨q,7,none⟩ v7).setCell ⟨q,8,none⟩ v8).setCell ⟨q,9,none⟩ v9):=by
 have h0:=h.set q hn hb hw 0 v0;have h1:=h0.set q hn hb hw 1 v1;have h2:=h1.set q hn hb hw 2 v2;have h3:=h2.set q hn hb hw 3 v3;have h4:=h3.set q hn hb hw 4 v4;have h5:=h4.set q hn hb hw 5 v5;have h6:=h5.set q hn hb hw 6 v6;have h7:=h6.set q hn hb hw 7 v7;have h8:=h7.set q hn hb hw 8 v8;exact h8.set q hn hb hw 9 v9
end
theorem Tryz.leaRecord (b:Nat) (k u ak au at_ tr:Int) (pd:Bool) (pth:List UInt8) (last:Int) (w:World)
  (h0:w.cell? ⟨b,0,none⟩=some (.int .i64 ak)) (h1:w.cell? ⟨b,1,none⟩=some (.int .u64 au)) (h2:w.cell? ⟨b,2,none⟩=some (.int .u64 at_)) (h3:w.cell? ⟨b,3,none⟩=some (.int .i64 tr)) (h4:w.cell? ⟨b,4,none⟩=some (.bool pd)) (h5:w.cell? ⟨b,5,none⟩=some (.string ⟨pth.toArray⟩)) (h6:w.cell? ⟨b,6,none⟩=some (.int .u64 last)) :
  Calls prog 67 #[.pointer (some ⟨b,0,none⟩),.agg #[.int .i64 k,.int .u64 u]] w fun e w'=>e=.returned (.agg (recCells 1 k u ak au pd at_ tr last pth))∧Below w.heap.size w w':=by
 have lt:b<w.heap.size:=World.block_lt_of_cell? _ _ h0
 have hE:=fun W (hI:LrP w w.heap.size b (w.heap.size+1) k u ak au at_ tr pd pth last W)=>entRecord b k u ak au at_ tr pd W hI.2.1.1 hI.2.1.2.1 hI.2.1.2.2.1 hI.2.1.2.2.2.1 hI.2.1.2.2.2.2.1
 unfold recCells at hE ⊢;have b0:=BoxN.new (w.alloc (.cells #[.int .i64 k,.int .u64 u] 114)) 135 #[.int .i64 0,.int .i64 0,.int .u64 0,.int .i64 0,.int .u64 0,.bool false,.int .u64 0,.int .i64 0,.int .u64 0,.string ⟨#[]⟩];have bn:=(BoxN.new w 114 #[.int .i64 k,.int .u64 u]).alloc (.cells #[.int .i64 0,.int .i64 0,.int .u64 0,.int .i64 0,.int .u64 0,.bool false,.int .u64 0,.int .i64 0,.int .u64 0,.string ⟨#[]⟩] 135);rw [World.size_alloc] at b0;have hb2:=below2 w (.cells #[.int .i64 k,.int .u64 u] 114) (.cells #[.int .i64 0,.int .i64 0,.int .u64 0,.int .i64 0,.int .u64 0,.bool false,.int .u64 0,.int .i64 0,.int .u64 0,.string ⟨#[]⟩] 135);have hS0:LrP w w.heap.size b (w.heap.size+1) k u ak au at_ tr pd pth last _:=LrP.drew ⟨⟨bn.cell 0 rfl,bn.cell 1 rfl⟩,⟨cell_later hb2 h0,cell_later hb2 h1,cell_later hb2 h2,cell_later hb2 h3,cell_later hb2 h4,cell_later hb2 h5,cell_later hb2 h6⟩,b0.row10,hb2⟩;go_enter func67,ntmps67
 go_wp2_with fail
 go_cut [5] (fun t5 wx=>∃ q:Nat,t5=.pointer (some ⟨q,0,none⟩)∧BoxN wx q 135 #[.int .i64 1,.int .i64 k,.int .u64 u,.int .i64 ak,.int .u64 au,.bool pd,.int .u64 at_,.int .i64 tr,.int .u64 0,.string ⟨#[]⟩]∧Row10 wx (w.heap.size+1)∧(wx.cell? ⟨b,5,none⟩=some (.string ⟨pth.toArray⟩)∧wx.cell? ⟨b,6,none⟩=some (.int .u64 last))∧Below w.heap.size w wx∧w.heap.size+1<q)
 case first =>
  go_region_held3 (LrP w w.heap.size b (w.heap.size+1) k u ak au at_ tr pd pth last) (first
   | with_reducible exact hS0
   | with_reducible exact LrP.below (by assumption) (by assumption)
   | with_reducible assumption
   | with_reducible exact LrP.sets10 (by assumption) _ (by omega) (by omega) (by omega) _ _ _ _ _ _ _ _ _ _
   | with_reducible exact LrP.below (hid_elim hK2) ((Below.refl _ _).alloc (Nat.le_refl _) _)
   | with_reducible exact LrP.below (by assumption) ((Below.refl _ _).alloc (Nat.le_refl _) _)) (first
   | (go_at_call 84;refine(hE _ (by assumption)).mono ?_;rintro e w2 ⟨rfl,hbS2⟩;have hK2:=hid_intro (LrP.below (show LrP w w.heap.size b (w.heap.size+1) k u ak au at_ tr pd pth last _ from by assumption) hbS2);obtain⟨hc2,hf2⟩:=bcell hbS2;have hz2:=hbS2.size))
  ·go_wp2_with fail
   go_meet
   case rel =>
    have hI2:=hid_elim hK2;have hB2:=hI2.2.2.2.alloc hI2.2.2.2.size (.cells #[.int .i64 1,.int .i64 k,.int .u64 u,.int .i64 ak,.int .u64 au,.bool pd,.int .u64 at_,.int .i64 tr,.int .u64 0,.string ⟨#[]⟩] 135);simp at hz2;exact⟨_,rfl,BoxN.new _ _ _,hI2.2.2.1.below ((Below.refl _ _).alloc (Nat.le_refl _) _),⟨cell_later hB2 h5,cell_later hB2 h6⟩,hB2,by omega⟩
  all_goals
   go_wp2_with fail
   go_meet
   case rel =>
    have hI2:=hid_elim hK2
    have b9:=(BoxN.new ((w.alloc (.cells #[.int .i64 k,.int .u64 u] 114)).alloc (.cells #[.int .i64 0,.int .i64 0,.int .u64 0,.int .i64 0,.int .u64 0,.bool false,.int .u64 0,.int .i64 0,.int .u64 0,.string ⟨#[]⟩] 135)) 135 #[.int .i64 0,.int .i64 0,.int .u64 0,.int .i64 0,.int .u64 0,.bool false,.int .u64 0,.int .i64 0,.int .u64 0,.string ⟨#[]⟩])
    simp only [World.size_alloc] at b9;have b1:BoxN w2 (w.heap.size+1+1) 135 #[.int .i64 0,.int .i64 0,.int .u64 0,.int .i64 0,.int .u64 0,.bool false,.int .u64 0,.int .i64 0,.int .u64 0,.string ⟨#[]⟩]:=(hbS2.block (w.heap.size+1+1) (by simp)).trans b9;have bF:=b1.sets10 (.int .i64 1) (.int .i64 k) (.int .u64 u) (.int .i64 ak) (.int .u64 au) (.bool pd) (.int .u64 at_) (.int .i64 tr) (.int .u64 0) (.string ⟨#[]⟩);have hI3:=hI2.sets10 (w.heap.size+1+1) (by omega) (by omega) (by omega) (.int .i64 1) (.int .i64 k) (.int .u64 u) (.int .i64 ak) (.int .u64 au) (.bool pd) (.int .u64 at_) (.int .i64 tr) (.int .u64 0) (.string ⟨#[]⟩);exact⟨_,rfl,bF,hI3.2.2.1,⟨cell_later hI3.2.2.2 h5,cell_later hI3.2.2.2 h6⟩,hI3.2.2.2,by omega⟩
 case rest =>
  obtain⟨q,rfl,bq,hr,⟨h5',h6'⟩,hB,hq⟩:=hcut;obtain⟨⟨q0,q1,q2,q3,q4,q5,q6,q7,q8,q9⟩,qf⟩:=bq.open10;have qf8:=bq.frozen 8;have qf9:=bq.frozen 9
  have hne:q≠w.heap.size+1:=by omega
  clear qf hS0 hb2 bn b0 hE;go_wp2
  go_region
  have bq8:=bq.set 9 (.string ⟨pth.toArray⟩);have bq9:BoxN ((wc.setCell ⟨q,9,none⟩ (.string ⟨pth.toArray⟩)).setCell ⟨q,8,none⟩ (.int .u64 last)).drew q 135 #[.int .i64 1,.int .i64 k,.int .u64 u,.int .i64 ak,.int .u64 au,.bool pd,.int .u64 at_,.int .i64 tr,.int .u64 last,.string ⟨pth.toArray⟩]:=bq8.set 8 (.int .u64 last);have hr9:Row10 ((wc.setCell ⟨q,9,none⟩ (.string ⟨pth.toArray⟩)).setCell ⟨q,8,none⟩ (.int .u64 last)).drew (w.heap.size+1):=(hr.set ⟨q,9,none⟩ _).set ⟨q,8,none⟩ _;have hB9:=((hB.setCell (p:=⟨q,9,none⟩) (by simp;omega) (.string ⟨pth.toArray⟩)).setCell (p:=⟨q,8,none⟩) (by simp;omega) (.int .u64 last)).drew;clear q0 q1 q2 q3 q4 q5 q6 q7 q8 q9 qf8 qf9 bq8 bq hr hB h5' h6';generalize ((wc.setCell ⟨q,9,none⟩ (.string ⟨pth.toArray⟩)).setCell ⟨q,8,none⟩ (.int .u64 last)).drew=W9 at *;obtain⟨⟨q0,q1,q2,q3,q4,q5,q6,q7,q8,q9⟩,-⟩:=bq9.open10;have hrow:=hid_intro hr9;obtain⟨⟨r0,r1,r2,r3,r4,r5,r6,r7,r8,r9⟩,f0,f1,f2,f3,f4,f5,f6,f7,f8,f9⟩:=hr9;go_wp2;have hr9:=hid_elim hrow;have hBF:=belowSets10 hB9 (q:=w.heap.size+1) (by omega) (.int .i64 1) (.int .i64 k) (.int .u64 u) (.int .i64 ak) (.int .u64 au) (.bool pd) (.int .u64 at_) (.int .i64 tr) (.int .u64 last) (.string ⟨pth.toArray⟩);obtain⟨g0,g1,g2,g3,g4,g5,g6,g7,g8,g9⟩:=hr9.sets (.int .i64 1) (.int .i64 k) (.int .u64 u) (.int .i64 ak) (.int .u64 au) (.bool pd) (.int .u64 at_) (.int .i64 tr) (.int .u64 last) (.string ⟨pth.toArray⟩);clear r0 r1 r2 r3 r4 r5 r6 r7 r8 r9 q0 q1 q2 q3 q4 q5 q6 q7 q8 q9;exact bodyPost_ret (v:=.agg #[.int .i64 1,.int .i64 k,.int .u64 u,.int .i64 ak,.int .u64 au,.bool pd,.int .u64 at_,.int .i64 tr,.int .u64 last,.string ⟨pth.toArray⟩]) (by simp [results,results67,go_sem,g0,g1,g2,g3,g4,g5,g6,g7,g8,g9]) rfl ⟨rfl,hBF⟩
end Go.Proofs
namespace Go.Proofs
open Go.RowKit Go.Sort Go.Lib Go.Shelf
theorem iterPos_two (w:World) (o o':Obj) (s:ByteArray) (p:Nat):(((w.alloc o).alloc o').alloc (.stringIter s p)).iterPos (w.heap.size+2)=p:=by
 have:=World.iterPos_iter ((w.alloc o).alloc o') s p
 simpa [World.iter] using this
def fnvI (h:Int) (c:UInt8):Int:=IntKind.u64.wrap (bits BinOp.xor IntKind.u64 h (c.toNat:Int)*1099511628211)
def sumI (s:List UInt8):Int:=s.foldl fnvI 14695981039346656037
theorem fnv_range (h:Int) (c:UInt8):0≤fnvI h c∧fnvI h c≤18446744073709551615:=by
 unfold fnvI;generalize bits BinOp.xor IntKind.u64 h (c.toNat:Int)*1099511628211=z;simp [IntKind.wrap,IntKind.signed,IntKind.bits];omega
theorem sum_range (s:List UInt8):0≤sumI s∧sumI s≤18446744073709551615:=by
 have:∀(s:List UInt8) (h:Int),0≤h∧h≤18446744073709551615→0≤s.foldl fnvI h∧s.foldl fnvI h≤18446744073709551615:=fun s=>by
  induction s with
  | nil=>exact fun h hh=>hh
  | cons c s ih=>exact fun h _=>ih _ (fnv_range h c)
 exact this s _ (by omega)
theorem sum_take {s:List UInt8} {k:Nat} {c:UInt8} (h:s[k]? = some c):sumI (s.take (k+1))=fnvI (sumI (s.take k)) c:=by
 unfold sumI;rw [List.take_add_one,h];simp
theorem Tryz.markOf (s:List UInt8) (w:World) (hs:s.length≤1000000000000) (ha:∀ b∈s,b.toNat<128) :
  Calls prog 177 #[.string ⟨s.toArray⟩] w fun e w'=>e=.returned (.agg #[.int .u64 (s.length:Int),.int .u64 (sumI s)])∧Below w.heap.size w w':=by
 go_enter func177,ntmps177;go_wp2;unfold World.iter
 go_loopw [] (fun wr=>∃(k:Nat) (a b:Int),(k≤s.length∧Hid (a=k∧b=sumI (s.take k)))∧wr=(((w.alloc (.cells #[.int .u64 0,.int .u64 0] 269)).alloc (.cells #[.int .u64 a,.int .u64 b] 269)).alloc (.stringIter ⟨s.toArray⟩ k))) (fun wr=>s.length-wr.iterPos (w.heap.size+2))
 case atStart=>exact⟨0,_,_,⟨Nat.zero_le _,hid_intro ⟨rfl,rfl⟩⟩,rfl⟩
 case round =>
  obtain⟨k,a,b,⟨hk,hab⟩,rfl⟩:=hrel
  by_cases hkl:k<s.length
  ·obtain⟨c,hc⟩:∃ c,s[k]? = some c:=⟨s[k],by simp [hkl]⟩
   have hck:((⟨s.toArray⟩:ByteArray)[k]'(by simpa [ByteArray.size] using hkl))=c:=by
    have h1:s[k]'hkl=c:=by simpa [hkl] using hc
    rw [← h1];rfl
   have hks:k<(⟨s.toArray⟩:ByteArray).size:=by simpa [ByteArray.size] using hkl
   have h128:c.toNat<128:=ha c (List.mem_of_getElem? hc)
   have hnx:=fun ty=>run_next_ascii (P:=prog) ((w.alloc (.cells #[.int .u64 0,.int .u64 0] 269)).alloc (.cells #[.int .u64 a,.int .u64 b] 269)) ⟨s.toArray⟩ k ty hks (by rw [hck];exact h128)
   simp only [hck,World.size_alloc] at hnx
   obtain⟨r,hr⟩:∃ r:Int,(c.toNat:Int)=r:=⟨_,rfl⟩
   rw [hr] at hnx;unfold World.iter at hnx;have Hr:=hid_intro hr
   have hr0:0≤r:=by omega
   have hr1:r<128:=by omega
   have HT:=hid_intro (sum_take hc);clear hr;go_wp2;refine⟨⟨k+1,_,_,⟨by omega,hid_intro ⟨?_,?_⟩⟩,rfl⟩,?_⟩
   ·rw [(hid_elim hab).1]
    have:(k:Int)≤1000000000000:=by omega
    simp [IntKind.wrap,IntKind.signed,IntKind.bits];omega
   ·rw [hid_elim HT,(hid_elim hab).2,← hid_elim Hr]
    rfl
   ·rw [iterPos_two,iterPos_two]
    omega
  ·obtain rfl:k=s.length:=by omega
   have hks:¬ s.length<(⟨s.toArray⟩:ByteArray).size:=by simp [ByteArray.size]
   have hnx:=fun ty=>run_next_end (P:=prog) ((w.alloc (.cells #[.int .u64 0,.int .u64 0] 269)).alloc (.cells #[.int .u64 a,.int .u64 b] 269)) ⟨s.toArray⟩ s.length ty hks
   simp only [World.size_alloc] at hnx;unfold World.iter at hnx;obtain⟨e1,e2⟩:=hid_elim hab;rw [List.take_length] at e2;have HZ:=hid_intro e2;clear e2 hab;subst e1;go_wp2;exact bodyPost_ret (v:=.agg #[.int .u64 (s.length:Int),.int .u64 b]) (by simp [results,results177,go_sem]) rfl ⟨by rw [hid_elim HZ],(below2 w _ _).alloc (by simp;omega) _⟩
def lineL (t:List UInt8):List UInt8:=10 :: (Lib.decDigits t.length++32 :: (Lib.decDigits (sumI t).toNat++32 :: t))
theorem lineL_len (t:List UInt8) (h:t.length≤1000000000000):(lineL t).length≤t.length+43:=by
 have e1:=decDigits_len t.length (by omega);have e2:=decDigits_len (sumI t).toNat (by have:=sum_range t;omega);simp [lineL];omega
theorem Tryz.lineOf (t:List UInt8) (w:World) (hE:Env w) (h6:6≤w.heap.size) (hs:t.length≤1000000000000) (ha:∀ b∈t,b.toNat<128) :
  Calls prog 144 #[.string ⟨t.toArray⟩] w fun e w'=>e=.returned (.string ⟨(lineL t).toArray⟩)∧Below w.heap.size w w':=by
 have hM:=markOf t w hs ha;have hrg:=sum_range t;have hd1:=decDigits_len t.length (by omega);have hd2:=decDigits_len (sumI t).toNat (by omega);have hL:lineL t=10 :: (Lib.decDigits t.length++32 :: (Lib.decDigits (sumI t).toNat++32 :: t)):=rfl
 have hU1:=fun W hE=>fmtUint t.length (by omega) W hE
 have hU2:=fun W hE=>fmtUint (sumI t).toNat (by omega) W hE
 obtain⟨zs,hzs⟩:∃ zs:Nat,sumI t=(zs:Int):=⟨(sumI t).toNat,by omega⟩
 rw [hzs] at hM hU2 hL hd2;simp only [Int.toNat_natCast] at hU2 hL hd2;generalize lineL t=res at *;generalize Lib.decDigits t.length=s1 at *;generalize Lib.decDigits zs=s2 at *
 obtain⟨n,hn⟩:∃ n,t.length=n:=⟨_,rfl⟩
 rw [hn] at hM hU1 hs;have HL:=hid_intro hL
 have hsz1:(⟨s1.toArray⟩:ByteArray).size=s1.length:=by simp [ByteArray.size]
 have hsz2:(⟨s2.toArray⟩:ByteArray).size=s2.length:=by simp [ByteArray.size]
 have hsz3:(⟨t.toArray⟩:ByteArray).size=n:=by simp [ByteArray.size,hn]
 clear hL hrg hzs hn
 have hx0:∀(a b:Int) (W:World),(Instr.index 269 (.agg #[.int .u64 a,.int .u64 b]) (.int .i64 0)).run prog W=.ok (.int .u64 a) W:=fun _ _ _=>by kernel_rfl
 have hx1:∀(a b:Int) (W:World),(Instr.index 269 (.agg #[.int .u64 a,.int .u64 b]) (.int .i64 1)).run prog W=.ok (.int .u64 b) W:=fun _ _ _=>by kernel_rfl
 go_enter func144,ntmps144
 go_wp2_with (go_at_call 177;refine hM.mono ?_;rintro e w1 ⟨rfl,hb1⟩)
 refine wp_loop_rounds 3 ?_;rw [rounds_succ]
 go_wp2_with (go_at_call_of 122 (Value.int .u64 (n:Int));refine(hU1 _ (hE.below hb1 h6)).mono ?_;rintro e w2 ⟨rfl,hb2⟩)
 rw [rounds_succ];have hb3:=hb1.trans (hb2.mono hb1.size)
 go_wp2_with (go_at_call_of 122 (Value.int .u64 (zs:Int));refine(hU2 _ (hE.below hb3 h6)).mono ?_;rintro e w3 ⟨rfl,hb4⟩)
 rw [rounds_succ];go_wp2;go_ret;exact⟨ret_str (by rw [hid_elim HL];apply ByteArray.ext;simp),hb3.trans (hb4.mono hb3.size)⟩
theorem Tryz.fileOf0 (w:World):Calls prog 175 #[.int .u64 0] w fun e w'=>e=.returned (.string ⟨#[106,111,117,114,110,97,108]⟩)∧w'=w:=by
 go_enter func175,ntmps175;go_wp2;go_ret;exact⟨rfl,rfl⟩
end Go.Proofs
namespace Go.Proofs
open Go.RowKit Go.Sort Go.Maps Go.WideMaps
def jName:List UInt8:=[106,111,117,114,110,97,108]
def ptrV (b:Nat):Value:=.pointer (some ⟨b,0,none⟩)
def fileD:Option Nat→DataW Value
 | none=>.map []
 | some b=>.map [(.string jName,.held (ptrV b))]
theorem fileD_put (o:Option Nat) (b:Nat):(fileD o).put (.string jName) (.held (ptrV b))=fileD (some b):=by
 cases o <;> rfl
theorem fileD_has (o:Option Nat):Maps.has (fileD o) (.string jName)=o.isSome:=by
 cases o <;> rfl
theorem fileD_at (o:Option Nat) (z:DataW Value):(fileD o).atKey (.string jName) z=(match o with | some b=>.held (ptrV b) | none=>z):=by
 cases o <;> rfl
theorem Tryz.keyS:keyOf prog 9 (.string ⟨#[106,111,117,114,110,97,108]⟩)=some (.string jName):=by kernel_rfl
theorem Tryz.zeroPS (w:World):(zeroValue 101).run prog w=.ok (.pointer none) w:=zeroValue101 w
theorem Tryz.keyedS:Keyed prog 9:=string_keyed underlying9
section
variable {W:World} {m n:Nat}
theorem Tryz.lookF {b:Nat} (h:W.ownsMap prog 9 valR m n (fileD (some b))) :
  (Instr.lookup 97 (.map (some m)) (.string ⟨#[106,111,117,114,110,97,108]⟩) true).run prog W=.ok (.tuple #[ptrV b,.bool true]) W:=by
 obtain⟨v,ps,hrun,hv⟩:=h.look_ok keyedS underlying97 (zeroPS W) (zd:=.held (.pointer none)) (zp:=[]) rfl keyS;rw [fileD_at] at hv;rw [hrun,fileD_has,valR_held hv];rfl
theorem Tryz.lookF_no (h:W.ownsMap prog 9 valR m n (fileD none)) :
  (Instr.lookup 97 (.map (some m)) (.string ⟨#[106,111,117,114,110,97,108]⟩) true).run prog W=.ok (.tuple #[.pointer none,.bool false]) W:=by
 obtain⟨v,ps,hrun,hv⟩:=h.look_ok keyedS underlying97 (zeroPS W) (zd:=.held (.pointer none)) (zp:=[]) rfl keyS;rw [fileD_at] at hv;rw [hrun,fileD_has,valR_held hv];rfl
theorem Tryz.storeF {o:Option Nat} (h:W.ownsMap prog 9 valR m n (fileD o)) (hn:n≤1000) (b:Nat) :
  ∃ w',(Instr.mapUpdate 97 (.map (some m)) (.string ⟨#[106,111,117,114,110,97,108]⟩) (ptrV b)).run prog W=.ok () w'∧w'.ownsMap prog 9 valR m 1 (fileD (some b))∧W.grownBy w' (some m):=by
 obtain⟨w',hrun,hM,hT⟩:=h.store keyedS underlying97 (by unfold maxLen;omega) keyS (val:=ptrV b) (d:=.held (ptrV b)) (ps:=[]) rfl;rw [fileD_put] at hM;refine⟨w',hrun,?_,hT.grown⟩;obtain⟨es,clock,hb,F,hs,hD⟩:=hM;refine⟨es,clock,hb,F,?_,hD⟩
 have:Maps.size (fileD (some b))=es.size:=by rw [hD];simp [Maps.size,length_sorted]
 rw [← this];exact Nat.le_refl 1
end
theorem Tryz.dWrites (db:Nat) (m1 m2 p:Value) (l f:Int) (w:World) (hD:BoxN w db 100 #[m1,m2,p,.int .i64 l,.int .i64 f,.bool false]) (hl:l<0) (hl1 : -1000000000≤l) (hf:f<0) (hf1 : -1000000000≤f) :
  Calls prog 314 #[.pointer (some ⟨db,0,none⟩)] w fun e w'=>e=.returned .nilIface∧w'=((w.setCell ⟨db,3,none⟩ (.int .i64 (l-1))).setCell ⟨db,4,none⟩ (.int .i64 (f-1))):=by
 have d3:=hD.cell 3 (v:=.int .i64 l) rfl;have d4:=hD.cell 4 (v:=.int .i64 f) rfl;have d5:=hD.cell 5 (v:=.bool false) rfl;have f3:=hD.frozen 3;have f4:=hD.frozen 4
 have e1:(l==0)=false:=by rw [beq_eq_false_iff_ne];omega
 have e2:(f==0)=false:=by rw [beq_eq_false_iff_ne];omega
 go_enter func314,ntmps314;go_wp2;go_ret;exact⟨rfl,rfl⟩
def oldS (o:Option (Nat × List UInt8)):List UInt8:=(o.map (·.2)).getD []
theorem bytes_app (a b:List UInt8):(⟨a.toArray⟩:ByteArray) ++ ⟨b.toArray⟩=⟨(a++b).toArray⟩:=by
 apply ByteArray.ext;simp
theorem Tryz.dDo (m n:Nat) (o:Option (Nat × List UInt8)) (data:List UInt8) (w:World) (hM:w.ownsMap prog 9 valR m n (fileD (o.map (·.1)))) (hn:n≤1000) (hs:∀ p,o=some p→BoxN w p.1 9 #[.string ⟨p.2.toArray⟩]) (hl:(oldS o).length+data.length≤1000000000000) :
  Calls prog 98 #[.map (some m),.agg #[.int .i64 2,.string ⟨#[106,111,117,114,110,97,108]⟩,.string ⟨data.toArray⟩]] w fun e w'=>e=.returned (.tuple #[])∧∃ b,w.heap.size≤b∧w'.ownsMap prog 9 valR m 1 (fileD (some b))∧BoxN w' b 9 #[.string ⟨(oldS o++data).toArray⟩]∧Spares [m] w w':=by
 cases o with
 | none =>
  have hM1:=(hM.alloc (.cells #[.int .i64 2,.string ⟨#[106,111,117,114,110,97,108]⟩,.string ⟨data.toArray⟩] 172)).alloc (.cells #[.string ⟨data.toArray⟩] 9);have hL:=lookF_no hM1;obtain⟨w2,hrun,hM2,hg2⟩:=storeF hM1 hn (w.heap.size+1);have b1:=BoxN.new (w.alloc (.cells #[.int .i64 2,.string ⟨#[106,111,117,114,110,97,108]⟩,.string ⟨data.toArray⟩] 172)) 9 #[.string ⟨data.toArray⟩];rw [World.size_alloc] at b1;have b2:=b1.kept hg2 (by intro e;injection e with e;have:=hM.lt;omega);have hsp:Spares [m] w w2:=(Spares.of_below (below2 w _ _)).trans (Spares.of_grown hg2 (by simp));unfold ptrV at hrun;go_enter func98,ntmps98;go_wp2
  go_end0
  exact⟨rfl,w.heap.size+1,by omega,hM2,b2,hsp⟩
 | some p =>
  obtain⟨pb,old⟩:=p;have hS:=hs _ rfl;have c0:=hS.cell 0 (v:=.string ⟨old.toArray⟩) rfl;have lt:pb<w.heap.size:=hS.lt;have hlen:old.length+data.length≤1000000000000:=hl
  have hfit:(((⟨old.toArray⟩:ByteArray).size+(⟨data.toArray⟩:ByteArray).size:Nat):Int)≤9223372036854775807:=by simp [ByteArray.size];omega
  have hM1:=(hM.alloc (.cells #[.int .i64 2,.string ⟨#[106,111,117,114,110,97,108]⟩,.string ⟨data.toArray⟩] 172)).alloc (.cells #[.string ⟨data.toArray⟩] 9);have hL:=lookF hM1;unfold ptrV at hL;go_enter func98,ntmps98;go_wp2
  go_region
  have hM3:=(hM.alloc (.cells #[.int .i64 2,.string ⟨#[106,111,117,114,110,97,108]⟩,.string ⟨data.toArray⟩] 172)).alloc (.cells #[.string ((⟨old.toArray⟩:ByteArray)++(⟨data.toArray⟩:ByteArray))] 9);obtain⟨w2,hrun,hM2,hg2⟩:=storeF (W:=((w.alloc (.cells #[.int .i64 2,.string ⟨#[106,111,117,114,110,97,108]⟩,.string ⟨data.toArray⟩] 172)).alloc (.cells #[.string ((⟨old.toArray⟩:ByteArray)++(⟨data.toArray⟩:ByteArray))] 9)).drew) hM3 hn (w.heap.size+1);have b1:=BoxN.new (w.alloc (.cells #[.int .i64 2,.string ⟨#[106,111,117,114,110,97,108]⟩,.string ⟨data.toArray⟩] 172)) 9 #[.string ((⟨old.toArray⟩:ByteArray)++(⟨data.toArray⟩:ByteArray))];rw [World.size_alloc] at b1;have b2:=BoxN.kept (W:=((w.alloc (.cells #[.int .i64 2,.string ⟨#[106,111,117,114,110,97,108]⟩,.string ⟨data.toArray⟩] 172)).alloc (.cells #[.string ((⟨old.toArray⟩:ByteArray)++(⟨data.toArray⟩:ByteArray))] 9)).drew) b1 hg2 (by intro e;injection e with e;have:=hM.lt;omega);have hsp:Spares [m] w w2:=((Spares.of_below (below2 w _ _)).drew).trans (Spares.of_grown hg2 (by simp));unfold ptrV at hrun;rw [bytes_app] at b2;have B2:=hid_intro b2;clear hL hM1 hM3 b1 b2 hfit;go_wp2
  go_end0
  exact⟨rfl,w.heap.size+1,by omega,hM2,hid_elim B2,hsp⟩
theorem BoxN.ne_map' {H:Type} {P:Program} {k:TypeId} {R:Value→Option (DataW H × List MemPlace)} {D:DataW H} {W:World} {B b n:Nat} {t:TypeId} {cs:Array Value} (h:BoxN W B t cs) (hm:W.ownsMap P k R b n D):b≠B:=by
 rintro rfl;obtain⟨es,clock,hb,_⟩:=hm;have e:=hb.symm.trans h;cases e
structure Tryz.DiskAt (W:World) (db md mn:Nat) (fd fn:Option (Nat × List UInt8)) (p:Value) (l f:Int):Prop where
 box:BoxN W db 100 #[.map (some md),.map (some mn),p,.int .i64 l,.int .i64 f,.bool false]
 dm:∃ n,n≤1000∧W.ownsMap Tryz.prog 9 valR md n (fileD (fd.map (·.1)))
 nm:∃ n,n≤1000∧W.ownsMap Tryz.prog 9 valR mn n (fileD (fn.map (·.1)))
 sd:∀ q,fd=some q→BoxN W q.1 9 #[.string ⟨q.2.toArray⟩]
 sn:∀ q,fn=some q→BoxN W q.1 9 #[.string ⟨q.2.toArray⟩]
 ne:md≠mn
section
variable {W W':World} {db md mn:Nat} {fd fn:Option (Nat × List UInt8)} {p:Value} {l f:Int}
theorem Tryz.DiskAt.lt (h:DiskAt W db md mn fd fn p l f):db<W.heap.size∧md<W.heap.size∧mn<W.heap.size:=by
 obtain⟨n,_,hm⟩:=h.dm;obtain⟨n',_,hm'⟩:=h.nm;exact⟨h.box.lt,hm.lt,hm'.lt⟩
theorem Tryz.DiskAt.nes (h:DiskAt W db md mn fd fn p l f):md≠db∧mn≠db:=by
 obtain⟨n,_,hm⟩:=h.dm;obtain⟨n',_,hm'⟩:=h.nm;exact⟨h.box.ne_map' hm,h.box.ne_map' hm'⟩
theorem Tryz.DiskAt.spared (h:DiskAt W db md mn fd fn p l f) {bs:List Nat} (hS:Spares bs W W') (h1:db∉bs) (h2:md∉bs) (h3:mn∉bs) (h4:∀ q,fd=some q→q.1∉bs) (h5:∀ q,fn=some q→q.1∉bs):DiskAt W' db md mn fd fn p l f:=by
 obtain⟨n,hn,hm⟩:=h.dm;obtain⟨n',hn',hm'⟩:=h.nm;exact⟨hS.box h.box h1,⟨n,hn,hS.map hm h2⟩,⟨n',hn',hS.map hm' h3⟩,fun q hq=>hS.box (h.sd q hq) (h4 q hq),fun q hq=>hS.box (h.sn q hq) (h5 q hq),h.ne⟩
theorem Tryz.DiskAt.below (h:DiskAt W db md mn fd fn p l f) (hb:Below W.heap.size W W'):DiskAt W' db md mn fd fn p l f:=
 h.spared (bs:=[]) (Spares.of_below hb) (by simp) (by simp) (by simp) (by simp) (by simp)
theorem Tryz.DiskAt.cells (h:DiskAt W db md mn fd fn p l f) {p':Value} {l' f':Int} (hS:Spares [db] W W') (hb:BoxN W' db 100 #[.map (some md),.map (some mn),p',.int .i64 l',.int .i64 f',.bool false]):DiskAt W' db md mn fd fn p' l' f':=by
 obtain⟨n,hn,hm⟩:=h.dm;obtain⟨n',hn',hm'⟩:=h.nm
 have s:∀ {q:Nat} {s:List UInt8},BoxN W q 9 #[.string ⟨s.toArray⟩]→BoxN W' q 9 #[.string ⟨s.toArray⟩]:=fun hq=>hS.box hq (by simpa using hq.ne h.box (by decide))
 exact⟨hb,⟨n,hn,hS.map hm (by simpa using h.nes.1)⟩,⟨n',hn',hS.map hm' (by simpa using h.nes.2)⟩,fun q hq=>s (h.sd q hq),fun q hq=>s (h.sn q hq),h.ne⟩
end
theorem grewBelow {w w':World} (h:Grew w w'):Below w.heap.size w w':=by
 obtain⟨q,os,rfl⟩:=h;refine⟨rfl,rfl,rfl,by simp [grow,World.drewN],fun k hk=>?_⟩
 show (w.heap++os)[k]? = w.heap[k]?
 rw [Array.getElem?_append_left hk]
theorem grownSet (w:World) (b i:Nat) (v:Value):w.grownBy (w.setCell ⟨b,i,none⟩ v) (some b):=⟨rfl,rfl,rfl,by simp,fun j _ hne=>set_other _ _ _ _ _ (fun e=>hne (by rw [e]))⟩
theorem Tryz.opInfo:(prog.info? 172).map (fun i=>(i.zero,i.size,i.bytes))=some (some (.agg #[.int .i64 0,.string ⟨#[]⟩,.string ⟨#[]⟩]),3,40):=by kernel_rfl
theorem Tryz.dWrites' (db:Nat) (m1 m2 p:Value) (l f:Int) (w:World) (hD:BoxN w db 100 #[m1,m2,p,.int .i64 l,.int .i64 f,.bool false]) (hl:l<0) (hl1 : -1000000000≤l) (hf:f<0) (hf1 : -1000000000≤f) :
  Calls prog 314 #[.pointer (some ⟨db,0,none⟩)] w fun e w'=>e=.returned .nilIface∧BoxN w' db 100 #[m1,m2,p,.int .i64 (l-1),.int .i64 (f-1),.bool false]∧Spares [db] w w':=
 (dWrites db m1 m2 p l f w hD hl hl1 hf hf1).mono (by
  rintro e w' ⟨rfl,rfl⟩
  exact⟨rfl,(hD.set 3 _).set 4 _,((Spares.of_below (Below.refl _ _)).set (by simp) _ _).set (by simp) _ _⟩)
theorem Tryz.dTell (db md mn:Nat) (fd fn:Option (Nat × List UInt8)) (l f:Int) (data:List UInt8) (w:World) (hD:DiskAt w db md mn fd fn (.slice none 0 0) l f) (hl:l<0) (hl1 : -1000000000≤l) (hf:f<0) (hf1 : -1000000000≤f) (hlen:(oldS fn).length+data.length≤1000000000000) :
  Calls prog 313 #[.pointer (some ⟨db,0,none⟩),.agg #[.int .i64 2,.string ⟨#[106,111,117,114,110,97,108]⟩,.string ⟨data.toArray⟩]] w fun e w'=>e=.returned .nilIface∧∃ b g cap,w.heap.size≤b∧w.heap.size≤g∧DiskAt w' db md mn fd (some (b,oldS fn++data)) (.slice (some ⟨g,0,none⟩) 1 cap) (l-1) (f-1) ∧
   w'.ownsRow w.heap.size 172 3 (.slice (some ⟨g,0,none⟩) 1 cap) 1 [.int .i64 2,.string ⟨#[106,111,117,114,110,97,108]⟩,.string ⟨data.toArray⟩]∧Spares [db,mn] w w':=by
 obtain⟨i0,hi,hz0,hz1,hz2⟩:=info_parts opInfo;have lD:=hD.lt;have hD0:=hD.below ((Below.refl _ w).alloc (Nat.le_refl _) (.cells #[.int .i64 2,.string ⟨#[106,111,117,114,110,97,108]⟩,.string ⟨data.toArray⟩] 172));have hW:=dWrites' db _ _ _ l f _ hD0.box hl hl1 hf hf1;have bO0:=BoxN.new w 172 #[.int .i64 2,.string ⟨#[106,111,117,114,110,97,108]⟩,.string ⟨data.toArray⟩];go_enter func313,ntmps313
 go_wp2_with (go_at_call 314;refine hW.mono ?_;rintro e W1 ⟨rfl,bD1,hS1⟩)
 have hD1:=hD0.cells hS1 bD1;have bO:=hS1.box bO0 (by simp;omega);have hs1:Spares [db,mn] w W1:=((Spares.of_below (Below.refl _ w)).alloc _).trans (hS1.mono (by simp))
 have hz1s:w.heap.size+1≤W1.heap.size:=by have:=hS1.size;simpa using this
 clear hW hD0 bD1 hS1 bO0;have d1:=hD1.box.cell 1 (v:=.map (some mn)) rfl;have o0:=bO.cell 0 (v:=.int .i64 2) rfl;have o1:=bO.cell 1 (v:=.string ⟨#[106,111,117,114,110,97,108]⟩) rfl;have o2:=bO.cell 2 (v:=.string ⟨data.toArray⟩) rfl;obtain⟨nn,hnn,hM⟩:=hD1.nm;have hDo:=dDo mn nn fn data W1.drew.drew hM hnn hD1.sn hlen
 have key:∀(v:Value) (bl:Bool),(Instr.lookup 97 (.map (some mn)) (.string ⟨#[106,111,117,114,110,97,108]⟩) true).run prog W1=.ok (.tuple #[v,.bool bl]) W1→True:=fun _ _ _=>trivial
 obtain⟨pv,bl,hL⟩:∃(pv:Value) (bl:Bool),(Instr.lookup 97 (.map (some mn)) (.string ⟨#[106,111,117,114,110,97,108]⟩) true).run prog W1.drew=.ok (.tuple #[pv,.bool bl]) W1.drew:=by
  cases fn with
  | none=>exact⟨_,_,lookF_no (W:=W1.drew) hM⟩
  | some q=>exact⟨_,_,lookF (W:=W1.drew) hM⟩
 clear key;have Hlen:=hid_intro hlen;have Hz:=hid_intro hz1s;clear hlen hz1s;cases bl
 all_goals
  go_region
  go_wp2
  go_region_with (go_at_call 98;refine hDo.mono ?_;rintro e W2 ⟨rfl,b,hb,hM2,bS2,hS2⟩)
  all_goals
   have hz:=hid_elim Hz
   have hb':w.heap.size≤b:=by have:W1.drew.drew.heap.size=W1.heap.size:=rfl;omega
   have bD2:=hS2.box (W:=W1.drew.drew) hD1.box (by simpa using Ne.symm hD1.nes.2);have bO2:=hS2.box (W:=W1.drew.drew) bO (by have:=hM.lt;have:=lD.2.2;simp;omega);obtain⟨n1,hn1,hMd⟩:=hD1.dm;have hMd2:=hS2.map (W:=W1.drew.drew) hMd (by simpa using hD1.ne)
   have hsd2:∀ q,fd=some q→BoxN W2 q.1 9 #[.string ⟨q.2.toArray⟩]:=fun q hq=>hS2.box (W:=W1.drew.drew) (hD1.sd q hq) (by have:=BoxN.ne_map' (hD1.sd q hq) hM;simpa using Ne.symm this)
   have hs2:Spares [db,mn] w W2:=hs1.drew.drew.trans (hS2.mono (bs':=[db,mn]) (by simp));have hz2s:=hS2.size
   have hz2s:w.heap.size+1≤W2.heap.size:=by have:W1.drew.drew.heap.size=W1.heap.size:=rfl;omega
   have HD:=hid_intro (show DiskAt W2 db md mn fd (some (b,oldS fn++data)) (.slice none 0 0) (l-1) (f-1) from ⟨bD2,⟨n1,hn1,hMd2⟩,⟨1,by omega,hM2⟩,hsd2,fun q hq=>by cases hq;exact bS2,hD1.ne⟩);have v0:=bD2.cell 2 (v:=.slice none 0 0) rfl;have fv0:=bD2.frozen 2;have lv:=bD2.lt;have y0:=bO2.cell 0 (v:=.int .i64 2) rfl;have y1:=bO2.cell 1 (v:=.string ⟨#[106,111,117,114,110,97,108]⟩) rfl;have y2:=bO2.cell 2 (v:=.string ⟨data.toArray⟩) rfl;clear hDo hL d1 o0 o1 o2 hM hS2 hM2 bS2 hMd hMd2 hsd2;go_wp2
   go_region_law ((refine step_append_lies _ (by rfl) _ _ _ (by rfl) w.heap.size 172 i0 _ 3 40 underlying98 hi hz0 hz1 hz2 rfl (by decide) _ _ _ (by rfl) (World.ownsRow_nil _ _ _ _) ⟨W2.heap.size,0,none⟩ 1 1 [.int .i64 2,.string ⟨#[106,111,117,114,110,97,108]⟩,.string ⟨data.toArray⟩] (by rfl) rfl (World.news_of_block (heap_alloc_new _ _)) (by simp [Value.oneCell']) (by omega) (by unfold maxLen;omega) (by omega) (by simp;omega) _ rfl ?_;intro g' cap' w3 hown' hgrow hat hlt;have bV3:=(bD2.below (n₀:=W2.heap.size) (by first | exact grewBelow ((Grew.refl W2).alloc _) | exact grewBelow (((Grew.refl W2).drew).alloc _)) bD2.lt).kept hgrow (by simp [Value.ownBlock]);have d0:=bV3.cell 2 (v:=.slice none 0 0) rfl;have d1:=bV3.frozen 2))
 all_goals
  have hD2:=hid_elim HD
  have hg2:W2.heap.size≤g':=by
   rcases hat with e | e
   ·simp [Value.ownBlock] at e
   ·have:g'=W2.heap.size+1:=by simpa using e
    omega
  have hS3:Spares [db,mn] w w3:=((hs2.alloc _).drew).trans ⟨hgrow.os,hgrow.tape,hgrow.output,hgrow.size,fun k hk _=>hgrow.block k hk (by simp [Value.ownBlock])⟩;have hB3:Below W2.heap.size W2 w3:=((Below.refl _ W2).alloc (Nat.le_refl _) _).drew.grown hgrow (by simp) (by simp [Value.ownBlock]);have hD3:=hD2.below hB3;have bN:=bV3.set 2 (.slice (some ⟨g',0,none⟩) 1 cap');have hD4:=hD3.cells ((Spares.of_below (Below.refl _ w3)).set (bs:=[db]) (by simp) 2 (.slice (some ⟨g',0,none⟩) 1 cap')) bN;have hR4:=hown'.kept (grownSet w3 db 2 (.slice (some ⟨g',0,none⟩) 1 cap')) (.inr (by simp [Value.ownBlock];omega));have hS4:=hS3.set (b:=db) (by simp) 2 (.slice (some ⟨g',0,none⟩) 1 cap');have HH:=hid_intro (And.intro hD4 (And.intro hR4 hS4));clear hD4 hR4 hS4 bN hD3 hB3 hS3 hown' hgrow hat hlt bV3 d0 d1 v0 fv0 y0 y1 y2;generalize (w3.setCell ⟨db,2,none⟩ (.slice (some ⟨g',0,none⟩) 1 cap'))=W4 at *;go_wp2;go_ret;exact⟨rfl,b,g',cap',hb',by omega,(hid_elim HH).1,(hid_elim HH).2.1,(hid_elim HH).2.2⟩
def BytesAt (W:World) (k:Nat) (data:List UInt8):Prop:=∀ j (hj:j<data.length),W.cell? ⟨k,j,none⟩=some (.int .u8 (data[j].toNat:Int))∧W.frozen? ⟨k,j,none⟩=false
theorem cell_of_block {W W':World} {k:Nat} (h:W'.heap[k]? = W.heap[k]?) (j:Nat):W'.cell? ⟨k,j,none⟩=W.cell? ⟨k,j,none⟩∧W'.frozen? ⟨k,j,none⟩=W.frozen? ⟨k,j,none⟩:=by
 simp [World.cell?,World.frozen?,h]
theorem Tryz.dPut (db md mn k cap:Nat) (fd fn:Option (Nat × List UInt8)) (l f:Int) (data:List UInt8) (w:World) (hD:DiskAt w db md mn fd fn (.slice none 0 0) l f) (hl:l<0) (hl1 : -1000000000≤l) (hf:f<0) (hf1 : -1000000000≤f) (hlen:(oldS fn).length+data.length≤1000000000000)
  (hK:BytesAt w k data) (hk:k<w.heap.size) (n1:db≠k) (n2:md≠k) (n3:mn≠k) (n4:∀ q,fd=some q→q.1≠k) :
  Calls prog 311 #[.pointer (some ⟨db,0,none⟩),.int .i64 2,.string ⟨#[106,111,117,114,110,97,108]⟩,.slice (some ⟨k,0,none⟩) data.length cap] w fun e w'=>e=.returned .nilIface∧∃ b g cap,w.heap.size≤b∧w.heap.size≤g∧DiskAt w' db md mn fd (some (b,oldS fn++data)) (.slice (some ⟨g,0,none⟩) 1 cap) (l-1) (f-1) ∧
   w'.ownsRow w.heap.size 172 3 (.slice (some ⟨g,0,none⟩) 1 cap) 1 [.int .i64 2,.string ⟨#[106,111,117,114,110,97,108]⟩,.string ⟨data.toArray⟩]∧Spares [db,mn,k] w w':=by
 have hT:=dTell db md mn fd fn l f data w hD hl hl1 hf hf1 hlen
 have hcv:(convert 267 9 (.slice (some ⟨k,0,none⟩) data.length cap)).run prog w=.ok (.string ⟨data.toArray⟩) w:=
  run_convert_bytes_back w 267 9 5 ⟨k,0,none⟩ cap data underlying267 underlying5 underlying9 (fun j hj=>by
   have:=(hK j hj).1
   by_cases h0:j=0
   ·subst h0;simpa [Addr.add] using this
   ·simpa [Addr.add,h0] using this)
 have hdl:data.length≤1000000000000:=by omega
 obtain⟨n,hn⟩:∃ n,data.length=n:=⟨_,rfl⟩
 rw [hn] at hcv hdl ⊢;have Hn:=hid_intro hn;have Hlen:=hid_intro hlen;clear hn hlen;go_enter func311,ntmps311
 go_wp2_with (go_at_call 313;refine hT.mono ?_;rintro e w1 ⟨rfl,b,g,cap1,hb,hg,hD1,hR1,hS1⟩)
 have hK1:∀ j,j<n→∃ v,w1.cell? ⟨k,j,none⟩=some v∧w1.frozen? ⟨k,j,none⟩=false:=fun j hj=>by
  obtain⟨e1,e2⟩:=cell_of_block (hS1.block k hk (by simp;omega)) j;obtain⟨e3,e4⟩:=hK j (by have:=hid_elim Hn;omega);exact⟨_,e1.trans e3,e2.trans e4⟩
 clear hT hcv
 go_loopw [20] (fun i wr=>∃ q:Nat,q≤n∧i=.int .i64 q∧Spares [k] w1 wr∧∀ j,j<n→∃ v,wr.cell? ⟨k,j,none⟩=some v∧wr.frozen? ⟨k,j,none⟩=false) (fun i _=>n-(intOf i).toNat)
 case atStart=>exact⟨0,Nat.zero_le _,rfl,Spares.of_below (Below.refl _ _),hK1⟩
 case round =>
  obtain⟨q,hq,rfl,hSq,hKq⟩:=hrel
  by_cases hqn:q<n
  ·obtain⟨v,hv,hvf⟩:=hKq q hqn
   have HK:=hid_intro hKq;clear hKq;go_wp2
   go_roundw
   case rel =>
    refine⟨q+1,by omega,rfl,hSq.set (by simp) _ _,fun j hj=>?_⟩;obtain⟨u,hu,huf⟩:=hid_elim HK j hj;obtain⟨y,hy⟩:=cell?_setCell_some (w:=wr) (p:=⟨k,q,none⟩) (x:=.int .u8 33) hu;exact⟨y,hy,by rw [World.frozen?_setCell];exact huf⟩
   case measure=>simp [intOf];omega
  ·obtain rfl:q=n:=by omega
   have hD2:=hD1.spared hSq (by simpa using n1) (by simpa using n2) (by simpa using n3) (fun z hz=>by simpa using n4 z hz) (fun z hz=>by cases hz;simp;omega);have hR2:=hSq.row hR1 (by simp;omega);have hS2:Spares [db,mn,k] w wr:=(hS1.mono (by simp)).trans (hSq.mono (by simp));clear hKq;go_wp2;go_ret;exact⟨rfl,b,g,cap1,hb,hg,hD2,hR2,hS2⟩
theorem Tryz.dAppend (db md mn k cap:Nat) (fd fn:Option (Nat × List UInt8)) (l f:Int) (data:List UInt8) (w:World) (hD:DiskAt w db md mn fd fn (.slice none 0 0) l f) (hl:l<0) (hl1 : -1000000000≤l) (hf:f<0) (hf1 : -1000000000≤f) (hlen:(oldS fn).length+data.length≤1000000000000)
  (hK:BytesAt w k data) (hk:k<w.heap.size) (n1:db≠k) (n2:md≠k) (n3:mn≠k) (n4:∀ q,fd=some q→q.1≠k) :
  Calls prog 305 #[.pointer (some ⟨db,0,none⟩),.string ⟨#[106,111,117,114,110,97,108]⟩,.slice (some ⟨k,0,none⟩) data.length cap] w fun e w'=>e=.returned .nilIface∧∃ b g cap,w.heap.size≤b∧w.heap.size≤g∧DiskAt w' db md mn fd (some (b,oldS fn++data)) (.slice (some ⟨g,0,none⟩) 1 cap) (l-1) (f-1) ∧
   w'.ownsRow w.heap.size 172 3 (.slice (some ⟨g,0,none⟩) 1 cap) 1 [.int .i64 2,.string ⟨#[106,111,117,114,110,97,108]⟩,.string ⟨data.toArray⟩]∧Spares [db,mn,k] w w':=by
 have hP:=dPut db md mn k cap fd fn l f data w hD hl hl1 hf hf1 hlen hK hk n1 n2 n3 n4;generalize data.length=n at hP ⊢;go_enter func305,ntmps305
 go_wp2_with (go_at_call 311;refine hP.mono ?_;rintro e w1 ⟨rfl,hR⟩)
 go_ret;exact⟨rfl,hR⟩
theorem row_cells {B g cap:Nat} {e:TypeId} {W:World} {a b c:Value} (h:W.ownsRow B e 3 (.slice (some ⟨g,0,none⟩) 1 cap) 1 [a,b,c]):W.cell? ⟨g,0,none⟩=some a∧W.cell? ⟨g,1,none⟩=some b∧W.cell? ⟨g,2,none⟩=some c∧g<W.heap.size:=by
 obtain⟨-,⟨e1,-⟩ | ⟨g',cap',cur,e1,e2,e3,e4⟩⟩:=h
 ·cases e1
 ·cases e1
  have t:∀ j,j<3→cur[j]? = [a,b,c][j]?:=fun j hj=>by
   have h1:=congrArg (fun l:List Value=>l[j]?) e4.2.2.2;simp only [List.getElem?_take,if_pos (show j<1*3 by omega)] at h1;rw [← h1];simp
  have s:∀ j,W.cell? ⟨g,j,none⟩=cur[j]?:=fun j=>by simp [World.cell?,e3]
  exact⟨(s 0).trans (t 0 (by omega)),(s 1).trans (t 1 (by omega)),(s 2).trans (t 2 (by omega)),(Array.getElem?_eq_some_iff.1 e3).1⟩
theorem Tryz.dSync (db md mn g cap B:Nat) (fd fn:Option (Nat × List UInt8)) (l f:Int) (data:List UInt8) (w:World) (hD:DiskAt w db md mn fd fn (.slice (some ⟨g,0,none⟩) 1 cap) l f) (hl:l<0) (hl1 : -1000000000≤l) (hf:f<0) (hf1 : -1000000000≤f) (hlen:(oldS fd).length+data.length≤1000000000000)
  (hR:w.ownsRow B 172 3 (.slice (some ⟨g,0,none⟩) 1 cap) 1 [.int .i64 2,.string ⟨#[106,111,117,114,110,97,108]⟩,.string ⟨data.toArray⟩]) (hg1:db≠g) :
  Calls prog 309 #[.pointer (some ⟨db,0,none⟩)] w fun e w'=>e=.returned .nilIface∧∃ b,w.heap.size≤b∧DiskAt w' db md mn (some (b,oldS fd++data)) fn (.slice none 0 0) (l-1) (f-1)∧Spares [db,md] w w':=by
 have hW:=dWrites' db _ _ _ l f _ hD.box hl hl1 hf hf1;obtain⟨-,-,-,lg⟩:=row_cells hR;go_enter func309,ntmps309
 go_wp2_with (go_at_call 314;refine hW.mono ?_;rintro e W1 ⟨rfl,bD1,hS1⟩;have d2:=bD1.cell 2 (v:=.slice (some ⟨g,0,none⟩) 1 cap) rfl)
 have hD1:=hD.cells hS1 bD1;obtain⟨o0,o1,o2,lg1⟩:=row_cells (hS1.row hR (by simpa using Ne.symm hg1));have d0:=bD1.cell 0 (v:=.map (some md)) rfl;have f2:=bD1.frozen 2;have lD:=hD1.lt;obtain⟨nn,hnn,hM⟩:=hD1.dm;have hsz:=hS1.size;clear hW;have hDo:=dDo md nn fd data (W1.alloc (.cells #[.int .i64 2,.string ⟨#[106,111,117,114,110,97,108]⟩,.string ⟨data.toArray⟩] 172)).drew (hM.alloc _) hnn (fun p hp=>(hD1.sd p hp).alloc _) hlen;have Hsz:=hid_intro hsz;have Hlen:=hid_intro hlen;clear hlen hsz;refine wp_loop_rounds 2 ?_;rw [rounds_succ];go_wp2
 go_region_with (go_at_call 98;refine hDo.mono ?_;rintro e W2 ⟨rfl,b,hb,hM2,bS2,hS2⟩)
 all_goals
  have hsz:=hid_elim Hsz
  have hbb:w.heap.size≤b:=by
   have:(W1.alloc (.cells #[.int .i64 2,.string ⟨#[106,111,117,114,110,97,108]⟩,.string ⟨data.toArray⟩] 172)).drew.heap.size=W1.heap.size+1:=by simp
   omega
  have bD2:=hS2.box (W:=(W1.alloc (.cells #[.int .i64 2,.string ⟨#[106,111,117,114,110,97,108]⟩,.string ⟨data.toArray⟩] 172)).drew) (bD1.alloc _) (by simpa using Ne.symm hD1.nes.1);obtain⟨n1,hn1,hMn⟩:=hD1.nm;have hMn2:=hS2.map (W:=(W1.alloc (.cells #[.int .i64 2,.string ⟨#[106,111,117,114,110,97,108]⟩,.string ⟨data.toArray⟩] 172)).drew) (hMn.alloc _) (by simpa using Ne.symm hD1.ne)
  have hsn2:∀ q,fn=some q→BoxN W2 q.1 9 #[.string ⟨q.2.toArray⟩]:=fun q hq=>hS2.box (W:=(W1.alloc (.cells #[.int .i64 2,.string ⟨#[106,111,117,114,110,97,108]⟩,.string ⟨data.toArray⟩] 172)).drew) ((hD1.sn q hq).alloc _) (by have:=BoxN.ne_map' (hD1.sn q hq) hM;simpa using Ne.symm this)
  have hs2:Spares [db,md] w W2:=(((hS1.mono (bs':=[db,md]) (by simp)).alloc _).drew).trans (hS2.mono (bs':=[db,md]) (by simp))
  have hD2:DiskAt W2 db md mn (some (b,oldS fd++data)) fn (.slice (some ⟨g,0,none⟩) 1 cap) (l-1) (f-1):=⟨bD2,⟨1,by omega,hM2⟩,⟨n1,hn1,hMn2⟩,fun q hq=>by cases hq;exact bS2,hsn2,hD1.ne⟩
  have e2:=bD2.cell 2 (v:=.slice (some ⟨g,0,none⟩) 1 cap) rfl;have e3:=bD2.frozen 2;have hD3:=hD2.cells ((Spares.of_below (Below.refl _ W2)).set (bs:=[db]) (by simp) 2 (.slice none 0 0)) (bD2.set 2 _);have hs3:=hs2.set (b:=db) (by simp) 2 (.slice none 0 0);have HH:=hid_intro (And.intro hbb (And.intro hD3 hs3));clear hsz hbb hD3 hs3 hDo hM hM2 bS2 hS2 hMn hMn2 hsn2 hs2 hD2 bD2 d0 d2 o0 o1 o2 f2;go_wp2
  try rw [rounds_succ]
  go_wp2;go_ret;exact⟨rfl,b,(hid_elim HH).1,(hid_elim HH).2.1,(hid_elim HH).2.2⟩
end Go.Proofs
