import Derived.Test.YtjbekgjdempbiaaGreatDoorJRefI
set_option maxRecDepth 100000
set_option maxHeartbeats 8000000
namespace Go.Proofs
open Go.RowKit Go.Sort Go.Lib Go.Shelf
def newLea (k m:Nat) (pth:List UInt8) (a l:Int):Xm:=⟨false,k,(m:Int),pth,a,l,false,0⟩
abbrev Xgj (g vb i:Nat) (sl:Value) (tm:Int) (k m:Nat) (W:World):Prop:=
 W.cell? ⟨vb,0,none⟩=some sl/\W.cell? ⟨vb,1,none⟩=some (.int .u64 tm)/\W.cell? ⟨vb,3,none⟩=some (.int .i64 k)/\W.cell? ⟨g,i*8+1,none⟩=some (.int .i64 m)
theorem Xgj.below {g vb i:Nat} {sl:Value} {tm:Int} {k m:Nat} {W W':World} (h:Xgj g vb i sl tm k m W) (hb:Below W.heap.size W W'):Xgj g vb i sl tm k m W':=
 ⟨cell_later hb h.1,cell_later hb h.2.1,cell_later hb h.2.2.1,cell_later hb h.2.2.2⟩
end Go.Proofs
