import Derived.Test.YtjbekgjdempbiaaGreatDoorJRefH
import Derived.Deep.RegionHeldLaw
import Derived.Deep.RegionLaw
import Derived.Deep.AppendLies
import Derived.Deep.RegionHeld3
set_option maxRecDepth 100000
set_option maxHeartbeats 8000000
namespace Go.Proofs
open Go.RowKit Go.Sort Go.Lib Go.Shelf
def newTok (k m:Nat):Xm:=⟨true,k,(m:Int),[],18446744073709551615,0,false,0⟩
abbrev cells3 (g vb i:Nat) (sl:Value) (k m:Nat) (W:World):Prop:=
 W.cell? ⟨vb,0,none⟩=some sl/\W.cell? ⟨vb,2,none⟩=some (.int .i64 k)/\W.cell? ⟨g,i*8+1,none⟩=some (.int .i64 m)
theorem cells3.below {g vb i:Nat} {sl:Value} {k m:Nat} {W W':World} (h:cells3 g vb i sl k m W) (hb:Below W.heap.size W W'):cells3 g vb i sl k m W':=
 ⟨cell_later hb h.1,cell_later hb h.2.1,cell_later hb h.2.2⟩
end Go.Proofs
