import Derived.Test.YtjbekgjdempbiaaGreatDoorJTkC
import Derived.Test.YtjbekgjdempbiaaGreatDoorJTkO
import Derived.Test.YtjbekgjdempbiaaGreatDoorJFndB
set_option maxRecDepth 100000
set_option maxHeartbeats 8000000
namespace Go.Proofs
open Go.RowKit Go.Sort Go.Lib Go.Shelf Go.Maps
inductive ClimbN (tks:List TokE) (top:Int × Int) (b:Bool):Nat→Int × Int→Prop where
 | here (hb:b=true) {x:Int × Int} (hx:x=top):ClimbN tks top b 0 x
 | off (hb:b=false) {x:Int × Int} (hx:x≠top) (hw:NmWf x) (hn:∀ t∈tks,x≠(1,(t.n:Int))):ClimbN tks top b 0 x
 | up {m:Nat} {x:Int × Int} (t:TokE) (ht:t∈tks) (hx:x≠top) (he:x=(1,(t.n:Int))) (h:ClimbN tks top b m (t.ak,(t.au:Int))):ClimbN tks top b (m+1) x
def Tryz.WiR (tks:List TokE) (top:Int × Int) (b:Bool) (w wr:World) (m:Nat):Prop:=∃ y,ClimbN tks top b m y∧BoxN wr w.heap.size 114 #[.int .i64 y.1,.int .u64 y.2]∧BoxN wr (w.heap.size+1) 114 #[.int .i64 top.1,.int .u64 top.2]∧Below w.heap.size w wr
theorem Tryz.vRevPre1 (pb:Nat) (pre:List UInt8) (l:LeaE) (w:World) (hP:BoxN w pb 9 #[.string ⟨pre.toArray⟩]) :
  Calls prog 93 #[.agg l.cells,.pointer (some ⟨pb,0,none⟩)] w fun e w'=>e=.returned (.bool (beginsB l.pth pre))∧Below w.heap.size w w':=by
 have hB0:Below w.heap.size w (w.alloc (.cells l.cells 131)):=(Below.refl _ w).alloc (Nat.le_refl _) _;have p0:=(hP.alloc (.cells l.cells 131)).cell 0 (v:=.string ⟨pre.toArray⟩) rfl
 have hW:=fun W=>within l.pth pre W
 obtain⟨n,ak,au,at_,tr,pd,pth,la⟩:=l;simp only [LeaE.cells] at *;go_enter func93,ntmps93
 go_wp2_with (go_at_call 94;refine(hW _).mono ?_;rintro e w1 ⟨rfl,rfl⟩)
 go_ret;exact⟨rfl,hB0⟩
end Go.Proofs
