import Derived.Test.YtjbekgjdempbiaaGreatDoorJRefG
set_option maxRecDepth 100000
set_option maxHeartbeats 8000000
namespace Go.Proofs
open Go.RowKit Go.Sort Go.Lib Go.Shelf
def issueE (tm:Int) (id pth:List UInt8) (ttl most:Int) (L:List Xm):Int:=
 if Xpl tm id true L<0 then 1 else if pathI pth=false then 2 else if ttl=0\/most<ttl then 3 else if Xon false L=14 then 4 else 0
end Go.Proofs
