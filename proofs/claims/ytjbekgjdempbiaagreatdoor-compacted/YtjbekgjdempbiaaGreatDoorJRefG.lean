import Derived.Test.YtjbekgjdempbiaaGreatDoorJRefF
import Derived.Test.YtjbekgjdempbiaaGreatDoorJSets
set_option maxRecDepth 100000
set_option maxHeartbeats 8000000
namespace Go.Proofs
open Go.RowKit Go.Sort Go.Lib Go.Shelf
def renewAt (tm ttl:Int) (t:Xm):Int:=max t.at_ (min (plusI tm ttl) t.last)
end Go.Proofs
