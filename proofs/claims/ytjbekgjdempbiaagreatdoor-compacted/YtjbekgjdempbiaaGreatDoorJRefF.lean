import Derived.Test.YtjbekgjdempbiaaGreatDoorJRefE
set_option maxRecDepth 100000
set_option maxHeartbeats 8000000
namespace Go.Proofs
open Go.RowKit Go.Sort Go.Lib Go.Shelf
def J9 (c:UInt8):Bool:=(97<=c.toNat&&c.toNat<=122)||(48<=c.toNat&&c.toNat<=57)||c.toNat==45
def Y7 (st:Option Bool) (c:UInt8):Option Bool:=match st with
 | none=>none
 | some o=>if c.toNat=47 then (if o then some false else none) else if J9 c then some true else none
def pathI (s:List UInt8):Bool:=s.foldl Y7 (some false)==some true&&decide (s.length<=24)
theorem Vz (s:List UInt8):s.foldl Y7 none=none:=by
 induction s with
 | nil=>rfl
 | cons c s ih=>exact ih
theorem Mu {s:List UInt8} {k:Nat} (h:(s.take k).foldl Y7 (some false)=none):pathI s=false:=by
 have:s.foldl Y7 (some false)=none:=by
  rw [<- List.take_append_drop k s,List.foldl_append,h,Vz]
 simp [pathI,this]
theorem Xge {s:List UInt8} {k:Nat} {c:UInt8} {o:Bool} (hk:s[k]? = some c) (h:(s.take k).foldl Y7 (some false)=some o):(s.take (k+1)).foldl Y7 (some false)=Y7 (some o) c:=by
 rw [Xlc hk,List.foldl_append,h];rfl
theorem Xdr {c:UInt8} {b:Bool} (h:c.toNat≠47/\¬ ((97<=c.toNat/\c.toNat<=122)\/(48<=c.toNat/\c.toNat<=57)\/c.toNat=45)):Y7 (some b) c=none:=by
 have hn:J9 c=false:=by
  cases hb:J9 c
  ·rfl
  exfalso
  simp [J9] at hb;omega
 simp only [Y7,if_neg h.1,hn];rfl
theorem Xg7 {c:UInt8} {b:Bool} (h:c.toNat≠47/\((97<=c.toNat/\c.toNat<=122)\/(48<=c.toNat/\c.toNat<=57)\/c.toNat=45)):Y7 (some b) c=some true:=by
 have hn:J9 c=true:=by
  simp [J9];omega
 simp only [Y7,if_neg h.1,hn,if_true]
theorem Xdc {c:UInt8} {b:Bool} (h:c.toNat=47):Y7 (some b) c=if b then some false else none:=by
 simp only [Y7,if_pos h]
end Go.Proofs
