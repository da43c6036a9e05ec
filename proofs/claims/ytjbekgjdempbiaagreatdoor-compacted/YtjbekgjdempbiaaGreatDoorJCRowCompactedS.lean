import Derived.Test.YtjbekgjdempbiaaGreatDoorJCRowCompactedS1
set_option maxRecDepth 100000
set_option maxHeartbeats 8000000
namespace Go.Proofs.YtjbekgjdempbiaaGreatDoor
open Go.ChangeShapes Go.WideShapes Go.ChangeAt Go.RowKit Go.Proofs
theorem plain (f:FuncId) (fn:Func) (hf:Tryz.pinned.checked.prog.funcNamed "leasekeeper/leasekeeperkeep.Compacted" = some f) (hfn:Tryz.pinned.checked.prog.funcs[f]? = some fn) :
  true=Tryz.pinned.checked.prog.looks []/\∀(j:Nat) t,fn.params[j]? = some t->Tryz.pinned.checked.prog.wantsStandIn t=false:=by
 obtain rfl:f=13:=Option.some.inj ((show Tryz.prog.funcNamed "leasekeeper/leasekeeperkeep.Compacted" = some 13 by kernel_rfl).symm.trans hf) |>.symm
 obtain rfl:fn=Tryz.f13:=(Option.some.inj (Tryz.func13.symm.trans hfn)).symm;refine⟨by kernel_rfl,fun j t ht=>?_⟩;rw [Tryz.params13] at ht
 obtain rfl:t=3:=by simpa using Array.mem_of_getElem? ht
 exact(show Tryz.prog.wantsStandIn 3=false by kernel_rfl)
theorem compacted_card:Rows.CompactedCardSaid:=
 Claim7.holds_tied_plain_at .later [] _ _ _ _ said (fun _ h=>by cases h) cWf (fun _ h=>by cases h) compacted_row_tie rfl ⟨rfl,rfl⟩ cMain rfl plain cGoes
end Go.Proofs.YtjbekgjdempbiaaGreatDoor
