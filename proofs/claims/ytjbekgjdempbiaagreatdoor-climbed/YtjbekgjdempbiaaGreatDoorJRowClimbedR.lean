import Derived.Test.YtjbekgjdempbiaaGreatDoorJRowClimbedQ
import Derived.Test.YtjbekgjdempbiaaGreatDoorJRowClimbedR4
set_option maxRecDepth 100000
set_option maxHeartbeats 8000000
namespace Go.Proofs.YtjbekgjdempbiaaGreatDoor
open Go.ChangeShapes Go.WideShapes Go.ChangeAt Go.RowKit Go.Proofs
theorem lifted (os:Os) (started:os.Started) (H:Type) (enc:TypeId × Value→H) (F:Stop.Interp) :
  ReturnsInHanded {} Tryz.checked os 10 .any ((OpenSpec.ofChange Rows.climbedSpec).preRow enc Tryz.prog Tryz.f10 Rows.climbedRow.domain false Rows.climbedRow.laid) (((OpenSpec.ofChange Rows.climbedSpec).at F).post enc Tryz.prog Tryz.f10 false true false false):=by
 obtain⟨mk,hmk⟩:=start;obtain⟨h1,h2,h3,h4,h5,h6⟩:=hmk os;obtain⟨places,hx⟩:=h6 H enc
 refine returnsInHanded_of_row (C:=Tryz.checked) (s:=OpenSpec.ofChange Rows.climbedSpec) own started (by kernel_rfl) Tryz.func10
  (witness_row_atRef (enc:=enc) (C:=Tryz.checked) false (mk os) #[.slice none 0 0,.int .i64 0,.int .i64 0,.int .i64 0] h1 h2 h3 h4
   (OpenSpec.preRow_of_cond 8 hx (by kernel_rfl) (fun k hk=>by cases hk) (by kernel_rfl) h5)) ?_
 intro W base args ds gs before hval hW _ _ _ hL hsh _;exact contract H enc W base args ds gs before hval hW hL hsh
theorem said:Rows.ClimbedSaid:=
 OpenClaim.holds_of_cond 10 Tryz.f10 rfl rfl rfl rfl rfl rfl rfl ⟨rfl,rfl,rfl,rfl,rfl⟩ rfl rfl rfl rfl rfl (by kernel_rfl) Tryz.func10 closedF
  (of_decide_eq_true (by kernel_rfl)) (by unfold Func.isWrapper;first | (rw [if_pos (by decide +kernel)];kernel_rfl) | (rw [if_neg (by decide +kernel)];exact⟨rfl,rfl⟩))
  (fun os started H enc _ F=>by rw [OpenClaim.pre_eq_preRow];exact lifted os started H enc F)
end Go.Proofs.YtjbekgjdempbiaaGreatDoor
