import Derived.Test.YtjbekgjdempbiaaGreatDoorJCRowCompactedQ
import Derived.Test.YtjbekgjdempbiaaGreatDoorJCRowCompactedR4
set_option maxRecDepth 100000
set_option maxHeartbeats 8000000
namespace Go.Proofs.YtjbekgjdempbiaaGreatDoor
open Go.ChangeShapes Go.WideShapes Go.ChangeAt Go.RowKit Go.Proofs
theorem lifted (os:Os) (started:os.Started) (H:Type) (enc:TypeId × Value->H) (F:Stop.Interp) :
  ReturnsInHanded {} Tryz.checked os 13 .any ((OpenSpec.ofChange Rows.compactedSpec).preRow enc Tryz.prog Tryz.f13 Rows.compactedRow.domain false Rows.compactedRow.laid) (((OpenSpec.ofChange Rows.compactedSpec).at F).post enc Tryz.prog Tryz.f13 false true false false):=by
 obtain⟨mk,hmk⟩:=start;obtain⟨h1,h2,h3,h4,h5,h6⟩:=hmk os;obtain⟨places,hx⟩:=h6 H enc
 refine returnsInHanded_of_row (C:=Tryz.checked) (s:=OpenSpec.ofChange Rows.compactedSpec) own started (by kernel_rfl) Tryz.func13
  (witness_row_atRef (enc:=enc) (C:=Tryz.checked) false (mk os) #[.int .i64 0,.int .i64 0] h1 h2 h3 h4
   (OpenSpec.preRow_of_cond 8 hx (by kernel_rfl) (fun k hk=>by cases hk) (by kernel_rfl) h5)) ?_
 intro W base args ds gs before hval hW _ _ _ hL hsh _;exact Xkv H enc W base args ds gs before hval hW hL hsh
theorem said:Rows.CompactedSaid:=
 OpenClaim.holds_of_cond 13 Tryz.f13 rfl rfl rfl rfl rfl rfl rfl ⟨rfl,rfl,rfl,rfl,rfl⟩ rfl rfl rfl rfl rfl (by kernel_rfl) Tryz.func13 Xnm
  (of_decide_eq_true (by kernel_rfl)) (by unfold Func.isWrapper;first | (rw [if_pos (by decide +kernel)];kernel_rfl) | (rw [if_neg (by decide +kernel)];exact⟨rfl,rfl⟩))
  (fun os started H enc _ F=>by rw [OpenClaim.pre_eq_preRow];exact lifted os started H enc F)
end Go.Proofs.YtjbekgjdempbiaaGreatDoor
