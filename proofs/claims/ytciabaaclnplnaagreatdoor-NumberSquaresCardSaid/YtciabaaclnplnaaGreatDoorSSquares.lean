import Derived.Test.YtciabaaclnplnaaGreatDoorOSquares
import Derived.SevenTiedAt
set_option linter.all false
namespace Go.Proofs.YtciabaaclnplnaaGreatDoor
open Go.ChangeAt Go.ChangeMaps Go.ChangeShapes Go.RowKit Go.WideShapes
theorem zoK:Rows.NumberSquaresSaid:=
 OpenClaim.holds_of_wide 7 Tryz.f7 rfl rfl rfl rfl rfl rfl rfl ⟨rfl,rfl,rfl,rfl,rfl⟩ rfl rfl rfl rfl rfl (by kernel_rfl) Tryz.func7 (by kernel_rfl)
  (of_decide_eq_true (by kernel_rfl)) (by unfold Func.isWrapper; first | (rw [if_pos (by decide +kernel)]; kernel_rfl) | (rw [if_neg (by decide +kernel)]; exact ⟨rfl,rfl⟩))
  (fun os started H enc _=>zpi os started H enc)
end Go.Proofs.YtciabaaclnplnaaGreatDoor
