/-
 NumberKernels: for every matrix and list (beyond 5 rows and columns of numbers of 4 digits only the examples are asked) the law returns true: kernel rows have product 0 with the matrix's rows and are in reduced echelon form, rank and kernel add up to the columns, and the columns have the same rank.
-/
import Derived.Test.YtombhkpniddceaaGreatDoorHKers
import Derived.Test.YtombhkpniddceaaGreatDoorAwake
namespace Go.Proofs.YtombhkpniddceaaGreatDoor
open Go.RowKit
theorem zpy:zgf:=fun w _=>zf (awake_c (w:=w)) fun _ _ ⟨he,hn⟩=>⟨he,hn.out⟩
theorem numberKernels_holds:Rows.NumberKernelsCardSaid:=zqq zpy
end Go.Proofs.YtombhkpniddceaaGreatDoor
