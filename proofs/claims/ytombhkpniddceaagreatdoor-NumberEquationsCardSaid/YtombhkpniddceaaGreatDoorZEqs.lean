/-
 NumberEquations: for every two matrices and every list (of any size; beyond 4 rows and columns of numbers of 4 digits, or if one is no matrix, the law only asks for the examples) the law returns true: a product with a list is that with the matrix of one column, Solve finds the only solution of a product or says that there are several, and products are associative; the arguments read behind the call as before. Conditions: those of the given card alone (the three listed tables of the library hold what the program's text lays).
-/
import Derived.Test.YtombhkpniddceaaGreatDoorHEqs
import Derived.Test.YtombhkpniddceaaGreatDoorAwake
namespace Go.Proofs.YtombhkpniddceaaGreatDoor
open Go.RowKit
theorem zpy:zgf:=fun w _=>zf (awake_c (w:=w)) fun _ _ ⟨he,hn⟩=>⟨he,hn.out⟩
theorem numberEquations_holds:Rows.NumberEquationsCardSaid:=zqq zpy
end Go.Proofs.YtombhkpniddceaaGreatDoor
