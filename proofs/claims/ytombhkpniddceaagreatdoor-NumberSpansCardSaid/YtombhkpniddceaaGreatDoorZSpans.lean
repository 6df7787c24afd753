/-
 NumberSpans: for every two spans and every number of decimals (texts of at most 60 bytes, else the law only asks for the examples) the law returns true: Root, Square, CheckSpan, Plus, Minus, Times, Over and Compare answer as the reference does, or with the first error; the arguments read behind the call as before. Conditions: those of the given card alone (the three listed tables of the library hold what the program's text lays).
-/
import Derived.Test.YtombhkpniddceaaGreatDoorHSpans
import Derived.Test.YtombhkpniddceaaGreatDoorAwake
namespace Go.Proofs.YtombhkpniddceaaGreatDoor
open Go.RowKit
theorem zpy:zgf:=fun w _=>zf (awake_c (w:=w)) fun _ _ ⟨he,hn⟩=>⟨he,hn.out⟩
theorem numberSpans_holds:Rows.NumberSpansCardSaid:=spansA zpy
end Go.Proofs.YtombhkpniddceaaGreatDoor
