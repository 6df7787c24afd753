/-
 What the cards of this seat share: the listed tables as the program's text lays them, and that the check of the document's examples holds in every world with these tables.
-/
import Derived.Test.YtombhkpniddceaaGreatDoorM43
import Derived.Test.YtombhkpniddceaaGreatDoorRows
import Derived.ProofKit
import Derived.OpenShut
import Derived.LaidMore
import Derived.Stop.Joined
import Derived.Stop.LaidErr
set_option linter.all false
namespace Go.Proofs.YtombhkpniddceaaGreatDoor
open Go.ChangeShapes Go.WideShapes Go.ChangeAt Go.RowKit
theorem own:ownKnob Tryz.prog.godebug=none:=by kernel_rfl
theorem gPow:Tryz.prog.globalNamed "internal/strconv.uint64pow10" = some 4:=by kernel_rfl
theorem zne:(Tryz.prog.globals[4]?).map (·.type)=some 308:=by kernel_rfl
def laid3:List (String × DataW Unit):=[("math/bits.deBruijn32tab", Rows.laid_math_bits_deBruijn32tab),("math/bits.deBruijn64tab", Rows.laid_math_bits_deBruijn64tab),("internal/strconv.uint64pow10", Rows.laid_internal_strconv_uint64pow10)]
theorem znu (os:Os) (args:Array Value):laidMetH Tryz.prog laid3 ((World.doorLaid Tryz.prog 400 os).forCall (fun _ _=>0) ⟨#[],args,[]⟩).memory:=
 laidMetH_of_parts3 (fuel:=8) (laidMet_of_run' 8 (by kernel_rfl) (by kernel_rfl)) (by kernel_rfl) (by kernel_rfl)
theorem zjb {W:World} (h:laidMetH Tryz.prog laid3 W):Glo W:=by
 rw [MakeChecks.laidMetH_plain _ _ _ (by kernel_rfl)] at h
 exact ⟨Lib.tabIs_of_head gPow zne (by kernel_rfl:Tryz.prog.underlying 308=some (.array 20 220)) (by kernel_rfl:Tryz.prog.underlying 220=some (.int .u64)) (by kernel_rfl) (by kernel_rfl) h.tail.tail⟩
end Go.Proofs.YtombhkpniddceaaGreatDoor

