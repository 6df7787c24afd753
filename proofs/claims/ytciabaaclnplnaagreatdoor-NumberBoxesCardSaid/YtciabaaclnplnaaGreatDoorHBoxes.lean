/-
 NumberBoxes: for every two boxes (texts of at most 60 bytes, else the law only asks for the examples) the law returns true: CheckBox, AddBox, MulBox, Conjugate and Norm answer as the reference does, or with the first error; the arguments read behind the call as before. Conditions: those of the given card alone (the three listed tables of the library hold what the program's text lays).
-/
import Derived.Test.YtciabaaclnplnaaGreatDoorSBoxes
import Derived.Test.YtciabaaclnplnaaGreatDoorCards
import Derived.Test.YtciabaaclnplnaaGreatDoorTie
set_option linter.all false
namespace Go.Proofs.YtciabaaclnplnaaGreatDoor
open Go.ChangeAt Go.ChangeMaps Go.ChangeShapes Go.RowKit Go.WideShapes
theorem numberBoxes_holds:Rows.NumberBoxesCardSaid:=
 Claim7.holds_tied_plain_at .later [] [.data,.data,.data] true Rows.numberBoxesCard.stood.harness false
  zgi (fun _ h=>by cases h) (by kernel_rfl) (fun _ h=>by cases h) numberBoxes_row_tie rfl ⟨rfl,rfl⟩ (by kernel_rfl) rfl
  (fun f fn hf hfn => by
   obtain rfl:f=4:=Option.some.inj ((show Tryz.prog.funcNamed "lenslet/lensletlaw01.NumberBoxes" = some 4 by kernel_rfl).symm.trans hf) |>.symm
   obtain rfl:fn=Tryz.f4:=(Option.some.inj (Tryz.func4.symm.trans hfn)).symm
   exact ⟨by kernel_rfl,fun j t ht=>by
    rw [Tryz.params4] at ht
    have hm:t ∈ [50,50]:=by simpa using Array.mem_of_getElem? ht
    have hall:([50,50].all fun u => !Tryz.prog.wantsStandIn u)=true:=by kernel_rfl
    exact (show Tryz.prog.wantsStandIn t=false by simpa using List.all_eq_true.1 hall t hm)⟩)
  (by kernel_rfl)
end Go.Proofs.YtciabaaclnplnaaGreatDoor
