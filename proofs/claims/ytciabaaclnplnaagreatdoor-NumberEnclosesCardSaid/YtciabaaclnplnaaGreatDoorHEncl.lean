/-
 NumberEncloses: for every two spans and every part (numbers of at most 6 digits, else the law only asks for the examples) the law returns true: sums, differences, products and quotients of members are members of the program's spans, and the program's order is the order of the members; the arguments read behind the call as before. Conditions: those of the given card alone (the three listed tables of the library hold what the program's text lays).
-/
import Derived.Test.YtciabaaclnplnaaGreatDoorSEncl
import Derived.Test.YtciabaaclnplnaaGreatDoorCards
import Derived.Test.YtciabaaclnplnaaGreatDoorTie
set_option linter.all false
namespace Go.Proofs.YtciabaaclnplnaaGreatDoor
open Go.ChangeAt Go.ChangeMaps Go.ChangeShapes Go.RowKit Go.WideShapes
theorem numberEncloses_holds:Rows.NumberEnclosesCardSaid:=
 Claim7.holds_tied_plain_at .later [] [.data,.data,.data] true Rows.numberEnclosesCard.stood.harness false
  zoF (fun _ h=>by cases h) (by kernel_rfl) (fun _ h=>by cases h) numberEncloses_row_tie rfl ⟨rfl,rfl⟩ (by kernel_rfl) rfl
  (fun f fn hf hfn => by
   obtain rfl:f=5:=Option.some.inj ((show Tryz.prog.funcNamed "lenslet/lensletlaw01.NumberEncloses" = some 5 by kernel_rfl).symm.trans hf) |>.symm
   obtain rfl:fn=Tryz.f5:=(Option.some.inj (Tryz.func5.symm.trans hfn)).symm
   exact ⟨by kernel_rfl,fun j t ht=>by
    rw [Tryz.params5] at ht
    have hm:t ∈ [24,24,63]:=by simpa using Array.mem_of_getElem? ht
    have hall:([24,24,63].all fun u => !Tryz.prog.wantsStandIn u)=true:=by kernel_rfl
    exact (show Tryz.prog.wantsStandIn t=false by simpa using List.all_eq_true.1 hall t hm)⟩)
  (by kernel_rfl)
end Go.Proofs.YtciabaaclnplnaaGreatDoor
