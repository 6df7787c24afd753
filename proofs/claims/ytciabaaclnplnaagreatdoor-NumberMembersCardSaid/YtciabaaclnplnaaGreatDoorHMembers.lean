/-
 NumberMembers: for every two boxes and every corner (numbers of at most 5 digits, else the law only asks for the examples) the law returns true: sums, products, conjugates and squared magnitudes of members are members of what the program returns; the arguments read behind the call as before. Conditions: those of the given card alone (the three listed tables of the library hold what the program's text lays).
-/
import Derived.Test.YtciabaaclnplnaaGreatDoorSMembers
import Derived.Test.YtciabaaclnplnaaGreatDoorCards
import Derived.Test.YtciabaaclnplnaaGreatDoorTie
set_option linter.all false
namespace Go.Proofs.YtciabaaclnplnaaGreatDoor
open Go.ChangeAt Go.ChangeMaps Go.ChangeShapes Go.RowKit Go.WideShapes
theorem numberMembers_holds:Rows.NumberMembersCardSaid:=
 Claim7.holds_tied_plain_at .later [] [.data,.data,.data] true Rows.numberMembersCard.stood.harness false
  zoL (fun _ h=>by cases h) (by kernel_rfl) (fun _ h=>by cases h) numberMembers_row_tie rfl ⟨rfl,rfl⟩ (by kernel_rfl) rfl
  (fun f fn hf hfn => by
   obtain rfl:f=6:=Option.some.inj ((show Tryz.prog.funcNamed "lenslet/lensletlaw01.NumberMembers" = some 6 by kernel_rfl).symm.trans hf) |>.symm
   obtain rfl:fn=Tryz.f6:=(Option.some.inj (Tryz.func6.symm.trans hfn)).symm
   exact ⟨by kernel_rfl,fun j t ht=>by
    rw [Tryz.params6] at ht
    have hm:t ∈ [50,50,70]:=by simpa using Array.mem_of_getElem? ht
    have hall:([50,50,70].all fun u => !Tryz.prog.wantsStandIn u)=true:=by kernel_rfl
    exact (show Tryz.prog.wantsStandIn t=false by simpa using List.all_eq_true.1 hall t hm)⟩)
  (by kernel_rfl)
end Go.Proofs.YtciabaaclnplnaaGreatDoor
