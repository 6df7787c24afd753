/-
 NumberSquares: for every two texts of numbers and every number of decimals (numbers of at most 30 digits, 1 to 10 decimals, else the law only asks for the examples) the law returns true: the root of a number from 0 on has ends whose squares hold the number between them, at most 10^-k apart, the root with more decimals lies in it, and the root of a square is exact; the arguments read behind the call as before. Conditions: those of the given card alone (the three listed tables of the library hold what the program's text lays).
-/
import Derived.Test.YtciabaaclnplnaaGreatDoorSSquares
import Derived.Test.YtciabaaclnplnaaGreatDoorCards
import Derived.Test.YtciabaaclnplnaaGreatDoorTie
set_option linter.all false
namespace Go.Proofs.YtciabaaclnplnaaGreatDoor
open Go.ChangeAt Go.ChangeMaps Go.ChangeShapes Go.RowKit Go.WideShapes
theorem numberSquares_holds:Rows.NumberSquaresCardSaid:=
 Claim7.holds_tied_plain_at .later [] [.data,.data,.data] true Rows.numberSquaresCard.stood.harness false
  zoK (fun _ h=>by cases h) (by kernel_rfl) (fun _ h=>by cases h) numberSquares_row_tie rfl ⟨rfl,rfl⟩ (by kernel_rfl) rfl
  (fun f fn hf hfn => by
   obtain rfl:f=7:=Option.some.inj ((show Tryz.prog.funcNamed "lenslet/lensletlaw01.NumberSquares" = some 7 by kernel_rfl).symm.trans hf) |>.symm
   obtain rfl:fn=Tryz.f7:=(Option.some.inj (Tryz.func7.symm.trans hfn)).symm
   exact ⟨by kernel_rfl,fun j t ht=>by
    rw [Tryz.params7] at ht
    have hm:t ∈ [22,22,3]:=by simpa using Array.mem_of_getElem? ht
    have hall:([22,22,3].all fun u => !Tryz.prog.wantsStandIn u)=true:=by kernel_rfl
    exact (show Tryz.prog.wantsStandIn t=false by simpa using List.all_eq_true.1 hall t hm)⟩)
  (by kernel_rfl)
end Go.Proofs.YtciabaaclnplnaaGreatDoor
