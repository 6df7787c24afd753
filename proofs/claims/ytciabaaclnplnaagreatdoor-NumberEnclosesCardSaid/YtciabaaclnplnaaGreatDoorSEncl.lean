import Derived.Test.YtciabaaclnplnaaGreatDoorOEncl
import Derived.SevenTiedAt
set_option linter.all false
namespace Go.Proofs.YtciabaaclnplnaaGreatDoor
open Go.ChangeAt Go.ChangeMaps Go.ChangeShapes Go.RowKit Go.WideShapes
theorem jf1:(Rows.numberEnclosesRow.wf (OpenSpec.ofChange Rows.numberEnclosesSpec))=true:=by kernel_rfl
theorem jf2:(laidOutB Tryz.pinned.checked.prog)=true:=by kernel_rfl
theorem jf3:(mapsRowed Tryz.pinned.checked.prog)=true:=by kernel_rfl
theorem jf4:(Tryz.f5.params.all (Tryz.pinned.checked.prog.readableRec ·))=true:=by kernel_rfl
theorem jf5:(namedTie Tryz.pinned.checked.prog Rows.numberEnclosesRow.named Rows.numberEnclosesSpec.vars)=true:=by kernel_rfl
theorem jf6:((Rows.numberEnclosesRow.stops == []))=true:=by kernel_rfl
theorem jf7:((Tryz.pinned.checked.prog.stops == []))=true:=by kernel_rfl
theorem jf8:((Rows.numberEnclosesRow.knobs == []))=true:=by kernel_rfl
theorem jf9:((Tryz.pinned.checked.prog.stopKnobs == []))=true:=by kernel_rfl
theorem jf10:((Rows.numberEnclosesRow.inPlace == Tryz.pinned.checked.prog.inPlace 5))=true:=by kernel_rfl
theorem jf11:((Rows.numberEnclosesRow.unfollowed == Tryz.pinned.checked.prog.unfollowed 5))=true:=by kernel_rfl
theorem jf12:((Rows.numberEnclosesRow.recurses == Tryz.pinned.checked.prog.recurses 5))=true:=by kernel_rfl
theorem jf13:((Rows.numberEnclosesRow.named == Tryz.pinned.checked.prog.varsNamed 5))=true:=by kernel_rfl
theorem jf14:((Rows.numberEnclosesRow.maps == (Tryz.f5.params.toList ++ Rows.numberEnclosesSpec.plain.varTypes Tryz.pinned.checked.prog).any (Tryz.pinned.checked.prog.mapsRec ·)))=true:=by kernel_rfl
theorem jf15:((Rows.numberEnclosesRow.ifaces == (Tryz.f5.params.toList ++ Rows.numberEnclosesSpec.plain.varTypes Tryz.pinned.checked.prog).any (Tryz.pinned.checked.prog.ifacesRec ·)))=true:=by kernel_rfl
theorem jf16:((Rows.numberEnclosesRow.mapsOut == Tryz.pinned.checked.prog.mapsAmong Tryz.f5.resultTypes.toList))=true:=by kernel_rfl
theorem jf17:((Rows.numberEnclosesRow.loops == (Tryz.f5.params.toList ++ Rows.numberEnclosesSpec.plain.varTypes Tryz.pinned.checked.prog).any (Tryz.pinned.checked.prog.loopsFrom ·)))=true:=by kernel_rfl
theorem jf18:((Rows.numberEnclosesRow.wideKeys == (Tryz.f5.params.toList ++ Rows.numberEnclosesSpec.plain.varTypes Tryz.pinned.checked.prog ++ Tryz.f5.resultTypes.toList).any (Tryz.pinned.checked.prog.wideKeysFrom ·)))=true:=by kernel_rfl
theorem jf19:(Rows.numberEnclosesSpec.vars.all (Tryz.pinned.checked.prog.varReadable ·))=true:=by kernel_rfl
theorem jf20:(Tryz.f5.resultTypes.all (fun t=>Tryz.pinned.checked.prog.readableRec t && decide (t < Tryz.pinned.checked.prog.types.size)))=true:=by kernel_rfl
theorem jf21:((Rows.numberEnclosesRow.ifacesOut == Tryz.f5.resultTypes.toList.any (Tryz.pinned.checked.prog.ifacesRec ·)))=true:=by kernel_rfl
theorem jf22:((Rows.numberEnclosesRow.loopsOut == Tryz.f5.resultTypes.toList.any (Tryz.pinned.checked.prog.loopsFrom ·)))=true:=by kernel_rfl
theorem jf23:((Rows.numberEnclosesRow.plainKeys == Tryz.pinned.checked.prog.plainKeys))=true:=by kernel_rfl
theorem jf24:(Rows.numberEnclosesRow.shortTexts.isNone)=true:=by kernel_rfl
theorem jf25:(Tryz.pinned.checked.prog.stopsHeard)=true:=by kernel_rfl
theorem jf26:(Tryz.pinned.checked.prog.mayEnter)=true:=by kernel_rfl
theorem jf27:((Rows.numberEnclosesRow.lifted == Tryz.pinned.checked.prog.liftsFinal))=true:=by kernel_rfl
theorem jf28:((Tryz.pinned.checked.prog.make == some Rows.numberEnclosesRow.make))=true:=by kernel_rfl
theorem jf30:((Rows.numberEnclosesRow.pinned == Rows.numberEnclosesRow.pinnedBy))=true:=by kernel_rfl
theorem jf31:((Rows.numberEnclosesRow.veiled == (Tryz.f5.params.toList ++ Rows.numberEnclosesSpec.plain.varTypes Tryz.pinned.checked.prog ++ Tryz.f5.resultTypes.toList).any (Tryz.pinned.checked.prog.veiledRec ·)))=true:=by kernel_rfl
theorem jf32:(Rows.numberEnclosesRow.veiledFits Tryz.pinned.checked.prog Tryz.f5.params.toList (Tryz.f5.params.toList ++ Rows.numberEnclosesSpec.plain.varTypes Tryz.pinned.checked.prog ++ Tryz.f5.resultTypes.toList))=true:=by kernel_rfl
theorem jfAll:joinedFacts Tryz.pinned.checked.prog 5 Tryz.f5 Rows.numberEnclosesSpec Rows.numberEnclosesRow=true:=by
 unfold joinedFacts
 simp only [Bool.and_eq_true]
 exact ⟨⟨⟨⟨⟨⟨⟨⟨⟨⟨⟨⟨⟨⟨⟨⟨⟨⟨⟨⟨⟨⟨⟨⟨⟨⟨⟨⟨⟨⟨⟨jf1,jf2⟩,jf3⟩,jf4⟩,jf5⟩,jf6⟩,jf7⟩,jf8⟩,jf9⟩,jf10⟩,jf11⟩,jf12⟩,jf13⟩,jf14⟩,jf15⟩,jf16⟩,jf17⟩,jf18⟩,jf19⟩,jf20⟩,jf21⟩,jf22⟩,jf23⟩,jf24⟩,jf25⟩,jf26⟩,jf27⟩,jf28⟩,(by kernel_rfl)⟩,jf30⟩,jf31⟩,jf32⟩
theorem zoF:Rows.NumberEnclosesSaid:=
 OpenClaim.holds_of_wide 5 Tryz.f5 rfl rfl rfl rfl rfl rfl rfl ⟨rfl,rfl,rfl,rfl,rfl⟩ rfl rfl rfl rfl rfl (by kernel_rfl) Tryz.func5 jfAll
  (of_decide_eq_true (by kernel_rfl)) (by unfold Func.isWrapper; first | (rw [if_pos (by decide +kernel)]; kernel_rfl) | (rw [if_neg (by decide +kernel)]; exact ⟨rfl,rfl⟩))
  (fun os started H enc _=>zpU os started H enc)
end Go.Proofs.YtciabaaclnplnaaGreatDoor
