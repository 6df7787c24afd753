import Derived.Test.YtciabaaclnplnaaGreatDoorOMembers
import Derived.SevenTiedAt
set_option linter.all false
namespace Go.Proofs.YtciabaaclnplnaaGreatDoor
open Go.ChangeAt Go.ChangeMaps Go.ChangeShapes Go.RowKit Go.WideShapes
theorem jf1:(Rows.numberMembersRow.wf (OpenSpec.ofChange Rows.numberMembersSpec))=true:=by kernel_rfl
theorem jf2:(laidOutB Tryz.pinned.checked.prog)=true:=by kernel_rfl
theorem jf3:(mapsRowed Tryz.pinned.checked.prog)=true:=by kernel_rfl
theorem jf4:(Tryz.f6.params.all (Tryz.pinned.checked.prog.readableRec ·))=true:=by kernel_rfl
theorem jf5:(namedTie Tryz.pinned.checked.prog Rows.numberMembersRow.named Rows.numberMembersSpec.vars)=true:=by kernel_rfl
theorem jf6:((Rows.numberMembersRow.stops == []))=true:=by kernel_rfl
theorem jf7:((Tryz.pinned.checked.prog.stops == []))=true:=by kernel_rfl
theorem jf8:((Rows.numberMembersRow.knobs == []))=true:=by kernel_rfl
theorem jf9:((Tryz.pinned.checked.prog.stopKnobs == []))=true:=by kernel_rfl
theorem jf10:((Rows.numberMembersRow.inPlace == Tryz.pinned.checked.prog.inPlace 6))=true:=by kernel_rfl
theorem jf11:((Rows.numberMembersRow.unfollowed == Tryz.pinned.checked.prog.unfollowed 6))=true:=by kernel_rfl
theorem jf12:((Rows.numberMembersRow.recurses == Tryz.pinned.checked.prog.recurses 6))=true:=by kernel_rfl
theorem jf13:((Rows.numberMembersRow.named == Tryz.pinned.checked.prog.varsNamed 6))=true:=by kernel_rfl
theorem jf14:((Rows.numberMembersRow.maps == (Tryz.f6.params.toList ++ Rows.numberMembersSpec.plain.varTypes Tryz.pinned.checked.prog).any (Tryz.pinned.checked.prog.mapsRec ·)))=true:=by kernel_rfl
theorem jf15:((Rows.numberMembersRow.ifaces == (Tryz.f6.params.toList ++ Rows.numberMembersSpec.plain.varTypes Tryz.pinned.checked.prog).any (Tryz.pinned.checked.prog.ifacesRec ·)))=true:=by kernel_rfl
theorem jf16:((Rows.numberMembersRow.mapsOut == Tryz.pinned.checked.prog.mapsAmong Tryz.f6.resultTypes.toList))=true:=by kernel_rfl
theorem jf17:((Rows.numberMembersRow.loops == (Tryz.f6.params.toList ++ Rows.numberMembersSpec.plain.varTypes Tryz.pinned.checked.prog).any (Tryz.pinned.checked.prog.loopsFrom ·)))=true:=by kernel_rfl
theorem jf18:((Rows.numberMembersRow.wideKeys == (Tryz.f6.params.toList ++ Rows.numberMembersSpec.plain.varTypes Tryz.pinned.checked.prog ++ Tryz.f6.resultTypes.toList).any (Tryz.pinned.checked.prog.wideKeysFrom ·)))=true:=by kernel_rfl
theorem jf19:(Rows.numberMembersSpec.vars.all (Tryz.pinned.checked.prog.varReadable ·))=true:=by kernel_rfl
theorem jf20:(Tryz.f6.resultTypes.all (fun t=>Tryz.pinned.checked.prog.readableRec t && decide (t < Tryz.pinned.checked.prog.types.size)))=true:=by kernel_rfl
theorem jf21:((Rows.numberMembersRow.ifacesOut == Tryz.f6.resultTypes.toList.any (Tryz.pinned.checked.prog.ifacesRec ·)))=true:=by kernel_rfl
theorem jf22:((Rows.numberMembersRow.loopsOut == Tryz.f6.resultTypes.toList.any (Tryz.pinned.checked.prog.loopsFrom ·)))=true:=by kernel_rfl
theorem jf23:((Rows.numberMembersRow.plainKeys == Tryz.pinned.checked.prog.plainKeys))=true:=by kernel_rfl
theorem jf24:(Rows.numberMembersRow.shortTexts.isNone)=true:=by kernel_rfl
theorem jf25:(Tryz.pinned.checked.prog.stopsHeard)=true:=by kernel_rfl
theorem jf26:(Tryz.pinned.checked.prog.mayEnter)=true:=by kernel_rfl
theorem jf27:((Rows.numberMembersRow.lifted == Tryz.pinned.checked.prog.liftsFinal))=true:=by kernel_rfl
theorem jf28:((Tryz.pinned.checked.prog.make == some Rows.numberMembersRow.make))=true:=by kernel_rfl
theorem jf30:((Rows.numberMembersRow.pinned == Rows.numberMembersRow.pinnedBy))=true:=by kernel_rfl
theorem jf31:((Rows.numberMembersRow.veiled == (Tryz.f6.params.toList ++ Rows.numberMembersSpec.plain.varTypes Tryz.pinned.checked.prog ++ Tryz.f6.resultTypes.toList).any (Tryz.pinned.checked.prog.veiledRec ·)))=true:=by kernel_rfl
theorem jf32:(Rows.numberMembersRow.veiledFits Tryz.pinned.checked.prog Tryz.f6.params.toList (Tryz.f6.params.toList ++ Rows.numberMembersSpec.plain.varTypes Tryz.pinned.checked.prog ++ Tryz.f6.resultTypes.toList))=true:=by kernel_rfl
theorem jfAll:joinedFacts Tryz.pinned.checked.prog 6 Tryz.f6 Rows.numberMembersSpec Rows.numberMembersRow=true:=by
 unfold joinedFacts
 simp only [Bool.and_eq_true]
 exact ⟨⟨⟨⟨⟨⟨⟨⟨⟨⟨⟨⟨⟨⟨⟨⟨⟨⟨⟨⟨⟨⟨⟨⟨⟨⟨⟨⟨⟨⟨⟨jf1,jf2⟩,jf3⟩,jf4⟩,jf5⟩,jf6⟩,jf7⟩,jf8⟩,jf9⟩,jf10⟩,jf11⟩,jf12⟩,jf13⟩,jf14⟩,jf15⟩,jf16⟩,jf17⟩,jf18⟩,jf19⟩,jf20⟩,jf21⟩,jf22⟩,jf23⟩,jf24⟩,jf25⟩,jf26⟩,jf27⟩,jf28⟩,(by kernel_rfl)⟩,jf30⟩,jf31⟩,jf32⟩
theorem zoL:Rows.NumberMembersSaid:=
 OpenClaim.holds_of_wide 6 Tryz.f6 rfl rfl rfl rfl rfl rfl rfl ⟨rfl,rfl,rfl,rfl,rfl⟩ rfl rfl rfl rfl rfl (by kernel_rfl) Tryz.func6 jfAll
  (of_decide_eq_true (by kernel_rfl)) (by unfold Func.isWrapper; first | (rw [if_pos (by decide +kernel)]; kernel_rfl) | (rw [if_neg (by decide +kernel)]; exact ⟨rfl,rfl⟩))
  (fun os started H enc _=>zpT os started H enc)
end Go.Proofs.YtciabaaclnplnaaGreatDoor
