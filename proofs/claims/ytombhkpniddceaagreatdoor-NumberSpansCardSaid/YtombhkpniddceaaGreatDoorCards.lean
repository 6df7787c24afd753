/-
  DERIVED. GIVEN WITH THE SEED: THE CARDS: each row of YtombhkpniddceaaGreatDoorRows.lean that lists a variable, with what it lists TIED to the program's text (the seventh form; the later family's looks); each row that meets fmt, with fmt's text TOLD by the authors' own Lean function (tested against real Go, not proved from fmt's source: count such statements apart). THE CARD IS WHAT COUNTS. Prove the row's statement (the work); the ties are given (YtombhkpniddceaaGreatDoorTie.lean); close each card by the builder's one call (the guide's Derived/Test/ToyasCard.lean, 'card_holds'). Laid BY PROGRAM, IN A SANDBOX (cutbox-door.mjs). By AI agents, Wed Nov 11 2026. No macro, syntax, notation, axiom, sorry.
-/
import Derived.Test.YtombhkpniddceaaGreatDoorRows
import GoSem.ClaimSeven
namespace Go.Proofs.YtombhkpniddceaaGreatDoor
namespace Rows

/-- THE TIED CARD OF 'lensletlaw01.NumberSpans'. -/
def numberSpansCard : Claim7 := { stood := { row := numberSpansRow, standIns := [], harness := (true, "69ed8c6146b928ce72f8778f7e592743188c81d78cc6bc8db7556ba253514422"), looks := false }, kinds := [], alts := [], laidByText := true, laidKinds := [.data, .data, .data], laidTests := true, laidLooks := .later }
def NumberSpansCardSaid : Prop := Claim7.holds Tryz.pinned (.plain (OpenSpec.ofChange numberSpansSpec)) numberSpansCard

/-- THE TIED CARD OF 'lensletlaw01.NumberMatrices'. -/
def numberMatricesCard : Claim7 := { stood := { row := numberMatricesRow, standIns := [], harness := (true, "69ed8c6146b928ce72f8778f7e592743188c81d78cc6bc8db7556ba253514422"), looks := false }, kinds := [], alts := [], laidByText := true, laidKinds := [.data, .data, .data], laidTests := true, laidLooks := .later }
def NumberMatricesCardSaid : Prop := Claim7.holds Tryz.pinned (.plain (OpenSpec.ofChange numberMatricesSpec)) numberMatricesCard

/-- THE TIED CARD OF 'lensletlaw01.NumberSolutions'. -/
def numberSolutionsCard : Claim7 := { stood := { row := numberSolutionsRow, standIns := [], harness := (true, "69ed8c6146b928ce72f8778f7e592743188c81d78cc6bc8db7556ba253514422"), looks := false }, kinds := [], alts := [], laidByText := true, laidKinds := [.data, .data, .data], laidTests := true, laidLooks := .later }
def NumberSolutionsCardSaid : Prop := Claim7.holds Tryz.pinned (.plain (OpenSpec.ofChange numberSolutionsSpec)) numberSolutionsCard

/-- THE TIED CARD OF 'lensletlaw01.NumberKernels'. -/
def numberKernelsCard : Claim7 := { stood := { row := numberKernelsRow, standIns := [], harness := (true, "69ed8c6146b928ce72f8778f7e592743188c81d78cc6bc8db7556ba253514422"), looks := false }, kinds := [], alts := [], laidByText := true, laidKinds := [.data, .data, .data], laidTests := true, laidLooks := .later }
def NumberKernelsCardSaid : Prop := Claim7.holds Tryz.pinned (.plain (OpenSpec.ofChange numberKernelsSpec)) numberKernelsCard

/-- THE TIED CARD OF 'lensletlaw01.NumberEquations'. -/
def numberEquationsCard : Claim7 := { stood := { row := numberEquationsRow, standIns := [], harness := (true, "69ed8c6146b928ce72f8778f7e592743188c81d78cc6bc8db7556ba253514422"), looks := false }, kinds := [], alts := [], laidByText := true, laidKinds := [.data, .data, .data], laidTests := true, laidLooks := .later }
def NumberEquationsCardSaid : Prop := Claim7.holds Tryz.pinned (.plain (OpenSpec.ofChange numberEquationsSpec)) numberEquationsCard

/-- THE SECOND FORM's CARD OF 'lensletlaw01.NumberSpans'. -/
def numberSpansUptoCard : Claim7 := { stood := { row := numberSpansUptoRow, standIns := [], harness := (true, "69ed8c6146b928ce72f8778f7e592743188c81d78cc6bc8db7556ba253514422"), looks := false }, kinds := [], alts := [], laidByText := true, laidKinds := [.data, .data, .data], laidTests := true, laidLooks := .later }
def NumberSpansUptoCardSaid : Prop := Claim7.holds Tryz.pinned (.plain (OpenSpec.upto numberSpansSpec)) numberSpansUptoCard

/-- THE SECOND FORM's CARD OF 'lensletlaw01.NumberMatrices'. -/
def numberMatricesUptoCard : Claim7 := { stood := { row := numberMatricesUptoRow, standIns := [], harness := (true, "69ed8c6146b928ce72f8778f7e592743188c81d78cc6bc8db7556ba253514422"), looks := false }, kinds := [], alts := [], laidByText := true, laidKinds := [.data, .data, .data], laidTests := true, laidLooks := .later }
def NumberMatricesUptoCardSaid : Prop := Claim7.holds Tryz.pinned (.plain (OpenSpec.upto numberMatricesSpec)) numberMatricesUptoCard

/-- THE SECOND FORM's CARD OF 'lensletlaw01.NumberSolutions'. -/
def numberSolutionsUptoCard : Claim7 := { stood := { row := numberSolutionsUptoRow, standIns := [], harness := (true, "69ed8c6146b928ce72f8778f7e592743188c81d78cc6bc8db7556ba253514422"), looks := false }, kinds := [], alts := [], laidByText := true, laidKinds := [.data, .data, .data], laidTests := true, laidLooks := .later }
def NumberSolutionsUptoCardSaid : Prop := Claim7.holds Tryz.pinned (.plain (OpenSpec.upto numberSolutionsSpec)) numberSolutionsUptoCard

/-- THE SECOND FORM's CARD OF 'lensletlaw01.NumberKernels'. -/
def numberKernelsUptoCard : Claim7 := { stood := { row := numberKernelsUptoRow, standIns := [], harness := (true, "69ed8c6146b928ce72f8778f7e592743188c81d78cc6bc8db7556ba253514422"), looks := false }, kinds := [], alts := [], laidByText := true, laidKinds := [.data, .data, .data], laidTests := true, laidLooks := .later }
def NumberKernelsUptoCardSaid : Prop := Claim7.holds Tryz.pinned (.plain (OpenSpec.upto numberKernelsSpec)) numberKernelsUptoCard

/-- THE SECOND FORM's CARD OF 'lensletlaw01.NumberEquations'. -/
def numberEquationsUptoCard : Claim7 := { stood := { row := numberEquationsUptoRow, standIns := [], harness := (true, "69ed8c6146b928ce72f8778f7e592743188c81d78cc6bc8db7556ba253514422"), looks := false }, kinds := [], alts := [], laidByText := true, laidKinds := [.data, .data, .data], laidTests := true, laidLooks := .later }
def NumberEquationsUptoCardSaid : Prop := Claim7.holds Tryz.pinned (.plain (OpenSpec.upto numberEquationsSpec)) numberEquationsUptoCard
end Rows
end Go.Proofs.YtombhkpniddceaaGreatDoor
