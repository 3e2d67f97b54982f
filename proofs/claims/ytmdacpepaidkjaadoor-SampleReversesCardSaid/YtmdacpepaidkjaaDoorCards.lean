/-
  DERIVED. GIVEN WITH THE SEED: THE CARDS: each row of YtmdacpepaidkjaaDoorRows.lean that lists a variable, with what it lists TIED to the program's text (the seventh form; the later family's looks); each row that meets fmt, with fmt's text TOLD by the authors' own Lean function (tested against real Go, not proved from fmt's source: count such statements apart). THE CARD IS WHAT COUNTS. Prove the row's statement (the work); the ties are given (YtmdacpepaidkjaaDoorTie.lean); close each card by the builder's one call (the guide's Derived/Test/ToyasCard.lean, 'card_holds'). Laid BY PROGRAM, IN A SANDBOX (cutbox-door.mjs). By AI agents, Wed Nov 11 2026. No macro, syntax, notation, axiom, sorry.
-/
import Derived.Test.YtmdacpepaidkjaaDoorRows
import GoSem.ClaimSeven
namespace Go.Proofs.YtmdacpepaidkjaaDoor
namespace Rows

/-- THE TIED CARD OF 'soundservicelaw04.SampleDecodes'. -/
def sampleDecodesCard : Claim7 := { stood := { row := sampleDecodesRow, standIns := [], harness := (true, "4f81efce5d4d601ef40c8751f5dbaa41c4512e1b6ca23af0486308c9c893f61e"), looks := false }, kinds := [], alts := [], laidByText := true, laidKinds := [.data], laidTests := true, laidLooks := .later }
def SampleDecodesCardSaid : Prop := Claim7.holds Tryd.pinned (.plain (OpenSpec.ofChange sampleDecodesSpec)) sampleDecodesCard

/-- THE TIED CARD OF 'soundservicelaw04.SampleEncodes'. -/
def sampleEncodesCard : Claim7 := { stood := { row := sampleEncodesRow, standIns := [], harness := (true, "4f81efce5d4d601ef40c8751f5dbaa41c4512e1b6ca23af0486308c9c893f61e"), looks := false }, kinds := [], alts := [], laidByText := true, laidKinds := [.data], laidTests := true, laidLooks := .later }
def SampleEncodesCardSaid : Prop := Claim7.holds Tryd.pinned (.plain (OpenSpec.ofChange sampleEncodesSpec)) sampleEncodesCard

/-- THE TIED CARD OF 'soundservicelaw04.SampleBlocks'. -/
def sampleBlocksCard : Claim7 := { stood := { row := sampleBlocksRow, standIns := [], harness := (true, "4f81efce5d4d601ef40c8751f5dbaa41c4512e1b6ca23af0486308c9c893f61e"), looks := false }, kinds := [], alts := [], laidByText := true, laidKinds := [.data], laidTests := true, laidLooks := .later }
def SampleBlocksCardSaid : Prop := Claim7.holds Tryd.pinned (.plain (OpenSpec.ofChange sampleBlocksSpec)) sampleBlocksCard

/-- THE TIED CARD OF 'soundservicelaw04.SampleBack'. -/
def sampleBackCard : Claim7 := { stood := { row := sampleBackRow, standIns := [], harness := (true, "4f81efce5d4d601ef40c8751f5dbaa41c4512e1b6ca23af0486308c9c893f61e"), looks := false }, kinds := [], alts := [], laidByText := true, laidKinds := [.data], laidTests := true, laidLooks := .later }
def SampleBackCardSaid : Prop := Claim7.holds Tryd.pinned (.plain (OpenSpec.ofChange sampleBackSpec)) sampleBackCard

/-- THE TIED CARD OF 'soundservicelaw04.SampleOrder'. -/
def sampleOrderCard : Claim7 := { stood := { row := sampleOrderRow, standIns := [], harness := (true, "4f81efce5d4d601ef40c8751f5dbaa41c4512e1b6ca23af0486308c9c893f61e"), looks := false }, kinds := [], alts := [], laidByText := true, laidKinds := [.data], laidTests := true, laidLooks := .later }
def SampleOrderCardSaid : Prop := Claim7.holds Tryd.pinned (.plain (OpenSpec.ofChange sampleOrderSpec)) sampleOrderCard

/-- THE TIED CARD OF 'soundservicelaw04.SampleReverses'. -/
def sampleReversesCard : Claim7 := { stood := { row := sampleReversesRow, standIns := [], harness := (true, "4f81efce5d4d601ef40c8751f5dbaa41c4512e1b6ca23af0486308c9c893f61e"), looks := false }, kinds := [], alts := [], laidByText := true, laidKinds := [.data], laidTests := true, laidLooks := .later }
def SampleReversesCardSaid : Prop := Claim7.holds Tryd.pinned (.plain (OpenSpec.ofChange sampleReversesSpec)) sampleReversesCard

/-- THE SECOND FORM's CARD OF 'soundservicelaw04.SampleDecodes'. -/
def sampleDecodesUptoCard : Claim7 := { stood := { row := sampleDecodesUptoRow, standIns := [], harness := (true, "4f81efce5d4d601ef40c8751f5dbaa41c4512e1b6ca23af0486308c9c893f61e"), looks := false }, kinds := [], alts := [], laidByText := true, laidKinds := [.data], laidTests := true, laidLooks := .later }
def SampleDecodesUptoCardSaid : Prop := Claim7.holds Tryd.pinned (.plain (OpenSpec.upto sampleDecodesSpec)) sampleDecodesUptoCard

/-- THE SECOND FORM's CARD OF 'soundservicelaw04.SampleEncodes'. -/
def sampleEncodesUptoCard : Claim7 := { stood := { row := sampleEncodesUptoRow, standIns := [], harness := (true, "4f81efce5d4d601ef40c8751f5dbaa41c4512e1b6ca23af0486308c9c893f61e"), looks := false }, kinds := [], alts := [], laidByText := true, laidKinds := [.data], laidTests := true, laidLooks := .later }
def SampleEncodesUptoCardSaid : Prop := Claim7.holds Tryd.pinned (.plain (OpenSpec.upto sampleEncodesSpec)) sampleEncodesUptoCard

/-- THE SECOND FORM's CARD OF 'soundservicelaw04.SampleBlocks'. -/
def sampleBlocksUptoCard : Claim7 := { stood := { row := sampleBlocksUptoRow, standIns := [], harness := (true, "4f81efce5d4d601ef40c8751f5dbaa41c4512e1b6ca23af0486308c9c893f61e"), looks := false }, kinds := [], alts := [], laidByText := true, laidKinds := [.data], laidTests := true, laidLooks := .later }
def SampleBlocksUptoCardSaid : Prop := Claim7.holds Tryd.pinned (.plain (OpenSpec.upto sampleBlocksSpec)) sampleBlocksUptoCard

/-- THE SECOND FORM's CARD OF 'soundservicelaw04.SampleBack'. -/
def sampleBackUptoCard : Claim7 := { stood := { row := sampleBackUptoRow, standIns := [], harness := (true, "4f81efce5d4d601ef40c8751f5dbaa41c4512e1b6ca23af0486308c9c893f61e"), looks := false }, kinds := [], alts := [], laidByText := true, laidKinds := [.data], laidTests := true, laidLooks := .later }
def SampleBackUptoCardSaid : Prop := Claim7.holds Tryd.pinned (.plain (OpenSpec.upto sampleBackSpec)) sampleBackUptoCard

/-- THE SECOND FORM's CARD OF 'soundservicelaw04.SampleOrder'. -/
def sampleOrderUptoCard : Claim7 := { stood := { row := sampleOrderUptoRow, standIns := [], harness := (true, "4f81efce5d4d601ef40c8751f5dbaa41c4512e1b6ca23af0486308c9c893f61e"), looks := false }, kinds := [], alts := [], laidByText := true, laidKinds := [.data], laidTests := true, laidLooks := .later }
def SampleOrderUptoCardSaid : Prop := Claim7.holds Tryd.pinned (.plain (OpenSpec.upto sampleOrderSpec)) sampleOrderUptoCard

/-- THE SECOND FORM's CARD OF 'soundservicelaw04.SampleReverses'. -/
def sampleReversesUptoCard : Claim7 := { stood := { row := sampleReversesUptoRow, standIns := [], harness := (true, "4f81efce5d4d601ef40c8751f5dbaa41c4512e1b6ca23af0486308c9c893f61e"), looks := false }, kinds := [], alts := [], laidByText := true, laidKinds := [.data], laidTests := true, laidLooks := .later }
def SampleReversesUptoCardSaid : Prop := Claim7.holds Tryd.pinned (.plain (OpenSpec.upto sampleReversesSpec)) sampleReversesUptoCard
end Rows
end Go.Proofs.YtmdacpepaidkjaaDoor
