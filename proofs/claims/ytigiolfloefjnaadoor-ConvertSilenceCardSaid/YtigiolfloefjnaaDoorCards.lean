/-
  DERIVED. GIVEN WITH THE SEED: THE CARDS: each row of YtigiolfloefjnaaDoorRows.lean that lists a variable, with what it lists TIED to the program's text (the seventh form; the later family's looks); each row that meets fmt, with fmt's text TOLD by the authors' own Lean function (tested against real Go, not proved from fmt's source: count such statements apart). THE CARD IS WHAT COUNTS. Prove the row's statement (the work); the ties are given (YtigiolfloefjnaaDoorTie.lean); close each card by the builder's one call (the guide's Derived/Test/ToyasCard.lean, 'card_holds'). Laid BY PROGRAM, IN A SANDBOX (cutbox-door.mjs). By AI agents, Wed Nov 11 2026. No macro, syntax, notation, axiom, sorry.
-/
import Derived.Test.YtigiolfloefjnaaDoorRows
import GoSem.ClaimSeven
namespace Go.Proofs.YtigiolfloefjnaaDoor
namespace Rows

/-- THE TIED CARD OF 'soundservicelaw16.ConvertPieces'. -/
def convertPiecesCard : Claim7 := { stood := { row := convertPiecesRow, standIns := [], harness := (true, "63ddebabf5145d2aa878d5e03db5a065b665033de30a31ae33ec097ed9f11896"), looks := false }, kinds := [], alts := [], laidByText := true, laidKinds := [.data], laidTests := true, laidLooks := .later }
def ConvertPiecesCardSaid : Prop := Claim7.holds Tryd.pinned (.plain (OpenSpec.ofChange convertPiecesSpec)) convertPiecesCard

/-- THE TIED CARD OF 'soundservicelaw16.ConvertSame'. -/
def convertSameCard : Claim7 := { stood := { row := convertSameRow, standIns := [], harness := (true, "63ddebabf5145d2aa878d5e03db5a065b665033de30a31ae33ec097ed9f11896"), looks := false }, kinds := [], alts := [], laidByText := true, laidKinds := [.data], laidTests := true, laidLooks := .later }
def ConvertSameCardSaid : Prop := Claim7.holds Tryd.pinned (.plain (OpenSpec.ofChange convertSameSpec)) convertSameCard

/-- THE TIED CARD OF 'soundservicelaw16.ConvertThere'. -/
def convertThereCard : Claim7 := { stood := { row := convertThereRow, standIns := [], harness := (true, "63ddebabf5145d2aa878d5e03db5a065b665033de30a31ae33ec097ed9f11896"), looks := false }, kinds := [], alts := [], laidByText := true, laidKinds := [.data], laidTests := true, laidLooks := .later }
def ConvertThereCardSaid : Prop := Claim7.holds Tryd.pinned (.plain (OpenSpec.ofChange convertThereSpec)) convertThereCard

/-- THE TIED CARD OF 'soundservicelaw16.ConvertSilence'. -/
def convertSilenceCard : Claim7 := { stood := { row := convertSilenceRow, standIns := [], harness := (true, "63ddebabf5145d2aa878d5e03db5a065b665033de30a31ae33ec097ed9f11896"), looks := false }, kinds := [], alts := [], laidByText := true, laidKinds := [.data], laidTests := true, laidLooks := .later }
def ConvertSilenceCardSaid : Prop := Claim7.holds Tryd.pinned (.plain (OpenSpec.ofChange convertSilenceSpec)) convertSilenceCard

/-- THE SECOND FORM's CARD OF 'soundservicelaw16.ConvertPieces'. -/
def convertPiecesUptoCard : Claim7 := { stood := { row := convertPiecesUptoRow, standIns := [], harness := (true, "63ddebabf5145d2aa878d5e03db5a065b665033de30a31ae33ec097ed9f11896"), looks := false }, kinds := [], alts := [], laidByText := true, laidKinds := [.data], laidTests := true, laidLooks := .later }
def ConvertPiecesUptoCardSaid : Prop := Claim7.holds Tryd.pinned (.plain (OpenSpec.upto convertPiecesSpec)) convertPiecesUptoCard

/-- THE SECOND FORM's CARD OF 'soundservicelaw16.ConvertSame'. -/
def convertSameUptoCard : Claim7 := { stood := { row := convertSameUptoRow, standIns := [], harness := (true, "63ddebabf5145d2aa878d5e03db5a065b665033de30a31ae33ec097ed9f11896"), looks := false }, kinds := [], alts := [], laidByText := true, laidKinds := [.data], laidTests := true, laidLooks := .later }
def ConvertSameUptoCardSaid : Prop := Claim7.holds Tryd.pinned (.plain (OpenSpec.upto convertSameSpec)) convertSameUptoCard

/-- THE SECOND FORM's CARD OF 'soundservicelaw16.ConvertThere'. -/
def convertThereUptoCard : Claim7 := { stood := { row := convertThereUptoRow, standIns := [], harness := (true, "63ddebabf5145d2aa878d5e03db5a065b665033de30a31ae33ec097ed9f11896"), looks := false }, kinds := [], alts := [], laidByText := true, laidKinds := [.data], laidTests := true, laidLooks := .later }
def ConvertThereUptoCardSaid : Prop := Claim7.holds Tryd.pinned (.plain (OpenSpec.upto convertThereSpec)) convertThereUptoCard

/-- THE SECOND FORM's CARD OF 'soundservicelaw16.ConvertSilence'. -/
def convertSilenceUptoCard : Claim7 := { stood := { row := convertSilenceUptoRow, standIns := [], harness := (true, "63ddebabf5145d2aa878d5e03db5a065b665033de30a31ae33ec097ed9f11896"), looks := false }, kinds := [], alts := [], laidByText := true, laidKinds := [.data], laidTests := true, laidLooks := .later }
def ConvertSilenceUptoCardSaid : Prop := Claim7.holds Tryd.pinned (.plain (OpenSpec.upto convertSilenceSpec)) convertSilenceUptoCard
end Rows
end Go.Proofs.YtigiolfloefjnaaDoor
