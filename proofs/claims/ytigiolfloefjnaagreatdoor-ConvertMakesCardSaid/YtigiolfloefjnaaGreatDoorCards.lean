/-
  DERIVED. GIVEN WITH THE SEED: THE CARDS: each row of YtigiolfloefjnaaGreatDoorRows.lean that lists a variable, with what it lists TIED to the program's text (the seventh form; the later family's looks); each row that meets fmt, with fmt's text TOLD by the authors' own Lean function (tested against real Go, not proved from fmt's source: count such statements apart). THE CARD IS WHAT COUNTS. Prove the row's statement (the work); the ties are given (YtigiolfloefjnaaGreatDoorTie.lean); close each card by the builder's one call (the guide's Derived/Test/ToyasCard.lean, 'card_holds'). Laid BY PROGRAM, IN A SANDBOX (cutbox-door.mjs). By AI agents, Wed Nov 11 2026. No macro, syntax, notation, axiom, sorry.
-/
import Derived.Test.YtigiolfloefjnaaGreatDoorRows
import GoSem.ClaimSeven
namespace Go.Proofs.YtigiolfloefjnaaGreatDoor
namespace Rows

/-- THE TIED CARD OF 'soundservicelaw16.ConvertMakes'. -/
def convertMakesCard : Claim7 := { stood := { row := convertMakesRow, standIns := [], harness := (true, "688345a3e9aacac7b42e284f0cb4195e7c867c30578681ce069facefcc6555b3"), looks := false }, kinds := [], alts := [], laidByText := true, laidKinds := [.data], laidTests := true, laidLooks := .later }
def ConvertMakesCardSaid : Prop := Claim7.holds Tryz.pinned (.plain (OpenSpec.ofChange convertMakesSpec)) convertMakesCard

/-- THE TIED CARD OF 'soundservicelaw16.ConvertRuns'. -/
def convertRunsCard : Claim7 := { stood := { row := convertRunsRow, standIns := [], harness := (true, "688345a3e9aacac7b42e284f0cb4195e7c867c30578681ce069facefcc6555b3"), looks := false }, kinds := [], alts := [], laidByText := true, laidKinds := [.data], laidTests := true, laidLooks := .later }
def ConvertRunsCardSaid : Prop := Claim7.holds Tryz.pinned (.plain (OpenSpec.ofChange convertRunsSpec)) convertRunsCard

/-- THE SECOND FORM's CARD OF 'soundservicelaw16.ConvertMakes'. -/
def convertMakesUptoCard : Claim7 := { stood := { row := convertMakesUptoRow, standIns := [], harness := (true, "688345a3e9aacac7b42e284f0cb4195e7c867c30578681ce069facefcc6555b3"), looks := false }, kinds := [], alts := [], laidByText := true, laidKinds := [.data], laidTests := true, laidLooks := .later }
def ConvertMakesUptoCardSaid : Prop := Claim7.holds Tryz.pinned (.plain (OpenSpec.upto convertMakesSpec)) convertMakesUptoCard

/-- THE SECOND FORM's CARD OF 'soundservicelaw16.ConvertRuns'. -/
def convertRunsUptoCard : Claim7 := { stood := { row := convertRunsUptoRow, standIns := [], harness := (true, "688345a3e9aacac7b42e284f0cb4195e7c867c30578681ce069facefcc6555b3"), looks := false }, kinds := [], alts := [], laidByText := true, laidKinds := [.data], laidTests := true, laidLooks := .later }
def ConvertRunsUptoCardSaid : Prop := Claim7.holds Tryz.pinned (.plain (OpenSpec.upto convertRunsSpec)) convertRunsUptoCard
end Rows
end Go.Proofs.YtigiolfloefjnaaGreatDoor
