/-
  NARROWER THAN 'FOR EVERY INPUT', by the rows' own cells (each row's printed sentence says how): ConvertPieces: laid · ConvertSame: laid · ConvertThere: laid · ConvertSilence: laid.
  DERIVED. THE GIVEN ROWS OF THIS SEAT. 4 by the template 'for every input the law returns true; each argument reads behind the call as it read before'; 0 by the template 'total and deterministic' (their statements: YtigiolfloefjnaaDoorTotals.lean).
  GIVEN WITH THE SEED: the statements are not yours to turn. If you find one false, say at which input.
  Laid BY PROGRAM, IN A SANDBOX (cutbox-rows.mjs): the forced cells as the released guide's own fill.sh prints them over the translation a4b3111a5e46fabb… (all of the seat's roots in one cut). By AI agents, Wed Nov 11 2026. No macro, syntax, notation, axiom, sorry.
-/
import Derived.Test.YtigiolfloefjnaaDoorChecked
import GoSem.Claim
import GoSem.ClaimJoined
import GoSem.ClaimMapViews
import Derived.JoinedTies
import Derived.KernelRfl
namespace Go.Proofs.YtigiolfloefjnaaDoor
/- THE CELL 'sum', in the pinned program and in every row, IS THE sha256 OF THE DUMP (.gsa) THAT YtigiolfloefjnaaDoorProg.lean LOADS. Nothing in Lean hashes anything: it is a label: what it is worth is what the hold of that sum in a sandbox is worth. -/
noncomputable def Tryd.pinned : Pinned := { name := "ytigiolfloefjnaadoor", sum := "a4b3111a5e46fabbda4aaee1c287e4ccd0671025ad50e1d66797c9087776ed68", checked := Tryd.checked }
namespace Rows
def none {H : Type} : Left H := { results := [], args := [] }

/- WHAT THE LISTED PACKAGE-LEVEL VARIABLES READ AS WHEN THE CALL BEGINS. Each datum BY PROGRAM (the guide's laid-datum.mjs) off the statement by which the dump's own 'gosem.cut.vars' lays the variable. In a bare row this is a premise. The card (YtigiolfloefjnaaDoorCards.lean) ties it to the program's text. -/
def laid_soundservice_sample_kinds {H : Type} : DataW H := .agg [.agg [.lit (.int .i64 0), .lit (.bool false)], .agg [.lit (.int .i64 1), .lit (.bool false)], .agg [.lit (.int .i64 2), .lit (.bool false)], .agg [.lit (.int .i64 2), .lit (.bool true)], .agg [.lit (.int .i64 3), .lit (.bool false)], .agg [.lit (.int .i64 3), .lit (.bool true)], .agg [.lit (.int .i64 4), .lit (.bool false)], .agg [.lit (.int .i64 4), .lit (.bool true)]]

/-- 'soundservicelaw16.ConvertPieces': WHATEVER THE INPUT: true; the input reads as it did. -/
def convertPiecesSpec : ChangeSpec := { name := "convertPieces", fn := fun _ => fun
  | [d1, d2, d3] => { results := [.lit (.bool true)], args := [d1, d2, d3] }
  | _ => none }
def convertPiecesRow : OpenClaim := { program := "ytigiolfloefjnaadoor", sum := "a4b3111a5e46fabbda4aaee1c287e4ccd0671025ad50e1d66797c9087776ed68", func := "soundservice/soundservicelaw16.ConvertPieces", spec := "convertPieces", unfollowed := true, recurses := true, named := ["soundservice/sample.kinds"], apart := false, laid := [("soundservice/sample.kinds", laid_soundservice_sample_kinds)] }
def ConvertPiecesSaid : Prop := convertPiecesRow.holds Tryd.pinned (OpenSpec.ofChange convertPiecesSpec)

/-- ITS FALSE NEIGHBOUR: 'it returns false'. Refute it at one input. -/
def convertPiecesWrong : ChangeSpec := { name := "convertPieces", fn := fun _ => fun
  | [d1, d2, d3] => { results := [.lit (.bool false)], args := [d1, d2, d3] }
  | _ => none }
def ConvertPiecesWrongFalsely : Prop := convertPiecesRow.holds Tryd.pinned (OpenSpec.ofChange convertPiecesWrong)

/-- 'soundservicelaw16.ConvertSame': WHATEVER THE INPUT: true; the input reads as it did. -/
def convertSameSpec : ChangeSpec := { name := "convertSame", fn := fun _ => fun
  | [d1, d2] => { results := [.lit (.bool true)], args := [d1, d2] }
  | _ => none }
def convertSameRow : OpenClaim := { program := "ytigiolfloefjnaadoor", sum := "a4b3111a5e46fabbda4aaee1c287e4ccd0671025ad50e1d66797c9087776ed68", func := "soundservice/soundservicelaw16.ConvertSame", spec := "convertSame", unfollowed := true, recurses := true, named := ["soundservice/sample.kinds"], apart := false, laid := [("soundservice/sample.kinds", laid_soundservice_sample_kinds)] }
def ConvertSameSaid : Prop := convertSameRow.holds Tryd.pinned (OpenSpec.ofChange convertSameSpec)

/-- ITS FALSE NEIGHBOUR: 'it returns false'. Refute it at one input. -/
def convertSameWrong : ChangeSpec := { name := "convertSame", fn := fun _ => fun
  | [d1, d2] => { results := [.lit (.bool false)], args := [d1, d2] }
  | _ => none }
def ConvertSameWrongFalsely : Prop := convertSameRow.holds Tryd.pinned (OpenSpec.ofChange convertSameWrong)

/-- 'soundservicelaw16.ConvertThere': WHATEVER THE INPUT: true; the input reads as it did. -/
def convertThereSpec : ChangeSpec := { name := "convertThere", fn := fun _ => fun
  | [d1, d2, d3] => { results := [.lit (.bool true)], args := [d1, d2, d3] }
  | _ => none }
def convertThereRow : OpenClaim := { program := "ytigiolfloefjnaadoor", sum := "a4b3111a5e46fabbda4aaee1c287e4ccd0671025ad50e1d66797c9087776ed68", func := "soundservice/soundservicelaw16.ConvertThere", spec := "convertThere", unfollowed := true, recurses := true, named := ["soundservice/sample.kinds"], apart := false, laid := [("soundservice/sample.kinds", laid_soundservice_sample_kinds)] }
def ConvertThereSaid : Prop := convertThereRow.holds Tryd.pinned (OpenSpec.ofChange convertThereSpec)

/-- ITS FALSE NEIGHBOUR: 'it returns false'. Refute it at one input. -/
def convertThereWrong : ChangeSpec := { name := "convertThere", fn := fun _ => fun
  | [d1, d2, d3] => { results := [.lit (.bool false)], args := [d1, d2, d3] }
  | _ => none }
def ConvertThereWrongFalsely : Prop := convertThereRow.holds Tryd.pinned (OpenSpec.ofChange convertThereWrong)

/-- 'soundservicelaw16.ConvertSilence': WHATEVER THE INPUT: true; the input reads as it did. -/
def convertSilenceSpec : ChangeSpec := { name := "convertSilence", fn := fun _ => fun
  | [d1, d2] => { results := [.lit (.bool true)], args := [d1, d2] }
  | _ => none }
def convertSilenceRow : OpenClaim := { program := "ytigiolfloefjnaadoor", sum := "a4b3111a5e46fabbda4aaee1c287e4ccd0671025ad50e1d66797c9087776ed68", func := "soundservice/soundservicelaw16.ConvertSilence", spec := "convertSilence", unfollowed := true, recurses := true, named := ["soundservice/sample.kinds"], apart := false, laid := [("soundservice/sample.kinds", laid_soundservice_sample_kinds)] }
def ConvertSilenceSaid : Prop := convertSilenceRow.holds Tryd.pinned (OpenSpec.ofChange convertSilenceSpec)

/-- ITS FALSE NEIGHBOUR: 'it returns false'. Refute it at one input. -/
def convertSilenceWrong : ChangeSpec := { name := "convertSilence", fn := fun _ => fun
  | [d1, d2] => { results := [.lit (.bool false)], args := [d1, d2] }
  | _ => none }
def ConvertSilenceWrongFalsely : Prop := convertSilenceRow.holds Tryd.pinned (OpenSpec.ofChange convertSilenceWrong)

/- THE SECOND FORM. 'bulk': how many values and letters a reading holds, each counted each time it is reached (what is shared counts as often as it is met; a slice's spare places count too). A statement '..UptoSaid' is the law's where the arguments, and the package variables that the reading takes, are together of bulk at most 1048576: NARROWER than '..Said'. Prove '..Said' where nothing that the law and all that it calls make is longer than what came in: it says more and counts as full. Else prove '..UptoSaid'. A law counts once. -/
mutual
def uptoBulk {H : Type} : DataW H → Nat
  | .lit (.string bytes) => bytes.length + 1
  | .lit _ => 1
  | .nil => 1
  | .ptr d => uptoBulk d + 1
  | .slice elems spare => uptoBulkAll elems + uptoBulkAll spare + 1
  | .agg parts => uptoBulkAll parts + 1
  | .iface _ d => uptoBulk d + 1
  | .map entries => uptoBulkEntries entries + 1
  | .held _ => 1
def uptoBulkAll {H : Type} : List (DataW H) → Nat
  | [] => 0
  | d :: r => uptoBulk d + uptoBulkAll r
def uptoBulkEntries {H : Type} : List (Lit × DataW H) → Nat
  | [] => 0
  | x :: r => uptoBulkEntry x + uptoBulkEntries r
def uptoBulkEntry {H : Type} : Lit × DataW H → Nat
  | (.string bytes, d) => bytes.length + uptoBulk d + 1
  | (_, d) => uptoBulk d + 1
 end
def uptoSmall : (H : Type) → List (DataW H) → Bool := fun _ ds => decide (uptoBulkAll ds ≤ 1048576)
def OpenSpec.upto (s : _root_.Go.ChangeSpec) : _root_.Go.OpenSpec := { _root_.Go.OpenSpec.ofChange s with cond := some uptoSmall }

/-- 'soundservicelaw16.ConvertPieces', WHERE WHAT IT READS IS OF BULK AT MOST 1048576: true; the input reads as it did. -/
def convertPiecesUptoRow : OpenClaim := { program := "ytigiolfloefjnaadoor", sum := "a4b3111a5e46fabbda4aaee1c287e4ccd0671025ad50e1d66797c9087776ed68", func := "soundservice/soundservicelaw16.ConvertPieces", spec := "convertPieces", unfollowed := true, recurses := true, named := ["soundservice/sample.kinds"], apart := false, laid := [("soundservice/sample.kinds", laid_soundservice_sample_kinds)], narrowed := true }
def ConvertPiecesUptoSaid : Prop := convertPiecesUptoRow.holds Tryd.pinned (OpenSpec.upto convertPiecesSpec)

/-- 'soundservicelaw16.ConvertSame', WHERE WHAT IT READS IS OF BULK AT MOST 1048576: true; the input reads as it did. -/
def convertSameUptoRow : OpenClaim := { program := "ytigiolfloefjnaadoor", sum := "a4b3111a5e46fabbda4aaee1c287e4ccd0671025ad50e1d66797c9087776ed68", func := "soundservice/soundservicelaw16.ConvertSame", spec := "convertSame", unfollowed := true, recurses := true, named := ["soundservice/sample.kinds"], apart := false, laid := [("soundservice/sample.kinds", laid_soundservice_sample_kinds)], narrowed := true }
def ConvertSameUptoSaid : Prop := convertSameUptoRow.holds Tryd.pinned (OpenSpec.upto convertSameSpec)

/-- 'soundservicelaw16.ConvertThere', WHERE WHAT IT READS IS OF BULK AT MOST 1048576: true; the input reads as it did. -/
def convertThereUptoRow : OpenClaim := { program := "ytigiolfloefjnaadoor", sum := "a4b3111a5e46fabbda4aaee1c287e4ccd0671025ad50e1d66797c9087776ed68", func := "soundservice/soundservicelaw16.ConvertThere", spec := "convertThere", unfollowed := true, recurses := true, named := ["soundservice/sample.kinds"], apart := false, laid := [("soundservice/sample.kinds", laid_soundservice_sample_kinds)], narrowed := true }
def ConvertThereUptoSaid : Prop := convertThereUptoRow.holds Tryd.pinned (OpenSpec.upto convertThereSpec)

/-- 'soundservicelaw16.ConvertSilence', WHERE WHAT IT READS IS OF BULK AT MOST 1048576: true; the input reads as it did. -/
def convertSilenceUptoRow : OpenClaim := { program := "ytigiolfloefjnaadoor", sum := "a4b3111a5e46fabbda4aaee1c287e4ccd0671025ad50e1d66797c9087776ed68", func := "soundservice/soundservicelaw16.ConvertSilence", spec := "convertSilence", unfollowed := true, recurses := true, named := ["soundservice/sample.kinds"], apart := false, laid := [("soundservice/sample.kinds", laid_soundservice_sample_kinds)], narrowed := true }
def ConvertSilenceUptoSaid : Prop := convertSilenceUptoRow.holds Tryd.pinned (OpenSpec.upto convertSilenceSpec)

end Rows
end Go.Proofs.YtigiolfloefjnaaDoor
