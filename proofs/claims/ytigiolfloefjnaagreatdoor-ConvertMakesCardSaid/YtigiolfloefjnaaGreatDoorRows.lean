/-
  NARROWER THAN 'FOR EVERY INPUT', by the rows' own cells (each row's printed sentence says how): ConvertMakes: laid · ConvertRuns: laid.
  DERIVED. THE GIVEN ROWS OF THIS SEAT. 2 by the template 'for every input the law returns true; each argument reads behind the call as it read before'; 0 by the template 'total and deterministic' (their statements: YtigiolfloefjnaaGreatDoorTotals.lean).
  GIVEN WITH THE SEED: the statements are not yours to turn. If you find one false, say at which input.
  Laid BY PROGRAM, IN A SANDBOX (cutbox-rows.mjs): the forced cells as the released guide's own fill.sh prints them over the translation ac67af869974f4f1… (all of the seat's roots in one cut). By AI agents, Wed Nov 11 2026. No macro, syntax, notation, axiom, sorry.
-/
import Derived.Test.YtigiolfloefjnaaGreatDoorChecked
import GoSem.Claim
import GoSem.ClaimJoined
import GoSem.ClaimMapViews
import Derived.JoinedTies
import Derived.KernelRfl
namespace Go.Proofs.YtigiolfloefjnaaGreatDoor
/- THE CELL 'sum', in the pinned program and in every row, IS THE sha256 OF THE DUMP (.gsa) THAT YtigiolfloefjnaaGreatDoorProg.lean LOADS. Nothing in Lean hashes anything: it is a label: what it is worth is what the hold of that sum in a sandbox is worth. -/
noncomputable def Tryz.pinned : Pinned := { name := "ytigiolfloefjnaagreatdoor", sum := "ac67af869974f4f1ce677cb7b3d6571b4ffb96c2cf702d0bfa3f638716af3d85", checked := Tryz.checked }
namespace Rows
def none {H : Type} : Left H := { results := [], args := [] }

/- WHAT THE LISTED PACKAGE-LEVEL VARIABLES READ AS WHEN THE CALL BEGINS. Each datum BY PROGRAM (the guide's laid-datum.mjs) off the statement by which the dump's own 'gosem.cut.vars' lays the variable. In a bare row this is a premise. The card (YtigiolfloefjnaaGreatDoorCards.lean) ties it to the program's text. -/
def laid_soundservice_sample_kinds {H : Type} : DataW H := .agg [.agg [.lit (.int .i64 0), .lit (.bool false)], .agg [.lit (.int .i64 1), .lit (.bool false)], .agg [.lit (.int .i64 2), .lit (.bool false)], .agg [.lit (.int .i64 2), .lit (.bool true)], .agg [.lit (.int .i64 3), .lit (.bool false)], .agg [.lit (.int .i64 3), .lit (.bool true)], .agg [.lit (.int .i64 4), .lit (.bool false)], .agg [.lit (.int .i64 4), .lit (.bool true)]]

/-- 'soundservicelaw16.ConvertMakes': WHATEVER THE INPUT: true; the input reads as it did. -/
def convertMakesSpec : ChangeSpec := { name := "convertMakes", fn := fun _ => fun
  | [d1, d2, d3, d4] => { results := [.lit (.bool true)], args := [d1, d2, d3, d4] }
  | _ => none }
def convertMakesRow : OpenClaim := { program := "ytigiolfloefjnaagreatdoor", sum := "ac67af869974f4f1ce677cb7b3d6571b4ffb96c2cf702d0bfa3f638716af3d85", func := "soundservice/soundservicelaw16.ConvertMakes", spec := "convertMakes", unfollowed := true, recurses := true, named := ["soundservice/sample.kinds"], apart := false, laid := [("soundservice/sample.kinds", laid_soundservice_sample_kinds)] }
def ConvertMakesSaid : Prop := convertMakesRow.holds Tryz.pinned (OpenSpec.ofChange convertMakesSpec)

/-- ITS FALSE NEIGHBOUR: 'it returns false'. Refute it at one input. -/
def convertMakesWrong : ChangeSpec := { name := "convertMakes", fn := fun _ => fun
  | [d1, d2, d3, d4] => { results := [.lit (.bool false)], args := [d1, d2, d3, d4] }
  | _ => none }
def ConvertMakesWrongFalsely : Prop := convertMakesRow.holds Tryz.pinned (OpenSpec.ofChange convertMakesWrong)

/-- 'soundservicelaw16.ConvertRuns': WHATEVER THE INPUT: true; the input reads as it did. -/
def convertRunsSpec : ChangeSpec := { name := "convertRuns", fn := fun _ => fun
  | [d1, d2, d3] => { results := [.lit (.bool true)], args := [d1, d2, d3] }
  | _ => none }
def convertRunsRow : OpenClaim := { program := "ytigiolfloefjnaagreatdoor", sum := "ac67af869974f4f1ce677cb7b3d6571b4ffb96c2cf702d0bfa3f638716af3d85", func := "soundservice/soundservicelaw16.ConvertRuns", spec := "convertRuns", unfollowed := true, recurses := true, named := ["soundservice/sample.kinds"], apart := false, laid := [("soundservice/sample.kinds", laid_soundservice_sample_kinds)] }
def ConvertRunsSaid : Prop := convertRunsRow.holds Tryz.pinned (OpenSpec.ofChange convertRunsSpec)

/-- ITS FALSE NEIGHBOUR: 'it returns false'. Refute it at one input. -/
def convertRunsWrong : ChangeSpec := { name := "convertRuns", fn := fun _ => fun
  | [d1, d2, d3] => { results := [.lit (.bool false)], args := [d1, d2, d3] }
  | _ => none }
def ConvertRunsWrongFalsely : Prop := convertRunsRow.holds Tryz.pinned (OpenSpec.ofChange convertRunsWrong)

/- THE SECOND FORM. 'bulk': how many values and letters a reading holds, each counted each time it is reached (what is shared counts as often as it is met; a slice's spare places count too). A statement '..UptoSaid' is the law's where the arguments, and the package variables that the reading takes, are together of bulk at most 1048576: NARROWER than '..Said'. Prove '..Said' where nothing that the law and all that it calls make is longer than what came in: it says more and counts as full. Else prove '..UptoSaid'. A law counts once. -/
mutual
def uptoBulk {H : Type} : DataW H → Nat
  | .lit (.string bytes) => bytes.length + 1
  | .lit _ => 1
  | .nil => 1
  | .ptr d => uptoBulk d + 1
  | .slice elems spare => uptoBulkAll elems + uptoBulkAll spare + 1
  | .agg parts => uptoBulkAll parts + 1
  | .iface _ d => uptoBulk d + 1
  | .map entries => uptoBulkEntries entries + 1
  | .held _ => 1
def uptoBulkAll {H : Type} : List (DataW H) → Nat
  | [] => 0
  | d :: r => uptoBulk d + uptoBulkAll r
def uptoBulkEntries {H : Type} : List (Lit × DataW H) → Nat
  | [] => 0
  | x :: r => uptoBulkEntry x + uptoBulkEntries r
def uptoBulkEntry {H : Type} : Lit × DataW H → Nat
  | (.string bytes, d) => bytes.length + uptoBulk d + 1
  | (_, d) => uptoBulk d + 1
 end
def uptoSmall : (H : Type) → List (DataW H) → Bool := fun _ ds => decide (uptoBulkAll ds ≤ 1048576)
def OpenSpec.upto (s : _root_.Go.ChangeSpec) : _root_.Go.OpenSpec := { _root_.Go.OpenSpec.ofChange s with cond := some uptoSmall }

/-- 'soundservicelaw16.ConvertMakes', WHERE WHAT IT READS IS OF BULK AT MOST 1048576: true; the input reads as it did. -/
def convertMakesUptoRow : OpenClaim := { program := "ytigiolfloefjnaagreatdoor", sum := "ac67af869974f4f1ce677cb7b3d6571b4ffb96c2cf702d0bfa3f638716af3d85", func := "soundservice/soundservicelaw16.ConvertMakes", spec := "convertMakes", unfollowed := true, recurses := true, named := ["soundservice/sample.kinds"], apart := false, laid := [("soundservice/sample.kinds", laid_soundservice_sample_kinds)], narrowed := true }
def ConvertMakesUptoSaid : Prop := convertMakesUptoRow.holds Tryz.pinned (OpenSpec.upto convertMakesSpec)

/-- 'soundservicelaw16.ConvertRuns', WHERE WHAT IT READS IS OF BULK AT MOST 1048576: true; the input reads as it did. -/
def convertRunsUptoRow : OpenClaim := { program := "ytigiolfloefjnaagreatdoor", sum := "ac67af869974f4f1ce677cb7b3d6571b4ffb96c2cf702d0bfa3f638716af3d85", func := "soundservice/soundservicelaw16.ConvertRuns", spec := "convertRuns", unfollowed := true, recurses := true, named := ["soundservice/sample.kinds"], apart := false, laid := [("soundservice/sample.kinds", laid_soundservice_sample_kinds)], narrowed := true }
def ConvertRunsUptoSaid : Prop := convertRunsUptoRow.holds Tryz.pinned (OpenSpec.upto convertRunsSpec)

end Rows
end Go.Proofs.YtigiolfloefjnaaGreatDoor
