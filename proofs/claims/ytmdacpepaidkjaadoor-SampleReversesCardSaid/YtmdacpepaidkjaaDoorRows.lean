/-
  NARROWER THAN 'FOR EVERY INPUT', by the rows' own cells (each row's printed sentence says how): SampleDecodes: laid · SampleEncodes: laid · SampleBlocks: laid · SampleBack: laid · SampleOrder: laid · SampleReverses: laid.
  DERIVED. THE GIVEN ROWS OF THIS SEAT. 6 by the template 'for every input the law returns true; each argument reads behind the call as it read before'; 0 by the template 'total and deterministic' (their statements: YtmdacpepaidkjaaDoorTotals.lean).
  GIVEN WITH THE SEED: the statements are not yours to turn. If you find one false, say at which input.
  Laid BY PROGRAM, IN A SANDBOX (cutbox-rows.mjs): the forced cells as the released guide's own fill.sh prints them over the translation 679a962bfd7a0038… (all of the seat's roots in one cut). By AI agents, Wed Nov 11 2026. No macro, syntax, notation, axiom, sorry.
-/
import Derived.Test.YtmdacpepaidkjaaDoorChecked
import GoSem.Claim
import GoSem.ClaimJoined
import GoSem.ClaimMapViews
import Derived.JoinedTies
import Derived.KernelRfl
namespace Go.Proofs.YtmdacpepaidkjaaDoor
/- THE CELL 'sum', in the pinned program and in every row, IS THE sha256 OF THE DUMP (.gsa) THAT YtmdacpepaidkjaaDoorProg.lean LOADS. Nothing in Lean hashes anything: it is a label: what it is worth is what the hold of that sum in a sandbox is worth. -/
noncomputable def Tryd.pinned : Pinned := { name := "ytmdacpepaidkjaadoor", sum := "679a962bfd7a003816d9c4605c15f0fcead7f0379bd8c503ad47a3da7640cb20", checked := Tryd.checked }
namespace Rows
def none {H : Type} : Left H := { results := [], args := [] }

/- WHAT THE LISTED PACKAGE-LEVEL VARIABLES READ AS WHEN THE CALL BEGINS. Each datum BY PROGRAM (the guide's laid-datum.mjs) off the statement by which the dump's own 'gosem.cut.vars' lays the variable. In a bare row this is a premise. The card (YtmdacpepaidkjaaDoorCards.lean) ties it to the program's text. -/
def laid_soundservice_sample_kinds {H : Type} : DataW H := .agg [.agg [.lit (.int .i64 0), .lit (.bool false)], .agg [.lit (.int .i64 1), .lit (.bool false)], .agg [.lit (.int .i64 2), .lit (.bool false)], .agg [.lit (.int .i64 2), .lit (.bool true)], .agg [.lit (.int .i64 3), .lit (.bool false)], .agg [.lit (.int .i64 3), .lit (.bool true)], .agg [.lit (.int .i64 4), .lit (.bool false)], .agg [.lit (.int .i64 4), .lit (.bool true)]]

/-- 'soundservicelaw04.SampleDecodes': WHATEVER THE INPUT: true; the input reads as it did. -/
def sampleDecodesSpec : ChangeSpec := { name := "sampleDecodes", fn := fun _ => fun
  | [d1, d2, d3] => { results := [.lit (.bool true)], args := [d1, d2, d3] }
  | _ => none }
def sampleDecodesRow : OpenClaim := { program := "ytmdacpepaidkjaadoor", sum := "679a962bfd7a003816d9c4605c15f0fcead7f0379bd8c503ad47a3da7640cb20", func := "soundservice/soundservicelaw04.SampleDecodes", spec := "sampleDecodes", named := ["soundservice/sample.kinds"], apart := false, laid := [("soundservice/sample.kinds", laid_soundservice_sample_kinds)] }
def SampleDecodesSaid : Prop := sampleDecodesRow.holds Tryd.pinned (OpenSpec.ofChange sampleDecodesSpec)

/-- ITS FALSE NEIGHBOUR: 'it returns false'. Refute it at one input. -/
def sampleDecodesWrong : ChangeSpec := { name := "sampleDecodes", fn := fun _ => fun
  | [d1, d2, d3] => { results := [.lit (.bool false)], args := [d1, d2, d3] }
  | _ => none }
def SampleDecodesWrongFalsely : Prop := sampleDecodesRow.holds Tryd.pinned (OpenSpec.ofChange sampleDecodesWrong)

/-- 'soundservicelaw04.SampleEncodes': WHATEVER THE INPUT: true; the input reads as it did. -/
def sampleEncodesSpec : ChangeSpec := { name := "sampleEncodes", fn := fun _ => fun
  | [d1, d2, d3] => { results := [.lit (.bool true)], args := [d1, d2, d3] }
  | _ => none }
def sampleEncodesRow : OpenClaim := { program := "ytmdacpepaidkjaadoor", sum := "679a962bfd7a003816d9c4605c15f0fcead7f0379bd8c503ad47a3da7640cb20", func := "soundservice/soundservicelaw04.SampleEncodes", spec := "sampleEncodes", named := ["soundservice/sample.kinds"], apart := false, laid := [("soundservice/sample.kinds", laid_soundservice_sample_kinds)] }
def SampleEncodesSaid : Prop := sampleEncodesRow.holds Tryd.pinned (OpenSpec.ofChange sampleEncodesSpec)

/-- ITS FALSE NEIGHBOUR: 'it returns false'. Refute it at one input. -/
def sampleEncodesWrong : ChangeSpec := { name := "sampleEncodes", fn := fun _ => fun
  | [d1, d2, d3] => { results := [.lit (.bool false)], args := [d1, d2, d3] }
  | _ => none }
def SampleEncodesWrongFalsely : Prop := sampleEncodesRow.holds Tryd.pinned (OpenSpec.ofChange sampleEncodesWrong)

/-- 'soundservicelaw04.SampleBlocks': WHATEVER THE INPUT: true; the input reads as it did. -/
def sampleBlocksSpec : ChangeSpec := { name := "sampleBlocks", fn := fun _ => fun
  | [d1, d2, d3] => { results := [.lit (.bool true)], args := [d1, d2, d3] }
  | _ => none }
def sampleBlocksRow : OpenClaim := { program := "ytmdacpepaidkjaadoor", sum := "679a962bfd7a003816d9c4605c15f0fcead7f0379bd8c503ad47a3da7640cb20", func := "soundservice/soundservicelaw04.SampleBlocks", spec := "sampleBlocks", named := ["soundservice/sample.kinds"], apart := false, laid := [("soundservice/sample.kinds", laid_soundservice_sample_kinds)] }
def SampleBlocksSaid : Prop := sampleBlocksRow.holds Tryd.pinned (OpenSpec.ofChange sampleBlocksSpec)

/-- ITS FALSE NEIGHBOUR: 'it returns false'. Refute it at one input. -/
def sampleBlocksWrong : ChangeSpec := { name := "sampleBlocks", fn := fun _ => fun
  | [d1, d2, d3] => { results := [.lit (.bool false)], args := [d1, d2, d3] }
  | _ => none }
def SampleBlocksWrongFalsely : Prop := sampleBlocksRow.holds Tryd.pinned (OpenSpec.ofChange sampleBlocksWrong)

/-- 'soundservicelaw04.SampleBack': WHATEVER THE INPUT: true; the input reads as it did. -/
def sampleBackSpec : ChangeSpec := { name := "sampleBack", fn := fun _ => fun
  | [d1, d2] => { results := [.lit (.bool true)], args := [d1, d2] }
  | _ => none }
def sampleBackRow : OpenClaim := { program := "ytmdacpepaidkjaadoor", sum := "679a962bfd7a003816d9c4605c15f0fcead7f0379bd8c503ad47a3da7640cb20", func := "soundservice/soundservicelaw04.SampleBack", spec := "sampleBack", named := ["soundservice/sample.kinds"], apart := false, laid := [("soundservice/sample.kinds", laid_soundservice_sample_kinds)] }
def SampleBackSaid : Prop := sampleBackRow.holds Tryd.pinned (OpenSpec.ofChange sampleBackSpec)

/-- ITS FALSE NEIGHBOUR: 'it returns false'. Refute it at one input. -/
def sampleBackWrong : ChangeSpec := { name := "sampleBack", fn := fun _ => fun
  | [d1, d2] => { results := [.lit (.bool false)], args := [d1, d2] }
  | _ => none }
def SampleBackWrongFalsely : Prop := sampleBackRow.holds Tryd.pinned (OpenSpec.ofChange sampleBackWrong)

/-- 'soundservicelaw04.SampleOrder': WHATEVER THE INPUT: true; the input reads as it did. -/
def sampleOrderSpec : ChangeSpec := { name := "sampleOrder", fn := fun _ => fun
  | [d1, d2, d3] => { results := [.lit (.bool true)], args := [d1, d2, d3] }
  | _ => none }
def sampleOrderRow : OpenClaim := { program := "ytmdacpepaidkjaadoor", sum := "679a962bfd7a003816d9c4605c15f0fcead7f0379bd8c503ad47a3da7640cb20", func := "soundservice/soundservicelaw04.SampleOrder", spec := "sampleOrder", named := ["soundservice/sample.kinds"], apart := false, laid := [("soundservice/sample.kinds", laid_soundservice_sample_kinds)] }
def SampleOrderSaid : Prop := sampleOrderRow.holds Tryd.pinned (OpenSpec.ofChange sampleOrderSpec)

/-- ITS FALSE NEIGHBOUR: 'it returns false'. Refute it at one input. -/
def sampleOrderWrong : ChangeSpec := { name := "sampleOrder", fn := fun _ => fun
  | [d1, d2, d3] => { results := [.lit (.bool false)], args := [d1, d2, d3] }
  | _ => none }
def SampleOrderWrongFalsely : Prop := sampleOrderRow.holds Tryd.pinned (OpenSpec.ofChange sampleOrderWrong)

/-- 'soundservicelaw04.SampleReverses': WHATEVER THE INPUT: true; the input reads as it did. -/
def sampleReversesSpec : ChangeSpec := { name := "sampleReverses", fn := fun _ => fun
  | [d1, d2] => { results := [.lit (.bool true)], args := [d1, d2] }
  | _ => none }
def sampleReversesRow : OpenClaim := { program := "ytmdacpepaidkjaadoor", sum := "679a962bfd7a003816d9c4605c15f0fcead7f0379bd8c503ad47a3da7640cb20", func := "soundservice/soundservicelaw04.SampleReverses", spec := "sampleReverses", named := ["soundservice/sample.kinds"], apart := false, laid := [("soundservice/sample.kinds", laid_soundservice_sample_kinds)] }
def SampleReversesSaid : Prop := sampleReversesRow.holds Tryd.pinned (OpenSpec.ofChange sampleReversesSpec)

/-- ITS FALSE NEIGHBOUR: 'it returns false'. Refute it at one input. -/
def sampleReversesWrong : ChangeSpec := { name := "sampleReverses", fn := fun _ => fun
  | [d1, d2] => { results := [.lit (.bool false)], args := [d1, d2] }
  | _ => none }
def SampleReversesWrongFalsely : Prop := sampleReversesRow.holds Tryd.pinned (OpenSpec.ofChange sampleReversesWrong)

/- THE SECOND FORM. 'bulk': how many values and letters a reading holds, each counted each time it is reached (what is shared counts as often as it is met; a slice's spare places count too). A statement '..UptoSaid' is the law's where the arguments, and the package variables that the reading takes, are together of bulk at most 1048576: NARROWER than '..Said'. Prove '..Said' where nothing that the law and all that it calls make is longer than what came in: it says more and counts as full. Else prove '..UptoSaid'. A law counts once. -/
mutual
def uptoBulk {H : Type} : DataW H → Nat
  | .lit (.string bytes) => bytes.length + 1
  | .lit _ => 1
  | .nil => 1
  | .ptr d => uptoBulk d + 1
  | .slice elems spare => uptoBulkAll elems + uptoBulkAll spare + 1
  | .agg parts => uptoBulkAll parts + 1
  | .iface _ d => uptoBulk d + 1
  | .map entries => uptoBulkEntries entries + 1
  | .held _ => 1
def uptoBulkAll {H : Type} : List (DataW H) → Nat
  | [] => 0
  | d :: r => uptoBulk d + uptoBulkAll r
def uptoBulkEntries {H : Type} : List (Lit × DataW H) → Nat
  | [] => 0
  | x :: r => uptoBulkEntry x + uptoBulkEntries r
def uptoBulkEntry {H : Type} : Lit × DataW H → Nat
  | (.string bytes, d) => bytes.length + uptoBulk d + 1
  | (_, d) => uptoBulk d + 1
 end
def uptoSmall : (H : Type) → List (DataW H) → Bool := fun _ ds => decide (uptoBulkAll ds ≤ 1048576)
def OpenSpec.upto (s : _root_.Go.ChangeSpec) : _root_.Go.OpenSpec := { _root_.Go.OpenSpec.ofChange s with cond := some uptoSmall }

/-- 'soundservicelaw04.SampleDecodes', WHERE WHAT IT READS IS OF BULK AT MOST 1048576: true; the input reads as it did. -/
def sampleDecodesUptoRow : OpenClaim := { program := "ytmdacpepaidkjaadoor", sum := "679a962bfd7a003816d9c4605c15f0fcead7f0379bd8c503ad47a3da7640cb20", func := "soundservice/soundservicelaw04.SampleDecodes", spec := "sampleDecodes", named := ["soundservice/sample.kinds"], apart := false, laid := [("soundservice/sample.kinds", laid_soundservice_sample_kinds)], narrowed := true }
def SampleDecodesUptoSaid : Prop := sampleDecodesUptoRow.holds Tryd.pinned (OpenSpec.upto sampleDecodesSpec)

/-- 'soundservicelaw04.SampleEncodes', WHERE WHAT IT READS IS OF BULK AT MOST 1048576: true; the input reads as it did. -/
def sampleEncodesUptoRow : OpenClaim := { program := "ytmdacpepaidkjaadoor", sum := "679a962bfd7a003816d9c4605c15f0fcead7f0379bd8c503ad47a3da7640cb20", func := "soundservice/soundservicelaw04.SampleEncodes", spec := "sampleEncodes", named := ["soundservice/sample.kinds"], apart := false, laid := [("soundservice/sample.kinds", laid_soundservice_sample_kinds)], narrowed := true }
def SampleEncodesUptoSaid : Prop := sampleEncodesUptoRow.holds Tryd.pinned (OpenSpec.upto sampleEncodesSpec)

/-- 'soundservicelaw04.SampleBlocks', WHERE WHAT IT READS IS OF BULK AT MOST 1048576: true; the input reads as it did. -/
def sampleBlocksUptoRow : OpenClaim := { program := "ytmdacpepaidkjaadoor", sum := "679a962bfd7a003816d9c4605c15f0fcead7f0379bd8c503ad47a3da7640cb20", func := "soundservice/soundservicelaw04.SampleBlocks", spec := "sampleBlocks", named := ["soundservice/sample.kinds"], apart := false, laid := [("soundservice/sample.kinds", laid_soundservice_sample_kinds)], narrowed := true }
def SampleBlocksUptoSaid : Prop := sampleBlocksUptoRow.holds Tryd.pinned (OpenSpec.upto sampleBlocksSpec)

/-- 'soundservicelaw04.SampleBack', WHERE WHAT IT READS IS OF BULK AT MOST 1048576: true; the input reads as it did. -/
def sampleBackUptoRow : OpenClaim := { program := "ytmdacpepaidkjaadoor", sum := "679a962bfd7a003816d9c4605c15f0fcead7f0379bd8c503ad47a3da7640cb20", func := "soundservice/soundservicelaw04.SampleBack", spec := "sampleBack", named := ["soundservice/sample.kinds"], apart := false, laid := [("soundservice/sample.kinds", laid_soundservice_sample_kinds)], narrowed := true }
def SampleBackUptoSaid : Prop := sampleBackUptoRow.holds Tryd.pinned (OpenSpec.upto sampleBackSpec)

/-- 'soundservicelaw04.SampleOrder', WHERE WHAT IT READS IS OF BULK AT MOST 1048576: true; the input reads as it did. -/
def sampleOrderUptoRow : OpenClaim := { program := "ytmdacpepaidkjaadoor", sum := "679a962bfd7a003816d9c4605c15f0fcead7f0379bd8c503ad47a3da7640cb20", func := "soundservice/soundservicelaw04.SampleOrder", spec := "sampleOrder", named := ["soundservice/sample.kinds"], apart := false, laid := [("soundservice/sample.kinds", laid_soundservice_sample_kinds)], narrowed := true }
def SampleOrderUptoSaid : Prop := sampleOrderUptoRow.holds Tryd.pinned (OpenSpec.upto sampleOrderSpec)

/-- 'soundservicelaw04.SampleReverses', WHERE WHAT IT READS IS OF BULK AT MOST 1048576: true; the input reads as it did. -/
def sampleReversesUptoRow : OpenClaim := { program := "ytmdacpepaidkjaadoor", sum := "679a962bfd7a003816d9c4605c15f0fcead7f0379bd8c503ad47a3da7640cb20", func := "soundservice/soundservicelaw04.SampleReverses", spec := "sampleReverses", named := ["soundservice/sample.kinds"], apart := false, laid := [("soundservice/sample.kinds", laid_soundservice_sample_kinds)], narrowed := true }
def SampleReversesUptoSaid : Prop := sampleReversesUptoRow.holds Tryd.pinned (OpenSpec.upto sampleReversesSpec)

end Rows
end Go.Proofs.YtmdacpepaidkjaaDoor
