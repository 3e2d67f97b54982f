/-
  No cell of these rows narrows 'for every input' (looked for: loops, veiled, ifaces, maps, wideKeys, modest, calm, conditions, laid).
  DERIVED. THE GIVEN ROWS OF THIS SEAT. 2 by the template 'for every input the law returns true; each argument reads behind the call as it read before'; 0 by the template 'total and deterministic' (their statements: YtfcdndlnjdelmaaTotals.lean).
  GIVEN WITH THE SEED: the statements are not yours to turn. If you find one false, say at which input.
  Laid BY PROGRAM, IN A SANDBOX (cutbox-rows.mjs): the forced cells as the released guide's own fill.sh prints them over the translation 7ee5877edf4ad056… (all of the seat's roots in one cut). By AI agents, Wed Nov 11 2026. No macro, syntax, notation, axiom, sorry.
-/
import Derived.Test.YtfcdndlnjdelmaaChecked
import GoSem.Claim
import GoSem.ClaimJoined
import GoSem.ClaimMapViews
import Derived.JoinedTies
import Derived.KernelRfl
namespace Go.Proofs.Ytfcdndlnjdelmaa
/- THE CELL 'sum', in the pinned program and in every row, IS THE sha256 OF THE DUMP (.gsa) THAT YtfcdndlnjdelmaaProg.lean LOADS. Nothing in Lean hashes anything: it is a label: what it is worth is what the hold of that sum in a sandbox is worth. -/
noncomputable def Try.pinned : Pinned := { name := "ytfcdndlnjdelmaa", sum := "7ee5877edf4ad056f7fa53a4713ae9c1eabea6f931cd2c9a9d6adf7c1e39319a", checked := Try.checked }
namespace Rows
def none {H : Type} : Left H := { results := [], args := [] }

/-- 'soundservicelaw18.ControlDeclares': WHATEVER THE INPUT: true; the input reads as it did. -/
def controlDeclaresSpec : ChangeSpec := { name := "controlDeclares", fn := fun _ => fun
  | [d1, d2, d3, d4, d5, d6] => { results := [.lit (.bool true)], args := [d1, d2, d3, d4, d5, d6] }
  | _ => none }
def controlDeclaresRow : OpenClaim := { program := "ytfcdndlnjdelmaa", sum := "7ee5877edf4ad056f7fa53a4713ae9c1eabea6f931cd2c9a9d6adf7c1e39319a", func := "soundservice/soundservicelaw18.ControlDeclares", spec := "controlDeclares", inPlace := ["math/bits.Sub64", "math/bits.Add64"], unfollowed := true, recurses := true, apart := false }
def ControlDeclaresSaid : Prop := controlDeclaresRow.holds Try.pinned (OpenSpec.ofChange controlDeclaresSpec)

/-- ITS FALSE NEIGHBOUR: 'it returns false'. Refute it at one input. -/
def controlDeclaresWrong : ChangeSpec := { name := "controlDeclares", fn := fun _ => fun
  | [d1, d2, d3, d4, d5, d6] => { results := [.lit (.bool false)], args := [d1, d2, d3, d4, d5, d6] }
  | _ => none }
def ControlDeclaresWrongFalsely : Prop := controlDeclaresRow.holds Try.pinned (OpenSpec.ofChange controlDeclaresWrong)

/-- 'soundservicelaw18.ControlPlans': WHATEVER THE INPUT: true; the input reads as it did. -/
def controlPlansSpec : ChangeSpec := { name := "controlPlans", fn := fun _ => fun
  | [d1, d2, d3, d4] => { results := [.lit (.bool true)], args := [d1, d2, d3, d4] }
  | _ => none }
def controlPlansRow : OpenClaim := { program := "ytfcdndlnjdelmaa", sum := "7ee5877edf4ad056f7fa53a4713ae9c1eabea6f931cd2c9a9d6adf7c1e39319a", func := "soundservice/soundservicelaw18.ControlPlans", spec := "controlPlans", inPlace := ["math/bits.Sub64", "math/bits.Add64"], unfollowed := true, recurses := true, apart := false }
def ControlPlansSaid : Prop := controlPlansRow.holds Try.pinned (OpenSpec.ofChange controlPlansSpec)

/-- ITS FALSE NEIGHBOUR: 'it returns false'. Refute it at one input. -/
def controlPlansWrong : ChangeSpec := { name := "controlPlans", fn := fun _ => fun
  | [d1, d2, d3, d4] => { results := [.lit (.bool false)], args := [d1, d2, d3, d4] }
  | _ => none }
def ControlPlansWrongFalsely : Prop := controlPlansRow.holds Try.pinned (OpenSpec.ofChange controlPlansWrong)

/- THE SECOND FORM. 'bulk': how many values and letters a reading holds, each counted each time it is reached (what is shared counts as often as it is met; a slice's spare places count too). A statement '..UptoSaid' is the law's where the arguments, and the package variables that the reading takes, are together of bulk at most 1048576: NARROWER than '..Said'. Prove '..Said' where nothing that the law and all that it calls make is longer than what came in: it says more and counts as full. Else prove '..UptoSaid'. A law counts once. -/
mutual
def uptoBulk {H : Type} : DataW H → Nat
  | .lit (.string bytes) => bytes.length + 1
  | .lit _ => 1
  | .nil => 1
  | .ptr d => uptoBulk d + 1
  | .slice elems spare => uptoBulkAll elems + uptoBulkAll spare + 1
  | .agg parts => uptoBulkAll parts + 1
  | .iface _ d => uptoBulk d + 1
  | .map entries => uptoBulkEntries entries + 1
  | .held _ => 1
def uptoBulkAll {H : Type} : List (DataW H) → Nat
  | [] => 0
  | d :: r => uptoBulk d + uptoBulkAll r
def uptoBulkEntries {H : Type} : List (Lit × DataW H) → Nat
  | [] => 0
  | x :: r => uptoBulkEntry x + uptoBulkEntries r
def uptoBulkEntry {H : Type} : Lit × DataW H → Nat
  | (.string bytes, d) => bytes.length + uptoBulk d + 1
  | (_, d) => uptoBulk d + 1
 end
def uptoSmall : (H : Type) → List (DataW H) → Bool := fun _ ds => decide (uptoBulkAll ds ≤ 1048576)
def OpenSpec.upto (s : _root_.Go.ChangeSpec) : _root_.Go.OpenSpec := { _root_.Go.OpenSpec.ofChange s with cond := some uptoSmall }

/-- 'soundservicelaw18.ControlDeclares', WHERE WHAT IT READS IS OF BULK AT MOST 1048576: true; the input reads as it did. -/
def controlDeclaresUptoRow : OpenClaim := { program := "ytfcdndlnjdelmaa", sum := "7ee5877edf4ad056f7fa53a4713ae9c1eabea6f931cd2c9a9d6adf7c1e39319a", func := "soundservice/soundservicelaw18.ControlDeclares", spec := "controlDeclares", inPlace := ["math/bits.Sub64", "math/bits.Add64"], unfollowed := true, recurses := true, apart := false, narrowed := true }
def ControlDeclaresUptoSaid : Prop := controlDeclaresUptoRow.holds Try.pinned (OpenSpec.upto controlDeclaresSpec)

/-- 'soundservicelaw18.ControlPlans', WHERE WHAT IT READS IS OF BULK AT MOST 1048576: true; the input reads as it did. -/
def controlPlansUptoRow : OpenClaim := { program := "ytfcdndlnjdelmaa", sum := "7ee5877edf4ad056f7fa53a4713ae9c1eabea6f931cd2c9a9d6adf7c1e39319a", func := "soundservice/soundservicelaw18.ControlPlans", spec := "controlPlans", inPlace := ["math/bits.Sub64", "math/bits.Add64"], unfollowed := true, recurses := true, apart := false, narrowed := true }
def ControlPlansUptoSaid : Prop := controlPlansUptoRow.holds Try.pinned (OpenSpec.upto controlPlansSpec)

end Rows
end Go.Proofs.Ytfcdndlnjdelmaa
