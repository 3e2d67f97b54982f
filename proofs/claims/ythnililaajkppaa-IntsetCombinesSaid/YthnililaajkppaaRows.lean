/-
  No cell of these rows narrows 'for every input' (looked for: loops, veiled, ifaces, maps, wideKeys, modest, calm, conditions, laid).
  DERIVED. THE GIVEN ROWS OF THIS SEAT. 6 by the template 'for every input the law returns true; each argument reads behind the call as it read before'; 0 by the template 'total and deterministic' (their statements: YthnililaajkppaaTotals.lean).
  GIVEN WITH THE SEED: the statements are not yours to turn. If you find one false, say at which input.
  Laid BY PROGRAM, IN A SANDBOX (cutbox-rows.mjs): the forced cells as the released guide's own fill.sh prints them over the translation 96a07569ade5a77c… (all of the seat's roots in one cut). By AI agents, Wed Nov 11 2026. No macro, syntax, notation, axiom, sorry.
-/
import Derived.Test.YthnililaajkppaaChecked
import GoSem.Claim
import GoSem.ClaimJoined
import GoSem.ClaimMapViews
import Derived.JoinedTies
import Derived.KernelRfl
namespace Go.Proofs.Ythnililaajkppaa
/- THE CELL 'sum', in the pinned program and in every row, IS THE sha256 OF THE DUMP (.gsa) THAT YthnililaajkppaaProg.lean LOADS. Nothing in Lean hashes anything: it is a label: what it is worth is what the hold of that sum in a sandbox is worth. -/
noncomputable def Try.pinned : Pinned := { name := "ythnililaajkppaa", sum := "96a07569ade5a77ce8f656e0c7bfc334667b5db865e6eabf76eb4efc3f727f1f", checked := Try.checked }
namespace Rows
def none {H : Type} : Left H := { results := [], args := [] }

/-- 'soundservicelaw09.IntsetMakes': WHATEVER THE INPUT: true; the input reads as it did. -/
def intsetMakesSpec : ChangeSpec := { name := "intsetMakes", fn := fun _ => fun
  | [d1, d2, d3] => { results := [.lit (.bool true)], args := [d1, d2, d3] }
  | _ => none }
def intsetMakesRow : OpenClaim := { program := "ythnililaajkppaa", sum := "96a07569ade5a77ce8f656e0c7bfc334667b5db865e6eabf76eb4efc3f727f1f", func := "soundservice/soundservicelaw09.IntsetMakes", spec := "intsetMakes", unfollowed := true, recurses := true, apart := false }
def IntsetMakesSaid : Prop := intsetMakesRow.holds Try.pinned (OpenSpec.ofChange intsetMakesSpec)

/-- ITS FALSE NEIGHBOUR: 'it returns false'. Refute it at one input. -/
def intsetMakesWrong : ChangeSpec := { name := "intsetMakes", fn := fun _ => fun
  | [d1, d2, d3] => { results := [.lit (.bool false)], args := [d1, d2, d3] }
  | _ => none }
def IntsetMakesWrongFalsely : Prop := intsetMakesRow.holds Try.pinned (OpenSpec.ofChange intsetMakesWrong)

/-- 'soundservicelaw09.IntsetCombines': WHATEVER THE INPUT: true; the input reads as it did. -/
def intsetCombinesSpec : ChangeSpec := { name := "intsetCombines", fn := fun _ => fun
  | [d1, d2, d3, d4, d5] => { results := [.lit (.bool true)], args := [d1, d2, d3, d4, d5] }
  | _ => none }
def intsetCombinesRow : OpenClaim := { program := "ythnililaajkppaa", sum := "96a07569ade5a77ce8f656e0c7bfc334667b5db865e6eabf76eb4efc3f727f1f", func := "soundservice/soundservicelaw09.IntsetCombines", spec := "intsetCombines", unfollowed := true, recurses := true, apart := false }
def IntsetCombinesSaid : Prop := intsetCombinesRow.holds Try.pinned (OpenSpec.ofChange intsetCombinesSpec)

/-- ITS FALSE NEIGHBOUR: 'it returns false'. Refute it at one input. -/
def intsetCombinesWrong : ChangeSpec := { name := "intsetCombines", fn := fun _ => fun
  | [d1, d2, d3, d4, d5] => { results := [.lit (.bool false)], args := [d1, d2, d3, d4, d5] }
  | _ => none }
def IntsetCombinesWrongFalsely : Prop := intsetCombinesRow.holds Try.pinned (OpenSpec.ofChange intsetCombinesWrong)

/-- 'soundservicelaw09.IntsetMembers': WHATEVER THE INPUT: true; the input reads as it did. -/
def intsetMembersSpec : ChangeSpec := { name := "intsetMembers", fn := fun _ => fun
  | [d1, d2, d3] => { results := [.lit (.bool true)], args := [d1, d2, d3] }
  | _ => none }
def intsetMembersRow : OpenClaim := { program := "ythnililaajkppaa", sum := "96a07569ade5a77ce8f656e0c7bfc334667b5db865e6eabf76eb4efc3f727f1f", func := "soundservice/soundservicelaw09.IntsetMembers", spec := "intsetMembers", unfollowed := true, recurses := true, apart := false }
def IntsetMembersSaid : Prop := intsetMembersRow.holds Try.pinned (OpenSpec.ofChange intsetMembersSpec)

/-- ITS FALSE NEIGHBOUR: 'it returns false'. Refute it at one input. -/
def intsetMembersWrong : ChangeSpec := { name := "intsetMembers", fn := fun _ => fun
  | [d1, d2, d3] => { results := [.lit (.bool false)], args := [d1, d2, d3] }
  | _ => none }
def IntsetMembersWrongFalsely : Prop := intsetMembersRow.holds Try.pinned (OpenSpec.ofChange intsetMembersWrong)

/-- 'soundservicelaw09.IntsetAlgebra': WHATEVER THE INPUT: true; the input reads as it did. -/
def intsetAlgebraSpec : ChangeSpec := { name := "intsetAlgebra", fn := fun _ => fun
  | [d1, d2, d3] => { results := [.lit (.bool true)], args := [d1, d2, d3] }
  | _ => none }
def intsetAlgebraRow : OpenClaim := { program := "ythnililaajkppaa", sum := "96a07569ade5a77ce8f656e0c7bfc334667b5db865e6eabf76eb4efc3f727f1f", func := "soundservice/soundservicelaw09.IntsetAlgebra", spec := "intsetAlgebra", unfollowed := true, recurses := true, apart := false }
def IntsetAlgebraSaid : Prop := intsetAlgebraRow.holds Try.pinned (OpenSpec.ofChange intsetAlgebraSpec)

/-- ITS FALSE NEIGHBOUR: 'it returns false'. Refute it at one input. -/
def intsetAlgebraWrong : ChangeSpec := { name := "intsetAlgebra", fn := fun _ => fun
  | [d1, d2, d3] => { results := [.lit (.bool false)], args := [d1, d2, d3] }
  | _ => none }
def IntsetAlgebraWrongFalsely : Prop := intsetAlgebraRow.holds Try.pinned (OpenSpec.ofChange intsetAlgebraWrong)

/-- 'soundservicelaw09.IntsetNearest': WHATEVER THE INPUT: true; the input reads as it did. -/
def intsetNearestSpec : ChangeSpec := { name := "intsetNearest", fn := fun _ => fun
  | [d1, d2, d3] => { results := [.lit (.bool true)], args := [d1, d2, d3] }
  | _ => none }
def intsetNearestRow : OpenClaim := { program := "ythnililaajkppaa", sum := "96a07569ade5a77ce8f656e0c7bfc334667b5db865e6eabf76eb4efc3f727f1f", func := "soundservice/soundservicelaw09.IntsetNearest", spec := "intsetNearest", unfollowed := true, recurses := true, apart := false }
def IntsetNearestSaid : Prop := intsetNearestRow.holds Try.pinned (OpenSpec.ofChange intsetNearestSpec)

/-- ITS FALSE NEIGHBOUR: 'it returns false'. Refute it at one input. -/
def intsetNearestWrong : ChangeSpec := { name := "intsetNearest", fn := fun _ => fun
  | [d1, d2, d3] => { results := [.lit (.bool false)], args := [d1, d2, d3] }
  | _ => none }
def IntsetNearestWrongFalsely : Prop := intsetNearestRow.holds Try.pinned (OpenSpec.ofChange intsetNearestWrong)

/-- 'soundservicelaw09.IntsetForms': WHATEVER THE INPUT: true; the input reads as it did. -/
def intsetFormsSpec : ChangeSpec := { name := "intsetForms", fn := fun _ => fun
  | [d1, d2] => { results := [.lit (.bool true)], args := [d1, d2] }
  | _ => none }
def intsetFormsRow : OpenClaim := { program := "ythnililaajkppaa", sum := "96a07569ade5a77ce8f656e0c7bfc334667b5db865e6eabf76eb4efc3f727f1f", func := "soundservice/soundservicelaw09.IntsetForms", spec := "intsetForms", unfollowed := true, recurses := true, apart := false }
def IntsetFormsSaid : Prop := intsetFormsRow.holds Try.pinned (OpenSpec.ofChange intsetFormsSpec)

/-- ITS FALSE NEIGHBOUR: 'it returns false'. Refute it at one input. -/
def intsetFormsWrong : ChangeSpec := { name := "intsetForms", fn := fun _ => fun
  | [d1, d2] => { results := [.lit (.bool false)], args := [d1, d2] }
  | _ => none }
def IntsetFormsWrongFalsely : Prop := intsetFormsRow.holds Try.pinned (OpenSpec.ofChange intsetFormsWrong)

/- THE SECOND FORM. 'bulk': how many values and letters a reading holds, each counted each time it is reached (what is shared counts as often as it is met; a slice's spare places count too). A statement '..UptoSaid' is the law's where the arguments, and the package variables that the reading takes, are together of bulk at most 1048576: NARROWER than '..Said'. Prove '..Said' where nothing that the law and all that it calls make is longer than what came in: it says more and counts as full. Else prove '..UptoSaid'. A law counts once. -/
mutual
def uptoBulk {H : Type} : DataW H → Nat
  | .lit (.string bytes) => bytes.length + 1
  | .lit _ => 1
  | .nil => 1
  | .ptr d => uptoBulk d + 1
  | .slice elems spare => uptoBulkAll elems + uptoBulkAll spare + 1
  | .agg parts => uptoBulkAll parts + 1
  | .iface _ d => uptoBulk d + 1
  | .map entries => uptoBulkEntries entries + 1
  | .held _ => 1
def uptoBulkAll {H : Type} : List (DataW H) → Nat
  | [] => 0
  | d :: r => uptoBulk d + uptoBulkAll r
def uptoBulkEntries {H : Type} : List (Lit × DataW H) → Nat
  | [] => 0
  | x :: r => uptoBulkEntry x + uptoBulkEntries r
def uptoBulkEntry {H : Type} : Lit × DataW H → Nat
  | (.string bytes, d) => bytes.length + uptoBulk d + 1
  | (_, d) => uptoBulk d + 1
 end
def uptoSmall : (H : Type) → List (DataW H) → Bool := fun _ ds => decide (uptoBulkAll ds ≤ 1048576)
def OpenSpec.upto (s : _root_.Go.ChangeSpec) : _root_.Go.OpenSpec := { _root_.Go.OpenSpec.ofChange s with cond := some uptoSmall }

/-- 'soundservicelaw09.IntsetMakes', WHERE WHAT IT READS IS OF BULK AT MOST 1048576: true; the input reads as it did. -/
def intsetMakesUptoRow : OpenClaim := { program := "ythnililaajkppaa", sum := "96a07569ade5a77ce8f656e0c7bfc334667b5db865e6eabf76eb4efc3f727f1f", func := "soundservice/soundservicelaw09.IntsetMakes", spec := "intsetMakes", unfollowed := true, recurses := true, apart := false, narrowed := true }
def IntsetMakesUptoSaid : Prop := intsetMakesUptoRow.holds Try.pinned (OpenSpec.upto intsetMakesSpec)

/-- 'soundservicelaw09.IntsetCombines', WHERE WHAT IT READS IS OF BULK AT MOST 1048576: true; the input reads as it did. -/
def intsetCombinesUptoRow : OpenClaim := { program := "ythnililaajkppaa", sum := "96a07569ade5a77ce8f656e0c7bfc334667b5db865e6eabf76eb4efc3f727f1f", func := "soundservice/soundservicelaw09.IntsetCombines", spec := "intsetCombines", unfollowed := true, recurses := true, apart := false, narrowed := true }
def IntsetCombinesUptoSaid : Prop := intsetCombinesUptoRow.holds Try.pinned (OpenSpec.upto intsetCombinesSpec)

/-- 'soundservicelaw09.IntsetMembers', WHERE WHAT IT READS IS OF BULK AT MOST 1048576: true; the input reads as it did. -/
def intsetMembersUptoRow : OpenClaim := { program := "ythnililaajkppaa", sum := "96a07569ade5a77ce8f656e0c7bfc334667b5db865e6eabf76eb4efc3f727f1f", func := "soundservice/soundservicelaw09.IntsetMembers", spec := "intsetMembers", unfollowed := true, recurses := true, apart := false, narrowed := true }
def IntsetMembersUptoSaid : Prop := intsetMembersUptoRow.holds Try.pinned (OpenSpec.upto intsetMembersSpec)

/-- 'soundservicelaw09.IntsetAlgebra', WHERE WHAT IT READS IS OF BULK AT MOST 1048576: true; the input reads as it did. -/
def intsetAlgebraUptoRow : OpenClaim := { program := "ythnililaajkppaa", sum := "96a07569ade5a77ce8f656e0c7bfc334667b5db865e6eabf76eb4efc3f727f1f", func := "soundservice/soundservicelaw09.IntsetAlgebra", spec := "intsetAlgebra", unfollowed := true, recurses := true, apart := false, narrowed := true }
def IntsetAlgebraUptoSaid : Prop := intsetAlgebraUptoRow.holds Try.pinned (OpenSpec.upto intsetAlgebraSpec)

/-- 'soundservicelaw09.IntsetNearest', WHERE WHAT IT READS IS OF BULK AT MOST 1048576: true; the input reads as it did. -/
def intsetNearestUptoRow : OpenClaim := { program := "ythnililaajkppaa", sum := "96a07569ade5a77ce8f656e0c7bfc334667b5db865e6eabf76eb4efc3f727f1f", func := "soundservice/soundservicelaw09.IntsetNearest", spec := "intsetNearest", unfollowed := true, recurses := true, apart := false, narrowed := true }
def IntsetNearestUptoSaid : Prop := intsetNearestUptoRow.holds Try.pinned (OpenSpec.upto intsetNearestSpec)

/-- 'soundservicelaw09.IntsetForms', WHERE WHAT IT READS IS OF BULK AT MOST 1048576: true; the input reads as it did. -/
def intsetFormsUptoRow : OpenClaim := { program := "ythnililaajkppaa", sum := "96a07569ade5a77ce8f656e0c7bfc334667b5db865e6eabf76eb4efc3f727f1f", func := "soundservice/soundservicelaw09.IntsetForms", spec := "intsetForms", unfollowed := true, recurses := true, apart := false, narrowed := true }
def IntsetFormsUptoSaid : Prop := intsetFormsUptoRow.holds Try.pinned (OpenSpec.upto intsetFormsSpec)

end Rows
end Go.Proofs.Ythnililaajkppaa
