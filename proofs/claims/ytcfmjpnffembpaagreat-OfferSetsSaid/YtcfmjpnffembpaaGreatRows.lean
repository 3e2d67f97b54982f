/-
  No cell of these rows narrows 'for every input' (looked for: loops, veiled, ifaces, maps, wideKeys, modest, calm, conditions, laid).
  DERIVED. THE GIVEN ROWS OF THIS SEAT. 8 by the template 'for every input the law returns true; each argument reads behind the call as it read before'; 0 by the template 'total and deterministic' (their statements: YtcfmjpnffembpaaGreatTotals.lean).
  GIVEN WITH THE SEED: the statements are not yours to turn. If you find one false, say at which input.
  Laid BY PROGRAM, IN A SANDBOX (cutbox-rows.mjs): the forced cells as the released guide's own fill.sh prints them over the translation 779bede446bea70b… (all of the seat's roots in one cut). By AI agents, Wed Nov 11 2026. No macro, syntax, notation, axiom, sorry.
-/
import Derived.Test.YtcfmjpnffembpaaGreatChecked
import GoSem.Claim
import GoSem.ClaimJoined
import GoSem.ClaimMapViews
import Derived.JoinedTies
import Derived.KernelRfl
namespace Go.Proofs.YtcfmjpnffembpaaGreat
/- THE CELL 'sum', in the pinned program and in every row, IS THE sha256 OF THE DUMP (.gsa) THAT YtcfmjpnffembpaaGreatProg.lean LOADS. Nothing in Lean hashes anything: it is a label: what it is worth is what the hold of that sum in a sandbox is worth. -/
noncomputable def Tryz.pinned : Pinned := { name := "ytcfmjpnffembpaagreat", sum := "779bede446bea70b69cd4d47aa133019a0978034b3bec34ded5afab0818878dc", checked := Tryz.checked }
namespace Rows
def none {H : Type} : Left H := { results := [], args := [] }

/-- 'soundservicelaw10.OfferSets': WHATEVER THE INPUT: true; the input reads as it did. -/
def offerSetsSpec : ChangeSpec := { name := "offerSets", fn := fun _ => fun
  | [d1, d2, d3] => { results := [.lit (.bool true)], args := [d1, d2, d3] }
  | _ => none }
def offerSetsRow : OpenClaim := { program := "ytcfmjpnffembpaagreat", sum := "779bede446bea70b69cd4d47aa133019a0978034b3bec34ded5afab0818878dc", func := "soundservice/soundservicelaw10.OfferSets", spec := "offerSets", unfollowed := true, recurses := true, apart := false }
def OfferSetsSaid : Prop := offerSetsRow.holds Tryz.pinned (OpenSpec.ofChange offerSetsSpec)

/-- ITS FALSE NEIGHBOUR: 'it returns false'. Refute it at one input. -/
def offerSetsWrong : ChangeSpec := { name := "offerSets", fn := fun _ => fun
  | [d1, d2, d3] => { results := [.lit (.bool false)], args := [d1, d2, d3] }
  | _ => none }
def OfferSetsWrongFalsely : Prop := offerSetsRow.holds Tryz.pinned (OpenSpec.ofChange offerSetsWrong)

/-- 'soundservicelaw10.OfferChooses': WHATEVER THE INPUT: true; the input reads as it did. -/
def offerChoosesSpec : ChangeSpec := { name := "offerChooses", fn := fun _ => fun
  | [d1, d2, d3, d4] => { results := [.lit (.bool true)], args := [d1, d2, d3, d4] }
  | _ => none }
def offerChoosesRow : OpenClaim := { program := "ytcfmjpnffembpaagreat", sum := "779bede446bea70b69cd4d47aa133019a0978034b3bec34ded5afab0818878dc", func := "soundservice/soundservicelaw10.OfferChooses", spec := "offerChooses", unfollowed := true, recurses := true, apart := false }
def OfferChoosesSaid : Prop := offerChoosesRow.holds Tryz.pinned (OpenSpec.ofChange offerChoosesSpec)

/-- ITS FALSE NEIGHBOUR: 'it returns false'. Refute it at one input. -/
def offerChoosesWrong : ChangeSpec := { name := "offerChooses", fn := fun _ => fun
  | [d1, d2, d3, d4] => { results := [.lit (.bool false)], args := [d1, d2, d3, d4] }
  | _ => none }
def OfferChoosesWrongFalsely : Prop := offerChoosesRow.holds Tryz.pinned (OpenSpec.ofChange offerChoosesWrong)

/-- 'soundservicelaw10.OfferMembers': WHATEVER THE INPUT: true; the input reads as it did. -/
def offerMembersSpec : ChangeSpec := { name := "offerMembers", fn := fun _ => fun
  | [d] => { results := [.lit (.bool true)], args := [d] }
  | _ => none }
def offerMembersRow : OpenClaim := { program := "ytcfmjpnffembpaagreat", sum := "779bede446bea70b69cd4d47aa133019a0978034b3bec34ded5afab0818878dc", func := "soundservice/soundservicelaw10.OfferMembers", spec := "offerMembers", unfollowed := true, recurses := true, apart := false }
def OfferMembersSaid : Prop := offerMembersRow.holds Tryz.pinned (OpenSpec.ofChange offerMembersSpec)

/-- ITS FALSE NEIGHBOUR: 'it returns false'. Refute it at one input. -/
def offerMembersWrong : ChangeSpec := { name := "offerMembers", fn := fun _ => fun
  | [d] => { results := [.lit (.bool false)], args := [d] }
  | _ => none }
def OfferMembersWrongFalsely : Prop := offerMembersRow.holds Tryz.pinned (OpenSpec.ofChange offerMembersWrong)

/-- 'soundservicelaw10.OfferBest': WHATEVER THE INPUT: true; the input reads as it did. -/
def offerBestSpec : ChangeSpec := { name := "offerBest", fn := fun _ => fun
  | [d] => { results := [.lit (.bool true)], args := [d] }
  | _ => none }
def offerBestRow : OpenClaim := { program := "ytcfmjpnffembpaagreat", sum := "779bede446bea70b69cd4d47aa133019a0978034b3bec34ded5afab0818878dc", func := "soundservice/soundservicelaw10.OfferBest", spec := "offerBest", unfollowed := true, recurses := true, apart := false }
def OfferBestSaid : Prop := offerBestRow.holds Tryz.pinned (OpenSpec.ofChange offerBestSpec)

/-- ITS FALSE NEIGHBOUR: 'it returns false'. Refute it at one input. -/
def offerBestWrong : ChangeSpec := { name := "offerBest", fn := fun _ => fun
  | [d] => { results := [.lit (.bool false)], args := [d] }
  | _ => none }
def OfferBestWrongFalsely : Prop := offerBestRow.holds Tryz.pinned (OpenSpec.ofChange offerBestWrong)

/-- 'soundservicelaw10.OfferCompares': WHATEVER THE INPUT: true; the input reads as it did. -/
def offerComparesSpec : ChangeSpec := { name := "offerCompares", fn := fun _ => fun
  | [d] => { results := [.lit (.bool true)], args := [d] }
  | _ => none }
def offerComparesRow : OpenClaim := { program := "ytcfmjpnffembpaagreat", sum := "779bede446bea70b69cd4d47aa133019a0978034b3bec34ded5afab0818878dc", func := "soundservice/soundservicelaw10.OfferCompares", spec := "offerCompares", unfollowed := true, recurses := true, apart := false }
def OfferComparesSaid : Prop := offerComparesRow.holds Tryz.pinned (OpenSpec.ofChange offerComparesSpec)

/-- ITS FALSE NEIGHBOUR: 'it returns false'. Refute it at one input. -/
def offerComparesWrong : ChangeSpec := { name := "offerCompares", fn := fun _ => fun
  | [d] => { results := [.lit (.bool false)], args := [d] }
  | _ => none }
def OfferComparesWrongFalsely : Prop := offerComparesRow.holds Tryz.pinned (OpenSpec.ofChange offerComparesWrong)

/-- 'soundservicelaw10.OfferBlames': WHATEVER THE INPUT: true; the input reads as it did. -/
def offerBlamesSpec : ChangeSpec := { name := "offerBlames", fn := fun _ => fun
  | [d] => { results := [.lit (.bool true)], args := [d] }
  | _ => none }
def offerBlamesRow : OpenClaim := { program := "ytcfmjpnffembpaagreat", sum := "779bede446bea70b69cd4d47aa133019a0978034b3bec34ded5afab0818878dc", func := "soundservice/soundservicelaw10.OfferBlames", spec := "offerBlames", unfollowed := true, recurses := true, apart := false }
def OfferBlamesSaid : Prop := offerBlamesRow.holds Tryz.pinned (OpenSpec.ofChange offerBlamesSpec)

/-- ITS FALSE NEIGHBOUR: 'it returns false'. Refute it at one input. -/
def offerBlamesWrong : ChangeSpec := { name := "offerBlames", fn := fun _ => fun
  | [d] => { results := [.lit (.bool false)], args := [d] }
  | _ => none }
def OfferBlamesWrongFalsely : Prop := offerBlamesRow.holds Tryz.pinned (OpenSpec.ofChange offerBlamesWrong)

/-- 'soundservicelaw10.OfferSingles': WHATEVER THE INPUT: true; the input reads as it did. -/
def offerSinglesSpec : ChangeSpec := { name := "offerSingles", fn := fun _ => fun
  | [d] => { results := [.lit (.bool true)], args := [d] }
  | _ => none }
def offerSinglesRow : OpenClaim := { program := "ytcfmjpnffembpaagreat", sum := "779bede446bea70b69cd4d47aa133019a0978034b3bec34ded5afab0818878dc", func := "soundservice/soundservicelaw10.OfferSingles", spec := "offerSingles", unfollowed := true, recurses := true, apart := false }
def OfferSinglesSaid : Prop := offerSinglesRow.holds Tryz.pinned (OpenSpec.ofChange offerSinglesSpec)

/-- ITS FALSE NEIGHBOUR: 'it returns false'. Refute it at one input. -/
def offerSinglesWrong : ChangeSpec := { name := "offerSingles", fn := fun _ => fun
  | [d] => { results := [.lit (.bool false)], args := [d] }
  | _ => none }
def OfferSinglesWrongFalsely : Prop := offerSinglesRow.holds Tryz.pinned (OpenSpec.ofChange offerSinglesWrong)

/-- 'soundservicelaw10.OfferInside': WHATEVER THE INPUT: true; the input reads as it did. -/
def offerInsideSpec : ChangeSpec := { name := "offerInside", fn := fun _ => fun
  | [d1, d2] => { results := [.lit (.bool true)], args := [d1, d2] }
  | _ => none }
def offerInsideRow : OpenClaim := { program := "ytcfmjpnffembpaagreat", sum := "779bede446bea70b69cd4d47aa133019a0978034b3bec34ded5afab0818878dc", func := "soundservice/soundservicelaw10.OfferInside", spec := "offerInside", unfollowed := true, recurses := true, apart := false }
def OfferInsideSaid : Prop := offerInsideRow.holds Tryz.pinned (OpenSpec.ofChange offerInsideSpec)

/-- ITS FALSE NEIGHBOUR: 'it returns false'. Refute it at one input. -/
def offerInsideWrong : ChangeSpec := { name := "offerInside", fn := fun _ => fun
  | [d1, d2] => { results := [.lit (.bool false)], args := [d1, d2] }
  | _ => none }
def OfferInsideWrongFalsely : Prop := offerInsideRow.holds Tryz.pinned (OpenSpec.ofChange offerInsideWrong)

/- THE SECOND FORM. 'bulk': how many values and letters a reading holds, each counted each time it is reached (what is shared counts as often as it is met; a slice's spare places count too). A statement '..UptoSaid' is the law's where the arguments, and the package variables that the reading takes, are together of bulk at most 1048576: NARROWER than '..Said'. Prove '..Said' where nothing that the law and all that it calls make is longer than what came in: it says more and counts as full. Else prove '..UptoSaid'. A law counts once. -/
mutual
def uptoBulk {H : Type} : DataW H → Nat
  | .lit (.string bytes) => bytes.length + 1
  | .lit _ => 1
  | .nil => 1
  | .ptr d => uptoBulk d + 1
  | .slice elems spare => uptoBulkAll elems + uptoBulkAll spare + 1
  | .agg parts => uptoBulkAll parts + 1
  | .iface _ d => uptoBulk d + 1
  | .map entries => uptoBulkEntries entries + 1
  | .held _ => 1
def uptoBulkAll {H : Type} : List (DataW H) → Nat
  | [] => 0
  | d :: r => uptoBulk d + uptoBulkAll r
def uptoBulkEntries {H : Type} : List (Lit × DataW H) → Nat
  | [] => 0
  | x :: r => uptoBulkEntry x + uptoBulkEntries r
def uptoBulkEntry {H : Type} : Lit × DataW H → Nat
  | (.string bytes, d) => bytes.length + uptoBulk d + 1
  | (_, d) => uptoBulk d + 1
 end
def uptoSmall : (H : Type) → List (DataW H) → Bool := fun _ ds => decide (uptoBulkAll ds ≤ 1048576)
def OpenSpec.upto (s : _root_.Go.ChangeSpec) : _root_.Go.OpenSpec := { _root_.Go.OpenSpec.ofChange s with cond := some uptoSmall }

/-- 'soundservicelaw10.OfferSets', WHERE WHAT IT READS IS OF BULK AT MOST 1048576: true; the input reads as it did. -/
def offerSetsUptoRow : OpenClaim := { program := "ytcfmjpnffembpaagreat", sum := "779bede446bea70b69cd4d47aa133019a0978034b3bec34ded5afab0818878dc", func := "soundservice/soundservicelaw10.OfferSets", spec := "offerSets", unfollowed := true, recurses := true, apart := false, narrowed := true }
def OfferSetsUptoSaid : Prop := offerSetsUptoRow.holds Tryz.pinned (OpenSpec.upto offerSetsSpec)

/-- 'soundservicelaw10.OfferChooses', WHERE WHAT IT READS IS OF BULK AT MOST 1048576: true; the input reads as it did. -/
def offerChoosesUptoRow : OpenClaim := { program := "ytcfmjpnffembpaagreat", sum := "779bede446bea70b69cd4d47aa133019a0978034b3bec34ded5afab0818878dc", func := "soundservice/soundservicelaw10.OfferChooses", spec := "offerChooses", unfollowed := true, recurses := true, apart := false, narrowed := true }
def OfferChoosesUptoSaid : Prop := offerChoosesUptoRow.holds Tryz.pinned (OpenSpec.upto offerChoosesSpec)

/-- 'soundservicelaw10.OfferMembers', WHERE WHAT IT READS IS OF BULK AT MOST 1048576: true; the input reads as it did. -/
def offerMembersUptoRow : OpenClaim := { program := "ytcfmjpnffembpaagreat", sum := "779bede446bea70b69cd4d47aa133019a0978034b3bec34ded5afab0818878dc", func := "soundservice/soundservicelaw10.OfferMembers", spec := "offerMembers", unfollowed := true, recurses := true, apart := false, narrowed := true }
def OfferMembersUptoSaid : Prop := offerMembersUptoRow.holds Tryz.pinned (OpenSpec.upto offerMembersSpec)

/-- 'soundservicelaw10.OfferBest', WHERE WHAT IT READS IS OF BULK AT MOST 1048576: true; the input reads as it did. -/
def offerBestUptoRow : OpenClaim := { program := "ytcfmjpnffembpaagreat", sum := "779bede446bea70b69cd4d47aa133019a0978034b3bec34ded5afab0818878dc", func := "soundservice/soundservicelaw10.OfferBest", spec := "offerBest", unfollowed := true, recurses := true, apart := false, narrowed := true }
def OfferBestUptoSaid : Prop := offerBestUptoRow.holds Tryz.pinned (OpenSpec.upto offerBestSpec)

/-- 'soundservicelaw10.OfferCompares', WHERE WHAT IT READS IS OF BULK AT MOST 1048576: true; the input reads as it did. -/
def offerComparesUptoRow : OpenClaim := { program := "ytcfmjpnffembpaagreat", sum := "779bede446bea70b69cd4d47aa133019a0978034b3bec34ded5afab0818878dc", func := "soundservice/soundservicelaw10.OfferCompares", spec := "offerCompares", unfollowed := true, recurses := true, apart := false, narrowed := true }
def OfferComparesUptoSaid : Prop := offerComparesUptoRow.holds Tryz.pinned (OpenSpec.upto offerComparesSpec)

/-- 'soundservicelaw10.OfferBlames', WHERE WHAT IT READS IS OF BULK AT MOST 1048576: true; the input reads as it did. -/
def offerBlamesUptoRow : OpenClaim := { program := "ytcfmjpnffembpaagreat", sum := "779bede446bea70b69cd4d47aa133019a0978034b3bec34ded5afab0818878dc", func := "soundservice/soundservicelaw10.OfferBlames", spec := "offerBlames", unfollowed := true, recurses := true, apart := false, narrowed := true }
def OfferBlamesUptoSaid : Prop := offerBlamesUptoRow.holds Tryz.pinned (OpenSpec.upto offerBlamesSpec)

/-- 'soundservicelaw10.OfferSingles', WHERE WHAT IT READS IS OF BULK AT MOST 1048576: true; the input reads as it did. -/
def offerSinglesUptoRow : OpenClaim := { program := "ytcfmjpnffembpaagreat", sum := "779bede446bea70b69cd4d47aa133019a0978034b3bec34ded5afab0818878dc", func := "soundservice/soundservicelaw10.OfferSingles", spec := "offerSingles", unfollowed := true, recurses := true, apart := false, narrowed := true }
def OfferSinglesUptoSaid : Prop := offerSinglesUptoRow.holds Tryz.pinned (OpenSpec.upto offerSinglesSpec)

/-- 'soundservicelaw10.OfferInside', WHERE WHAT IT READS IS OF BULK AT MOST 1048576: true; the input reads as it did. -/
def offerInsideUptoRow : OpenClaim := { program := "ytcfmjpnffembpaagreat", sum := "779bede446bea70b69cd4d47aa133019a0978034b3bec34ded5afab0818878dc", func := "soundservice/soundservicelaw10.OfferInside", spec := "offerInside", unfollowed := true, recurses := true, apart := false, narrowed := true }
def OfferInsideUptoSaid : Prop := offerInsideUptoRow.holds Tryz.pinned (OpenSpec.upto offerInsideSpec)

end Rows
end Go.Proofs.YtcfmjpnffembpaaGreat
