/-
  No cell of these rows narrows 'for every input' (looked for: loops, veiled, ifaces, maps, wideKeys, modest, calm, conditions, laid).
  DERIVED. THE GIVEN ROWS OF THIS SEAT. 11 by the template 'for every input the law returns true; each argument reads behind the call as it read before'; 0 by the template 'total and deterministic' (their statements: YtnfkcfogmficfaaTotals.lean).
  GIVEN WITH THE SEED: the statements are not yours to turn. If you find one false, say at which input.
  Laid BY PROGRAM, IN A SANDBOX (cutbox-rows.mjs): the forced cells as the released guide's own fill.sh prints them over the translation 683563a17e8aca10… (all of the seat's roots in one cut). By AI agents, Wed Nov 11 2026. No macro, syntax, notation, axiom, sorry.
-/
import Derived.Test.YtnfkcfogmficfaaChecked
import GoSem.Claim
import GoSem.ClaimJoined
import GoSem.ClaimMapViews
import Derived.JoinedTies
import Derived.KernelRfl
namespace Go.Proofs.Ytnfkcfogmficfaa
/- THE CELL 'sum', in the pinned program and in every row, IS THE sha256 OF THE DUMP (.gsa) THAT YtnfkcfogmficfaaProg.lean LOADS. Nothing in Lean hashes anything: it is a label: what it is worth is what the hold of that sum in a sandbox is worth. -/
noncomputable def Try.pinned : Pinned := { name := "ytnfkcfogmficfaa", sum := "683563a17e8aca1050f38c5685d61ef3461103485163bd7d615c03c3ca78c1cd", checked := Try.checked }
namespace Rows
def none {H : Type} : Left H := { results := [], args := [] }

/-- 'soundservicelaw26.LatencyFrames': WHATEVER THE INPUT: true; the input reads as it did. -/
def latencyFramesSpec : ChangeSpec := { name := "latencyFrames", fn := fun _ => fun
  | [d1, d2, d3] => { results := [.lit (.bool true)], args := [d1, d2, d3] }
  | _ => none }
def latencyFramesRow : OpenClaim := { program := "ytnfkcfogmficfaa", sum := "683563a17e8aca1050f38c5685d61ef3461103485163bd7d615c03c3ca78c1cd", func := "soundservice/soundservicelaw26.LatencyFrames", spec := "latencyFrames", apart := false }
def LatencyFramesSaid : Prop := latencyFramesRow.holds Try.pinned (OpenSpec.ofChange latencyFramesSpec)

/-- ITS FALSE NEIGHBOUR: 'it returns false'. Refute it at one input. -/
def latencyFramesWrong : ChangeSpec := { name := "latencyFrames", fn := fun _ => fun
  | [d1, d2, d3] => { results := [.lit (.bool false)], args := [d1, d2, d3] }
  | _ => none }
def LatencyFramesWrongFalsely : Prop := latencyFramesRow.holds Try.pinned (OpenSpec.ofChange latencyFramesWrong)

/-- 'soundservicelaw26.LatencyParts': WHATEVER THE INPUT: true; the input reads as it did. -/
def latencyPartsSpec : ChangeSpec := { name := "latencyParts", fn := fun _ => fun
  | [d1, d2, d3] => { results := [.lit (.bool true)], args := [d1, d2, d3] }
  | _ => none }
def latencyPartsRow : OpenClaim := { program := "ytnfkcfogmficfaa", sum := "683563a17e8aca1050f38c5685d61ef3461103485163bd7d615c03c3ca78c1cd", func := "soundservice/soundservicelaw26.LatencyParts", spec := "latencyParts", apart := false }
def LatencyPartsSaid : Prop := latencyPartsRow.holds Try.pinned (OpenSpec.ofChange latencyPartsSpec)

/-- ITS FALSE NEIGHBOUR: 'it returns false'. Refute it at one input. -/
def latencyPartsWrong : ChangeSpec := { name := "latencyParts", fn := fun _ => fun
  | [d1, d2, d3] => { results := [.lit (.bool false)], args := [d1, d2, d3] }
  | _ => none }
def LatencyPartsWrongFalsely : Prop := latencyPartsRow.holds Try.pinned (OpenSpec.ofChange latencyPartsWrong)

/-- 'soundservicelaw26.LatencyLongest': WHATEVER THE INPUT: true; the input reads as it did. -/
def latencyLongestSpec : ChangeSpec := { name := "latencyLongest", fn := fun _ => fun
  | [d1, d2, d3, d4, d5, d6] => { results := [.lit (.bool true)], args := [d1, d2, d3, d4, d5, d6] }
  | _ => none }
def latencyLongestRow : OpenClaim := { program := "ytnfkcfogmficfaa", sum := "683563a17e8aca1050f38c5685d61ef3461103485163bd7d615c03c3ca78c1cd", func := "soundservice/soundservicelaw26.LatencyLongest", spec := "latencyLongest", unfollowed := true, recurses := true, apart := false }
def LatencyLongestSaid : Prop := latencyLongestRow.holds Try.pinned (OpenSpec.ofChange latencyLongestSpec)

/-- ITS FALSE NEIGHBOUR: 'it returns false'. Refute it at one input. -/
def latencyLongestWrong : ChangeSpec := { name := "latencyLongest", fn := fun _ => fun
  | [d1, d2, d3, d4, d5, d6] => { results := [.lit (.bool false)], args := [d1, d2, d3, d4, d5, d6] }
  | _ => none }
def LatencyLongestWrongFalsely : Prop := latencyLongestRow.holds Try.pinned (OpenSpec.ofChange latencyLongestWrong)

/-- 'soundservicelaw26.LatencyGrows': WHATEVER THE INPUT: true; the input reads as it did. -/
def latencyGrowsSpec : ChangeSpec := { name := "latencyGrows", fn := fun _ => fun
  | [d1, d2, d3] => { results := [.lit (.bool true)], args := [d1, d2, d3] }
  | _ => none }
def latencyGrowsRow : OpenClaim := { program := "ytnfkcfogmficfaa", sum := "683563a17e8aca1050f38c5685d61ef3461103485163bd7d615c03c3ca78c1cd", func := "soundservice/soundservicelaw26.LatencyGrows", spec := "latencyGrows", unfollowed := true, recurses := true, apart := false }
def LatencyGrowsSaid : Prop := latencyGrowsRow.holds Try.pinned (OpenSpec.ofChange latencyGrowsSpec)

/-- ITS FALSE NEIGHBOUR: 'it returns false'. Refute it at one input. -/
def latencyGrowsWrong : ChangeSpec := { name := "latencyGrows", fn := fun _ => fun
  | [d1, d2, d3] => { results := [.lit (.bool false)], args := [d1, d2, d3] }
  | _ => none }
def LatencyGrowsWrongFalsely : Prop := latencyGrowsRow.holds Try.pinned (OpenSpec.ofChange latencyGrowsWrong)

/-- 'soundservicelaw33.PlugComes': WHATEVER THE INPUT: true; the input reads as it did. -/
def plugComesSpec : ChangeSpec := { name := "plugComes", fn := fun _ => fun
  | [d1, d2, d3, d4, d5] => { results := [.lit (.bool true)], args := [d1, d2, d3, d4, d5] }
  | _ => none }
def plugComesRow : OpenClaim := { program := "ytnfkcfogmficfaa", sum := "683563a17e8aca1050f38c5685d61ef3461103485163bd7d615c03c3ca78c1cd", func := "soundservice/soundservicelaw33.PlugComes", spec := "plugComes", inPlace := ["slices.overlaps[soundservice/api.Sighting]"], unfollowed := true, recurses := true, apart := false }
def PlugComesSaid : Prop := plugComesRow.holds Try.pinned (OpenSpec.ofChange plugComesSpec)

/-- ITS FALSE NEIGHBOUR: 'it returns false'. Refute it at one input. -/
def plugComesWrong : ChangeSpec := { name := "plugComes", fn := fun _ => fun
  | [d1, d2, d3, d4, d5] => { results := [.lit (.bool false)], args := [d1, d2, d3, d4, d5] }
  | _ => none }
def PlugComesWrongFalsely : Prop := plugComesRow.holds Try.pinned (OpenSpec.ofChange plugComesWrong)

/-- 'soundservicelaw33.PlugMoves': WHATEVER THE INPUT: true; the input reads as it did. -/
def plugMovesSpec : ChangeSpec := { name := "plugMoves", fn := fun _ => fun
  | [d1, d2, d3, d4, d5, d6] => { results := [.lit (.bool true)], args := [d1, d2, d3, d4, d5, d6] }
  | _ => none }
def plugMovesRow : OpenClaim := { program := "ytnfkcfogmficfaa", sum := "683563a17e8aca1050f38c5685d61ef3461103485163bd7d615c03c3ca78c1cd", func := "soundservice/soundservicelaw33.PlugMoves", spec := "plugMoves", inPlace := ["slices.overlaps[soundservice/api.Sighting]"], unfollowed := true, recurses := true, apart := false }
def PlugMovesSaid : Prop := plugMovesRow.holds Try.pinned (OpenSpec.ofChange plugMovesSpec)

/-- ITS FALSE NEIGHBOUR: 'it returns false'. Refute it at one input. -/
def plugMovesWrong : ChangeSpec := { name := "plugMoves", fn := fun _ => fun
  | [d1, d2, d3, d4, d5, d6] => { results := [.lit (.bool false)], args := [d1, d2, d3, d4, d5, d6] }
  | _ => none }
def PlugMovesWrongFalsely : Prop := plugMovesRow.holds Try.pinned (OpenSpec.ofChange plugMovesWrong)

/-- 'soundservicelaw33.PlugSettles': WHATEVER THE INPUT: true; the input reads as it did. -/
def plugSettlesSpec : ChangeSpec := { name := "plugSettles", fn := fun _ => fun
  | [d1, d2, d3, d4] => { results := [.lit (.bool true)], args := [d1, d2, d3, d4] }
  | _ => none }
def plugSettlesRow : OpenClaim := { program := "ytnfkcfogmficfaa", sum := "683563a17e8aca1050f38c5685d61ef3461103485163bd7d615c03c3ca78c1cd", func := "soundservice/soundservicelaw33.PlugSettles", spec := "plugSettles", inPlace := ["slices.overlaps[soundservice/api.Sighting]"], unfollowed := true, recurses := true, apart := false }
def PlugSettlesSaid : Prop := plugSettlesRow.holds Try.pinned (OpenSpec.ofChange plugSettlesSpec)

/-- ITS FALSE NEIGHBOUR: 'it returns false'. Refute it at one input. -/
def plugSettlesWrong : ChangeSpec := { name := "plugSettles", fn := fun _ => fun
  | [d1, d2, d3, d4] => { results := [.lit (.bool false)], args := [d1, d2, d3, d4] }
  | _ => none }
def PlugSettlesWrongFalsely : Prop := plugSettlesRow.holds Try.pinned (OpenSpec.ofChange plugSettlesWrong)

/-- 'soundservicelaw33.PlugFades': WHATEVER THE INPUT: true; the input reads as it did. -/
def plugFadesSpec : ChangeSpec := { name := "plugFades", fn := fun _ => fun
  | [d1, d2, d3, d4] => { results := [.lit (.bool true)], args := [d1, d2, d3, d4] }
  | _ => none }
def plugFadesRow : OpenClaim := { program := "ytnfkcfogmficfaa", sum := "683563a17e8aca1050f38c5685d61ef3461103485163bd7d615c03c3ca78c1cd", func := "soundservice/soundservicelaw33.PlugFades", spec := "plugFades", inPlace := ["slices.overlaps[soundservice/api.Sighting]"], unfollowed := true, recurses := true, apart := false }
def PlugFadesSaid : Prop := plugFadesRow.holds Try.pinned (OpenSpec.ofChange plugFadesSpec)

/-- ITS FALSE NEIGHBOUR: 'it returns false'. Refute it at one input. -/
def plugFadesWrong : ChangeSpec := { name := "plugFades", fn := fun _ => fun
  | [d1, d2, d3, d4] => { results := [.lit (.bool false)], args := [d1, d2, d3, d4] }
  | _ => none }
def PlugFadesWrongFalsely : Prop := plugFadesRow.holds Try.pinned (OpenSpec.ofChange plugFadesWrong)

/-- 'soundservicelaw36.ClientSteps': WHATEVER THE INPUT: true; the input reads as it did. -/
def clientStepsSpec : ChangeSpec := { name := "clientSteps", fn := fun _ => fun
  | [d1, d2, d3, d4] => { results := [.lit (.bool true)], args := [d1, d2, d3, d4] }
  | _ => none }
def clientStepsRow : OpenClaim := { program := "ytnfkcfogmficfaa", sum := "683563a17e8aca1050f38c5685d61ef3461103485163bd7d615c03c3ca78c1cd", func := "soundservice/soundservicelaw36.ClientSteps", spec := "clientSteps", apart := false }
def ClientStepsSaid : Prop := clientStepsRow.holds Try.pinned (OpenSpec.ofChange clientStepsSpec)

/-- ITS FALSE NEIGHBOUR: 'it returns false'. Refute it at one input. -/
def clientStepsWrong : ChangeSpec := { name := "clientSteps", fn := fun _ => fun
  | [d1, d2, d3, d4] => { results := [.lit (.bool false)], args := [d1, d2, d3, d4] }
  | _ => none }
def ClientStepsWrongFalsely : Prop := clientStepsRow.holds Try.pinned (OpenSpec.ofChange clientStepsWrong)

/-- 'soundservicelaw36.ClientWhole': WHATEVER THE INPUT: true; the input reads as it did. -/
def clientWholeSpec : ChangeSpec := { name := "clientWhole", fn := fun _ => fun
  | [d1, d2] => { results := [.lit (.bool true)], args := [d1, d2] }
  | _ => none }
def clientWholeRow : OpenClaim := { program := "ytnfkcfogmficfaa", sum := "683563a17e8aca1050f38c5685d61ef3461103485163bd7d615c03c3ca78c1cd", func := "soundservice/soundservicelaw36.ClientWhole", spec := "clientWhole", apart := false }
def ClientWholeSaid : Prop := clientWholeRow.holds Try.pinned (OpenSpec.ofChange clientWholeSpec)

/-- ITS FALSE NEIGHBOUR: 'it returns false'. Refute it at one input. -/
def clientWholeWrong : ChangeSpec := { name := "clientWhole", fn := fun _ => fun
  | [d1, d2] => { results := [.lit (.bool false)], args := [d1, d2] }
  | _ => none }
def ClientWholeWrongFalsely : Prop := clientWholeRow.holds Try.pinned (OpenSpec.ofChange clientWholeWrong)

/-- 'soundservicelaw36.ClientBalances': WHATEVER THE INPUT: true; the input reads as it did. -/
def clientBalancesSpec : ChangeSpec := { name := "clientBalances", fn := fun _ => fun
  | [d1, d2] => { results := [.lit (.bool true)], args := [d1, d2] }
  | _ => none }
def clientBalancesRow : OpenClaim := { program := "ytnfkcfogmficfaa", sum := "683563a17e8aca1050f38c5685d61ef3461103485163bd7d615c03c3ca78c1cd", func := "soundservice/soundservicelaw36.ClientBalances", spec := "clientBalances", apart := false }
def ClientBalancesSaid : Prop := clientBalancesRow.holds Try.pinned (OpenSpec.ofChange clientBalancesSpec)

/-- ITS FALSE NEIGHBOUR: 'it returns false'. Refute it at one input. -/
def clientBalancesWrong : ChangeSpec := { name := "clientBalances", fn := fun _ => fun
  | [d1, d2] => { results := [.lit (.bool false)], args := [d1, d2] }
  | _ => none }
def ClientBalancesWrongFalsely : Prop := clientBalancesRow.holds Try.pinned (OpenSpec.ofChange clientBalancesWrong)

/- THE SECOND FORM. 'bulk': how many values and letters a reading holds, each counted each time it is reached (what is shared counts as often as it is met; a slice's spare places count too). A statement '..UptoSaid' is the law's where the arguments, and the package variables that the reading takes, are together of bulk at most 1048576: NARROWER than '..Said'. Prove '..Said' where nothing that the law and all that it calls make is longer than what came in: it says more and counts as full. Else prove '..UptoSaid'. A law counts once. -/
mutual
def uptoBulk {H : Type} : DataW H → Nat
  | .lit (.string bytes) => bytes.length + 1
  | .lit _ => 1
  | .nil => 1
  | .ptr d => uptoBulk d + 1
  | .slice elems spare => uptoBulkAll elems + uptoBulkAll spare + 1
  | .agg parts => uptoBulkAll parts + 1
  | .iface _ d => uptoBulk d + 1
  | .map entries => uptoBulkEntries entries + 1
  | .held _ => 1
def uptoBulkAll {H : Type} : List (DataW H) → Nat
  | [] => 0
  | d :: r => uptoBulk d + uptoBulkAll r
def uptoBulkEntries {H : Type} : List (Lit × DataW H) → Nat
  | [] => 0
  | x :: r => uptoBulkEntry x + uptoBulkEntries r
def uptoBulkEntry {H : Type} : Lit × DataW H → Nat
  | (.string bytes, d) => bytes.length + uptoBulk d + 1
  | (_, d) => uptoBulk d + 1
 end
def uptoSmall : (H : Type) → List (DataW H) → Bool := fun _ ds => decide (uptoBulkAll ds ≤ 1048576)
def OpenSpec.upto (s : _root_.Go.ChangeSpec) : _root_.Go.OpenSpec := { _root_.Go.OpenSpec.ofChange s with cond := some uptoSmall }

/-- 'soundservicelaw26.LatencyFrames', WHERE WHAT IT READS IS OF BULK AT MOST 1048576: true; the input reads as it did. -/
def latencyFramesUptoRow : OpenClaim := { program := "ytnfkcfogmficfaa", sum := "683563a17e8aca1050f38c5685d61ef3461103485163bd7d615c03c3ca78c1cd", func := "soundservice/soundservicelaw26.LatencyFrames", spec := "latencyFrames", apart := false, narrowed := true }
def LatencyFramesUptoSaid : Prop := latencyFramesUptoRow.holds Try.pinned (OpenSpec.upto latencyFramesSpec)

/-- 'soundservicelaw26.LatencyParts', WHERE WHAT IT READS IS OF BULK AT MOST 1048576: true; the input reads as it did. -/
def latencyPartsUptoRow : OpenClaim := { program := "ytnfkcfogmficfaa", sum := "683563a17e8aca1050f38c5685d61ef3461103485163bd7d615c03c3ca78c1cd", func := "soundservice/soundservicelaw26.LatencyParts", spec := "latencyParts", apart := false, narrowed := true }
def LatencyPartsUptoSaid : Prop := latencyPartsUptoRow.holds Try.pinned (OpenSpec.upto latencyPartsSpec)

/-- 'soundservicelaw26.LatencyLongest', WHERE WHAT IT READS IS OF BULK AT MOST 1048576: true; the input reads as it did. -/
def latencyLongestUptoRow : OpenClaim := { program := "ytnfkcfogmficfaa", sum := "683563a17e8aca1050f38c5685d61ef3461103485163bd7d615c03c3ca78c1cd", func := "soundservice/soundservicelaw26.LatencyLongest", spec := "latencyLongest", unfollowed := true, recurses := true, apart := false, narrowed := true }
def LatencyLongestUptoSaid : Prop := latencyLongestUptoRow.holds Try.pinned (OpenSpec.upto latencyLongestSpec)

/-- 'soundservicelaw26.LatencyGrows', WHERE WHAT IT READS IS OF BULK AT MOST 1048576: true; the input reads as it did. -/
def latencyGrowsUptoRow : OpenClaim := { program := "ytnfkcfogmficfaa", sum := "683563a17e8aca1050f38c5685d61ef3461103485163bd7d615c03c3ca78c1cd", func := "soundservice/soundservicelaw26.LatencyGrows", spec := "latencyGrows", unfollowed := true, recurses := true, apart := false, narrowed := true }
def LatencyGrowsUptoSaid : Prop := latencyGrowsUptoRow.holds Try.pinned (OpenSpec.upto latencyGrowsSpec)

/-- 'soundservicelaw33.PlugComes', WHERE WHAT IT READS IS OF BULK AT MOST 1048576: true; the input reads as it did. -/
def plugComesUptoRow : OpenClaim := { program := "ytnfkcfogmficfaa", sum := "683563a17e8aca1050f38c5685d61ef3461103485163bd7d615c03c3ca78c1cd", func := "soundservice/soundservicelaw33.PlugComes", spec := "plugComes", inPlace := ["slices.overlaps[soundservice/api.Sighting]"], unfollowed := true, recurses := true, apart := false, narrowed := true }
def PlugComesUptoSaid : Prop := plugComesUptoRow.holds Try.pinned (OpenSpec.upto plugComesSpec)

/-- 'soundservicelaw33.PlugMoves', WHERE WHAT IT READS IS OF BULK AT MOST 1048576: true; the input reads as it did. -/
def plugMovesUptoRow : OpenClaim := { program := "ytnfkcfogmficfaa", sum := "683563a17e8aca1050f38c5685d61ef3461103485163bd7d615c03c3ca78c1cd", func := "soundservice/soundservicelaw33.PlugMoves", spec := "plugMoves", inPlace := ["slices.overlaps[soundservice/api.Sighting]"], unfollowed := true, recurses := true, apart := false, narrowed := true }
def PlugMovesUptoSaid : Prop := plugMovesUptoRow.holds Try.pinned (OpenSpec.upto plugMovesSpec)

/-- 'soundservicelaw33.PlugSettles', WHERE WHAT IT READS IS OF BULK AT MOST 1048576: true; the input reads as it did. -/
def plugSettlesUptoRow : OpenClaim := { program := "ytnfkcfogmficfaa", sum := "683563a17e8aca1050f38c5685d61ef3461103485163bd7d615c03c3ca78c1cd", func := "soundservice/soundservicelaw33.PlugSettles", spec := "plugSettles", inPlace := ["slices.overlaps[soundservice/api.Sighting]"], unfollowed := true, recurses := true, apart := false, narrowed := true }
def PlugSettlesUptoSaid : Prop := plugSettlesUptoRow.holds Try.pinned (OpenSpec.upto plugSettlesSpec)

/-- 'soundservicelaw33.PlugFades', WHERE WHAT IT READS IS OF BULK AT MOST 1048576: true; the input reads as it did. -/
def plugFadesUptoRow : OpenClaim := { program := "ytnfkcfogmficfaa", sum := "683563a17e8aca1050f38c5685d61ef3461103485163bd7d615c03c3ca78c1cd", func := "soundservice/soundservicelaw33.PlugFades", spec := "plugFades", inPlace := ["slices.overlaps[soundservice/api.Sighting]"], unfollowed := true, recurses := true, apart := false, narrowed := true }
def PlugFadesUptoSaid : Prop := plugFadesUptoRow.holds Try.pinned (OpenSpec.upto plugFadesSpec)

/-- 'soundservicelaw36.ClientSteps', WHERE WHAT IT READS IS OF BULK AT MOST 1048576: true; the input reads as it did. -/
def clientStepsUptoRow : OpenClaim := { program := "ytnfkcfogmficfaa", sum := "683563a17e8aca1050f38c5685d61ef3461103485163bd7d615c03c3ca78c1cd", func := "soundservice/soundservicelaw36.ClientSteps", spec := "clientSteps", apart := false, narrowed := true }
def ClientStepsUptoSaid : Prop := clientStepsUptoRow.holds Try.pinned (OpenSpec.upto clientStepsSpec)

/-- 'soundservicelaw36.ClientWhole', WHERE WHAT IT READS IS OF BULK AT MOST 1048576: true; the input reads as it did. -/
def clientWholeUptoRow : OpenClaim := { program := "ytnfkcfogmficfaa", sum := "683563a17e8aca1050f38c5685d61ef3461103485163bd7d615c03c3ca78c1cd", func := "soundservice/soundservicelaw36.ClientWhole", spec := "clientWhole", apart := false, narrowed := true }
def ClientWholeUptoSaid : Prop := clientWholeUptoRow.holds Try.pinned (OpenSpec.upto clientWholeSpec)

/-- 'soundservicelaw36.ClientBalances', WHERE WHAT IT READS IS OF BULK AT MOST 1048576: true; the input reads as it did. -/
def clientBalancesUptoRow : OpenClaim := { program := "ytnfkcfogmficfaa", sum := "683563a17e8aca1050f38c5685d61ef3461103485163bd7d615c03c3ca78c1cd", func := "soundservice/soundservicelaw36.ClientBalances", spec := "clientBalances", apart := false, narrowed := true }
def ClientBalancesUptoSaid : Prop := clientBalancesUptoRow.holds Try.pinned (OpenSpec.upto clientBalancesSpec)

end Rows
end Go.Proofs.Ytnfkcfogmficfaa
