/-
  No cell of these rows narrows 'for every input' (looked for: loops, veiled, ifaces, maps, wideKeys, modest, calm, conditions, laid).
  DERIVED. THE GIVEN ROWS OF THIS SEAT. 15 by the template 'for every input the law returns true; each argument reads behind the call as it read before'; 0 by the template 'total and deterministic' (their statements: YtnmenoocpbdekaaTotals.lean).
  GIVEN WITH THE SEED: the statements are not yours to turn. If you find one false, say at which input.
  Laid BY PROGRAM, IN A SANDBOX (cutbox-rows.mjs): the forced cells as the released guide's own fill.sh prints them over the translation 598056acad8bfc7e… (all of the seat's roots in one cut). By AI agents, Wed Nov 11 2026. No macro, syntax, notation, axiom, sorry.
-/
import Derived.Test.YtnmenoocpbdekaaChecked
import GoSem.Claim
import GoSem.ClaimJoined
import GoSem.ClaimMapViews
import Derived.JoinedTies
import Derived.KernelRfl
namespace Go.Proofs.Ytnmenoocpbdekaa
/- THE CELL 'sum', in the pinned program and in every row, IS THE sha256 OF THE DUMP (.gsa) THAT YtnmenoocpbdekaaProg.lean LOADS. Nothing in Lean hashes anything: it is a label: what it is worth is what the hold of that sum in a sandbox is worth. -/
noncomputable def Try.pinned : Pinned := { name := "ytnmenoocpbdekaa", sum := "598056acad8bfc7e83284e074e4059b1871f219aa2bfbbd5d84600e68012592b", checked := Try.checked }
namespace Rows
def none {H : Type} : Left H := { results := [], args := [] }

/-- 'soundservicelaw05.GainRuns': WHATEVER THE INPUT: true; the input reads as it did. -/
def gainRunsSpec : ChangeSpec := { name := "gainRuns", fn := fun _ => fun
  | [d1, d2, d3] => { results := [.lit (.bool true)], args := [d1, d2, d3] }
  | _ => none }
def gainRunsRow : OpenClaim := { program := "ytnmenoocpbdekaa", sum := "598056acad8bfc7e83284e074e4059b1871f219aa2bfbbd5d84600e68012592b", func := "soundservice/soundservicelaw05.GainRuns", spec := "gainRuns", apart := false }
def GainRunsSaid : Prop := gainRunsRow.holds Try.pinned (OpenSpec.ofChange gainRunsSpec)

/-- ITS FALSE NEIGHBOUR: 'it returns false'. Refute it at one input. -/
def gainRunsWrong : ChangeSpec := { name := "gainRuns", fn := fun _ => fun
  | [d1, d2, d3] => { results := [.lit (.bool false)], args := [d1, d2, d3] }
  | _ => none }
def GainRunsWrongFalsely : Prop := gainRunsRow.holds Try.pinned (OpenSpec.ofChange gainRunsWrong)

/-- 'soundservicelaw05.GainPieces': WHATEVER THE INPUT: true; the input reads as it did. -/
def gainPiecesSpec : ChangeSpec := { name := "gainPieces", fn := fun _ => fun
  | [d1, d2] => { results := [.lit (.bool true)], args := [d1, d2] }
  | _ => none }
def gainPiecesRow : OpenClaim := { program := "ytnmenoocpbdekaa", sum := "598056acad8bfc7e83284e074e4059b1871f219aa2bfbbd5d84600e68012592b", func := "soundservice/soundservicelaw05.GainPieces", spec := "gainPieces", apart := false }
def GainPiecesSaid : Prop := gainPiecesRow.holds Try.pinned (OpenSpec.ofChange gainPiecesSpec)

/-- ITS FALSE NEIGHBOUR: 'it returns false'. Refute it at one input. -/
def gainPiecesWrong : ChangeSpec := { name := "gainPieces", fn := fun _ => fun
  | [d1, d2] => { results := [.lit (.bool false)], args := [d1, d2] }
  | _ => none }
def GainPiecesWrongFalsely : Prop := gainPiecesRow.holds Try.pinned (OpenSpec.ofChange gainPiecesWrong)

/-- 'soundservicelaw08.LimiterRuns': WHATEVER THE INPUT: true; the input reads as it did. -/
def limiterRunsSpec : ChangeSpec := { name := "limiterRuns", fn := fun _ => fun
  | [d1, d2, d3, d4, d5, d6] => { results := [.lit (.bool true)], args := [d1, d2, d3, d4, d5, d6] }
  | _ => none }
def limiterRunsRow : OpenClaim := { program := "ytnmenoocpbdekaa", sum := "598056acad8bfc7e83284e074e4059b1871f219aa2bfbbd5d84600e68012592b", func := "soundservice/soundservicelaw08.LimiterRuns", spec := "limiterRuns", unfollowed := true, recurses := true, apart := false }
def LimiterRunsSaid : Prop := limiterRunsRow.holds Try.pinned (OpenSpec.ofChange limiterRunsSpec)

/-- ITS FALSE NEIGHBOUR: 'it returns false'. Refute it at one input. -/
def limiterRunsWrong : ChangeSpec := { name := "limiterRuns", fn := fun _ => fun
  | [d1, d2, d3, d4, d5, d6] => { results := [.lit (.bool false)], args := [d1, d2, d3, d4, d5, d6] }
  | _ => none }
def LimiterRunsWrongFalsely : Prop := limiterRunsRow.holds Try.pinned (OpenSpec.ofChange limiterRunsWrong)

/-- 'soundservicelaw17.RingMoves': WHATEVER THE INPUT: true; the input reads as it did. -/
def ringMovesSpec : ChangeSpec := { name := "ringMoves", fn := fun _ => fun
  | [d1, d2, d3, d4, d5, d6] => { results := [.lit (.bool true)], args := [d1, d2, d3, d4, d5, d6] }
  | _ => none }
def ringMovesRow : OpenClaim := { program := "ytnmenoocpbdekaa", sum := "598056acad8bfc7e83284e074e4059b1871f219aa2bfbbd5d84600e68012592b", func := "soundservice/soundservicelaw17.RingMoves", spec := "ringMoves", apart := false }
def RingMovesSaid : Prop := ringMovesRow.holds Try.pinned (OpenSpec.ofChange ringMovesSpec)

/-- ITS FALSE NEIGHBOUR: 'it returns false'. Refute it at one input. -/
def ringMovesWrong : ChangeSpec := { name := "ringMoves", fn := fun _ => fun
  | [d1, d2, d3, d4, d5, d6] => { results := [.lit (.bool false)], args := [d1, d2, d3, d4, d5, d6] }
  | _ => none }
def RingMovesWrongFalsely : Prop := ringMovesRow.holds Try.pinned (OpenSpec.ofChange ringMovesWrong)

/-- 'soundservicelaw07.MatrixApplies': WHATEVER THE INPUT: true; the input reads as it did. -/
def matrixAppliesSpec : ChangeSpec := { name := "matrixApplies", fn := fun _ => fun
  | [d1, d2, d3, d4] => { results := [.lit (.bool true)], args := [d1, d2, d3, d4] }
  | _ => none }
def matrixAppliesRow : OpenClaim := { program := "ytnmenoocpbdekaa", sum := "598056acad8bfc7e83284e074e4059b1871f219aa2bfbbd5d84600e68012592b", func := "soundservice/soundservicelaw07.MatrixApplies", spec := "matrixApplies", apart := false }
def MatrixAppliesSaid : Prop := matrixAppliesRow.holds Try.pinned (OpenSpec.ofChange matrixAppliesSpec)

/-- ITS FALSE NEIGHBOUR: 'it returns false'. Refute it at one input. -/
def matrixAppliesWrong : ChangeSpec := { name := "matrixApplies", fn := fun _ => fun
  | [d1, d2, d3, d4] => { results := [.lit (.bool false)], args := [d1, d2, d3, d4] }
  | _ => none }
def MatrixAppliesWrongFalsely : Prop := matrixAppliesRow.holds Try.pinned (OpenSpec.ofChange matrixAppliesWrong)

/-- 'soundservicelaw07.MatrixMuls': WHATEVER THE INPUT: true; the input reads as it did. -/
def matrixMulsSpec : ChangeSpec := { name := "matrixMuls", fn := fun _ => fun
  | [d1, d2, d3] => { results := [.lit (.bool true)], args := [d1, d2, d3] }
  | _ => none }
def matrixMulsRow : OpenClaim := { program := "ytnmenoocpbdekaa", sum := "598056acad8bfc7e83284e074e4059b1871f219aa2bfbbd5d84600e68012592b", func := "soundservice/soundservicelaw07.MatrixMuls", spec := "matrixMuls", apart := false }
def MatrixMulsSaid : Prop := matrixMulsRow.holds Try.pinned (OpenSpec.ofChange matrixMulsSpec)

/-- ITS FALSE NEIGHBOUR: 'it returns false'. Refute it at one input. -/
def matrixMulsWrong : ChangeSpec := { name := "matrixMuls", fn := fun _ => fun
  | [d1, d2, d3] => { results := [.lit (.bool false)], args := [d1, d2, d3] }
  | _ => none }
def MatrixMulsWrongFalsely : Prop := matrixMulsRow.holds Try.pinned (OpenSpec.ofChange matrixMulsWrong)

/-- 'soundservicelaw07.MatrixDefaults': WHATEVER THE INPUT: true; the input reads as it did. -/
def matrixDefaultsSpec : ChangeSpec := { name := "matrixDefaults", fn := fun _ => fun
  | [d1, d2] => { results := [.lit (.bool true)], args := [d1, d2] }
  | _ => none }
def matrixDefaultsRow : OpenClaim := { program := "ytnmenoocpbdekaa", sum := "598056acad8bfc7e83284e074e4059b1871f219aa2bfbbd5d84600e68012592b", func := "soundservice/soundservicelaw07.MatrixDefaults", spec := "matrixDefaults", apart := false }
def MatrixDefaultsSaid : Prop := matrixDefaultsRow.holds Try.pinned (OpenSpec.ofChange matrixDefaultsSpec)

/-- ITS FALSE NEIGHBOUR: 'it returns false'. Refute it at one input. -/
def matrixDefaultsWrong : ChangeSpec := { name := "matrixDefaults", fn := fun _ => fun
  | [d1, d2] => { results := [.lit (.bool false)], args := [d1, d2] }
  | _ => none }
def MatrixDefaultsWrongFalsely : Prop := matrixDefaultsRow.holds Try.pinned (OpenSpec.ofChange matrixDefaultsWrong)

/-- 'soundservicelaw07.MatrixIdentity': WHATEVER THE INPUT: true; the input reads as it did. -/
def matrixIdentitySpec : ChangeSpec := { name := "matrixIdentity", fn := fun _ => fun
  | [d] => { results := [.lit (.bool true)], args := [d] }
  | _ => none }
def matrixIdentityRow : OpenClaim := { program := "ytnmenoocpbdekaa", sum := "598056acad8bfc7e83284e074e4059b1871f219aa2bfbbd5d84600e68012592b", func := "soundservice/soundservicelaw07.MatrixIdentity", spec := "matrixIdentity", apart := false }
def MatrixIdentitySaid : Prop := matrixIdentityRow.holds Try.pinned (OpenSpec.ofChange matrixIdentitySpec)

/-- ITS FALSE NEIGHBOUR: 'it returns false'. Refute it at one input. -/
def matrixIdentityWrong : ChangeSpec := { name := "matrixIdentity", fn := fun _ => fun
  | [d] => { results := [.lit (.bool false)], args := [d] }
  | _ => none }
def MatrixIdentityWrongFalsely : Prop := matrixIdentityRow.holds Try.pinned (OpenSpec.ofChange matrixIdentityWrong)

/-- 'soundservicelaw07.MatrixOrder': WHATEVER THE INPUT: true; the input reads as it did. -/
def matrixOrderSpec : ChangeSpec := { name := "matrixOrder", fn := fun _ => fun
  | [d] => { results := [.lit (.bool true)], args := [d] }
  | _ => none }
def matrixOrderRow : OpenClaim := { program := "ytnmenoocpbdekaa", sum := "598056acad8bfc7e83284e074e4059b1871f219aa2bfbbd5d84600e68012592b", func := "soundservice/soundservicelaw07.MatrixOrder", spec := "matrixOrder", apart := false }
def MatrixOrderSaid : Prop := matrixOrderRow.holds Try.pinned (OpenSpec.ofChange matrixOrderSpec)

/-- ITS FALSE NEIGHBOUR: 'it returns false'. Refute it at one input. -/
def matrixOrderWrong : ChangeSpec := { name := "matrixOrder", fn := fun _ => fun
  | [d] => { results := [.lit (.bool false)], args := [d] }
  | _ => none }
def MatrixOrderWrongFalsely : Prop := matrixOrderRow.holds Try.pinned (OpenSpec.ofChange matrixOrderWrong)

/-- 'soundservicelaw07.MatrixColumns': WHATEVER THE INPUT: true; the input reads as it did. -/
def matrixColumnsSpec : ChangeSpec := { name := "matrixColumns", fn := fun _ => fun
  | [d1, d2, d3, d4] => { results := [.lit (.bool true)], args := [d1, d2, d3, d4] }
  | _ => none }
def matrixColumnsRow : OpenClaim := { program := "ytnmenoocpbdekaa", sum := "598056acad8bfc7e83284e074e4059b1871f219aa2bfbbd5d84600e68012592b", func := "soundservice/soundservicelaw07.MatrixColumns", spec := "matrixColumns", apart := false }
def MatrixColumnsSaid : Prop := matrixColumnsRow.holds Try.pinned (OpenSpec.ofChange matrixColumnsSpec)

/-- ITS FALSE NEIGHBOUR: 'it returns false'. Refute it at one input. -/
def matrixColumnsWrong : ChangeSpec := { name := "matrixColumns", fn := fun _ => fun
  | [d1, d2, d3, d4] => { results := [.lit (.bool false)], args := [d1, d2, d3, d4] }
  | _ => none }
def MatrixColumnsWrongFalsely : Prop := matrixColumnsRow.holds Try.pinned (OpenSpec.ofChange matrixColumnsWrong)

/-- 'soundservicelaw23.MixtureSums': WHATEVER THE INPUT: true; the input reads as it did. -/
def mixtureSumsSpec : ChangeSpec := { name := "mixtureSums", fn := fun _ => fun
  | [d1, d2, d3, d4, d5] => { results := [.lit (.bool true)], args := [d1, d2, d3, d4, d5] }
  | _ => none }
def mixtureSumsRow : OpenClaim := { program := "ytnmenoocpbdekaa", sum := "598056acad8bfc7e83284e074e4059b1871f219aa2bfbbd5d84600e68012592b", func := "soundservice/soundservicelaw23.MixtureSums", spec := "mixtureSums", unfollowed := true, recurses := true, apart := false }
def MixtureSumsSaid : Prop := mixtureSumsRow.holds Try.pinned (OpenSpec.ofChange mixtureSumsSpec)

/-- ITS FALSE NEIGHBOUR: 'it returns false'. Refute it at one input. -/
def mixtureSumsWrong : ChangeSpec := { name := "mixtureSums", fn := fun _ => fun
  | [d1, d2, d3, d4, d5] => { results := [.lit (.bool false)], args := [d1, d2, d3, d4, d5] }
  | _ => none }
def MixtureSumsWrongFalsely : Prop := mixtureSumsRow.holds Try.pinned (OpenSpec.ofChange mixtureSumsWrong)

/-- 'soundservicelaw23.MixtureOrder': WHATEVER THE INPUT: true; the input reads as it did. -/
def mixtureOrderSpec : ChangeSpec := { name := "mixtureOrder", fn := fun _ => fun
  | [d1, d2] => { results := [.lit (.bool true)], args := [d1, d2] }
  | _ => none }
def mixtureOrderRow : OpenClaim := { program := "ytnmenoocpbdekaa", sum := "598056acad8bfc7e83284e074e4059b1871f219aa2bfbbd5d84600e68012592b", func := "soundservice/soundservicelaw23.MixtureOrder", spec := "mixtureOrder", unfollowed := true, recurses := true, apart := false }
def MixtureOrderSaid : Prop := mixtureOrderRow.holds Try.pinned (OpenSpec.ofChange mixtureOrderSpec)

/-- ITS FALSE NEIGHBOUR: 'it returns false'. Refute it at one input. -/
def mixtureOrderWrong : ChangeSpec := { name := "mixtureOrder", fn := fun _ => fun
  | [d1, d2] => { results := [.lit (.bool false)], args := [d1, d2] }
  | _ => none }
def MixtureOrderWrongFalsely : Prop := mixtureOrderRow.holds Try.pinned (OpenSpec.ofChange mixtureOrderWrong)

/-- 'soundservicelaw23.MixturePieces': WHATEVER THE INPUT: true; the input reads as it did. -/
def mixturePiecesSpec : ChangeSpec := { name := "mixturePieces", fn := fun _ => fun
  | [d1, d2] => { results := [.lit (.bool true)], args := [d1, d2] }
  | _ => none }
def mixturePiecesRow : OpenClaim := { program := "ytnmenoocpbdekaa", sum := "598056acad8bfc7e83284e074e4059b1871f219aa2bfbbd5d84600e68012592b", func := "soundservice/soundservicelaw23.MixturePieces", spec := "mixturePieces", unfollowed := true, recurses := true, apart := false }
def MixturePiecesSaid : Prop := mixturePiecesRow.holds Try.pinned (OpenSpec.ofChange mixturePiecesSpec)

/-- ITS FALSE NEIGHBOUR: 'it returns false'. Refute it at one input. -/
def mixturePiecesWrong : ChangeSpec := { name := "mixturePieces", fn := fun _ => fun
  | [d1, d2] => { results := [.lit (.bool false)], args := [d1, d2] }
  | _ => none }
def MixturePiecesWrongFalsely : Prop := mixturePiecesRow.holds Try.pinned (OpenSpec.ofChange mixturePiecesWrong)

/-- 'soundservicelaw23.MixtureAlone': WHATEVER THE INPUT: true; the input reads as it did. -/
def mixtureAloneSpec : ChangeSpec := { name := "mixtureAlone", fn := fun _ => fun
  | [d] => { results := [.lit (.bool true)], args := [d] }
  | _ => none }
def mixtureAloneRow : OpenClaim := { program := "ytnmenoocpbdekaa", sum := "598056acad8bfc7e83284e074e4059b1871f219aa2bfbbd5d84600e68012592b", func := "soundservice/soundservicelaw23.MixtureAlone", spec := "mixtureAlone", unfollowed := true, recurses := true, apart := false }
def MixtureAloneSaid : Prop := mixtureAloneRow.holds Try.pinned (OpenSpec.ofChange mixtureAloneSpec)

/-- ITS FALSE NEIGHBOUR: 'it returns false'. Refute it at one input. -/
def mixtureAloneWrong : ChangeSpec := { name := "mixtureAlone", fn := fun _ => fun
  | [d] => { results := [.lit (.bool false)], args := [d] }
  | _ => none }
def MixtureAloneWrongFalsely : Prop := mixtureAloneRow.holds Try.pinned (OpenSpec.ofChange mixtureAloneWrong)

/-- 'soundservicelaw23.MixtureTurns': WHATEVER THE INPUT: true; the input reads as it did. -/
def mixtureTurnsSpec : ChangeSpec := { name := "mixtureTurns", fn := fun _ => fun
  | [d1, d2] => { results := [.lit (.bool true)], args := [d1, d2] }
  | _ => none }
def mixtureTurnsRow : OpenClaim := { program := "ytnmenoocpbdekaa", sum := "598056acad8bfc7e83284e074e4059b1871f219aa2bfbbd5d84600e68012592b", func := "soundservice/soundservicelaw23.MixtureTurns", spec := "mixtureTurns", unfollowed := true, recurses := true, apart := false }
def MixtureTurnsSaid : Prop := mixtureTurnsRow.holds Try.pinned (OpenSpec.ofChange mixtureTurnsSpec)

/-- ITS FALSE NEIGHBOUR: 'it returns false'. Refute it at one input. -/
def mixtureTurnsWrong : ChangeSpec := { name := "mixtureTurns", fn := fun _ => fun
  | [d1, d2] => { results := [.lit (.bool false)], args := [d1, d2] }
  | _ => none }
def MixtureTurnsWrongFalsely : Prop := mixtureTurnsRow.holds Try.pinned (OpenSpec.ofChange mixtureTurnsWrong)

/- THE SECOND FORM. 'bulk': how many values and letters a reading holds, each counted each time it is reached (what is shared counts as often as it is met; a slice's spare places count too). A statement '..UptoSaid' is the law's where the arguments, and the package variables that the reading takes, are together of bulk at most 1048576: NARROWER than '..Said'. Prove '..Said' where nothing that the law and all that it calls make is longer than what came in: it says more and counts as full. Else prove '..UptoSaid'. A law counts once. -/
mutual
def uptoBulk {H : Type} : DataW H → Nat
  | .lit (.string bytes) => bytes.length + 1
  | .lit _ => 1
  | .nil => 1
  | .ptr d => uptoBulk d + 1
  | .slice elems spare => uptoBulkAll elems + uptoBulkAll spare + 1
  | .agg parts => uptoBulkAll parts + 1
  | .iface _ d => uptoBulk d + 1
  | .map entries => uptoBulkEntries entries + 1
  | .held _ => 1
def uptoBulkAll {H : Type} : List (DataW H) → Nat
  | [] => 0
  | d :: r => uptoBulk d + uptoBulkAll r
def uptoBulkEntries {H : Type} : List (Lit × DataW H) → Nat
  | [] => 0
  | x :: r => uptoBulkEntry x + uptoBulkEntries r
def uptoBulkEntry {H : Type} : Lit × DataW H → Nat
  | (.string bytes, d) => bytes.length + uptoBulk d + 1
  | (_, d) => uptoBulk d + 1
 end
def uptoSmall : (H : Type) → List (DataW H) → Bool := fun _ ds => decide (uptoBulkAll ds ≤ 1048576)
def OpenSpec.upto (s : _root_.Go.ChangeSpec) : _root_.Go.OpenSpec := { _root_.Go.OpenSpec.ofChange s with cond := some uptoSmall }

/-- 'soundservicelaw05.GainRuns', WHERE WHAT IT READS IS OF BULK AT MOST 1048576: true; the input reads as it did. -/
def gainRunsUptoRow : OpenClaim := { program := "ytnmenoocpbdekaa", sum := "598056acad8bfc7e83284e074e4059b1871f219aa2bfbbd5d84600e68012592b", func := "soundservice/soundservicelaw05.GainRuns", spec := "gainRuns", apart := false, narrowed := true }
def GainRunsUptoSaid : Prop := gainRunsUptoRow.holds Try.pinned (OpenSpec.upto gainRunsSpec)

/-- 'soundservicelaw05.GainPieces', WHERE WHAT IT READS IS OF BULK AT MOST 1048576: true; the input reads as it did. -/
def gainPiecesUptoRow : OpenClaim := { program := "ytnmenoocpbdekaa", sum := "598056acad8bfc7e83284e074e4059b1871f219aa2bfbbd5d84600e68012592b", func := "soundservice/soundservicelaw05.GainPieces", spec := "gainPieces", apart := false, narrowed := true }
def GainPiecesUptoSaid : Prop := gainPiecesUptoRow.holds Try.pinned (OpenSpec.upto gainPiecesSpec)

/-- 'soundservicelaw08.LimiterRuns', WHERE WHAT IT READS IS OF BULK AT MOST 1048576: true; the input reads as it did. -/
def limiterRunsUptoRow : OpenClaim := { program := "ytnmenoocpbdekaa", sum := "598056acad8bfc7e83284e074e4059b1871f219aa2bfbbd5d84600e68012592b", func := "soundservice/soundservicelaw08.LimiterRuns", spec := "limiterRuns", unfollowed := true, recurses := true, apart := false, narrowed := true }
def LimiterRunsUptoSaid : Prop := limiterRunsUptoRow.holds Try.pinned (OpenSpec.upto limiterRunsSpec)

/-- 'soundservicelaw17.RingMoves', WHERE WHAT IT READS IS OF BULK AT MOST 1048576: true; the input reads as it did. -/
def ringMovesUptoRow : OpenClaim := { program := "ytnmenoocpbdekaa", sum := "598056acad8bfc7e83284e074e4059b1871f219aa2bfbbd5d84600e68012592b", func := "soundservice/soundservicelaw17.RingMoves", spec := "ringMoves", apart := false, narrowed := true }
def RingMovesUptoSaid : Prop := ringMovesUptoRow.holds Try.pinned (OpenSpec.upto ringMovesSpec)

/-- 'soundservicelaw07.MatrixApplies', WHERE WHAT IT READS IS OF BULK AT MOST 1048576: true; the input reads as it did. -/
def matrixAppliesUptoRow : OpenClaim := { program := "ytnmenoocpbdekaa", sum := "598056acad8bfc7e83284e074e4059b1871f219aa2bfbbd5d84600e68012592b", func := "soundservice/soundservicelaw07.MatrixApplies", spec := "matrixApplies", apart := false, narrowed := true }
def MatrixAppliesUptoSaid : Prop := matrixAppliesUptoRow.holds Try.pinned (OpenSpec.upto matrixAppliesSpec)

/-- 'soundservicelaw07.MatrixMuls', WHERE WHAT IT READS IS OF BULK AT MOST 1048576: true; the input reads as it did. -/
def matrixMulsUptoRow : OpenClaim := { program := "ytnmenoocpbdekaa", sum := "598056acad8bfc7e83284e074e4059b1871f219aa2bfbbd5d84600e68012592b", func := "soundservice/soundservicelaw07.MatrixMuls", spec := "matrixMuls", apart := false, narrowed := true }
def MatrixMulsUptoSaid : Prop := matrixMulsUptoRow.holds Try.pinned (OpenSpec.upto matrixMulsSpec)

/-- 'soundservicelaw07.MatrixDefaults', WHERE WHAT IT READS IS OF BULK AT MOST 1048576: true; the input reads as it did. -/
def matrixDefaultsUptoRow : OpenClaim := { program := "ytnmenoocpbdekaa", sum := "598056acad8bfc7e83284e074e4059b1871f219aa2bfbbd5d84600e68012592b", func := "soundservice/soundservicelaw07.MatrixDefaults", spec := "matrixDefaults", apart := false, narrowed := true }
def MatrixDefaultsUptoSaid : Prop := matrixDefaultsUptoRow.holds Try.pinned (OpenSpec.upto matrixDefaultsSpec)

/-- 'soundservicelaw07.MatrixIdentity', WHERE WHAT IT READS IS OF BULK AT MOST 1048576: true; the input reads as it did. -/
def matrixIdentityUptoRow : OpenClaim := { program := "ytnmenoocpbdekaa", sum := "598056acad8bfc7e83284e074e4059b1871f219aa2bfbbd5d84600e68012592b", func := "soundservice/soundservicelaw07.MatrixIdentity", spec := "matrixIdentity", apart := false, narrowed := true }
def MatrixIdentityUptoSaid : Prop := matrixIdentityUptoRow.holds Try.pinned (OpenSpec.upto matrixIdentitySpec)

/-- 'soundservicelaw07.MatrixOrder', WHERE WHAT IT READS IS OF BULK AT MOST 1048576: true; the input reads as it did. -/
def matrixOrderUptoRow : OpenClaim := { program := "ytnmenoocpbdekaa", sum := "598056acad8bfc7e83284e074e4059b1871f219aa2bfbbd5d84600e68012592b", func := "soundservice/soundservicelaw07.MatrixOrder", spec := "matrixOrder", apart := false, narrowed := true }
def MatrixOrderUptoSaid : Prop := matrixOrderUptoRow.holds Try.pinned (OpenSpec.upto matrixOrderSpec)

/-- 'soundservicelaw07.MatrixColumns', WHERE WHAT IT READS IS OF BULK AT MOST 1048576: true; the input reads as it did. -/
def matrixColumnsUptoRow : OpenClaim := { program := "ytnmenoocpbdekaa", sum := "598056acad8bfc7e83284e074e4059b1871f219aa2bfbbd5d84600e68012592b", func := "soundservice/soundservicelaw07.MatrixColumns", spec := "matrixColumns", apart := false, narrowed := true }
def MatrixColumnsUptoSaid : Prop := matrixColumnsUptoRow.holds Try.pinned (OpenSpec.upto matrixColumnsSpec)

/-- 'soundservicelaw23.MixtureSums', WHERE WHAT IT READS IS OF BULK AT MOST 1048576: true; the input reads as it did. -/
def mixtureSumsUptoRow : OpenClaim := { program := "ytnmenoocpbdekaa", sum := "598056acad8bfc7e83284e074e4059b1871f219aa2bfbbd5d84600e68012592b", func := "soundservice/soundservicelaw23.MixtureSums", spec := "mixtureSums", unfollowed := true, recurses := true, apart := false, narrowed := true }
def MixtureSumsUptoSaid : Prop := mixtureSumsUptoRow.holds Try.pinned (OpenSpec.upto mixtureSumsSpec)

/-- 'soundservicelaw23.MixtureOrder', WHERE WHAT IT READS IS OF BULK AT MOST 1048576: true; the input reads as it did. -/
def mixtureOrderUptoRow : OpenClaim := { program := "ytnmenoocpbdekaa", sum := "598056acad8bfc7e83284e074e4059b1871f219aa2bfbbd5d84600e68012592b", func := "soundservice/soundservicelaw23.MixtureOrder", spec := "mixtureOrder", unfollowed := true, recurses := true, apart := false, narrowed := true }
def MixtureOrderUptoSaid : Prop := mixtureOrderUptoRow.holds Try.pinned (OpenSpec.upto mixtureOrderSpec)

/-- 'soundservicelaw23.MixturePieces', WHERE WHAT IT READS IS OF BULK AT MOST 1048576: true; the input reads as it did. -/
def mixturePiecesUptoRow : OpenClaim := { program := "ytnmenoocpbdekaa", sum := "598056acad8bfc7e83284e074e4059b1871f219aa2bfbbd5d84600e68012592b", func := "soundservice/soundservicelaw23.MixturePieces", spec := "mixturePieces", unfollowed := true, recurses := true, apart := false, narrowed := true }
def MixturePiecesUptoSaid : Prop := mixturePiecesUptoRow.holds Try.pinned (OpenSpec.upto mixturePiecesSpec)

/-- 'soundservicelaw23.MixtureAlone', WHERE WHAT IT READS IS OF BULK AT MOST 1048576: true; the input reads as it did. -/
def mixtureAloneUptoRow : OpenClaim := { program := "ytnmenoocpbdekaa", sum := "598056acad8bfc7e83284e074e4059b1871f219aa2bfbbd5d84600e68012592b", func := "soundservice/soundservicelaw23.MixtureAlone", spec := "mixtureAlone", unfollowed := true, recurses := true, apart := false, narrowed := true }
def MixtureAloneUptoSaid : Prop := mixtureAloneUptoRow.holds Try.pinned (OpenSpec.upto mixtureAloneSpec)

/-- 'soundservicelaw23.MixtureTurns', WHERE WHAT IT READS IS OF BULK AT MOST 1048576: true; the input reads as it did. -/
def mixtureTurnsUptoRow : OpenClaim := { program := "ytnmenoocpbdekaa", sum := "598056acad8bfc7e83284e074e4059b1871f219aa2bfbbd5d84600e68012592b", func := "soundservice/soundservicelaw23.MixtureTurns", spec := "mixtureTurns", unfollowed := true, recurses := true, apart := false, narrowed := true }
def MixtureTurnsUptoSaid : Prop := mixtureTurnsUptoRow.holds Try.pinned (OpenSpec.upto mixtureTurnsSpec)

end Rows
end Go.Proofs.Ytnmenoocpbdekaa
