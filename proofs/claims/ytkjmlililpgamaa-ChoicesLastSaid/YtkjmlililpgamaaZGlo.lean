/- What the package's variables hold. No statement is proved here. -/
import Derived.Test.YtkjmlililpgamaaZFactsP
import Derived.Lib.ItoaNum
namespace Go.Proofs.Ytkjmlililpgamaa
def f7 : List (Nat × List Value) := [
  ]
end Go.Proofs.Ytkjmlililpgamaa
