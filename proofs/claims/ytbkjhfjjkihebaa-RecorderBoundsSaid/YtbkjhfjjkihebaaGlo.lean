/- What the package's variables hold. No statement is proved here. -/
import Derived.Test.YtbkjhfjjkihebaaFactsP
import Derived.Lib.ItoaNum
namespace Go.Proofs.Ytbkjhfjjkihebaa
def glData : List (Nat × List Value) := [
  ]
end Go.Proofs.Ytbkjhfjjkihebaa
