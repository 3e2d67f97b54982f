/- What the package's variables hold. No statement is proved here. -/
import Derived.Test.YtfnchjmghklmnaaFactsP
import Derived.Lib.ItoaNum
namespace Go.Proofs.Ytfnchjmghklmnaa
def glData : List (Nat × List Value) := [
  ]
end Go.Proofs.Ytfnchjmghklmnaa
