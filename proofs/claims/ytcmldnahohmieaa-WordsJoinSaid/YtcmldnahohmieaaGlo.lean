/- What the package's variables hold. No statement is proved here. -/
import Derived.Test.YtcmldnahohmieaaFactsP
import Derived.Lib.ItoaNum
namespace Go.Proofs.Ytcmldnahohmieaa
def glData : List (Nat × List Value) := [
  ]
end Go.Proofs.Ytcmldnahohmieaa
