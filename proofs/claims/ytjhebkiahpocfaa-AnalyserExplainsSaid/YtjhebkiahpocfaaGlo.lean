/- What the package's variables hold. No statement is proved here. -/
import Derived.Test.YtjhebkiahpocfaaFactsP
import Derived.Lib.ItoaNum
namespace Go.Proofs.Ytjhebkiahpocfaa
def glData : List (Nat × List Value) := [
  ]
end Go.Proofs.Ytjhebkiahpocfaa
