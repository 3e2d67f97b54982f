/- What the package's variables hold. No statement is proved here. -/
import Derived.Test.YtpikmjikoifjeaaFactsP
namespace Go.Proofs.Ytpikmjikoifjeaa
def glData : List (Nat × List Value) := [
  ]
end Go.Proofs.Ytpikmjikoifjeaa
