/- What the package's variables hold. No statement is proved here. -/
import Derived.Test.YthnililaajkppaaFactsP
namespace Go.Proofs.Ythnililaajkppaa
def glData : List (Nat × List Value) := [
  ]
end Go.Proofs.Ythnililaajkppaa
