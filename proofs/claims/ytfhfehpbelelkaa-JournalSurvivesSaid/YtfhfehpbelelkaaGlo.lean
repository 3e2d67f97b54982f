/- What the package's variables hold. No statement is proved here. -/
import Derived.Test.YtfhfehpbelelkaaFactsP
namespace Go.Proofs.Ytfhfehpbelelkaa
def glData : List (Nat × List Value) := [
  ]
end Go.Proofs.Ytfhfehpbelelkaa
