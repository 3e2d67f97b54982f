/- What the package's variables hold. No statement is proved here. -/
import Derived.Test.YthafllabdfilpaaZFactsP
namespace Go.Proofs.Ythafllabdfilpaa
def glData : List (Nat × List Value) := [
  ]
end Go.Proofs.Ythafllabdfilpaa
