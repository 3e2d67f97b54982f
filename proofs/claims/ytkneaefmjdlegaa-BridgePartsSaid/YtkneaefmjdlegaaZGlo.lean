/- What the package's variables hold. No statement is proved here. -/
import Derived.Test.YtkneaefmjdlegaaZFactsP
namespace Go.Proofs.Ytkneaefmjdlegaa
def glData : List (Nat × List Value) := [
  ]
end Go.Proofs.Ytkneaefmjdlegaa
