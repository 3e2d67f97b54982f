/- What the package's variables hold. No statement is proved here. -/
import Derived.Test.YtnmenoocpbdekaaFactsP
namespace Go.Proofs.Ytnmenoocpbdekaa
def glData : List (Nat × List Value) := [
  ]
end Go.Proofs.Ytnmenoocpbdekaa
