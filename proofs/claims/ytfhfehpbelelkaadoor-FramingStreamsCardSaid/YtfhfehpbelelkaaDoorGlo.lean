/- What the package's variables hold. No statement is proved here. -/
import Derived.Test.YtfhfehpbelelkaaDoorFactsP
import Derived.Lib.ItoaNum
namespace Go.Proofs.YtfhfehpbelelkaaDoor
def glData : List (Nat × List Value) := [
  (0, Go.Lib.pow10Tab.map fun z => Value.int .u64 z)
  ]
end Go.Proofs.YtfhfehpbelelkaaDoor
