/- What the package's variables hold. No statement is proved here. -/
import Derived.Test.YtcmldnahohmieaaDoorFactsP
import Derived.Lib.ItoaNum
namespace Go.Proofs.YtcmldnahohmieaaDoor
def glData : List (Nat × List Value) := [
  (1, Go.Lib.pow10Tab.map fun z => Value.int .u64 z)
  ]
end Go.Proofs.YtcmldnahohmieaaDoor
