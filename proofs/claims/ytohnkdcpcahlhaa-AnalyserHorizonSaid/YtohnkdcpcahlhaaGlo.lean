/- What the package's variables hold. No statement is proved here. -/
import Derived.Test.YtohnkdcpcahlhaaFactsP
import Derived.Lib.ItoaNum
namespace Go.Proofs.Ytohnkdcpcahlhaa
def glData : List (Nat × List Value) := [
  ]
end Go.Proofs.Ytohnkdcpcahlhaa
