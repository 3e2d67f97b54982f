/- What the package's variables hold. No statement is proved here. -/
import Derived.Test.YteggelophhpnfaaFactsP
import Derived.Lib.ItoaNum
namespace Go.Proofs.Yteggelophhpnfaa
def glData : List (Nat × List Value) := [
  ]
end Go.Proofs.Yteggelophhpnfaa
