/- What the package's variables hold. No statement is proved here. -/
import Derived.Test.YtfcdndlnjdelmaaFactsP
import Derived.Lib.ItoaNum
namespace Go.Proofs.Ytfcdndlnjdelmaa
def glData : List (Nat × List Value) := [
  ]
end Go.Proofs.Ytfcdndlnjdelmaa
