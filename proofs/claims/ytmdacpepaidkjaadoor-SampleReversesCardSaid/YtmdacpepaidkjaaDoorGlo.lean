/- What the package's variables hold. No statement is proved here. -/
import Derived.Test.YtmdacpepaidkjaaDoorFactsP
namespace Go.Proofs.YtmdacpepaidkjaaDoor
def glData : List (Nat × List Value) := [
  (0, [.int .i64 0, .bool false, .int .i64 1, .bool false, .int .i64 2, .bool false, .int .i64 2, .bool true, .int .i64 3, .bool false, .int .i64 3, .bool true, .int .i64 4, .bool false, .int .i64 4, .bool true])
  ]
end Go.Proofs.YtmdacpepaidkjaaDoor
