/- What the package's variables hold (maps). No statement is proved here. -/
import Derived.Test.YtcmldnahohmieaaDoorFactsP
namespace Go.Proofs.YtcmldnahohmieaaDoor
def glData : List (Nat × List Value) := [
  (0, [.string (ByteArray.mk #[]), .string (ByteArray.mk #[70, 76]), .string (ByteArray.mk #[70, 82]), .string (ByteArray.mk #[70, 67]), .string (ByteArray.mk #[76, 70]), .string (ByteArray.mk #[66, 76]), .string (ByteArray.mk #[66, 82]), .string (ByteArray.mk #[83, 76]), .string (ByteArray.mk #[83, 82])])
  ]
end Go.Proofs.YtcmldnahohmieaaDoor
