
import Derived.Test.YtlkeohljplfmfaaRefHash
import Derived.Test.YtlkeohljplfmfaaNumWalks
namespace Go.Proofs.Ytlkeohljplfmfaa
open Go.RowKit

/-- The bytes of texts. -/
def bys (ss : List ByteArray) : List (List UInt8) := ss.map fun s => s.data.toList
theorem bys_length (ss : List ByteArray) : (bys ss).length = ss.length := by simp [bys]
theorem bys_take (ss : List ByteArray) (k : Nat) : bys (ss.take k) = (bys ss).take k := by simp [bys]
theorem bys_drop (ss : List ByteArray) (k : Nat) : bys (ss.drop k) = (bys ss).drop k := by simp [bys]

end Go.Proofs.Ytlkeohljplfmfaa
