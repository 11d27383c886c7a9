
import Derived.Test.YtlkeohljplfmfaaHashWalks
import Derived.Laws.IdiomStrings
namespace Go.Proofs.Ytlkeohljplfmfaa
open Go.RowKit

/-- A text out of a list of bytes. -/
def txt (l : List UInt8) : Value := .string ⟨l.toArray⟩

/-- 'string(b)' of a row that is known. -/
theorem conv_row (w : World) (g : Nat) (cap n : Nat) (l : List UInt8) (t : TypeId) (fr : Nat × Nat) (hn : l.length = n) (hg : w.heap[g]? = some (.cells (hv l) t fr)) :
    (convert 30 9 (.slice (some ⟨g, 0, none⟩) n cap)).run Try.prog w = .ok (txt l) w := by
  subst hn
  refine run_convert_bytes_back w _ _ 5 ⟨g, 0, none⟩ cap l Try.underlying30 Try.underlying5 Try.underlying9 (fun j hj => ?_)
  rw [Addr.add_mid, Nat.zero_add, cell_of_row _ _ _ _ _ _ hg]
  simp [hv, bv, hj]

theorem hv_ref (m : Int) (r0 : 0 ≤ m) (r1 : m ≤ 18446744073709551615) : (#[Value.int IntKind.u8 (m / 256 / 256 / 256 / 256 / 256 / 256 / 256),
                Value.int IntKind.u8 (m / 256 / 256 / 256 / 256 / 256 / 256 % 256),
                Value.int IntKind.u8 (m / 256 / 256 / 256 / 256 / 256 % 256),
                Value.int IntKind.u8 (m / 256 / 256 / 256 / 256 % 256),
                Value.int IntKind.u8 (m / 256 / 256 / 256 % 256), Value.int IntKind.u8 (m / 256 / 256 % 256),
                Value.int IntKind.u8 (m / 256 % 256), Value.int IntKind.u8 (m % 256)] : Array Value) = hv (out8 m) := by
  rw [hv_out8 m r0 r1]
  rw [show m / 256 / 256 / 256 / 256 / 256 / 256 / 256 = m / 72057594037927936 by omega, show m / 256 / 256 / 256 / 256 / 256 / 256 = m / 281474976710656 by omega, show m / 256 / 256 / 256 / 256 / 256 = m / 1099511627776 by omega, show m / 256 / 256 / 256 / 256 = m / 4294967296 by omega, show m / 256 / 256 / 256 = m / 16777216 by omega, show m / 256 / 256 = m / 65536 by omega]

theorem bytes_append (a b : ByteArray) : (a ++ b).data.toList = a.data.toList ++ b.data.toList := by simp
theorem size_append (a b : ByteArray) : (a ++ b).size = a.size + b.size := by simp

end Go.Proofs.Ytlkeohljplfmfaa
