
import Derived.Test.YtlkeohljplfmfaaBase
import Derived.Test.YtlkeohljplfmfaaMath
namespace Go.Proofs.Ytlkeohljplfmfaa
open Go.RowKit

theorem ret_int {k : IntKind} {a b : Int} (h : a = b) : Ending.returned (.int k a) = .returned (.int k b) := by rw [h]

theorem fnv_take (n : Int) (l : List UInt8) (k : Nat) (h : k < l.length) : fnv n (l.take (k + 1)) = st (fnv n (l.take k)) l[k].toNat := by
  rw [List.take_succ_eq_append_getElem h, fnv_snoc]

theorem fnv_flat (n : Int) (ls : List (List UInt8)) (k : Nat) (h : k < ls.length) : fnv n (ls.take (k + 1)).flatten = fnv (fnv n (ls.take k).flatten) ls[k] := by
  rw [List.take_succ_eq_append_getElem h, List.flatten_append, fnv_append]; simp

/-- The eight cells of a value that a callee handed back. -/
theorem agg_out8 (n : Int) (h0 : 0 ≤ n) (h1 : n ≤ 18446744073709551615) : ∃ x0 x1 x2 x3 x4 x5 x6 x7 : Int, hv (out8 n) = #[.int .u8 x0, .int .u8 x1, .int .u8 x2, .int .u8 x3, .int .u8 x4, .int .u8 x5, .int .u8 x6, .int .u8 x7] :=
  ⟨_, _, _, _, _, _, _, _, hv_out8 n h0 h1⟩

end Go.Proofs.Ytlkeohljplfmfaa
