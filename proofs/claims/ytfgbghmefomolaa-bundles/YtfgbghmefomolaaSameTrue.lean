
import Derived.Test.YtfgbghmefomolaaTreesWalk
namespace Go.Proofs.Ytfgbghmefomolaa
open Go.RowKit
set_option maxRecDepth 100000
theorem drewN_below (w : World) (n : Nat) : Below w.heap.size w (w.drewN n) := ⟨rfl, rfl, rfl, Nat.le_refl _, fun _ _ => rfl⟩
set_option maxHeartbeats 1000000 in
theorem same_alike (x y : Value) (ts : List ByteArray) (w : World) (hn : ts.length ≤ 1000000) (hx : Sss w x ts) (hy : Sss w y ts) :
    Calls Try.prog 22 #[x, y] w fun r w' => r = .returned (.bool true) ∧ Below w.heap.size w w' := by
  obtain ⟨a, cap, rfl, hcap, hx⟩ := hx
  obtain ⟨b, cap2, rfl, hcap2, hy⟩ := hy
  have HX := hide hx
  have HY := hide hy
  clear hx hy hcap hcap2
  go_enter Try.func22, Try.ntmps22
  go_wp2_with fail
  go_loopw [5] (fun i wr => ∃ k n : Nat, k ≤ ts.length ∧ i = .int .i64 k ∧ wr = w.drewN n) (fun i _ => ts.length - (intOf i).toNat)
  case atStart => exact ⟨0, 0, Nat.zero_le _, rfl, rfl⟩
  case round =>
    obtain ⟨k, n, hk, rfl, rfl⟩ := hrel
    by_cases hlt : k < ts.length
    · rcases HX.out with h0 | ⟨b1, off1, rfl, hc1⟩
      · simp [h0] at hlt
      rcases HY.out with h0 | ⟨b2, off2, rfl, hc2⟩
      · simp [h0] at hlt
      have h1 := hc1 k hlt
      have h2 := hc2 k hlt
      clear hc1 hc2
      go_wp2_with fail
      go_quiet (fail)
      go_wp2_with fail
      go_roundw
      case rel => exact ⟨k + 1, _, by omega, by go_num, rfl⟩
      case measure => simp [intOf]; omega
    · go_wp2_with fail
      go_ret
      exact ⟨rfl, drewN_below w _⟩

end Go.Proofs.Ytfgbghmefomolaa
