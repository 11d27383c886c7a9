
import Derived.Test.YtfgbghmefomolaaBase
import Derived.Test.YtfgbghmefomolaaMath
import Derived.Lib.Strings
import Derived.Lib.Slices
import Derived.Lib.Small
import Derived.Lib.Walk
import Derived.Lib.BitFns
namespace Go.Proofs.Ytfgbghmefomolaa
open Go.RowKit

theorem bitLen_log (m : Nat) (h : m ≠ 0) (h' : m < 2 ^ 64) : Lib.bitLen m = m.log2 + 1 := by
  have h1 := Nat.log2_self_le h
  have h2 : m < 2 ^ (m.log2 + 1) := Nat.lt_log2_self
  rw [Lib.bitLen_shift m.log2 m h1 h']
  have e : m / 2 ^ m.log2 = 1 := by
    have hp : 0 < 2 ^ m.log2 := Nat.two_pow_pos _
    rw [Nat.pow_succ] at h2
    exact Nat.div_eq_of_lt_le (by omega) (by omega)
  rw [e]
  rfl

theorem tab_at (q : Int) (h0 : 0 ≤ q) (h1 : q < 256) (hs : q.toNat < Lib.len8tab.size) : ((Lib.len8tab[q.toNat]'hs).toNat : Int) = Lib.bitLen q.toNat := by
  rw [← Lib.len8_of q h0 (by omega)]
  unfold Lib.len8
  rw [getElem?_pos Lib.len8tab q.toNat hs]
  rfl

theorem len_way (c : Nat) (q : Int) (x : Nat) (hc : c ≤ 56) (h0 : 0 ≤ q) (h1 : q < 256) (hs : q.toNat < Lib.len8tab.size) (hx : Lib.bitLen x = c + Lib.bitLen q.toNat) :
    wrap64 (c + wrap64 ((Lib.len8tab[q.toNat]'hs).toNat : Int)) = (Lib.bitLen x : Int) := by
  rw [tab_at q h0 h1 hs, hx]
  have := Lib.bitLen_le8' q h0 (by omega)
  rw [show wrap64 (Lib.bitLen q.toNat : Int) = (Lib.bitLen q.toNat : Int) by unfold wrap64; omega]
  unfold wrap64
  omega

set_option maxHeartbeats 4000000 in
set_option maxRecDepth 100000 in
theorem len64_any (x : Int) (w : World) (h0 : 0 ≤ x) (h1 : x ≤ 18446744073709551615) :
    Calls Try.prog 50 #[.int .u64 x] w fun e w' => e = .returned (.int .i64 (Lib.bitLen x.toNat)) ∧ w' = w := by
  have hsz : Lib.len8tab.size = 256 := Lib.len8tab_size
  go_enter Try.func50, Try.ntmps50
  go_wp2
  all_goals go_ret
  all_goals refine ⟨congrArg Ending.returned (congrArg (Value.int IntKind.i64) ?_), rfl⟩
  · exact len_way 56 _ _ (by omega) (by omega) (by omega) (by omega) (by rw [Lib.bitLen_shift56 x.toNat (by omega) (by omega)]; congr 2; omega)
  · exact len_way 48 _ _ (by omega) (by omega) (by omega) (by omega) (by rw [Lib.bitLen_shift48 x.toNat (by omega) (by omega)]; congr 2; omega)
  · exact len_way 40 _ _ (by omega) (by omega) (by omega) (by omega) (by rw [Lib.bitLen_shift40 x.toNat (by omega) (by omega)]; congr 2; omega)
  · exact len_way 32 _ _ (by omega) (by omega) (by omega) (by omega) (by rw [Lib.bitLen_shift32 x.toNat (by omega) (by omega)]; congr 2; omega)
  · exact len_way 24 _ _ (by omega) (by omega) (by omega) (by omega) (by rw [Lib.bitLen_shift24 x.toNat (by omega) (by omega)]; congr 2; omega)
  · exact len_way 16 _ _ (by omega) (by omega) (by omega) (by omega) (by rw [Lib.bitLen_shift16 x.toNat (by omega) (by omega)]; congr 2; omega)
  · exact len_way 8 _ _ (by omega) (by omega) (by omega) (by omega) (by rw [Lib.bitLen_shift8 x.toNat (by omega) (by omega)]; congr 2; omega)
  · have := len_way 0 x x.toNat (by omega) (by omega) (by omega) (by omega) (by simp)
    simpa using this

set_option maxHeartbeats 400000 in
theorem len_any (x : Int) (w : World) (h0 : 0 ≤ x) (h1 : x ≤ 18446744073709551615) :
    Calls Try.prog 46 #[.int .u64 x] w fun e w' => e = .returned (.int .i64 (Lib.bitLen x.toNat)) ∧ w' = w := by
  go_enter Try.func46, Try.ntmps46
  go_wp2_with fail
  refine (len64_any x w h0 h1).mono ?_
  rintro e w' ⟨rfl, rfl⟩
  go_wp2_with fail
  go_ret
  exact ⟨rfl, rfl⟩

set_option maxHeartbeats 400000 in
theorem split_any (n : Nat) (w : World) (h0 : 2 ≤ n) (h1 : n ≤ 9223372036854775807) :
    Calls Try.prog 39 #[.int .i64 n] w fun e w' => e = .returned (.int .i64 (kOf n)) ∧ w' = w := by
  go_enter Try.func39, Try.ntmps39
  go_wp2_with fail
  refine (len_any ((n : Int) - 1) w (by omega) (by omega)).mono ?_
  rintro e w' ⟨hr, rfl⟩
  have hj : Lib.bitLen ((n : Int) - 1).toNat = (n - 1).log2 + 1 := by
    rw [show ((n : Int) - 1).toNat = n - 1 by omega]
    exact bitLen_log _ (by omega) (by omega)
  have hj62 : (n - 1).log2 ≤ 62 := by
    have := (Nat.log2_lt (n := n - 1) (k := 63) (by omega)).2 (by omega)
    omega
  rw [hj] at hr
  subst hr
  have Hk : Hid (kOf n = 2 ^ (n - 1).log2) := rfl
  clear hj
  generalize (n - 1).log2 = j at *
  go_wp2_with fail
  go_ret
  refine ⟨congrArg Ending.returned (congrArg (Value.int IntKind.i64) ?_), rfl⟩
  have h2 : 2 ^ j ≤ 2 ^ 62 := Nat.pow_le_pow_right (by omega) hj62
  have h3 : ((2 : Int) ^ j) = ((2 ^ j : Nat) : Int) := by simp
  rw [Hk.out]
  show wrap64 ((2 : Int) ^ j) = _
  rw [h3]
  generalize 2 ^ j = p at *
  unfold wrap64
  omega

set_option maxHeartbeats 400000 in
theorem below_any (n : Nat) (w : World) (h0 : 2 ≤ n) (h1 : n ≤ 9223372036854775807) :
    Calls Try.prog 27 #[.int .i64 n] w fun e w' => e = .returned (.int .i64 (kOf n)) ∧ w' = w := by
  go_enter Try.func27, Try.ntmps27
  go_wp2_with fail
  go_loop [3] (fun t => ∃ j : Nat, ∃ k : Nat, k = 2 ^ j ∧ k < n ∧ t = .int .i64 k) (fun t => n - (intOf t).toNat)
  case atStart => exact ⟨0, 1, rfl, by omega, rfl⟩
  case round =>
    obtain ⟨j, k, hk, hlt, rfl⟩ := hrel
    have Hk := hide hk
    have hpos : 1 ≤ k := by rw [hk]; exact Nat.one_le_two_pow
    clear hk
    by_cases hc : 2 * k < n
    · go_wp2
      go_round
      case rel => exact ⟨j + 1, 2 * k, by rw [Hk.out, Nat.pow_succ]; omega, by omega, by go_num⟩
      case measure => simp [intOf]; omega
    · go_wp2
      go_ret
      refine ⟨congrArg Ending.returned (congrArg (Value.int IntKind.i64) (congrArg Int.ofNat ?_)), rfl⟩
      rw [Hk.out]
      exact kOf_eq n j (by rw [← Hk.out]; omega) (by rw [Nat.pow_succ, ← Hk.out]; omega)
end Go.Proofs.Ytfgbghmefomolaa
