
import Derived.Test.YtlkeohljplfmfaaBase
import Derived.Test.YtlkeohljplfmfaaMath
import Derived.Lib.Strings
import Derived.Lib.Slices
import Derived.Lib.Small
import Derived.Lib.Walk
import Derived.Lib.BitFns
namespace Go.Proofs.Ytlkeohljplfmfaa
open Go.RowKit

theorem bitLen_log (m : Nat) (h : m ≠ 0) (h' : m < 2 ^ 64) : Lib.bitLen m = m.log2 + 1 := by
  have h1 := Nat.log2_self_le h
  have h2 : m < 2 ^ (m.log2 + 1) := Nat.lt_log2_self
  rw [Lib.bitLen_shift m.log2 m h1 h']
  have e : m / 2 ^ m.log2 = 1 := by
    have hp : 0 < 2 ^ m.log2 := Nat.two_pow_pos _
    rw [Nat.pow_succ] at h2
    exact Nat.div_eq_of_lt_le (by omega) (by omega)
  rw [e]
  rfl

theorem tab_at (q : Int) (h0 : 0 ≤ q) (h1 : q < 256) (hs : q.toNat < Lib.len8tab.size) : ((Lib.len8tab[q.toNat]'hs).toNat : Int) = Lib.bitLen q.toNat := by
  rw [← Lib.len8_of q h0 (by omega)]
  unfold Lib.len8
  rw [getElem?_pos Lib.len8tab q.toNat hs]
  rfl

theorem len_way (c : Nat) (q : Int) (x : Nat) (hc : c ≤ 56) (h0 : 0 ≤ q) (h1 : q < 256) (hs : q.toNat < Lib.len8tab.size) (hx : Lib.bitLen x = c + Lib.bitLen q.toNat) :
    wrap64 (c + wrap64 ((Lib.len8tab[q.toNat]'hs).toNat : Int)) = (Lib.bitLen x : Int) := by
  rw [tab_at q h0 h1 hs, hx]
  have := Lib.bitLen_le8' q h0 (by omega)
  rw [show wrap64 (Lib.bitLen q.toNat : Int) = (Lib.bitLen q.toNat : Int) by unfold wrap64; omega]
  unfold wrap64
  omega

end Go.Proofs.Ytlkeohljplfmfaa
