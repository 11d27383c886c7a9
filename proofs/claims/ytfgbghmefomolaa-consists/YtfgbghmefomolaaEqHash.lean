
import Derived.Test.YtfgbghmefomolaaMath
import Derived.Test.YtfgbghmefomolaaBase
import Derived.ChangeKeysEq
namespace Go.Proofs.Ytfgbghmefomolaa
open Go.RowKit
set_option maxRecDepth 100000

theorem part_byte (a : List UInt8) (i : Nat) (h : i < a.length) (w : World) : (part 5 (hv a) (i * Try.prog.cellsOf 5)).run Try.prog w = .ok (bv a[i]) w := by
  have hc : Try.prog.cellsOf 5 = 1 := by kernel_rfl
  rw [hc, Nat.mul_one]
  exact run_part_plain w (by kernel_rfl) (by simp [hv, h])
theorem eq_byte (d : Nat) (x y : UInt8) (w : World) : (Op.equalIn (d + 1) 5 (bv x) (bv y)).run Try.prog w = .ok (decide (x = y)) w := by
  have e : ((x.toNat : Int) == (y.toNat : Int)) = decide (x = y) := by
    rw [Bool.eq_iff_iff, beq_iff_eq, decide_eq_true_eq]
    constructor
    · intro h; exact UInt8.toNat_inj.1 (by omega)
    · rintro rfl; rfl
  rw [← e]
  unfold bv
  simp [Op.equalIn, run_underlying Try.underlying5]
theorem eqItems_bytes (d : Nat) (a b : List UInt8) (w : World) : ∀ l : List Nat, (∀ i ∈ l, i < a.length ∧ i < b.length) →
    (Op.eqItems (d + 1) 5 (Try.prog.cellsOf 5) (hv a) (hv b) l).run Try.prog w = .ok (l.all fun i => decide (a[i]? = b[i]?)) w
  | [], _ => by simp [Op.eqItems]
  | i :: l, h => by
    obtain ⟨h1, h2⟩ := h i (by simp)
    have ih := eqItems_bytes d a b w l (fun j hj => h j (by simp [hj]))
    simp only [Op.eqItems, Sem.run_bind, part_byte a i h1, part_byte b i h2, eq_byte, Result.andThen_ok]
    have e : decide (a[i]? = b[i]?) = decide (a[i] = b[i]) := by
      rw [List.getElem?_eq_getElem h1, List.getElem?_eq_getElem h2]; simp
    rw [List.all_cons, e]
    cases hq : decide (a[i] = b[i])
    · simp
    · simp [ih]
theorem all_eq (a b : List UInt8) (ha : a.length = 8) (hb : b.length = 8) : ((List.range 8).all fun i => decide (a[i]? = b[i]?)) = decide (a = b) := by
  rw [Bool.eq_iff_iff]
  simp only [List.all_eq_true, List.mem_range, decide_eq_true_eq]
  constructor
  · intro h
    apply List.ext_getElem?
    intro i
    by_cases hi : i < 8
    · exact h i hi
    · rw [List.getElem?_eq_none (by omega), List.getElem?_eq_none (by omega)]
  · rintro rfl i _; rfl
def eqH (a b : List UInt8) : Bool := decide (a = b)
/-- '==' of two hashes. -/
theorem eql_hash (a b : List UInt8) (ha : a.length = 8) (hb : b.length = 8) (w : World) :
    (binOp .eql 38 (.agg (hv a)) (.agg (hv b))).run Try.prog w = .ok (.bool (eqH a b)) w := by
  unfold eqH
  have hs : ∃ i, Try.prog.info? 5 = some i := by
    have : (Try.prog.info? 5).map (·.size) = some 1 := by kernel_rfl
    obtain ⟨i, hi, _⟩ := Option.map_eq_some_iff.1 this
    exact ⟨i, hi⟩
  obtain ⟨i, hi⟩ := hs
  simp only [binOp]
  have he := run_equalIn_array (P := Try.prog) w 9999 (hv a) (hv b) Try.underlying38 hi
  rw [eqItems_bytes 9998 a b w _ (fun j hj => by simp at hj; omega), all_eq a b ha hb] at he
  simp [Op.equal, Op.maxDepth, he]
end Go.Proofs.Ytfgbghmefomolaa
