
import Derived.Test.YtfgbghmefomolaaDoorNameMath
import Derived.Test.YtfgbghmefomolaaDoorMath
import Derived.Lib.Split
namespace Go.Proofs.YtfgbghmefomolaaDoor

/-! Hexadecimal digits. -/
def hexD (d : Nat) : UInt8 := if d < 10 then UInt8.ofNat (48 + d) else UInt8.ofNat (87 + d)
def hex1 (b : UInt8) : List UInt8 := [hexD (b.toNat / 16), hexD (b.toNat % 16)]
def hexF (l : List UInt8) : List UInt8 := (l.map hex1).flatten
def isHex (c : UInt8) : Prop := (48 ≤ c.toNat ∧ c.toNat ≤ 57) ∨ (97 ≤ c.toNat ∧ c.toNat ≤ 102)
def nv (c : UInt8) : Nat := if c.toNat ≤ 57 then c.toNat - 48 else c.toNat - 87
def hexN (acc : Nat) : List UInt8 → Nat
  | [] => acc
  | c :: r => hexN (acc * 16 + nv c) r
theorem hexD_val (d : Nat) (h : d < 16) : (hexD d).toNat = if d < 10 then 48 + d else 87 + d := by
  unfold hexD
  split <;> rw [UInt8.toNat_ofNat'] <;> omega
theorem hexD_hex (d : Nat) (h : d < 16) : isHex (hexD d) := by
  unfold isHex
  rw [hexD_val d h]
  split <;> omega
theorem nv_hexD (d : Nat) (h : d < 16) : nv (hexD d) = d := by
  unfold nv
  rw [hexD_val d h]
  split <;> split <;> omega
theorem nv_lt (c : UInt8) (h : isHex c) : nv c < 16 := by
  unfold isHex at h
  unfold nv
  split <;> omega
theorem hexN_append (a b : List UInt8) (n : Nat) : hexN n (a ++ b) = hexN (hexN n a) b := by
  induction a generalizing n with
  | nil => rfl
  | cons c a ih => exact ih _
theorem hexN_hex1 (n : Nat) (b : UInt8) (r : List UInt8) : hexN n (hex1 b ++ r) = hexN (n * 256 + b.toNat) r := by
  have hb := b.toNat_lt
  show hexN ((n * 16 + nv (hexD (b.toNat / 16))) * 16 + nv (hexD (b.toNat % 16))) r = _
  rw [nv_hexD _ (by omega), nv_hexD _ (by omega)]
  congr 1
  omega
theorem hexF_cons (b : UInt8) (l : List UInt8) : hexF (b :: l) = hex1 b ++ hexF l := by simp [hexF]
theorem hexF_len (l : List UInt8) : (hexF l).length = 2 * l.length := by
  induction l with
  | nil => rfl
  | cons b l ih => rw [hexF_cons, List.length_append, ih]; simp [hex1]; omega
theorem hexF_hex (l : List UInt8) : ∀ c ∈ hexF l, isHex c := by
  induction l with
  | nil => intro c h; simp [hexF] at h
  | cons b l ih =>
    intro c h
    have hb := b.toNat_lt
    rw [hexF_cons] at h
    rcases List.mem_append.1 h with h | h
    · rcases (by simpa [hex1] using h : c = hexD (b.toNat / 16) ∨ c = hexD (b.toNat % 16)) with rfl | rfl
      · exact hexD_hex _ (by omega)
      · exact hexD_hex _ (by omega)
    · exact ih c h
theorem hexN_lt (l : List UInt8) (h : ∀ c ∈ l, isHex c) (n k : Nat) (hn : n < 16 ^ k) : hexN n l < 16 ^ (k + l.length) := by
  induction l generalizing n k with
  | nil => exact hn
  | cons c l ih =>
    have hc := nv_lt c (h c (by simp))
    have : n * 16 + nv c < 16 ^ (k + 1) := by rw [Nat.pow_succ]; omega
    have := ih (fun x hx => h x (by simp [hx])) (n * 16 + nv c) (k + 1) this
    rw [show k + (c :: l).length = k + 1 + l.length by simp; omega]
    exact this
theorem out8_hex (root : List UInt8) (h : root.length = 8) : out8 (hexN 0 (hexF root) : Nat) = root := by
  obtain ⟨b0, b1, b2, b3, b4, b5, b6, b7, rfl⟩ := hv8 root h
  have h0 := b0.toNat_lt; have h1 := b1.toNat_lt; have h2 := b2.toNat_lt; have h3 := b3.toNat_lt
  have h4 := b4.toNat_lt; have h5 := b5.toNat_lt; have h6 := b6.toNat_lt; have h7 := b7.toNat_lt
  have e : hexN 0 (hexF [b0, b1, b2, b3, b4, b5, b6, b7]) = ((((((b0.toNat * 256 + b1.toNat) * 256 + b2.toNat) * 256 + b3.toNat) * 256 + b4.toNat) * 256 + b5.toNat) * 256 + b6.toNat) * 256 + b7.toNat := by
    simp only [hexF_cons, hexN_hex1]
    show hexN _ [] = _
    simp only [hexN, Nat.zero_mul, Nat.zero_add]
  rw [e]
  unfold out8
  have key : ∀ (b : UInt8) (x : Int), x = (b.toNat : Int) → UInt8.ofNat x.toNat = b := by
    intro b x hx
    subst hx
    simp
  generalize hn : ((((((b0.toNat * 256 + b1.toNat) * 256 + b2.toNat) * 256 + b3.toNat) * 256 + b4.toNat) * 256 + b5.toNat) * 256 + b6.toNat) * 256 + b7.toNat = n
  rw [key b0 _ (by omega), key b1 _ (by omega), key b2 _ (by omega), key b3 _ (by omega), key b4 _ (by omega), key b5 _ (by omega), key b6 _ (by omega), key b7 _ (by omega)]
theorem hexF_inj {a b : List UInt8} (ha : a.length = 8) (hb : b.length = 8) (h : hexF a = hexF b) : a = b := by
  rw [← out8_hex a ha, ← out8_hex b hb, h]
theorem hex_not10 (l : List UInt8) : ∀ x ∈ hexF l, x ≠ 10 := by
  intro x hx e
  subst e
  have := hexF_hex l 10 hx
  unfold isHex at this
  revert this
  decide
theorem dec_not10 (n : Nat) : ∀ x ∈ dec n, x ≠ 10 := dec_not n 10 (by unfold isDig; decide)

/-! Checkpoints. -/
def tilesL : List UInt8 := [116, 105, 108, 101, 115, 10]
def linesF (n : Nat) (root : List UInt8) : List UInt8 := tilesL ++ dec n ++ [10] ++ hexF root ++ [10]
def lastF (n : Nat) (root key : List UInt8) : List UInt8 := hexF (hash (key ++ [0] ++ linesF n root))
def signF (n : Nat) (root key : List UInt8) : List UInt8 := linesF n root ++ lastF n root key ++ [10]
theorem signF_eq (n : Nat) (root key : List UInt8) : signF n root key = tilesL ++ (dec n ++ (10 :: (hexF root ++ (10 :: (lastF n root key ++ [10]))))) := by
  unfold signF linesF
  simp
/-- Of what a text is a checkpoint. -/
def IsSign (t key : List UInt8) (n : Nat) (root : List UInt8) : Prop := n ≤ 9223372036854775807 ∧ root.length = 8 ∧ t = signF n root key
theorem noDig10 (r : List UInt8) : noDig (10 :: r) := by show ¬ isDig 10; unfold isDig; decide
theorem IsSign.inj {t key : List UInt8} {n m : Nat} {a b : List UInt8} (h : IsSign t key n a) (h' : IsSign t key m b) : n = m ∧ a = b := by
  obtain ⟨hn, ha, e⟩ := h
  obtain ⟨hm, hb, e'⟩ := h'
  rw [e, signF_eq, signF_eq] at e'
  have e1 := List.append_cancel_left e'
  have e2 : numR (dec n ++ (10 :: (hexF a ++ (10 :: (lastF n a key ++ [10]))))) = numR (dec m ++ (10 :: (hexF b ++ (10 :: (lastF m b key ++ [10]))))) := by rw [e1]
  rw [numR_dec n hn _ (noDig10 _), numR_dec m hm _ (noDig10 _)] at e2
  simp only [Prod.mk.injEq, List.cons.injEq, true_and] at e2
  obtain ⟨rfl, e3, -⟩ := e2
  refine ⟨rfl, hexF_inj ha hb ?_⟩
  have := congrArg (List.take 16) e3
  rw [List.take_append_of_le_length (by rw [hexF_len]; omega), List.take_append_of_le_length (by rw [hexF_len]; omega), List.take_of_length_le (by rw [hexF_len]; omega), List.take_of_length_le (by rw [hexF_len]; omega)] at this
  exact this

/-! Its lines. -/
theorem index_at (a b : List UInt8) (c : UInt8) (h : ∀ x ∈ a, x ≠ c) : Lib.index (a ++ c :: b) [c] = a.length := by
  refine Lib.index_first (by simp) ?_ (fun j hj => ?_)
  · unfold Lib.occAt
    rw [List.drop_left]
    simp
  · cases ho : Lib.occAt (a ++ c :: b) [c] j with
    | false => rfl
    | true =>
      have := Lib.occAt_head rfl ho
      rw [List.getElem?_append_left hj, List.getElem?_eq_getElem hj] at this
      exact absurd (Option.some.inj this) (h _ (List.getElem_mem hj))
theorem splitK_at (k : Nat) (a b : List UInt8) (c : UInt8) (h : ∀ x ∈ a, x ≠ c) : Lib.splitK [c] 0 (k + 1) (a ++ c :: b) = a :: Lib.splitK [c] 0 k b := by
  rw [Lib.splitK, index_at a b c h, if_neg (by rw [beq_iff_eq]; omega), Int.toNat_natCast, Nat.add_zero, List.take_left]
  congr 2
  rw [show a.length + [c].length = (a ++ [c]).length by simp, show a ++ c :: b = (a ++ [c]) ++ b by simp, List.drop_left]
theorem split_sign (n : Nat) (root key : List UInt8) : Lib.splitK [10] 0 3 (signF n root key) = [[116, 105, 108, 101, 115], dec n, hexF root, lastF n root key ++ [10]] := by
  rw [signF_eq, show tilesL = [116, 105, 108, 101, 115] ++ [10] from rfl, List.append_assoc, show [10] ++ (dec n ++ (10 :: (hexF root ++ (10 :: (lastF n root key ++ [10]))))) = (10 : UInt8) :: (dec n ++ (10 :: (hexF root ++ (10 :: (lastF n root key ++ [10]))))) from rfl]
  rw [splitK_at 2 _ _ 10 (by decide), splitK_at 1 _ _ 10 (dec_not10 n), splitK_at 0 _ _ 10 (hex_not10 root)]
  rfl
theorem signF_len (n : Nat) (root key : List UInt8) : 3 ≤ (signF n root key).length := by
  rw [signF_eq]
  simp [tilesL]
end Go.Proofs.YtfgbghmefomolaaDoor
