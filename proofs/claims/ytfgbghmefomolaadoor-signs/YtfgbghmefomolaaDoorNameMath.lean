
import Derived.Test.YtfgbghmefomolaaDoorBase
import Derived.Lib.ItoaMem
import Derived.Lib.AtoiAllCases
import Derived.Lib.IndexLaws
import Derived.Lib.IndexMore
import Derived.Lib.Strings
namespace Go.Proofs.YtfgbghmefomolaaDoor

/-! Numbers in digits. -/
def dec (n : Nat) : List UInt8 := Lib.decDigits n
def isDig (c : UInt8) : Prop := 48 ≤ c.toNat ∧ c.toNat ≤ 57
theorem dec_one {n : Nat} (h : n < 10) : dec n = [UInt8.ofNat (48 + n)] := by unfold dec; rw [Lib.decDigits, dif_pos h]
theorem dec_more {n : Nat} (h : ¬ n < 10) : dec n = dec (n / 10) ++ [UInt8.ofNat (48 + n % 10)] := by unfold dec; rw [Lib.decDigits, dif_neg h]
theorem dig_val (d : Nat) (h : d < 10) : (UInt8.ofNat (48 + d)).toNat = 48 + d := by rw [UInt8.toNat_ofNat']; omega
theorem dec_digits (n : Nat) : ∀ c ∈ dec n, isDig c := by
  induction n using Nat.strongRecOn with
  | _ n ih =>
    intro c hc
    by_cases h : n < 10
    · rw [dec_one h] at hc
      obtain rfl : c = UInt8.ofNat (48 + n) := by simpa using hc
      unfold isDig
      rw [dig_val n h]; omega
    · rw [dec_more h] at hc
      rcases List.mem_append.1 hc with h' | h'
      · exact ih (n / 10) (by omega) c h'
      · obtain rfl : c = UInt8.ofNat (48 + n % 10) := by simpa using h'
        unfold isDig
        rw [dig_val _ (by omega)]; omega
theorem dec_ne (n : Nat) : dec n ≠ [] := by
  by_cases h : n < 10
  · rw [dec_one h]; simp
  · rw [dec_more h]; simp

/-- The numbers that strconv reads. -/
theorem parse_dec (n : Nat) (h : n ≤ 9223372036854775807) (r : List UInt8) : Lib.parseUint10 0 (dec n ++ r) = Lib.parseUint10 n r := by
  induction n using Nat.strongRecOn generalizing r with
  | _ n ih =>
    by_cases h9 : n < 10
    · rw [dec_one h9, List.cons_append, List.nil_append, Lib.parseUint10, dig_val n h9, if_pos (by omega), if_neg (by omega), if_neg (by omega)]
      congr 1
      omega
    · rw [dec_more h9, List.append_assoc, ih (n / 10) (by omega) (by omega), List.cons_append, List.nil_append, Lib.parseUint10, dig_val _ (by omega), if_pos (by omega), if_neg (by omega), if_neg (by omega)]
      congr 1
      omega
theorem atoi_dec (n : Nat) (h : n ≤ 9223372036854775807) : Lib.atoiAll (dec n) = .ok (n : Int) := by
  have hp := parse_dec n h []
  rw [List.append_nil, Lib.parseUint10] at hp
  have hd := dec_digits n
  have hne := dec_ne n
  cases hdec : dec n with
  | nil => exact absurd hdec hne
  | cons c r =>
    rw [hdec] at hp hd
    obtain ⟨c1, c2⟩ := hd c (by simp)
    have hm : Lib.parseMag (c :: r) = .ok n := by rw [Lib.parseMag, if_neg (by simp), hp]
    simp only [Lib.atoiAll]
    rw [if_neg (by omega), hm]
    simp only []
    rw [if_neg (by omega), if_neg (by omega), if_neg (by omega)]
/-- number of the program. -/
def numP (l : List UInt8) : Int := match Lib.atoiAll l with
  | .ok v => v
  | _ => -1
theorem numP_dec (n : Nat) (h : n ≤ 9223372036854775807) : numP (dec n) = (n : Int) := by unfold numP; rw [atoi_dec n h]
theorem numP_bounds (l : List UInt8) : -9223372036854775808 ≤ numP l ∧ numP l ≤ 9223372036854775807 := by
  unfold numP
  cases h : Lib.atoiAll l
  · exact Lib.atoiAll_bounds h
  · simp
  · simp
/-- number of the document's answer. -/
def numL (n : Nat) : List UInt8 → Option (Nat × List UInt8)
  | [] => some (n, [])
  | c :: r => if 48 ≤ c.toNat ∧ c.toNat ≤ 57 then (if (9223372036854775807 - (c.toNat - 48)) / 10 < n then none else numL (10 * n + (c.toNat - 48)) r) else some (n, c :: r)
theorem numL_dec (n : Nat) (h : n ≤ 9223372036854775807) (r : List UInt8) : numL 0 (dec n ++ r) = numL n r := by
  induction n using Nat.strongRecOn generalizing r with
  | _ n ih =>
    by_cases h9 : n < 10
    · rw [dec_one h9, List.cons_append, List.nil_append, numL, dig_val n h9, if_pos (by omega), if_neg (by omega)]
      congr 1
      omega
    · rw [dec_more h9, List.append_assoc, ih (n / 10) (by omega) (by omega), List.cons_append, List.nil_append, numL, dig_val _ (by omega), if_pos (by omega), if_neg (by omega)]
      congr 1
      omega
def numR (s : List UInt8) : Nat × List UInt8 × Bool := match numL 0 s with
  | none => (0, s, false)
  | some (n, r) => (n, r, decide (r.length < s.length))
def noDig : List UInt8 → Prop
  | [] => True
  | c :: _ => ¬ isDig c
theorem numL_stop (n : Nat) (r : List UInt8) (h : noDig r) : numL n r = some (n, r) := by
  cases r with
  | nil => rfl
  | cons c r =>
    have h' : ¬ (48 ≤ c.toNat ∧ c.toNat ≤ 57) := h
    rw [numL, if_neg h']
theorem numR_dec (n : Nat) (h : n ≤ 9223372036854775807) (r : List UInt8) (hr : noDig r) : numR (dec n ++ r) = (n, r, true) := by
  unfold numR
  rw [numL_dec n h, numL_stop n r hr]
  have : 0 < (dec n).length := List.length_pos_iff.2 (dec_ne n)
  simp only [List.length_append]
  rw [show decide (r.length < (dec n).length + r.length) = true by simp; omega]
theorem numL_bound : ∀ (l : List UInt8) (n m : Nat) (r : List UInt8), n ≤ 9223372036854775807 → numL n l = some (m, r) → m ≤ 9223372036854775807 ∧ r.length ≤ l.length
  | [], n, m, r, hn, h => by
    simp only [numL, Option.some.injEq, Prod.mk.injEq] at h
    obtain ⟨rfl, rfl⟩ := h
    exact ⟨hn, Nat.le_refl _⟩
  | c :: l, n, m, r, hn, h => by
    rw [numL] at h
    split at h
    · split at h
      · simp at h
      · obtain ⟨a, b⟩ := numL_bound l _ m r (by omega) h
        exact ⟨a, by simp; omega⟩
    · simp only [Option.some.injEq, Prod.mk.injEq] at h
      obtain ⟨rfl, rfl⟩ := h
      exact ⟨hn, Nat.le_refl _⟩
theorem numR_bound (l : List UInt8) : (numR l).1 ≤ 9223372036854775807 ∧ (numR l).2.1.length ≤ l.length := by
  unfold numR
  cases h : numL 0 l with
  | none => exact ⟨Nat.zero_le _, Nat.le_refl _⟩
  | some x =>
    obtain ⟨m, r⟩ := x
    exact numL_bound l 0 m r (by omega) h

/-! Texts that are cut. -/
theorem cut_at (a t b : List UInt8) (c : UInt8) (h : ∀ x ∈ a, x ≠ c) : Lib.cut (a ++ (c :: t) ++ b) (c :: t) = (a, b, true) := by
  have hi : Lib.index (a ++ (c :: t) ++ b) (c :: t) = a.length := by
    refine Lib.index_first (by simp) ?_ (fun j hj => ?_)
    · unfold Lib.occAt
      rw [List.append_assoc, List.drop_left]
      simp [List.isPrefixOf_iff_prefix]
    · cases ho : Lib.occAt (a ++ (c :: t) ++ b) (c :: t) j with
      | false => rfl
      | true =>
        have := Lib.occAt_head rfl ho
        rw [List.append_assoc, List.getElem?_append_left hj, List.getElem?_eq_getElem hj] at this
        exact absurd (Option.some.inj this) (h _ (List.getElem_mem hj))
  unfold Lib.cut
  rw [hi, if_pos (by omega), Int.toNat_natCast]
  have e1 : (a ++ (c :: t) ++ b).take a.length = a := by rw [List.append_assoc, List.take_left]
  have e2 : (a ++ (c :: t) ++ b).drop (a.length + (c :: t).length) = b := by
    rw [← List.length_append, List.drop_left]
  rw [e1, e2]
theorem cut_none (a t : List UInt8) (c : UInt8) (h : ∀ x ∈ a, x ≠ c) : Lib.cut a (c :: t) = (a, [], false) := by
  have hi : Lib.index a (c :: t) = -1 := by
    refine Lib.index_none (fun j hj => ?_)
    cases ho : Lib.occAt a (c :: t) j with
    | false => rfl
    | true =>
      have := Lib.occAt_head rfl ho
      obtain ⟨hj', e⟩ := List.getElem?_eq_some_iff.1 this
      exact absurd e (h _ (List.getElem_mem hj'))
  unfold Lib.cut
  rw [hi, if_neg (by omega)]
theorem cut_len (s sep : List UInt8) : (Lib.cut s sep).1.length ≤ s.length ∧ (Lib.cut s sep).2.1.length ≤ s.length := by
  unfold Lib.cut
  split
  · simp; omega
  · simp
def begF (s p : List UInt8) : List UInt8 × Bool := if p.isPrefixOf s then (s.drop p.length, true) else (s, false)
theorem pre_app (p r : List UInt8) : p.isPrefixOf (p ++ r) = true := by rw [List.isPrefixOf_iff_prefix]; exact List.prefix_append p r
theorem begF_app (p r : List UInt8) : begF (p ++ r) p = (r, true) := by unfold begF; rw [if_pos (pre_app p r), List.drop_left]
theorem begF_len (s p : List UInt8) : (begF s p).1.length ≤ s.length := by unfold begF; split <;> simp

/-! Names. -/
def entF : List UInt8 := [101, 110, 116, 114, 105, 101, 115, 47]
def tileF : List UInt8 := [116, 105, 108, 101, 47]
def partF : List UInt8 := [46, 112, 47]
def badName (l i w : Int) : Prop := l < -1 ∨ 20 < l ∨ i < 0 ∨ w < 1 ∨ 4 < w
def headF (l : Int) : List UInt8 := if l = -1 then entF else tileF ++ dec l.toNat ++ [47]
def tailF (w : Int) : List UInt8 := if w < 4 then partF ++ dec w.toNat else []
def nameF (l i w : Int) : List UInt8 := if l < -1 ∨ 20 < l ∨ i < 0 ∨ w < 1 ∨ 4 < w then [] else headF l ++ dec i.toNat ++ tailF w
theorem nameF_bad {l i w : Int} (h : badName l i w) : nameF l i w = [] := by unfold badName at h; unfold nameF; rw [if_pos h]
theorem nameF_good {l i w : Int} (h : ¬ badName l i w) : nameF l i w = headF l ++ dec i.toNat ++ tailF w := by unfold badName at h; unfold nameF; rw [if_neg h]
theorem nameF_ne {l i w : Int} (h : ¬ badName l i w) : nameF l i w ≠ [] := by
  rw [nameF_good h]
  intro e
  have := List.append_eq_nil_iff.1 (List.append_eq_nil_iff.1 e).1
  exact dec_ne _ this.2
/-- cutLevel, Parse of the program. -/
def cutLevelF (p : List UInt8) : Int × List UInt8 × Bool :=
  if Lib.hasPrefix p entF then (-1, Lib.trimPrefix p entF, true)
  else (numP (Lib.cut (Lib.trimPrefix p tileF) [47]).1, (Lib.cut (Lib.trimPrefix p tileF) [47]).2.1, Lib.hasPrefix p tileF)
def widthP (c : List UInt8 × List UInt8 × Bool) : Int := if c.2.2 then numP c.2.1 else 4
def parseP (p : List UInt8) : Int × Int × Int × Bool :=
  if (cutLevelF p).2.2 = true ∧ nameF (cutLevelF p).1 (numP (Lib.cut (cutLevelF p).2.1 partF).1) (widthP (Lib.cut (cutLevelF p).2.1 partF)) = p
  then ((cutLevelF p).1, numP (Lib.cut (cutLevelF p).2.1 partF).1, widthP (Lib.cut (cutLevelF p).2.1 partF), true) else (0, 0, 0, false)
/-- Parse of the document's answer. -/
def levelR (p : List UInt8) : Int × List UInt8 × Bool :=
  if (begF p entF).2 then (-1, (begF p entF).1, true)
  else if (begF p tileF).2 then
    (if (numR (begF p tileF).1).2.2 then
      ((numR (begF p tileF).1).1, (begF (numR (begF p tileF).1).2.1 [47]).1, (begF (numR (begF p tileF).1).2.1 [47]).2)
    else (0, [], false))
  else (0, [], false)
def restR (s : List UInt8) : Int × Int × List UInt8 × Bool :=
  if (numR s).2.2 && (begF (numR s).2.1 partF).2 then
    ((numR s).1, (numR (begF (numR s).2.1 partF).1).1, (numR (begF (numR s).2.1 partF).1).2.1, (numR (begF (numR s).2.1 partF).1).2.2)
  else ((numR s).1, 4, (numR s).2.1, (numR s).2.2)
def parseR (p : List UInt8) : Int × Int × Int × Bool :=
  if (levelR p).2.2 = true ∧ (restR (levelR p).2.1).2.2.2 = true ∧ (restR (levelR p).2.1).2.2.1 = [] ∧ nameF (levelR p).1 (restR (levelR p).2.1).1 (restR (levelR p).2.1).2.1 = p ∧ p ≠ []
  then ((levelR p).1, (restR (levelR p).2.1).1, (restR (levelR p).2.1).2.1, true) else (0, 0, 0, false)

theorem dig_ne (c x : UInt8) (h : isDig x) (hc : ¬ isDig c) : x ≠ c := fun e => hc (e ▸ h)
theorem dec_not (n : Nat) (c : UInt8) (hc : ¬ isDig c) : ∀ x ∈ dec n, x ≠ c := fun x hx => dig_ne c x (dec_digits n x hx) hc
theorem headF_ent : headF (-1) = entF := by unfold headF; rw [if_pos rfl]
theorem headF_tile (l : Int) (h : l ≠ -1) : headF l = tileF ++ dec l.toNat ++ [47] := by unfold headF; rw [if_neg h]
theorem tailF_noDig (w : Int) : noDig (tailF w) := by
  unfold tailF
  split
  · show ¬ isDig 46
    unfold isDig; decide
  · trivial

/-- The level of a name, as the program reads it. -/
theorem cutLevel_name (l : Int) (hl : -1 ≤ l) (hl2 : l ≤ 20) (r : List UInt8) : cutLevelF (headF l ++ r) = (l, r, true) := by
  by_cases h : l = -1
  · subst h
    rw [headF_ent]
    unfold cutLevelF Lib.trimPrefix Lib.hasPrefix
    rw [if_pos (pre_app entF r), if_pos (pre_app entF r), List.drop_left]
  · rw [headF_tile l h, List.append_assoc, List.append_assoc]
    have n1 : Lib.hasPrefix (tileF ++ (dec l.toNat ++ ([47] ++ r))) entF = false := rfl
    have n2 : Lib.hasPrefix (tileF ++ (dec l.toNat ++ ([47] ++ r))) tileF = true := pre_app _ _
    have n3 : Lib.trimPrefix (tileF ++ (dec l.toNat ++ ([47] ++ r))) tileF = dec l.toNat ++ [47] ++ r := by
      unfold Lib.trimPrefix
      rw [if_pos n2, List.drop_left, List.append_assoc]
    unfold cutLevelF
    rw [n1, n2, n3, cut_at (dec l.toNat) [] r 47 (dec_not _ _ (by unfold isDig; decide)), numP_dec _ (by omega)]
    simp only [Bool.false_eq_true, if_false]
    rw [show ((l.toNat : Nat) : Int) = l by omega]
theorem cut_name (i : Nat) (w : Int) (hi : i ≤ 9223372036854775807) (hw : 1 ≤ w) (hw4 : w ≤ 4) : numP (Lib.cut (dec i ++ tailF w) partF).1 = i ∧ widthP (Lib.cut (dec i ++ tailF w) partF) = w := by
  unfold tailF
  by_cases h : w < 4
  · rw [if_pos h, ← List.append_assoc, show partF = 46 :: [112, 47] from rfl, cut_at (dec i) [112, 47] (dec w.toNat) 46 (dec_not _ _ (by unfold isDig; decide))]
    refine ⟨numP_dec i hi, ?_⟩
    show (if true = true then numP (dec w.toNat) else 4) = w
    rw [if_pos rfl, numP_dec _ (by omega)]
    omega
  · rw [if_neg h, List.append_nil, show partF = 46 :: [112, 47] from rfl, cut_none (dec i) [112, 47] 46 (dec_not _ _ (by unfold isDig; decide))]
    refine ⟨numP_dec i hi, ?_⟩
    show (if false = true then numP [] else 4) = w
    rw [if_neg (by simp)]
    omega
theorem parseP_name {l i w : Int} (h : ¬ badName l i w) (hi : i ≤ 9223372036854775807) : parseP (nameF l i w) = (l, i, w, true) := by
  have h' := h
  unfold badName at h'
  have e : nameF l i w = headF l ++ (dec i.toNat ++ tailF w) := by rw [nameF_good h, List.append_assoc]
  have c := cutLevel_name l (by omega) (by omega) (dec i.toNat ++ tailF w)
  obtain ⟨c1, c2⟩ := cut_name i.toNat w (by omega) (by omega) (by omega)
  unfold parseP
  rw [e, c]
  simp only []
  rw [c1, c2, show ((i.toNat : Nat) : Int) = i by omega, ← e, if_pos (by simp)]
theorem parseP_sound {p : List UInt8} {l i w : Int} (h : parseP p = (l, i, w, true)) : ¬ badName l i w ∧ i ≤ 9223372036854775807 ∧ nameF l i w = p := by
  unfold parseP at h
  split at h
  · rename_i hc
    obtain ⟨ho, hn⟩ := hc
    simp only [Prod.mk.injEq] at h
    obtain ⟨rfl, rfl, rfl, _⟩ := h
    refine ⟨fun hb => ?_, (numP_bounds _).2, hn⟩
    rw [nameF_bad hb] at hn
    subst hn
    exact absurd ho (by unfold cutLevelF; simp [Lib.hasPrefix, entF, tileF])
  · simp at h
theorem parseP_false {p : List UInt8} (h : ∀ l i w, ¬ badName l i w → i ≤ 9223372036854775807 → nameF l i w ≠ p) : parseP p = (0, 0, 0, false) := by
  unfold parseP
  rw [if_neg]
  rintro ⟨ho, hn⟩
  have : parseP p = ((cutLevelF p).1, numP (Lib.cut (cutLevelF p).2.1 partF).1, widthP (Lib.cut (cutLevelF p).2.1 partF), true) := by
    unfold parseP
    rw [if_pos ⟨ho, hn⟩]
  obtain ⟨a, b, c⟩ := parseP_sound this
  exact h _ _ _ a b c

theorem level_name (l : Int) (hl : -1 ≤ l) (hl2 : l ≤ 20) (r : List UInt8) : levelR (headF l ++ r) = (l, r, true) := by
  by_cases h : l = -1
  · subst h
    rw [headF_ent]
    unfold levelR
    rw [begF_app]
    rfl
  · rw [headF_tile l h, List.append_assoc, List.append_assoc]
    have n1 : begF (tileF ++ (dec l.toNat ++ ([47] ++ r))) entF = (tileF ++ (dec l.toNat ++ ([47] ++ r)), false) := rfl
    unfold levelR
    rw [n1, begF_app]
    simp only [Bool.false_eq_true, if_false, if_true]
    rw [numR_dec l.toNat (by omega) ([47] ++ r) (by show ¬ isDig 47; unfold isDig; decide)]
    simp only [if_true]
    rw [begF_app]
    simp only []
    rw [show ((l.toNat : Nat) : Int) = l by omega]
theorem rest_name (i : Nat) (w : Int) (hi : i ≤ 9223372036854775807) (hw : 1 ≤ w) (hw4 : w ≤ 4) : restR (dec i ++ tailF w) = ((i : Int), w, [], true) := by
  have e := numR_dec i hi (tailF w) (tailF_noDig w)
  unfold restR
  rw [e]
  by_cases h : w < 4
  · have ht : tailF w = partF ++ (dec w.toNat ++ []) := by unfold tailF; rw [if_pos h, List.append_nil]
    rw [ht, begF_app]
    simp only [Bool.and_self, if_true]
    rw [numR_dec w.toNat (by omega) [] trivial]
    simp only []
    rw [show ((w.toNat : Nat) : Int) = w by omega]
  · have ht : tailF w = [] := by unfold tailF; rw [if_neg h]
    rw [ht]
    have : begF [] partF = ([], false) := rfl
    rw [this]
    simp only [Bool.and_false, Bool.false_eq_true, if_false]
    rw [show w = 4 by omega]
theorem parseR_name {l i w : Int} (h : ¬ badName l i w) (hi : i ≤ 9223372036854775807) : parseR (nameF l i w) = (l, i, w, true) := by
  have h' := h
  unfold badName at h'
  have e : nameF l i w = headF l ++ (dec i.toNat ++ tailF w) := by rw [nameF_good h, List.append_assoc]
  have c := level_name l (by omega) (by omega) (dec i.toNat ++ tailF w)
  have d := rest_name i.toNat w (by omega) (by omega) (by omega)
  have ne := nameF_ne h
  unfold parseR
  rw [e] at ne ⊢
  rw [c]
  simp only []
  rw [d]
  simp only []
  rw [show ((i.toNat : Nat) : Int) = i by omega, ← e, if_pos (by rw [← e] at ne; simpa using ne)]
theorem restR_bound (s : List UInt8) : (restR s).1 ≤ 9223372036854775807 := by
  unfold restR
  have := (numR_bound s).1
  split <;> simp only [] <;> omega
theorem parseR_false {p : List UInt8} (h : ∀ l i w, ¬ badName l i w → i ≤ 9223372036854775807 → nameF l i w ≠ p) : parseR p = (0, 0, 0, false) := by
  unfold parseR
  rw [if_neg]
  rintro ⟨ho, h1, h2, hn, hne⟩
  refine h _ _ _ (fun hb => ?_) (restR_bound _) hn
  rw [nameF_bad hb] at hn
  exact hne hn.symm
/-- Both read the same. -/
theorem parse_same (p : List UInt8) : parseP p = parseR p := by
  by_cases h : ∃ l i w, ¬ badName l i w ∧ i ≤ 9223372036854775807 ∧ nameF l i w = p
  · obtain ⟨l, i, w, a, b, rfl⟩ := h
    rw [parseP_name a b, parseR_name a b]
  · have h' : ∀ l i w, ¬ badName l i w → i ≤ 9223372036854775807 → nameF l i w ≠ p := fun l i w a b e => h ⟨l, i, w, a, b, e⟩
    rw [parseP_false h', parseR_false h']
theorem parseP_nil : parseP [] = (0, 0, 0, false) := parseP_false (fun _ _ _ a _ => nameF_ne a)
end Go.Proofs.YtfgbghmefomolaaDoor
