import Derived.Test.YtoomnijgdpbphaaGreatDoorG02
import Derived.Test.YtoomnijgdpbphaaGreatDoorG10
import Derived.Test.YtoomnijgdpbphaaGreatDoorG06
import Derived.Test.YtoomnijgdpbphaaGreatDoorG14
import Derived.Test.YtoomnijgdpbphaaGreatDoorG01
import Derived.Lib.Split

namespace Go.Proofs.YtoomnijgdpbphaaGreatDoor

theorem nameF_inj {l i w l' i' w' : Int} (h : ¬ badName l i w) (h' : ¬ badName l' i' w') (hi : i ≤ 9223372036854775807) (hi' : i' ≤ 9223372036854775807) (e : nameF l i w = nameF l' i' w') : l = l' ∧ i = i' ∧ w = w' := by
  have a := parseP_name h hi
  have b := parseP_name h' hi'
  rw [e, b] at a
  simp only [Prod.mk.injEq, and_true] at a
  exact ⟨a.1.symm, a.2.1.symm, a.2.2.symm⟩
theorem nameF_cp {l i w : Int} : nameF l i w ≠ cpF := by
  unfold nameF
  split
  · simp [cpF]
  · unfold headF cpF entF tileF
    split <;> simp

/-- How many hashes of a level there are. -/
def cntL (l : Int) (n : Nat) : Nat := n / 4 ^ l.toNat
def dataF (es : List (List UInt8)) (l : Int) (k : Nat) : List UInt8 :=
  if l = -1 then bun1 (es.getD k []) else rootT ((es.drop (k * 4 ^ l.toNat)).take (4 ^ l.toNat))
def wid (c j : Nat) : Nat := min 4 (c - 4 * j)
def fileD (es : List (List UInt8)) (l : Int) (j w : Nat) : List UInt8 := ((List.range' (4 * j) w).map (dataF es l)).flatten
def fileF (es : List (List UInt8)) (l : Int) (c j : Nat) : List UInt8 × List UInt8 := (nameF l j (wid c j), fileD es l j (wid c j))
def levF (es : List (List UInt8)) (l : Int) (j0 c : Nat) : Fs := (List.range' j0 ((c + 3) / 4 - j0)).map (fileF es l c)
def wantTo (es : List (List UInt8)) (L : Nat) : Fs := levF es (-1) 0 es.length ++ (List.range L).flatMap fun (k : Nat) => levF es (k : Int) 0 (es.length / 4 ^ k)
def want (es : List (List UInt8)) : Fs := wantTo es 21
def levT (es : List (List UInt8)) (put : Nat) (l : Int) : Fs := if cntL l es.length = cntL l put then [] else levF es l (cntL l put / 4) (cntL l es.length)
def todoTo (es : List (List UInt8)) (put L : Nat) : Fs := levT es put (-1) ++ (List.range L).flatMap fun (k : Nat) => levT es put (k : Int)
def todo (es : List (List UInt8)) (put : Nat) : Fs := todoTo es put 21

theorem levF_none (es : List (List UInt8)) (l : Int) (j0 : Nat) : levF es l j0 0 = [] := by simp [levF]
theorem mem_levF {es : List (List UInt8)} {l : Int} {j0 c : Nat} {f : List UInt8 × List UInt8} : f ∈ levF es l j0 c ↔ ∃ j, j0 ≤ j ∧ 4 * j < c ∧ f = fileF es l c j := by
  unfold levF
  rw [List.mem_map]
  constructor
  · rintro ⟨j, hj, rfl⟩
    rw [List.mem_range'_1] at hj
    exact ⟨j, hj.1, by omega, rfl⟩
  · rintro ⟨j, h1, h2, rfl⟩
    exact ⟨j, by rw [List.mem_range'_1]; omega, rfl⟩
theorem flat_more {α : Type} (f : Nat → List α) (a b : Nat) (hab : a ≤ b) (h : ∀ k, a ≤ k → f k = []) : (List.range b).flatMap f = (List.range a).flatMap f := by
  induction b with
  | zero => obtain rfl : a = 0 := by omega
            rfl
  | succ b ih =>
    by_cases e : a = b + 1
    · rw [e]
    · rw [List.range_succ, List.flatMap_append, ih (by omega)]
      simp [h b (by omega)]
theorem wantTo_all (es : List (List UInt8)) (L : Nat) (h : es.length < 4 ^ L) (hL : L ≤ 21) : wantTo es L = want es := by
  unfold want wantTo
  rw [flat_more _ L 21 hL]
  intro k hk
  rw [Nat.div_eq_of_lt (Nat.lt_of_lt_of_le h (Nat.pow_le_pow_right (by omega) hk))]
  exact levF_none _ _ _
theorem todoTo_all (es : List (List UInt8)) (put L : Nat) (hp : put ≤ es.length) (h : es.length < 4 ^ L) (hL : L ≤ 21) : todoTo es put L = todo es put := by
  unfold todo todoTo
  rw [flat_more _ L 21 hL]
  intro k hk
  have h4 : es.length < 4 ^ k := Nat.lt_of_lt_of_le h (Nat.pow_le_pow_right (by omega) hk)
  unfold levT cntL
  rw [if_pos]
  rw [Int.toNat_natCast, Nat.div_eq_of_lt h4, Nat.div_eq_of_lt (by omega)]
def isL (l : Int) : Prop := -1 ≤ l ∧ l ≤ 20
theorem mem_want {es : List (List UInt8)} {f : List UInt8 × List UInt8} : f ∈ want es ↔ ∃ l j, isL l ∧ 4 * j < cntL l es.length ∧ f = fileF es l (cntL l es.length) j := by
  unfold want wantTo
  rw [List.mem_append, mem_levF, List.mem_flatMap]
  constructor
  · rintro (⟨j, -, h, rfl⟩ | ⟨k, hk, hf⟩)
    · exact ⟨-1, j, ⟨by omega, by omega⟩, by simpa [cntL] using h, by simp [cntL]⟩
    · rw [mem_levF] at hf
      obtain ⟨j, -, h, rfl⟩ := hf
      rw [List.mem_range] at hk
      exact ⟨k, j, ⟨by omega, by omega⟩, by simpa [cntL] using h, by simp [cntL]⟩
  · rintro ⟨l, j, ⟨h1, h2⟩, h, rfl⟩
    by_cases e : l = -1
    · subst e
      exact .inl ⟨j, Nat.zero_le _, by simpa [cntL] using h, by simp [cntL]⟩
    · obtain ⟨k, rfl⟩ := Int.eq_ofNat_of_zero_le (show 0 ≤ l by omega)
      exact .inr ⟨k, List.mem_range.2 (by omega), mem_levF.2 ⟨j, Nat.zero_le _, by simpa [cntL] using h, by simp [cntL]⟩⟩
theorem mem_todo {es : List (List UInt8)} {put : Nat} {f : List UInt8 × List UInt8} : f ∈ todo es put ↔ ∃ l j, isL l ∧ cntL l es.length ≠ cntL l put ∧ cntL l put / 4 ≤ j ∧ 4 * j < cntL l es.length ∧ f = fileF es l (cntL l es.length) j := by
  have key : ∀ l, f ∈ levT es put l ↔ ∃ j, cntL l es.length ≠ cntL l put ∧ cntL l put / 4 ≤ j ∧ 4 * j < cntL l es.length ∧ f = fileF es l (cntL l es.length) j := by
    intro l
    unfold levT
    split
    · rename_i e; simp [e]
    · rename_i e
      rw [mem_levF]
      simp [e]
  unfold todo todoTo
  rw [List.mem_append, key, List.mem_flatMap]
  constructor
  · rintro (⟨j, h⟩ | ⟨k, hk, hf⟩)
    · exact ⟨-1, j, ⟨by omega, by omega⟩, h⟩
    · rw [key] at hf
      obtain ⟨j, h⟩ := hf
      rw [List.mem_range] at hk
      exact ⟨k, j, ⟨by omega, by omega⟩, h⟩
  · rintro ⟨l, j, ⟨h1, h2⟩, h⟩
    by_cases e : l = -1
    · subst e; exact .inl ⟨j, h⟩
    · obtain ⟨k, rfl⟩ := Int.eq_ofNat_of_zero_le (show 0 ≤ l by omega)
      exact .inr ⟨k, List.mem_range.2 (by omega), (key _).2 ⟨j, h⟩⟩
theorem todo_want {es : List (List UInt8)} {put : Nat} : ∀ f ∈ todo es put, f ∈ want es := by
  intro f hf
  obtain ⟨l, j, h1, -, -, h2, h3⟩ := mem_todo.1 hf
  exact mem_want.2 ⟨l, j, h1, h2, h3⟩

theorem take_drop_take {α : Type} (es : List α) (p a b : Nat) (h : a + b ≤ p) : ((es.take p).drop a).take b = (es.drop a).take b := by
  apply List.ext_getElem?
  intro i
  simp only [List.getElem?_take, List.getElem?_drop]
  split
  · rw [if_pos (by omega)]
  · rfl
theorem dataF_take (es : List (List UInt8)) (l : Int) (p k : Nat) (h : k < cntL l p) : dataF (es.take p) l k = dataF es l k := by
  unfold dataF
  split
  · rename_i e
    subst e
    have : k < p := by simpa [cntL] using h
    rw [List.getD_eq_getElem?_getD, List.getD_eq_getElem?_getD, List.getElem?_take, if_pos this]
  · unfold cntL at h
    have hpos : 0 < 4 ^ l.toNat := Nat.pow_pos (by omega)
    have h1 : (k + 1) * 4 ^ l.toNat ≤ p := (Nat.le_div_iff_mul_le hpos).1 h
    rw [take_drop_take]
    rw [Nat.add_mul] at h1
    omega
theorem fileF_take (es : List (List UInt8)) (l : Int) (p c c' j : Nat) (hw : wid c' j = wid c j) (h : 4 * j + wid c j ≤ cntL l p) : fileF (es.take p) l c' j = fileF es l c j := by
  unfold fileF
  rw [hw]
  refine Prod.ext rfl ?_
  show fileD _ _ _ _ = fileD _ _ _ _
  unfold fileD
  congr 1
  refine List.map_congr_left fun k hk => ?_
  rw [List.mem_range'_1] at hk
  exact dataF_take es l p k (by omega)
/-- What is wanted is to be put now, or was wanted of what was put. -/
theorem want_parts {es : List (List UInt8)} {put : Nat} (hp : put ≤ es.length) : ∀ f ∈ want es, f ∈ todo es put ∨ f ∈ want (es.take put) := by
  intro f hf
  obtain ⟨l, j, h1, h2, rfl⟩ := mem_want.1 hf
  have hlen : (es.take put).length = put := by rw [List.length_take]; omega
  have hle : cntL l put ≤ cntL l es.length := Nat.div_le_div_right hp
  by_cases e : cntL l es.length = cntL l put
  · refine .inr (mem_want.2 ⟨l, j, h1, by rw [hlen]; omega, ?_⟩)
    rw [hlen, fileF_take es l put (cntL l es.length) (cntL l put) j (by rw [e]) (by unfold wid; omega)]
  · by_cases hj : cntL l put / 4 ≤ j
    · exact .inl (mem_todo.2 ⟨l, j, h1, e, hj, h2, rfl⟩)
    · refine .inr (mem_want.2 ⟨l, j, h1, by rw [hlen]; omega, ?_⟩)
      rw [hlen, fileF_take es l put (cntL l es.length) (cntL l put) j (by unfold wid; omega) (by unfold wid; omega)]
theorem cntL_le (l : Int) (n : Nat) : cntL l n ≤ n := Nat.div_le_self _ _
theorem good_file {l : Int} {j c : Nat} (h : isL l) (hj : 4 * j < c) : ¬ badName l j (wid c j) := by
  unfold badName wid isL at *
  omega
theorem want_fine {es : List (List UInt8)} (hn : es.length ≤ 1000000) : Fine (want es) := by
  refine ⟨fun q x y hx hy => ?_, fun x hx => ?_⟩
  · obtain ⟨l, j, h1, h2, e⟩ := mem_want.1 hx
    obtain ⟨l', j', h1', h2', e'⟩ := mem_want.1 hy
    have b := cntL_le l es.length
    have b' := cntL_le l' es.length
    unfold fileF at e e'
    simp only [Prod.mk.injEq] at e e'
    obtain ⟨rfl, hj, -⟩ := nameF_inj (good_file h1 h2) (good_file h1' h2') (by omega) (by omega) (e.1.symm.trans e'.1)
    obtain rfl : j = j' := by omega
    rw [e.2, e'.2]
  · obtain ⟨l, j, h1, h2, e⟩ := mem_want.1 hx
    unfold fileF at e
    simp only [Prod.mk.injEq] at e
    exact nameF_cp e.1.symm
/-- The bundles of a size: their indexes. -/
theorem want_index {es : List (List UInt8)} (hn : es.length ≤ 1000000) {j w : Nat} {x : List UInt8} (hj : j ≤ 9223372036854775807) (h1 : 1 ≤ w) (h4 : w ≤ 4) (h : (nameF (-1) j w, x) ∈ want es) : 4 * j < es.length := by
  obtain ⟨l, j', h1', h2, e⟩ := mem_want.1 h
  have b := cntL_le l es.length
  unfold fileF at e
  simp only [Prod.mk.injEq] at e
  obtain ⟨rfl, hj', -⟩ := nameF_inj (by unfold badName; omega) (good_file h1' h2) (by omega) (by omega) e.1
  omega
end Go.Proofs.YtoomnijgdpbphaaGreatDoor

namespace Go.Proofs.YtoomnijgdpbphaaGreatDoor

/-! Hexadecimal digits. -/
def hexD (d : Nat) : UInt8 := if d < 10 then UInt8.ofNat (48 + d) else UInt8.ofNat (87 + d)
def hex1 (b : UInt8) : List UInt8 := [hexD (b.toNat / 16), hexD (b.toNat % 16)]
def hexF (l : List UInt8) : List UInt8 := (l.map hex1).flatten
def isHex (c : UInt8) : Prop := (48 ≤ c.toNat ∧ c.toNat ≤ 57) ∨ (97 ≤ c.toNat ∧ c.toNat ≤ 102)
def nv (c : UInt8) : Nat := if c.toNat ≤ 57 then c.toNat - 48 else c.toNat - 87
def hexN (acc : Nat) : List UInt8 → Nat
  | [] => acc
  | c :: r => hexN (acc * 16 + nv c) r
theorem hexD_val (d : Nat) (h : d < 16) : (hexD d).toNat = if d < 10 then 48 + d else 87 + d := by
  unfold hexD
  split <;> rw [UInt8.toNat_ofNat'] <;> omega
theorem hexD_hex (d : Nat) (h : d < 16) : isHex (hexD d) := by
  unfold isHex
  rw [hexD_val d h]
  split <;> omega
theorem nv_hexD (d : Nat) (h : d < 16) : nv (hexD d) = d := by
  unfold nv
  rw [hexD_val d h]
  split <;> split <;> omega
theorem nv_lt (c : UInt8) (h : isHex c) : nv c < 16 := by
  unfold isHex at h
  unfold nv
  split <;> omega
theorem hexN_append (a b : List UInt8) (n : Nat) : hexN n (a ++ b) = hexN (hexN n a) b := by
  induction a generalizing n with
  | nil => rfl
  | cons c a ih => exact ih _
theorem hexN_hex1 (n : Nat) (b : UInt8) (r : List UInt8) : hexN n (hex1 b ++ r) = hexN (n * 256 + b.toNat) r := by
  have hb := b.toNat_lt
  show hexN ((n * 16 + nv (hexD (b.toNat / 16))) * 16 + nv (hexD (b.toNat % 16))) r = _
  rw [nv_hexD _ (by omega), nv_hexD _ (by omega)]
  congr 1
  omega
theorem hexF_cons (b : UInt8) (l : List UInt8) : hexF (b :: l) = hex1 b ++ hexF l := by simp [hexF]
theorem hexF_len (l : List UInt8) : (hexF l).length = 2 * l.length := by
  induction l with
  | nil => rfl
  | cons b l ih => rw [hexF_cons, List.length_append, ih]; simp [hex1]; omega
theorem hexF_hex (l : List UInt8) : ∀ c ∈ hexF l, isHex c := by
  induction l with
  | nil => intro c h; simp [hexF] at h
  | cons b l ih =>
    intro c h
    have hb := b.toNat_lt
    rw [hexF_cons] at h
    rcases List.mem_append.1 h with h | h
    · rcases (by simpa [hex1] using h : c = hexD (b.toNat / 16) ∨ c = hexD (b.toNat % 16)) with rfl | rfl
      · exact hexD_hex _ (by omega)
      · exact hexD_hex _ (by omega)
    · exact ih c h
theorem hexN_lt (l : List UInt8) (h : ∀ c ∈ l, isHex c) (n k : Nat) (hn : n < 16 ^ k) : hexN n l < 16 ^ (k + l.length) := by
  induction l generalizing n k with
  | nil => exact hn
  | cons c l ih =>
    have hc := nv_lt c (h c (by simp))
    have : n * 16 + nv c < 16 ^ (k + 1) := by rw [Nat.pow_succ]; omega
    have := ih (fun x hx => h x (by simp [hx])) (n * 16 + nv c) (k + 1) this
    rw [show k + (c :: l).length = k + 1 + l.length by simp; omega]
    exact this
theorem out8_hex (root : List UInt8) (h : root.length = 8) : out8 (hexN 0 (hexF root) : Nat) = root := by
  obtain ⟨b0, b1, b2, b3, b4, b5, b6, b7, rfl⟩ := hv8 root h
  have h0 := b0.toNat_lt; have h1 := b1.toNat_lt; have h2 := b2.toNat_lt; have h3 := b3.toNat_lt
  have h4 := b4.toNat_lt; have h5 := b5.toNat_lt; have h6 := b6.toNat_lt; have h7 := b7.toNat_lt
  have e : hexN 0 (hexF [b0, b1, b2, b3, b4, b5, b6, b7]) = ((((((b0.toNat * 256 + b1.toNat) * 256 + b2.toNat) * 256 + b3.toNat) * 256 + b4.toNat) * 256 + b5.toNat) * 256 + b6.toNat) * 256 + b7.toNat := by
    simp only [hexF_cons, hexN_hex1]
    show hexN _ [] = _
    simp only [hexN, Nat.zero_mul, Nat.zero_add]
  rw [e]
  unfold out8
  have key : ∀ (b : UInt8) (x : Int), x = (b.toNat : Int) → UInt8.ofNat x.toNat = b := by
    intro b x hx
    subst hx
    simp
  generalize hn : ((((((b0.toNat * 256 + b1.toNat) * 256 + b2.toNat) * 256 + b3.toNat) * 256 + b4.toNat) * 256 + b5.toNat) * 256 + b6.toNat) * 256 + b7.toNat = n
  rw [key b0 _ (by omega), key b1 _ (by omega), key b2 _ (by omega), key b3 _ (by omega), key b4 _ (by omega), key b5 _ (by omega), key b6 _ (by omega), key b7 _ (by omega)]
theorem hexF_inj {a b : List UInt8} (ha : a.length = 8) (hb : b.length = 8) (h : hexF a = hexF b) : a = b := by
  rw [← out8_hex a ha, ← out8_hex b hb, h]
theorem hex_not10 (l : List UInt8) : ∀ x ∈ hexF l, x ≠ 10 := by
  intro x hx e
  subst e
  have := hexF_hex l 10 hx
  unfold isHex at this
  revert this
  decide
theorem dec_not10 (n : Nat) : ∀ x ∈ dec n, x ≠ 10 := dec_not n 10 (by unfold isDig; decide)

/-! Checkpoints. -/
def tilesL : List UInt8 := [116, 105, 108, 101, 115, 10]
def linesF (n : Nat) (root : List UInt8) : List UInt8 := tilesL ++ dec n ++ [10] ++ hexF root ++ [10]
def lastF (n : Nat) (root key : List UInt8) : List UInt8 := hexF (hash (key ++ [0] ++ linesF n root))
def signF (n : Nat) (root key : List UInt8) : List UInt8 := linesF n root ++ lastF n root key ++ [10]
theorem signF_eq (n : Nat) (root key : List UInt8) : signF n root key = tilesL ++ (dec n ++ (10 :: (hexF root ++ (10 :: (lastF n root key ++ [10]))))) := by
  unfold signF linesF
  simp
/-- Of what a text is a checkpoint. -/
def IsSign (t key : List UInt8) (n : Nat) (root : List UInt8) : Prop := n ≤ 9223372036854775807 ∧ root.length = 8 ∧ t = signF n root key
theorem noDig10 (r : List UInt8) : noDig (10 :: r) := by show ¬ isDig 10; unfold isDig; decide
theorem IsSign.inj {t key : List UInt8} {n m : Nat} {a b : List UInt8} (h : IsSign t key n a) (h' : IsSign t key m b) : n = m ∧ a = b := by
  obtain ⟨hn, ha, e⟩ := h
  obtain ⟨hm, hb, e'⟩ := h'
  rw [e, signF_eq, signF_eq] at e'
  have e1 := List.append_cancel_left e'
  have e2 : numR (dec n ++ (10 :: (hexF a ++ (10 :: (lastF n a key ++ [10]))))) = numR (dec m ++ (10 :: (hexF b ++ (10 :: (lastF m b key ++ [10]))))) := by rw [e1]
  rw [numR_dec n hn _ (noDig10 _), numR_dec m hm _ (noDig10 _)] at e2
  simp only [Prod.mk.injEq, List.cons.injEq, true_and] at e2
  obtain ⟨rfl, e3, -⟩ := e2
  refine ⟨rfl, hexF_inj ha hb ?_⟩
  have := congrArg (List.take 16) e3
  rw [List.take_append_of_le_length (by rw [hexF_len]; omega), List.take_append_of_le_length (by rw [hexF_len]; omega), List.take_of_length_le (by rw [hexF_len]; omega), List.take_of_length_le (by rw [hexF_len]; omega)] at this
  exact this

/-! Its lines. -/
theorem index_at (a b : List UInt8) (c : UInt8) (h : ∀ x ∈ a, x ≠ c) : Lib.index (a ++ c :: b) [c] = a.length := by
  refine Lib.index_first (by simp) ?_ (fun j hj => ?_)
  · unfold Lib.occAt
    rw [List.drop_left]
    simp
  · cases ho : Lib.occAt (a ++ c :: b) [c] j with
    | false => rfl
    | true =>
      have := Lib.occAt_head rfl ho
      rw [List.getElem?_append_left hj, List.getElem?_eq_getElem hj] at this
      exact absurd (Option.some.inj this) (h _ (List.getElem_mem hj))
theorem splitK_at (k : Nat) (a b : List UInt8) (c : UInt8) (h : ∀ x ∈ a, x ≠ c) : Lib.splitK [c] 0 (k + 1) (a ++ c :: b) = a :: Lib.splitK [c] 0 k b := by
  rw [Lib.splitK, index_at a b c h, if_neg (by rw [beq_iff_eq]; omega), Int.toNat_natCast, Nat.add_zero, List.take_left]
  congr 2
  rw [show a.length + [c].length = (a ++ [c]).length by simp, show a ++ c :: b = (a ++ [c]) ++ b by simp, List.drop_left]
theorem split_sign (n : Nat) (root key : List UInt8) : Lib.splitK [10] 0 3 (signF n root key) = [[116, 105, 108, 101, 115], dec n, hexF root, lastF n root key ++ [10]] := by
  rw [signF_eq, show tilesL = [116, 105, 108, 101, 115] ++ [10] from rfl, List.append_assoc, show [10] ++ (dec n ++ (10 :: (hexF root ++ (10 :: (lastF n root key ++ [10]))))) = (10 : UInt8) :: (dec n ++ (10 :: (hexF root ++ (10 :: (lastF n root key ++ [10]))))) from rfl]
  rw [splitK_at 2 _ _ 10 (by decide), splitK_at 1 _ _ 10 (dec_not10 n), splitK_at 0 _ _ 10 (hex_not10 root)]
  rfl
theorem signF_len (n : Nat) (root key : List UInt8) : 3 ≤ (signF n root key).length := by
  rw [signF_eq]
  simp [tilesL]
end Go.Proofs.YtoomnijgdpbphaaGreatDoor
