import Derived.WalkKit
import Derived.WalkSpells
import Derived.OpenShut
import Derived.Laws.OwnMore
import Derived.Deep.Draws
import Derived.Test.YtoomnijgdpbphaaGreatDoorRows
import Derived.WalkLawsBesides
import Derived.LaidEql
import Derived.BigQuiet
import Derived.Deep.QuietTactic
import Derived.Laws.Rows
import Derived.Laws.Tables
import Derived.Laws.CopyOwn
import Derived.Deep.WholeRow
import Derived.Deep.MidRow

namespace Go.Proofs.YtoomnijgdpbphaaGreatDoor
open Go.RowKit

/-- One byte taken in, as the walk spells it. -/
def st (m z : Int) : Int := IntKind.u64.wrap (bits BinOp.xor IntKind.u64 m z * 1099511628211)
def fnv (n : Int) (l : List UInt8) : Int := l.foldl (fun m b => st m b.toNat) n
def out8 (n : Int) : List UInt8 :=
  [UInt8.ofNat (n / 72057594037927936 % 256).toNat, UInt8.ofNat (n / 281474976710656 % 256).toNat, UInt8.ofNat (n / 1099511627776 % 256).toNat, UInt8.ofNat (n / 4294967296 % 256).toNat,
   UInt8.ofNat (n / 16777216 % 256).toNat, UInt8.ofNat (n / 65536 % 256).toNat, UInt8.ofNat (n / 256 % 256).toNat, UInt8.ofNat (n % 256).toNat]
def fnvStart : Int := 14695981039346656037
def hash (l : List UInt8) : List UInt8 := out8 (fnv fnvStart l)
def leafH (e : List UInt8) : List UInt8 := hash (0 :: e)
def nodeH (a b : List UInt8) : List UInt8 := hash (1 :: (a ++ b))
/-- The greatest power of two below n. -/
def kOf (n : Nat) : Nat := 2 ^ (n - 1).log2
/-- A byte's value in a cell; an array of bytes. -/
def bv (b : UInt8) : Value := .int .u8 b.toNat
def hv (l : List UInt8) : Array Value := (l.map bv).toArray

theorem st_range (m z : Int) : 0 ≤ st m z ∧ st m z ≤ 18446744073709551615 := by
  have h := wf_wrap IntKind.u64 (bits BinOp.xor IntKind.u64 m z * 1099511628211)
  exact bounds_u64 h
theorem fnv_range (n : Int) (l : List UInt8) (h0 : 0 ≤ n) (h1 : n ≤ 18446744073709551615) : 0 ≤ fnv n l ∧ fnv n l ≤ 18446744073709551615 := by
  induction l generalizing n with
  | nil => exact ⟨h0, h1⟩
  | cons b l ih => exact ih _ (st_range n b.toNat).1 (st_range n b.toNat).2
theorem fnv_append (n : Int) (a b : List UInt8) : fnv n (a ++ b) = fnv (fnv n a) b := List.foldl_append
theorem fnv_snoc (n : Int) (a : List UInt8) (b : UInt8) : fnv n (a ++ [b]) = st (fnv n a) b.toNat := by rw [fnv_append]; rfl
theorem fnvStart_range : 0 ≤ fnvStart ∧ fnvStart ≤ 18446744073709551615 := by decide
theorem out8_length (n : Int) : (out8 n).length = 8 := rfl
theorem hash_length (l : List UInt8) : (hash l).length = 8 := rfl
theorem leafH_length (l : List UInt8) : (leafH l).length = 8 := rfl
theorem nodeH_length (a b : List UInt8) : (nodeH a b).length = 8 := rfl

theorem byte_of (x : Int) (h0 : 0 ≤ x) (h1 : x ≤ 255) : ((UInt8.ofNat x.toNat).toNat : Int) = x := by
  rw [UInt8.toNat_ofNat']; omega

theorem hv_out8 (n : Int) (h0 : 0 ≤ n) (h1 : n ≤ 18446744073709551615) : hv (out8 n) =
    #[.int .u8 (n / 72057594037927936), .int .u8 (n / 281474976710656 % 256), .int .u8 (n / 1099511627776 % 256), .int .u8 (n / 4294967296 % 256),
      .int .u8 (n / 16777216 % 256), .int .u8 (n / 65536 % 256), .int .u8 (n / 256 % 256), .int .u8 (n % 256)] := by
  have e : n / 72057594037927936 % 256 = n / 72057594037927936 := by omega
  simp only [hv, out8, List.map_cons, List.map_nil, bv]
  rw [byte_of _ (by omega) (by omega), byte_of _ (by omega) (by omega), byte_of _ (by omega) (by omega), byte_of _ (by omega) (by omega), byte_of _ (by omega) (by omega), byte_of _ (by omega) (by omega), byte_of _ (by omega) (by omega), byte_of _ (by omega) (by omega), e]

theorem hv_size (l : List UInt8) : (hv l).size = l.length := by simp [hv]
theorem hv_one (l : List UInt8) : (hv l).all (·.oneCell') = true := by
  simp [hv, bv, Value.oneCell']
theorem hv8 (l : List UInt8) (h : l.length = 8) : ∃ b0 b1 b2 b3 b4 b5 b6 b7 : UInt8, l = [b0, b1, b2, b3, b4, b5, b6, b7] := by
  match l, h with
  | [b0, b1, b2, b3, b4, b5, b6, b7], _ => exact ⟨b0, b1, b2, b3, b4, b5, b6, b7, rfl⟩

theorem kOf_spec (n : Nat) (h : 2 ≤ n) : kOf n < n ∧ n ≤ 2 * kOf n ∧ 1 ≤ kOf n := by
  have h0 : n - 1 ≠ 0 := by omega
  have h1 := Nat.log2_self_le h0
  have h2 : n - 1 < 2 ^ ((n - 1).log2 + 1) := Nat.lt_log2_self
  rw [Nat.pow_succ] at h2
  unfold kOf
  refine ⟨by omega, by omega, Nat.one_le_two_pow⟩
theorem kOf_eq (n j : Nat) (h : 2 ^ j < n) (h' : n ≤ 2 ^ (j + 1)) : 2 ^ j = kOf n := by
  have hp := @Nat.one_le_two_pow j
  have h0 : n - 1 ≠ 0 := by omega
  have e : (n - 1).log2 = j := (Nat.log2_eq_iff h0).2 ⟨by omega, by omega⟩
  unfold kOf
  rw [e]

/-- What is in memory: a slice of bytes. -/
def Bs (w : World) (v : Value) (l : List UInt8) : Prop :=
  ∃ a cap, v = .slice a l.length cap ∧ (l = [] ∨ ∃ b off, a = some ⟨b, off, none⟩ ∧ ∀ i (h : i < l.length), w.cell? ⟨b, off + i, none⟩ = some (bv l[i]))
/-- .. a slice of slices of bytes. -/
def Bss (w : World) (v : Value) (ls : List (List UInt8)) : Prop :=
  ∃ a cap, v = .slice a ls.length cap ∧ ls.length ≤ cap ∧ (ls = [] ∨ ∃ b off, a = some ⟨b, off, none⟩ ∧ ∀ i (h : i < ls.length), ∃ x, w.cell? ⟨b, off + i, none⟩ = some x ∧ Bs w x ls[i])
/-- .. a slice of strings. -/
def Sss (w : World) (v : Value) (ls : List ByteArray) : Prop :=
  ∃ a cap, v = .slice a ls.length cap ∧ ls.length ≤ cap ∧ (ls = [] ∨ ∃ b off, a = some ⟨b, off, none⟩ ∧ ∀ i (h : i < ls.length), w.cell? ⟨b, off + i, none⟩ = some (.string ls[i]))

theorem cell_lt {w : World} {p : Addr} {v : Value} (h : w.cell? p = some v) : p.block < w.heap.size := by
  rcases Nat.lt_or_ge p.block w.heap.size with h' | h'
  · exact h'
  · simp [World.cell?, Array.getElem?_eq_none h'] at h
theorem Bs.below {w w' : World} {v : Value} {l : List UInt8} (h : Bs w v l) (hb : Below w.heap.size w w') : Bs w' v l := by
  obtain ⟨a, cap, rfl, h⟩ := h
  refine ⟨a, cap, rfl, ?_⟩
  rcases h with h | ⟨b, off, rfl, hc⟩
  · exact .inl h
  · exact .inr ⟨b, off, rfl, fun i hi => by have := hc i hi; rw [hb.cell (p := ⟨b, off + i, none⟩) (cell_lt (p := ⟨b, off + i, none⟩) this)]; exact this⟩
theorem Bss.below {w w' : World} {v : Value} {ls : List (List UInt8)} (h : Bss w v ls) (hb : Below w.heap.size w w') : Bss w' v ls := by
  obtain ⟨a, cap, rfl, hcap, h⟩ := h
  refine ⟨a, cap, rfl, hcap, ?_⟩
  rcases h with h | ⟨b, off, rfl, hc⟩
  · exact .inl h
  · exact .inr ⟨b, off, rfl, fun i hi => by obtain ⟨x, hx, hbs⟩ := hc i hi; exact ⟨x, by rw [hb.cell (p := ⟨b, off + i, none⟩) (cell_lt (p := ⟨b, off + i, none⟩) hx)]; exact hx, hbs.below hb⟩⟩
theorem Sss.below {w w' : World} {v : Value} {ls : List ByteArray} (h : Sss w v ls) (hb : Below w.heap.size w w') : Sss w' v ls := by
  obtain ⟨a, cap, rfl, hcap, h⟩ := h
  refine ⟨a, cap, rfl, hcap, ?_⟩
  rcases h with h | ⟨b, off, rfl, hc⟩
  · exact .inl h
  · exact .inr ⟨b, off, rfl, fun i hi => by have := hc i hi; rw [hb.cell (p := ⟨b, off + i, none⟩) (cell_lt (p := ⟨b, off + i, none⟩) this)]; exact this⟩

/-- The root, with so many calls to spare. -/
def rootF : Nat → List (List UInt8) → List UInt8
  | 0, _ => hash []
  | f + 1, l => if l.length = 0 then hash [] else if l.length = 1 then leafH (l.headD []) else nodeH (rootF f (l.take (kOf l.length))) (rootF f (l.drop (kOf l.length)))
theorem rootF_length (f : Nat) (l : List (List UInt8)) : (rootF f l).length = 8 := by
  cases f with
  | zero => rfl
  | succ f =>
    unfold rootF
    split
    · rfl
    · split <;> rfl
theorem rootF_nil (f : Nat) (l : List (List UInt8)) (h : l.length = 0) : rootF f l = hash [] := by
  cases f with
  | zero => rfl
  | succ f => unfold rootF; rw [if_pos h]
theorem rootF_one (f : Nat) (l : List (List UInt8)) (h : l.length = 1) : rootF (f + 1) l = leafH (l.headD []) := by
  unfold rootF; rw [if_neg (by omega), if_pos h]
theorem rootF_more (f : Nat) (l : List (List UInt8)) (h : 2 ≤ l.length) : rootF (f + 1) l = nodeH (rootF f (l.take (kOf l.length))) (rootF f (l.drop (kOf l.length))) := by
  rw [rootF, if_neg (by omega), if_neg (by omega)]

theorem Bss.take {w : World} {b off n cap : Nat} {ls : List (List UInt8)} (h : Bss w (.slice (some ⟨b, off, none⟩) n cap) ls) (k : Nat) (hk : k ≤ ls.length) : Bss w (.slice (some ⟨b, off, none⟩) k cap) (ls.take k) := by
  obtain ⟨a, c, e, hcap, h⟩ := h
  simp only [Value.slice.injEq] at e
  obtain ⟨rfl, rfl, rfl⟩ := e
  have hl : (ls.take k).length = k := by simp; omega
  refine ⟨some ⟨b, off, none⟩, cap, by rw [hl], by rw [hl]; omega, ?_⟩
  rcases h with h | ⟨b', off', e, hc⟩
  · left; simp [h]
  · simp only [Option.some.injEq, Addr.mk.injEq] at e
    obtain ⟨rfl, rfl, _⟩ := e
    refine .inr ⟨b, off, rfl, fun i hi => ?_⟩
    obtain ⟨x, hx, hb⟩ := hc i (by rw [hl] at hi; omega)
    exact ⟨x, hx, by rw [List.getElem_take]; exact hb⟩
theorem Bss.drop {w : World} {b off n cap : Nat} {ls : List (List UInt8)} (h : Bss w (.slice (some ⟨b, off, none⟩) n cap) ls) (k : Nat) (hk : k ≤ ls.length) : Bss w (.slice (some ⟨b, off + k, none⟩) (n - k) (cap - k)) (ls.drop k) := by
  obtain ⟨a, c, e, hcap, h⟩ := h
  simp only [Value.slice.injEq] at e
  obtain ⟨rfl, rfl, rfl⟩ := e
  have hl : (ls.drop k).length = ls.length - k := by simp
  refine ⟨some ⟨b, off + k, none⟩, cap - k, by rw [hl], by rw [hl]; omega, ?_⟩
  rcases h with h | ⟨b', off', e, hc⟩
  · left; simp [h]
  · simp only [Option.some.injEq, Addr.mk.injEq] at e
    obtain ⟨rfl, rfl, _⟩ := e
    refine .inr ⟨b, off + k, rfl, fun i hi => ?_⟩
    obtain ⟨x, hx, hb⟩ := hc (k + i) (by rw [hl] at hi; omega)
    exact ⟨x, by rw [Nat.add_assoc]; exact hx, by rw [List.getElem_drop]; exact hb⟩
theorem Sss.take {w : World} {b off n cap : Nat} {ls : List ByteArray} (h : Sss w (.slice (some ⟨b, off, none⟩) n cap) ls) (k : Nat) (hk : k ≤ ls.length) : Sss w (.slice (some ⟨b, off, none⟩) k cap) (ls.take k) := by
  obtain ⟨a, c, e, hcap, h⟩ := h
  simp only [Value.slice.injEq] at e
  obtain ⟨rfl, rfl, rfl⟩ := e
  have hl : (ls.take k).length = k := by simp; omega
  refine ⟨some ⟨b, off, none⟩, cap, by rw [hl], by rw [hl]; omega, ?_⟩
  rcases h with h | ⟨b', off', e, hc⟩
  · left; simp [h]
  · simp only [Option.some.injEq, Addr.mk.injEq] at e
    obtain ⟨rfl, rfl, _⟩ := e
    refine .inr ⟨b, off, rfl, fun i hi => ?_⟩
    rw [hc i (by rw [hl] at hi; omega), List.getElem_take]
theorem Sss.drop {w : World} {b off n cap : Nat} {ls : List ByteArray} (h : Sss w (.slice (some ⟨b, off, none⟩) n cap) ls) (k : Nat) (hk : k ≤ ls.length) : Sss w (.slice (some ⟨b, off + k, none⟩) (n - k) (cap - k)) (ls.drop k) := by
  obtain ⟨a, c, e, hcap, h⟩ := h
  simp only [Value.slice.injEq] at e
  obtain ⟨rfl, rfl, rfl⟩ := e
  have hl : (ls.drop k).length = ls.length - k := by simp
  refine ⟨some ⟨b, off + k, none⟩, cap - k, by rw [hl], by rw [hl]; omega, ?_⟩
  rcases h with h | ⟨b', off', e, hc⟩
  · left; simp [h]
  · simp only [Option.some.injEq, Addr.mk.injEq] at e
    obtain ⟨rfl, rfl, _⟩ := e
    refine .inr ⟨b, off + k, rfl, fun i hi => ?_⟩
    rw [Nat.add_assoc, hc (k + i) (by rw [hl] at hi; omega), List.getElem_drop]
end Go.Proofs.YtoomnijgdpbphaaGreatDoor

namespace Go.Proofs.YtoomnijgdpbphaaGreatDoor
open Go.RowKit

/-- A block of cells of one of the types T, or a map. -/
def Tob (T : List Nat) (o : Option Obj) : Prop := (∃ c t x, o = some (.cells c t x) ∧ t ∈ T) ∨ ∃ es c, o = some (.map es c)
theorem Tob.more {T T' : List Nat} {o : Option Obj} (h : Tob T o) (hT : ∀ t ∈ T, t ∈ T') : Tob T' o := by
  rcases h with ⟨c, t, x, e, ht⟩ | h
  · exact .inl ⟨c, t, x, e, hT t ht⟩
  · exact .inr h
/-- Of what lay there, only blocks of O, and of these only such of the types T, and maps, have turned. -/
structure Turn (O : Nat → Prop) (T : List Nat) (w w' : World) : Prop where
  os : w'.os = w.os
  tape : w'.tape = w.tape
  output : w'.output = w.output
  size : w.heap.size ≤ w'.heap.size
  block : ∀ k, k < w.heap.size → w'.heap[k]? = w.heap[k]? ∨ (O k ∧ Tob T w.heap[k]?)
/-- O, and what is new. -/
def Ext (O : Nat → Prop) (w w' : World) : Nat → Prop := fun k => O k ∨ (w.heap.size ≤ k ∧ k < w'.heap.size)

theorem heap_some_lt {w : World} {k : Nat} {o : Obj} (h : w.heap[k]? = some o) : k < w.heap.size := by
  rcases Nat.lt_or_ge k w.heap.size with h' | h'
  · exact h'
  · simp [Array.getElem?_eq_none h'] at h
theorem Turn.refl (O : Nat → Prop) (T : List Nat) (w : World) : Turn O T w w := ⟨rfl, rfl, rfl, Nat.le_refl _, fun _ _ => .inl rfl⟩
theorem Turn.of_below {O : Nat → Prop} {T : List Nat} {w w' : World} (h : Below w.heap.size w w') : Turn O T w w' := ⟨h.os, h.tape, h.output, h.size, fun k hk => .inl (h.block k hk)⟩
theorem Turn.mono {O O' : Nat → Prop} {T T' : List Nat} {w w' : World} (h : Turn O T w w') (hO : ∀ k, O k → O' k) (hT : ∀ t ∈ T, t ∈ T') : Turn O' T' w w' :=
  ⟨h.os, h.tape, h.output, h.size, fun k hk => by
    rcases h.block k hk with e | ⟨a, e⟩
    · exact .inl e
    · exact .inr ⟨hO k a, e.more hT⟩⟩
theorem Turn.trans {O : Nat → Prop} {T : List Nat} {a b c : World} (h : Turn O T a b) (k : Turn (Ext O a b) T b c) : Turn O T a c :=
  ⟨k.os.trans h.os, k.tape.trans h.tape, k.output.trans h.output, Nat.le_trans h.size k.size, fun i hi => by
    rcases h.block i hi with e | e
    · rcases k.block i (Nat.lt_of_lt_of_le hi h.size) with e' | ⟨hO, e'⟩
      · exact .inl (e'.trans e)
      · rcases hO with hO | hO
        · exact .inr ⟨hO, e ▸ e'⟩
        · omega
    · exact .inr e⟩
theorem Turn.drew {O : Nat → Prop} {T : List Nat} {a w : World} (h : Turn O T a w) : Turn O T a w.drew := ⟨h.os, h.tape, h.output, h.size, h.block⟩
theorem Turn.drewN {O : Nat → Prop} {T : List Nat} {a w : World} (h : Turn O T a w) (n : Nat) : Turn O T a (w.drewN n) := ⟨h.os, h.tape, h.output, h.size, h.block⟩
theorem Turn.undrew {O : Nat → Prop} {T : List Nat} {a w : World} (h : Turn O T a.drew w) : Turn O T a w := ⟨h.os, h.tape, h.output, h.size, h.block⟩
theorem Turn.then_below {O : Nat → Prop} {T : List Nat} {a b c : World} (h : Turn O T a b) (k : Below b.heap.size b c) : Turn O T a c := h.trans (.of_below k)
theorem Turn.keep {O : Nat → Prop} {T : List Nat} {w w' : World} (h : Turn O T w w') {k : Nat} {c : Array Value} {t : TypeId} {x : Nat × Nat} (e : w.heap[k]? = some (.cells c t x)) (ht : t ∉ T) : w'.heap[k]? = some (.cells c t x) := by
  rcases h.block k (heap_some_lt e) with e' | ⟨-, ⟨c', t', x', e', ht'⟩ | ⟨es', c', e'⟩⟩
  · rw [e']; exact e
  · rw [e] at e'
    simp only [Option.some.injEq, Obj.cells.injEq] at e'
    exact absurd (e'.2.1 ▸ ht') ht
  · rw [e] at e'; simp at e'
theorem Turn.stay {O : Nat → Prop} {T : List Nat} {w w' : World} (h : Turn O T w w') {k : Nat} {o : Obj} (e : w.heap[k]? = some o) (hO : ¬ O k) : w'.heap[k]? = some o := by
  rcases h.block k (heap_some_lt e) with e' | ⟨hk, -⟩
  · rw [e']; exact e
  · exact absurd hk hO
theorem Turn.set {O : Nat → Prop} {T : List Nat} {a w : World} (h : Turn O T a w) {b o : Nat} {c : Array Value} {t : TypeId} {x : Nat × Nat} (hO : Ext O a w b) (e : w.heap[b]? = some (.cells c t x)) (ht : t ∈ T) (u : Value) : Turn O T a (w.setCell ⟨b, o, none⟩ u) := by
  refine h.trans ⟨rfl, rfl, rfl, by simp [World.setCell], fun k hk => ?_⟩
  by_cases hkb : k = b
  · subst hkb
    exact .inr ⟨hO, .inl ⟨c, t, x, e, ht⟩⟩
  · exact .inl (Below.heap_setCell _ _ _ _ hkb)
theorem Turn.alloc {O : Nat → Prop} {T : List Nat} {a w : World} (h : Turn O T a w) (o : Obj) : Turn O T a (w.alloc o) := h.then_below ((Below.refl _ w).alloc (Nat.le_refl _) o)
theorem Turn.setNew {O : Nat → Prop} {T : List Nat} {a w : World} (h : Turn O T a w) {b : Nat} (hb : a.heap.size ≤ b) (o : Nat) (u : Value) : Turn O T a (w.setCell ⟨b, o, none⟩ u) :=
  ⟨h.os, h.tape, h.output, by simpa [World.setCell] using h.size, fun k hk => by
    rw [Below.heap_setCell _ _ _ _ (by show k ≠ b; omega)]
    exact h.block k hk⟩
theorem Turn.grown {O : Nat → Prop} {T : List Nat} {a w w' : World} {v : Value} (h : Turn O T a w) {base : Nat} {e : TypeId} {s n : Nat} {xs : List Value} (ho : w.ownsRow base e s v n xs) (hg : w.grownBy w' v.ownBlock) (hO : ∀ g, v.ownBlock = some g → Ext O a w g) (ht : e ∈ T) : Turn O T a w' := by
  refine h.trans ⟨hg.os, hg.tape, hg.output, hg.size, fun k hk => ?_⟩
  by_cases hkb : some k = v.ownBlock
  · rcases ho.2 with ⟨rfl, _⟩ | ⟨g, cap, cur, rfl, -, hh, -⟩
    · simp [Value.ownBlock] at hkb
    · simp only [Value.ownBlock, Option.some.injEq] at hkb
      subst hkb
      exact .inr ⟨hO k rfl, .inl ⟨cur, e, (0, 0), hh, ht⟩⟩
  · exact .inl (hg.block k hk hkb)
theorem ownsRow_turn {O : Nat → Prop} {T : List Nat} {w w' : World} {B : Nat} {e : TypeId} {s : Nat} {v : Value} {n : Nat} {xs : List Value} (h : w.ownsRow B e s v n xs) (ht : Turn O T w w') (he : e ∉ T) : w'.ownsRow B e s v n xs := by
  refine ⟨h.1, ?_⟩
  rcases h.2 with h | ⟨g', cap, cur, e1, e2, e3, r⟩
  · exact .inl h
  · exact .inr ⟨g', cap, cur, e1, e2, ht.keep e3 he, r⟩
theorem ownsRow_stay {O : Nat → Prop} {T : List Nat} {w w' : World} {B : Nat} {e : TypeId} {s : Nat} {v : Value} {n : Nat} {xs : List Value} (h : w.ownsRow B e s v n xs) (ht : Turn O T w w') (he : ∀ g, v.ownBlock = some g → ¬ O g) : w'.ownsRow B e s v n xs := by
  refine ⟨h.1, ?_⟩
  rcases h.2 with h | ⟨g', cap, cur, rfl, e2, e3, r⟩
  · exact .inl h
  · exact .inr ⟨g', cap, cur, rfl, e2, ht.stay e3 (he g' rfl), r⟩
theorem Turn.below {O : Nat → Prop} {T : List Nat} {w w' : World} {B : Nat} (h : Turn O T w w') (hO : ∀ k, O k → B ≤ k) (hB : B ≤ w.heap.size) : Below B w w' :=
  ⟨h.os, h.tape, h.output, h.size, fun k hk => by
    rcases h.block k (by omega) with e | ⟨a, -⟩
    · exact e
    · have := hO k a; omega⟩
theorem Ext.base {O : Nat → Prop} {w w' : World} {B : Nat} (hO : ∀ k, O k → B ≤ k) (hB : B ≤ w.heap.size) : ∀ k, Ext O w w' k → B ≤ k := by
  rintro k (h | h)
  · exact hO k h
  · omega
theorem Ext.old {O : Nat → Prop} {w w' : World} {k : Nat} (h : O k) : Ext O w w' k := .inl h
theorem Ext.trans {O : Nat → Prop} {a b c : World} (h1 : a.heap.size ≤ b.heap.size) (h2 : b.heap.size ≤ c.heap.size) : ∀ k, Ext (Ext O a b) b c k → Ext O a c k := by
  rintro k ((h | h) | h)
  · exact .inl h
  · exact .inr (by omega)
  · exact .inr (by omega)
theorem Ext.more {O : Nat → Prop} {a b c : World} (h2 : b.heap.size ≤ c.heap.size) : ∀ k, Ext O a b k → Ext O a c k := by
  rintro k (h | h)
  · exact .inl h
  · exact .inr (by omega)
end Go.Proofs.YtoomnijgdpbphaaGreatDoor

namespace Go.Proofs.YtoomnijgdpbphaaGreatDoor
open Go.RowKit
theorem hide {p : Prop} (h : p) : Hid p := h
theorem heap_alloc_old {w : World} {o : Obj} {k : Nat} {x : Obj} (h : w.heap[k]? = some x) : (w.alloc o).heap[k]? = some x := by
  have hlt : k < w.heap.size := by
    rcases Nat.lt_or_ge k w.heap.size with h' | h'
    · exact h'
    · simp [Array.getElem?_eq_none h'] at h
  show (w.heap.push o)[k]? = _
  simp only [Array.getElem?_push, Nat.ne_of_lt hlt, if_false]
  exact h
theorem bcell {W w1 : World} (hb : Below W.heap.size W w1) : (∀ b o, b < W.heap.size → w1.cell? ⟨b, o, none⟩ = W.cell? ⟨b, o, none⟩) ∧ (∀ b o, b < W.heap.size → w1.frozen? ⟨b, o, none⟩ = W.frozen? ⟨b, o, none⟩) :=
  ⟨fun b o h => hb.cell (p := ⟨b, o, none⟩) h, fun b o h => hb.frozen (p := ⟨b, o, none⟩) h⟩
end Go.Proofs.YtoomnijgdpbphaaGreatDoor
