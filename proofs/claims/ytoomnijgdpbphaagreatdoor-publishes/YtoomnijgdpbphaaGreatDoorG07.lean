import Derived.Test.YtoomnijgdpbphaaGreatDoorG05
import Derived.Test.YtoomnijgdpbphaaGreatDoorG03
import Derived.Lib.BufferWrite
import Derived.Lib.SlBuf

namespace Go.Proofs.YtoomnijgdpbphaaGreatDoor
open Go.RowKit
set_option maxRecDepth 100000

/-- The first eight bytes, noughts behind. -/
def e8 (l : List UInt8) : List UInt8 := l.take 8 ++ List.replicate (8 - l.length) 0
theorem e8_length (l : List UInt8) : (e8 l).length = 8 := by simp [e8]; omega
def zero8 : List UInt8 := [0, 0, 0, 0, 0, 0, 0, 0]

theorem e8_cells (l : List UInt8) : ((#[Value.int IntKind.u8 0, Value.int IntKind.u8 0, Value.int IntKind.u8 0, Value.int IntKind.u8 0, Value.int IntKind.u8 0, Value.int IntKind.u8 0, Value.int IntKind.u8 0, Value.int IntKind.u8 0] : Array Value).toList.take 0 ++ (l.take (Nat.min l.length 8)).map bv ++ (#[Value.int IntKind.u8 0, Value.int IntKind.u8 0, Value.int IntKind.u8 0, Value.int IntKind.u8 0, Value.int IntKind.u8 0, Value.int IntKind.u8 0, Value.int IntKind.u8 0, Value.int IntKind.u8 0] : Array Value).toList.drop (0 + Nat.min l.length 8)).toArray = hv (e8 l) := by
  have hz : (#[Value.int IntKind.u8 0, Value.int IntKind.u8 0, Value.int IntKind.u8 0, Value.int IntKind.u8 0, Value.int IntKind.u8 0, Value.int IntKind.u8 0, Value.int IntKind.u8 0, Value.int IntKind.u8 0] : Array Value).toList = List.replicate 8 (bv 0) := rfl
  rw [hz]
  have e1 : l.take (Nat.min l.length 8) = l.take 8 := by
    rcases Nat.le_total l.length 8 with h | h
    · rw [show Nat.min l.length 8 = l.length from Nat.min_eq_left h, List.take_length, List.take_of_length_le h]
    · rw [show Nat.min l.length 8 = 8 from Nat.min_eq_right h]
  have e2 : 8 - (0 + Nat.min l.length 8) = 8 - l.length := by
    have : Nat.min l.length 8 = min l.length 8 := rfl
    omega
  rw [e1, List.drop_replicate, e2]
  simp [hv, e8]

theorem copy8 (w : World) (ty : TypeId) (g dCap : Nat) (s : ByteArray) (t : TypeId) (hg : w.heap[g]? = some (.cells #[Value.int IntKind.u8 0, Value.int IntKind.u8 0, Value.int IntKind.u8 0, Value.int IntKind.u8 0, Value.int IntKind.u8 0, Value.int IntKind.u8 0, Value.int IntKind.u8 0, Value.int IntKind.u8 0] t (0, 0))) :
    ∃ v, (Builtin.copy_ #[89, 9] ty #[.slice (some ⟨g, 0, none⟩) 8 dCap, .string s]).run Tryz.prog w = .ok v (w.setRow g (hv (e8 s.data.toList))) := by
  have hs : (Tryz.prog.info? 5).map (·.size) = some 1 := by kernel_rfl
  have hu := Tryz.underlying89
  have hsz : s.size = s.data.toList.length := by simp
  have hlen : ((s.data.toList.take (Nat.min s.data.toList.length 8)).map bv).length = Nat.min s.data.toList.length 8 := by
    simp
  have hst := run_storeCells_at Tryz.prog g 0 t ((s.data.toList.take (Nat.min s.data.toList.length 8)).map bv) 0 _ w hg (by rw [hlen]; have : Nat.min s.data.toList.length 8 ≤ 8 := Nat.min_le_right _ _; simpa using this) (fun v hv => by simp only [List.mem_map] at hv; obtain ⟨b, _, rfl⟩ := hv; rfl)
  rw [hlen] at hst
  simp only [Nat.add_zero] at hst
  rw [e8_cells] at hst
  have htk : List.take (Nat.min s.data.toList.length 8) (List.map (fun b : UInt8 => Value.int IntKind.u8 (b.toNat : Int)) s.data.toList) = (s.data.toList.take (Nat.min s.data.toList.length 8)).map bv := by
    rw [List.map_take]; rfl
  cases hq : Tryz.prog.info? 5 with
  | none => simp [hq] at hs
  | some i =>
    refine ⟨goInt (Nat.min s.size 8), ?_⟩
    simp only [Builtin.copy_]
    simp [run_underlying hu, Builtin.lenOf, Builtin.firstCells, sizeOf, typeInfo, hq]
    rw [hsz, htk, hst]
    rfl

end Go.Proofs.YtoomnijgdpbphaaGreatDoor

namespace Go.Proofs.YtoomnijgdpbphaaGreatDoor
open Go.RowKit
set_option maxRecDepth 100000

/-- A text cut to eight bytes. -/
def c8 (s : ByteArray) : ByteArray := ⟨(e8 s.data.toList).toArray⟩
def c8v (s : ByteArray) : Value := .string (c8 s)
theorem infoStr : (Tryz.prog.info? 9).map (fun i => (i.zero, i.size, i.bytes)) = some (some (.string ⟨#[]⟩), 1, 16) := by kernel_rfl
theorem infoHash : (Tryz.prog.info? 93).map (fun i => (i.zero, i.size, i.bytes)) = some (some (.agg (hv zero8)), 8, 8) := by kernel_rfl

theorem Sss.of_owns {w : World} {B : Nat} {v : Value} {ts : List ByteArray} (h : w.ownsRow B 9 1 v ts.length (ts.map Value.string)) : Sss w v ts := by
  rcases h.2 with ⟨rfl, h0⟩ | ⟨g, cap, cur, rfl, hB, hg, hn, hm, hs, ht⟩
  · exact ⟨none, 0, by rw [h0], by rw [h0]; exact Nat.le_refl _, .inl (List.length_eq_zero_iff.1 h0)⟩
  · refine ⟨_, _, rfl, hn, .inr ⟨g, 0, rfl, fun i hi => ?_⟩⟩
    rw [Nat.zero_add, cell_of_row _ _ _ _ _ _ hg]
    have e : (cur.toList.take (ts.length * 1))[i]? = some (.string ts[i]) := by rw [ht]; simp [hi]
    rw [Nat.mul_one, List.getElem?_take, if_pos hi] at e
    simpa using e

/-- A slice of hashes in memory. -/
def Hss (w : World) (v : Value) (ps : List (List UInt8)) : Prop :=
  ∃ a cap, v = .slice a ps.length cap ∧ ps.length ≤ cap ∧ (∀ p ∈ ps, p.length = 8) ∧ (ps = [] ∨ ∃ b off, a = some ⟨b, off, none⟩ ∧ ∀ i (h : i < ps.length), w.rangeAt b (off + i * 8) (hv ps[i]).toList)
theorem rangeAt_below {w w' : World} {b o : Nat} {cs : List Value} (h : w.rangeAt b o cs) (hb : Below w.heap.size w w') : w'.rangeAt b o cs := fun j v hv => by
  have := h j v hv
  rw [hb.cell (cell_lt (p := ⟨b, o + j, none⟩) this)]; exact this
theorem Hss.below {w w' : World} {v : Value} {ps : List (List UInt8)} (h : Hss w v ps) (hb : Below w.heap.size w w') : Hss w' v ps := by
  obtain ⟨a, cap, rfl, hcap, h8, h⟩ := h
  refine ⟨a, cap, rfl, hcap, h8, ?_⟩
  rcases h with h | ⟨b, off, rfl, hc⟩
  · exact .inl h
  · exact .inr ⟨b, off, rfl, fun i hi => rangeAt_below (hc i hi) hb⟩
/-- The cells of hashes in a row. -/
def flat (ps : List (List UInt8)) : List Value := (ps.map fun p => (hv p).toList).flatten
theorem flat_length (ps : List (List UInt8)) (h : ∀ p ∈ ps, p.length = 8) : (flat ps).length = ps.length * 8 := by
  induction ps with
  | nil => rfl
  | cons p ps ih =>
    have h1 := h p (by simp)
    have h2 := ih (fun q hq => h q (by simp [hq]))
    simp only [flat, List.map_cons, List.flatten_cons, List.length_append, List.length_cons] at h2 ⊢
    rw [h2, Array.length_toList, hv_size, h1]; omega
theorem flat_at (ps : List (List UInt8)) (h : ∀ p ∈ ps, p.length = 8) (i j : Nat) (hi : i < ps.length) (hj : j < 8) : (flat ps)[i * 8 + j]? = (hv ps[i]).toList[j]? := by
  induction ps generalizing i with
  | nil => simp at hi
  | cons p ps ih =>
    have h1 := h p (by simp)
    have hl : (hv p).toList.length = 8 := by rw [Array.length_toList, hv_size, h1]
    cases i with
    | zero =>
      simp only [flat, List.map_cons, List.flatten_cons]
      rw [List.getElem?_append_left (by rw [hl]; omega)]
      simp
    | succ i =>
      have h2 := ih (fun q hq => h q (by simp [hq])) i (by simpa using hi)
      simp only [flat, List.map_cons, List.flatten_cons] at h2 ⊢
      rw [List.getElem?_append_right (by rw [hl]; omega), hl, show (i + 1) * 8 + j - 8 = i * 8 + j by omega, h2]
      simp
theorem Hss.of_owns {w : World} {B : Nat} {v : Value} {ps : List (List UInt8)} (h8 : ∀ p ∈ ps, p.length = 8) (h : w.ownsRow B 93 8 v ps.length (flat ps)) : Hss w v ps := by
  rcases h.2 with ⟨rfl, h0⟩ | ⟨g, cap, cur, rfl, hB, hg, hn, hm, hs, ht⟩
  · exact ⟨none, 0, by rw [h0], by rw [h0]; exact Nat.le_refl _, h8, .inl (List.length_eq_zero_iff.1 h0)⟩
  · refine ⟨_, _, rfl, hn, h8, .inr ⟨g, 0, rfl, fun i hi => ?_⟩⟩
    intro j v hv
    have hj : j < 8 := by
      have := (List.getElem?_eq_some_iff.1 hv).1
      rw [Array.length_toList, hv_size, h8 _ (List.getElem_mem hi)] at this
      exact this
    rw [Nat.zero_add, cell_of_row _ _ _ _ _ _ hg]
    have e := flat_at ps h8 i j hi hj
    rw [hv, ← ht, List.getElem?_take, if_pos (by omega)] at e
    simpa using e

end Go.Proofs.YtoomnijgdpbphaaGreatDoor

namespace Go.Proofs.YtoomnijgdpbphaaGreatDoor
open Go.RowKit

theorem setCells_other (b : Nat) : ∀ (vs : List Value) (o : Nat) (w : World) (k : Nat), k ≠ b → (w.setCells b o vs).heap[k]? = w.heap[k]?
  | [], _, _, _, _ => rfl
  | v :: r, o, w, k, h => by rw [World.setCells, setCells_other b r (o + 1) _ k h, Below.heap_setCell _ _ _ _ h]
theorem setCells_rest (b : Nat) : ∀ (vs : List Value) (o : Nat) (w : World), (w.setCells b o vs).os = w.os ∧ (w.setCells b o vs).tape = w.tape ∧ (w.setCells b o vs).output = w.output ∧ (w.setCells b o vs).heap.size = w.heap.size
  | [], _, _ => ⟨rfl, rfl, rfl, rfl⟩
  | v :: r, o, w => by
    obtain ⟨a, b', c, d⟩ := setCells_rest b r (o + 1) (w.setCell ⟨b, o, none⟩ v)
    exact ⟨a, b', c, by rw [World.setCells, d]; simp [World.setCell]⟩

/-- Nothing but the blocks from B to T has turned. -/
structure Within (B T : Nat) (w w' : World) : Prop where
  os : w'.os = w.os
  tape : w'.tape = w.tape
  output : w'.output = w.output
  size : w'.heap.size = w.heap.size
  block : ∀ k, k < B ∨ T ≤ k → w'.heap[k]? = w.heap[k]?
theorem Within.refl (B T : Nat) (w : World) : Within B T w w := ⟨rfl, rfl, rfl, rfl, fun _ _ => rfl⟩
theorem Within.set {B T : Nat} {w w' : World} (h : Within B T w w') (g : Nat) (hB : B ≤ g) (hT : g < T) (o : Nat) (vs : List Value) : Within B T w (w'.setCells g o vs) := by
  obtain ⟨a, b, c, d⟩ := setCells_rest g vs o w'
  exact ⟨a.trans h.os, b.trans h.tape, c.trans h.output, d.trans h.size, fun k hk => by rw [setCells_other g vs o w' k (by omega)]; exact h.block k hk⟩

theorem clear_el {P : Program} (w : World) (t e ty : TypeId) (z : Value) (ht : P.underlying t = some (.slice e)) (hv : ∀ w, (zeroValue e).run P w = .ok z w) (hz : z.cells = #[z]) (h1 : z.oneCell' = true) (g n c : Nat) (hth : w.there g 0 n) :
    (Builtin.clear_ #[t] ty #[.slice (some ⟨g, 0, none⟩) n c]).run P w = .ok (.tuple #[]) (w.setCells g 0 (List.replicate n z)) := by
  by_cases h0 : n = 0
  · subst h0
    simp [Builtin.clear_, run_underlying ht, World.setCells]
  · exact Lib.run_clear_slice w t e ty z ht hv hz h1 g 0 n c (by omega) (fun j hj => (hth j hj).1) (fun j hj => (hth j hj).2)
theorem clear_none {P : Program} (w : World) (t e ty : TypeId) (ht : P.underlying t = some (.slice e)) (a : Option Addr) (c : Nat) :
    (Builtin.clear_ #[t] ty #[.slice a 0 c]).run P w = .ok (.tuple #[]) w := by
  cases a <;> simp [Builtin.clear_, run_underlying ht]

theorem there_of_row {w : World} {g n : Nat} {C : Array Value} {t : TypeId} {fr : Nat × Nat} (hg : w.heap[g]? = some (.cells C t fr)) (hn : n ≤ C.size) (hf : n ≤ fr.1 ∨ fr = (0, 0)) : w.there g 0 n := fun j hj => by
  refine ⟨by rw [Nat.zero_add, cell_of_row _ _ _ _ _ _ hg, Array.getElem?_eq_getElem (by omega)]; rfl, ?_⟩
  obtain ⟨lo, hi⟩ := fr
  unfold World.frozen?
  simp only [hg, Nat.zero_add]
  rcases hf with hf | hf
  · simp at hf ⊢; omega
  · simp only [Prod.mk.injEq] at hf
    simp [hf.1, hf.2]

/-- What spoil goes over: the row's block, its elements. -/
structure Sp (B T : Nat) (w0 w : World) (g n : Nat) (gs ns cs : Nat → Nat) : Prop where
  within : Within B T w0 w
  row : w.there g 0 n
  gB : B ≤ g
  gT : g < T
  cell : ∀ j, j < n → w.cell? ⟨g, j, none⟩ = some (.slice (some ⟨gs j, 0, none⟩) (ns j) (cs j))
  el : ∀ j, j < n → w.there (gs j) 0 (ns j) ∧ B ≤ gs j ∧ gs j < T ∧ gs j ≠ g
theorem Sp.next {B T : Nat} {w0 w : World} {g n : Nat} {gs ns cs : Nat → Nat} (h : Sp B T w0 w g n gs ns cs) (k : Nat) (hk : k < n) (z : Value) : Sp B T w0 (w.setCells (gs k) 0 (List.replicate (ns k) z)) g n gs ns cs := by
  obtain ⟨_, h1, h2, h3⟩ := h.el k hk
  refine ⟨h.within.set _ h1 h2 _ _, World.there_setCells h.row _ _ _, h.gB, h.gT, fun j hj => ?_, fun j hj => ?_⟩
  · rw [World.cell?_setCells_out _ _ _ _ _ (fun e => absurd e.symm h3)]
    exact h.cell j hj
  · exact ⟨World.there_setCells (h.el j hj).1 _ _ _, (h.el j hj).2⟩

theorem zeroByte (w : World) : (zeroValue 5).run Tryz.prog w = .ok (.int .u8 0) w := by kernel_rfl
theorem zeroBytes (w : World) : (zeroValue 89).run Tryz.prog w = .ok (.slice none 0 0) w := by kernel_rfl

end Go.Proofs.YtoomnijgdpbphaaGreatDoor
