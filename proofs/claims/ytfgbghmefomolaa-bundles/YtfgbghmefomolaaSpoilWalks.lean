
import Derived.Test.YtfgbghmefomolaaEntWalks
namespace Go.Proofs.Ytfgbghmefomolaa
open Go.RowKit

theorem setCells_other (b : Nat) : ∀ (vs : List Value) (o : Nat) (w : World) (k : Nat), k ≠ b → (w.setCells b o vs).heap[k]? = w.heap[k]?
  | [], _, _, _, _ => rfl
  | v :: r, o, w, k, h => by rw [World.setCells, setCells_other b r (o + 1) _ k h, Below.heap_setCell _ _ _ _ h]
theorem setCells_rest (b : Nat) : ∀ (vs : List Value) (o : Nat) (w : World), (w.setCells b o vs).os = w.os ∧ (w.setCells b o vs).tape = w.tape ∧ (w.setCells b o vs).output = w.output ∧ (w.setCells b o vs).heap.size = w.heap.size
  | [], _, _ => ⟨rfl, rfl, rfl, rfl⟩
  | v :: r, o, w => by
    obtain ⟨a, b', c, d⟩ := setCells_rest b r (o + 1) (w.setCell ⟨b, o, none⟩ v)
    exact ⟨a, b', c, by rw [World.setCells, d]; simp [World.setCell]⟩

/-- Nothing but the blocks from B to T has turned. -/
structure Within (B T : Nat) (w w' : World) : Prop where
  os : w'.os = w.os
  tape : w'.tape = w.tape
  output : w'.output = w.output
  size : w'.heap.size = w.heap.size
  block : ∀ k, k < B ∨ T ≤ k → w'.heap[k]? = w.heap[k]?
theorem Within.refl (B T : Nat) (w : World) : Within B T w w := ⟨rfl, rfl, rfl, rfl, fun _ _ => rfl⟩
theorem Within.set {B T : Nat} {w w' : World} (h : Within B T w w') (g : Nat) (hB : B ≤ g) (hT : g < T) (o : Nat) (vs : List Value) : Within B T w (w'.setCells g o vs) := by
  obtain ⟨a, b, c, d⟩ := setCells_rest g vs o w'
  exact ⟨a.trans h.os, b.trans h.tape, c.trans h.output, d.trans h.size, fun k hk => by rw [setCells_other g vs o w' k (by omega)]; exact h.block k hk⟩

theorem clear_el {P : Program} (w : World) (t e ty : TypeId) (z : Value) (ht : P.underlying t = some (.slice e)) (hv : ∀ w, (zeroValue e).run P w = .ok z w) (hz : z.cells = #[z]) (h1 : z.oneCell' = true) (g n c : Nat) (hth : w.there g 0 n) :
    (Builtin.clear_ #[t] ty #[.slice (some ⟨g, 0, none⟩) n c]).run P w = .ok (.tuple #[]) (w.setCells g 0 (List.replicate n z)) := by
  by_cases h0 : n = 0
  · subst h0
    simp [Builtin.clear_, run_underlying ht, World.setCells]
  · exact Lib.run_clear_slice w t e ty z ht hv hz h1 g 0 n c (by omega) (fun j hj => (hth j hj).1) (fun j hj => (hth j hj).2)
theorem clear_none {P : Program} (w : World) (t e ty : TypeId) (ht : P.underlying t = some (.slice e)) (a : Option Addr) (c : Nat) :
    (Builtin.clear_ #[t] ty #[.slice a 0 c]).run P w = .ok (.tuple #[]) w := by
  cases a <;> simp [Builtin.clear_, run_underlying ht]

theorem there_of_row {w : World} {g n : Nat} {C : Array Value} {t : TypeId} {fr : Nat × Nat} (hg : w.heap[g]? = some (.cells C t fr)) (hn : n ≤ C.size) (hf : n ≤ fr.1 ∨ fr = (0, 0)) : w.there g 0 n := fun j hj => by
  refine ⟨by rw [Nat.zero_add, cell_of_row _ _ _ _ _ _ hg, Array.getElem?_eq_getElem (by omega)]; rfl, ?_⟩
  obtain ⟨lo, hi⟩ := fr
  unfold World.frozen?
  simp only [hg, Nat.zero_add]
  rcases hf with hf | hf
  · simp at hf ⊢; omega
  · simp only [Prod.mk.injEq] at hf
    simp [hf.1, hf.2]

/-- What spoil goes over: the row's block, its elements. -/
structure Sp (B T : Nat) (w0 w : World) (g n : Nat) (gs ns cs : Nat → Nat) : Prop where
  within : Within B T w0 w
  row : w.there g 0 n
  gB : B ≤ g
  gT : g < T
  cell : ∀ j, j < n → w.cell? ⟨g, j, none⟩ = some (.slice (some ⟨gs j, 0, none⟩) (ns j) (cs j))
  el : ∀ j, j < n → w.there (gs j) 0 (ns j) ∧ B ≤ gs j ∧ gs j < T ∧ gs j ≠ g
theorem Sp.next {B T : Nat} {w0 w : World} {g n : Nat} {gs ns cs : Nat → Nat} (h : Sp B T w0 w g n gs ns cs) (k : Nat) (hk : k < n) (z : Value) : Sp B T w0 (w.setCells (gs k) 0 (List.replicate (ns k) z)) g n gs ns cs := by
  obtain ⟨_, h1, h2, h3⟩ := h.el k hk
  refine ⟨h.within.set _ h1 h2 _ _, World.there_setCells h.row _ _ _, h.gB, h.gT, fun j hj => ?_, fun j hj => ?_⟩
  · rw [World.cell?_setCells_out _ _ _ _ _ (fun e => absurd e.symm h3)]
    exact h.cell j hj
  · exact ⟨World.there_setCells (h.el j hj).1 _ _ _, (h.el j hj).2⟩

theorem zeroByte (w : World) : (zeroValue 5).run Try.prog w = .ok (.int .u8 0) w := by kernel_rfl
theorem zeroBytes (w : World) : (zeroValue 41).run Try.prog w = .ok (.slice none 0 0) w := by kernel_rfl

set_option maxHeartbeats 1000000 in
theorem spoil_some (B T : Nat) (w : World) (g n cap : Nat) (gs ns cs : Nat → Nat) (hn : n ≤ 1000000) (h : Sp B T w w g n gs ns cs) :
    Calls Try.prog 25 #[.slice (some ⟨g, 0, none⟩) n cap] w fun r w' => r = .returned (.tuple #[]) ∧ Within B T w w' := by
  have H := hide h
  clear h
  go_enter Try.func25, Try.ntmps25
  go_wp2_with fail
  go_loopw [6] (fun i wr => ∃ k : Nat, k ≤ n ∧ i = .int .i64 k ∧ Sp B T w wr g n gs ns cs) (fun i _ => n - (intOf i).toNat)
  case atStart => exact ⟨0, Nat.zero_le _, rfl, H.out⟩
  case round =>
    obtain ⟨k, hk, rfl, hsp⟩ := hrel
    have HS := hide hsp
    clear hsp
    by_cases hlt : k < n
    · have hc := HS.out.cell k hlt
      have hcl := fun ty => clear_el (P := Try.prog) wr 41 5 ty (.int .u8 0) Try.underlying41 zeroByte rfl rfl (gs k) (ns k) (cs k) (HS.out.el k hlt).1
      have HN := hide (HS.out.next k hlt (.int .u8 0))
      generalize wr.setCells (gs k) 0 (List.replicate (ns k) (.int .u8 0)) = W1 at *
      go_wp2
      go_roundw
      case rel => exact ⟨k + 1, by omega, by go_num, HN.out⟩
      case measure => simp [intOf]; omega
    · have hcl := fun ty => clear_el (P := Try.prog) wr 35 41 ty (.slice none 0 0) Try.underlying35 zeroBytes rfl rfl g n cap HS.out.row
      have HN := hide (HS.out.within.set g HS.out.gB HS.out.gT 0 (List.replicate n (.slice none 0 0)))
      generalize wr.setCells g 0 (List.replicate n (.slice none 0 0)) = W1 at *
      go_wp2
      go_end0
      exact ⟨rfl, HN.out⟩

set_option maxHeartbeats 1000000 in
theorem spoil_none (B T : Nat) (w : World) (a : Option Addr) (cap : Nat) :
    Calls Try.prog 25 #[.slice a 0 cap] w fun r w' => r = .returned (.tuple #[]) ∧ Within B T w w' := by
  have hcl := fun ty => clear_none (P := Try.prog) w 35 41 ty Try.underlying35 a cap
  go_enter Try.func25, Try.ntmps25
  go_wp2_with fail
  refine wp_loop_rounds 1 ?_
  rw [rounds_succ]
  go_wp2
  go_end0
  exact ⟨rfl, Within.refl _ _ _⟩

theorem spoil_any (B : Nat) (w0 w : World) (v : Value) (ls : List (List UInt8)) (hn : ls.length ≤ 1000000) (h : EBs w0 B v ls) (hb : Below w0.heap.size w0 w) :
    Calls Try.prog 25 #[v] w fun r w' => r = .returned (.tuple #[]) ∧ Within B w0.heap.size w w' := by
  obtain ⟨xs, ⟨hl, ho⟩, hx⟩ := h
  rcases ho with ⟨rfl, h0⟩ | ⟨g, cap, cur, rfl, hB, hg, hcap, hm, hs, ht⟩
  · exact spoil_none _ _ _ _ _
  by_cases h0 : ls.length = 0
  · rw [h0]; exact spoil_none _ _ _ _ _
  have hex : ∀ j, ∃ q : Nat × Nat × Nat, j < ls.length → xs[j]? = some (.slice (some ⟨q.1, 0, none⟩) q.2.1 q.2.2) ∧ w.there q.1 0 q.2.1 ∧ B ≤ q.1 ∧ q.1 < w0.heap.size ∧ q.1 ≠ g := by
    intro j
    by_cases hj : j < ls.length
    · obtain ⟨x, e, g', c', C, fr, rfl, hB', hg', hC, hf⟩ := hx j hj
      refine ⟨(g', ls[j].length, c'), fun _ => ⟨e, ?_, hB', heap_lt hg', ?_⟩⟩
      · refine there_of_row (by rw [hb.block _ (heap_lt hg')]; exact hg') ?_ (.inl hf)
        show ls[j].length ≤ C.size
        rcases Nat.eq_zero_or_pos ls[j].length with h | h
        · omega
        · have := hC (ls[j].length - 1) (by omega)
          have := (Array.getElem?_eq_some_iff.1 this).1
          omega
      · rintro rfl
        rw [hg] at hg'
        simp at hg'
    · exact ⟨(0, 0, 0), fun h => absurd h hj⟩
  have key : ∃ q : Nat → Nat × Nat × Nat, ∀ j, j < ls.length → xs[j]? = some (.slice (some ⟨(q j).1, 0, none⟩) (q j).2.1 (q j).2.2) ∧ w.there (q j).1 0 (q j).2.1 ∧ B ≤ (q j).1 ∧ (q j).1 < w0.heap.size ∧ (q j).1 ≠ g := ⟨fun j => Classical.choose (hex j), fun j => Classical.choose_spec (hex j)⟩
  obtain ⟨q, hq⟩ := key
  have hg' : w.heap[g]? = some (.cells cur 41 (0, 0)) := by rw [hb.block _ (heap_lt hg)]; exact hg
  refine spoil_some B w0.heap.size w g ls.length cap (fun j => (q j).1) (fun j => (q j).2.1) (fun j => (q j).2.2) hn ⟨Within.refl _ _ _, there_of_row hg' (by omega) (.inr rfl), hB, heap_lt hg, fun j hj => ?_, fun j hj => (hq j hj).2⟩
  rw [cell_of_row _ _ _ _ _ _ hg']
  have e := (hq j hj).1
  rw [← ht, Nat.mul_one, List.getElem?_take, if_pos hj] at e
  simpa using e
end Go.Proofs.Ytfgbghmefomolaa
