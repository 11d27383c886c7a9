
import Derived.Test.YtbjpjidliggdhaaDoorRootsOf
import Derived.Test.YtbjpjidliggdhaaDoorSpoilWalks
namespace Go.Proofs.YtbjpjidliggdhaaDoor
open Go.RowKit
set_option maxRecDepth 100000

/-- 'string(b)' of cells that are known. -/
theorem conv_mid (w : World) (g o : Nat) (cap n : Nat) (l : List UInt8) (hn : l.length = n) (hg : w.rangeAt g o (hv l).toList) :
    (convert 51 9 (.slice (some ⟨g, o, none⟩) n cap)).run Tryd.prog w = .ok (txt l) w := by
  subst hn
  refine run_convert_bytes_back w _ _ 5 ⟨g, o, none⟩ cap l Tryd.underlying51 Tryd.underlying5 Tryd.underlying9 (fun j hj => ?_)
  rw [Addr.add_mid]
  exact hg j _ (by simp [hv, bv, hj])
/-- What is left to be read of a list of hashes that is being overwritten. -/
def Left (w : World) (g : Nat) (ps : List (List UInt8)) (k : Nat) : Prop := w.there g 0 (ps.length * 8) ∧ ∀ j (h : j < ps.length), k ≤ j → w.rangeAt g (j * 8) (hv ps[j]).toList
theorem Left.below {w w' : World} {g : Nat} {ps : List (List UInt8)} {k H : Nat} (h : Left w g ps k) (hg : g < H) (hb : Below H w w') : Left w' g ps k :=
  ⟨fun j hj => by rw [hb.cell (p := ⟨g, 0 + j, none⟩) hg, hb.frozen (p := ⟨g, 0 + j, none⟩) hg]; exact h.1 j hj, fun j hj hk i v hv => by rw [hb.cell (p := ⟨g, j * 8 + i, none⟩) hg]; exact h.2 j hj hk i v hv⟩
theorem Left.next {w : World} {g : Nat} {ps : List (List UInt8)} {k : Nat} (h : Left w g ps k) (vs : List Value) (hv8 : vs.length = 8) : Left (w.setCells g (k * 8) vs) g ps (k + 1) :=
  ⟨World.there_setCells h.1 _ _ _, fun j hj hk => World.rangeAt_setCells_apart (h.2 j hj (by omega)) _ _ _ (.inr (.inr (by rw [hv8]; omega)))⟩
theorem owns_setCells {w : World} {B : Nat} {e : TypeId} {s : Nat} {v : Value} {n : Nat} {xs : List Value} (h : w.ownsRow B e s v n xs) (g : Nat) (hg : g < B) (o : Nat) (vs : List Value) : (w.setCells g o vs).ownsRow B e s v n xs := by
  refine ⟨h.1, ?_⟩
  rcases h.2 with h | ⟨g', cap, cur, e1, e2, e3, r⟩
  · exact .inl h
  · exact .inr ⟨g', cap, cur, e1, e2, by rw [setCells_other _ _ _ _ _ (by omega)]; exact e3, r⟩
theorem below_cells {B g : Nat} {a w : World} (hg : B ≤ g) (h : Below B a w) (o : Nat) (vs : List Value) : Below B a (w.setCells g o vs) := by
  obtain ⟨r1, r2, r3, r4⟩ := setCells_rest g vs o w
  exact ⟨r1.trans h.os, r2.trans h.tape, r3.trans h.output, by rw [r4]; exact h.size, fun k hk => by rw [setCells_other _ _ _ _ _ (by omega)]; exact h.block k hk⟩
theorem left_of_owns {w : World} {B : Nat} {v : Value} {ps : List (List UInt8)} (h8 : ∀ p ∈ ps, p.length = 8) (h : w.ownsRow B 48 8 v ps.length (flat ps)) :
    (v = .slice none 0 0 ∧ ps.length = 0) ∨ ∃ g cap, v = .slice (some ⟨g, 0, none⟩) ps.length cap ∧ B ≤ g ∧ g < w.heap.size ∧ Left w g ps 0 := by
  rcases h.2 with h0 | ⟨g, cap, cur, rfl, hB, hg, hn, hm, hs, ht⟩
  · exact .inl h0
  · refine .inr ⟨g, cap, rfl, hB, heap_lt hg, fun j hj => ?_, fun i hi _ j v hv => ?_⟩
    · rw [Nat.zero_add]
      refine ⟨?_, by simp [World.frozen?, hg]⟩
      rw [cell_of_row _ _ _ _ _ _ hg]
      have : j < cur.size := by rw [hs]; omega
      simp [this]
    · have hj : j < 8 := by
        have := (List.getElem?_eq_some_iff.1 hv).1
        rw [Array.length_toList, hv_size, h8 _ (List.getElem_mem hi)] at this
        exact this
      rw [cell_of_row _ _ _ _ _ _ hg]
      have e := flat_at ps h8 i j hi hj
      rw [hv, ← ht, List.getElem?_take, if_pos (by omega)] at e
      simpa using e

/-- What 'texts' leaves behind. -/
def mark : Array Value := #[.int .u8 1, .int .u8 0, .int .u8 0, .int .u8 0, .int .u8 0, .int .u8 0, .int .u8 0, .int .u8 0]
theorem mark_size : (Tryd.prog.info? 48).map (·.size) = some mark.size := by kernel_rfl
theorem mark_one : mark.all (·.oneCell') = true := by simp [mark, Value.oneCell']
theorem owns_weaken {w : World} {B B' : Nat} {e : TypeId} {s : Nat} {v : Value} {n : Nat} {xs : List Value} (h : w.ownsRow B e s v n xs) (hB : B' ≤ B) : w.ownsRow B' e s v n xs := by
  refine ⟨h.1, ?_⟩
  rcases h.2 with h | ⟨g', cap, cur, e1, e2, r⟩
  · exact .inl h
  · exact .inr ⟨g', cap, cur, e1, Nat.le_trans hB e2, r⟩

set_option maxHeartbeats 400000 in
theorem texts_any (B : Nat) (v : Value) (ps : List (List UInt8)) (w : World) (hn : ps.length ≤ 1000000) (hB : B ≤ w.heap.size) (h8 : ∀ p ∈ ps, p.length = 8) (h : w.ownsRow B 48 8 v ps.length (flat ps)) :
    Calls Tryd.prog 18 #[v] w fun r w' => ∃ x, r = .returned x ∧ Below B w w' ∧ w'.ownsRow B 9 1 x ps.length (ps.map txt) := by
  obtain ⟨i, hi, hi'⟩ := Option.map_eq_some_iff.1 infoStr
  obtain ⟨hz0, hz1, hz2⟩ : i.zero = some (.string ⟨#[]⟩) ∧ i.size = 1 ∧ i.bytes = 16 := by simpa using hi'
  clear hi'
  have HI := hide hi
  have HZ := hide (And.intro hz0 (And.intro hz1 hz2))
  clear hi hz0 hz1 hz2
  have Hc := hide (left_of_owns h8 h)
  have H8 := hide h8
  obtain ⟨a, cap, rfl⟩ : ∃ a cap, v = .slice a ps.length cap := by
    rcases Hc.out with ⟨rfl, h0⟩ | ⟨g, cap, rfl, -⟩
    · exact ⟨_, _, by rw [h0]⟩
    · exact ⟨_, _, rfl⟩
  clear h h8
  go_enter Tryd.func18, Tryd.ntmps18
  go_wp2_with fail
  go_loopw [3, 7] (fun t i wr => ∃ k : Nat, k ≤ ps.length ∧ i = .int .i64 k ∧ Below B w wr ∧ wr.ownsRow w.heap.size 9 1 t k ((ps.take k).map txt) ∧ (∀ g off, a = some ⟨g, off, none⟩ → off = 0 ∧ B ≤ g ∧ g < w.heap.size ∧ Left wr g ps k)) (fun _ i _ => ps.length - (intOf i).toNat)
  case atStart =>
    refine ⟨0, Nat.zero_le _, rfl, Below.refl _ _, ⟨rfl, .inl ⟨rfl, rfl⟩⟩, fun g off e => ?_⟩
    rcases Hc.out with ⟨e', h0⟩ | ⟨g', cap', e', r⟩
    · simp [e] at e'
    · simp [e] at e'
      obtain ⟨⟨rfl, rfl⟩, _⟩ := e'
      exact ⟨rfl, r⟩
  case round =>
    obtain ⟨k, hk, rfl, hbe, hown, hleft⟩ := hrel
    have HB := hide hbe
    have HO := hide hown
    have HL := hide hleft
    clear hbe hown hleft
    by_cases hlt : k < ps.length
    · obtain ⟨g, rfl⟩ : ∃ g, a = some ⟨g, 0, none⟩ := by
        rcases Hc.out with ⟨_, h0⟩ | ⟨g', cap', e', r⟩
        · omega
        · simp at e'; exact ⟨g', e'.1⟩
      obtain ⟨-, gB, gH, hleft⟩ := HL.out g 0 rfl
      have HG := hide (And.intro gB gH)
      have HL' := hide hleft
      clear hleft gB gH HL
      have hs : (ps.take (k + 1)).map txt = (ps.take k).map txt ++ [txt ps[k]] := by rw [List.take_succ_eq_append_getElem hlt, List.map_append]; rfl
      have Hs := hide hs
      clear hs
      have hcv := conv_mid wr g (k * 8) 8 8 ps[k] (H8.out _ (List.getElem_mem hlt)) (HL'.out.2 k hlt (Nat.le_refl _))
      generalize ps[k] = p at *
      unfold txt at hcv
      have hsz : Hid (w.heap.size ≤ wr.heap.size) := HB.out.size
      have HO1 : Hid (∀ o, (wr.alloc o).ownsRow w.heap.size 9 1 u3 k ((ps.take k).map txt)) := fun o => ownsRow_below HO.out (below_alloc wr o)
      go_wp2_with (first
        | (at_builtin; refine wpList_append_lies _ rfl _ _ _ rfl w.heap.size 9 i (.string ⟨#[]⟩) 1 16 Tryd.underlying22 HI.out HZ.out.1 HZ.out.2.1 HZ.out.2.2 rfl (by omega) u3 k _ rfl (HO1.out _) ⟨wr.heap.size, 0, none⟩ 1 1 [.string ⟨p.toArray⟩] rfl rfl (World.news_of_block (heap_alloc_last _ _)) (by simp [Value.oneCell']) (by omega) (by unfold maxLen; omega) (by omega) (by have := hsz.out; simp; omega) (wr.heap.size + 1) (by simp) ?_; intro g' cap' w2 hown hgrow hat hltg; have HB1 : Hid (Below w.heap.size wr w2) := ((below_alloc wr _).mono hsz.out).grown hgrow (by have := hsz.out; simp; omega) (own_base HO.out); have HO2 := hide hown; have HL2 : Hid (Left w2 g ps k) := HL'.out.below HG.out.2 HB1.out; clear hgrow hat hltg hown)
        | (show wpList _ _ _ ({ dst := none, op := Op.store _ _ _, type := _, pos := _, after := _, guard := _ } :: _) _ _; refine wpList_store_mid rfl 48 _ _ rfl g (k * 8) mark rfl rfl (by intro j hj; have hj' : j < 8 := hj; have := HL2.out.1 (k * 8 + j) (by omega); rw [Nat.zero_add] at this; exact this) mark_size mark_one ?_))
      have HB2 : Hid (Below B w w2) := HB.out.trans (HB1.out.mono hB)
      go_roundw
      case rel =>
        refine ⟨k + 1, by omega, by go_num, below_cells HG.out.1 HB2.out _ _, by rw [Hs.out]; exact owns_setCells HO2.out g HG.out.2 _ _, fun g' off e => ?_⟩
        simp only [Option.some.injEq, Addr.mk.injEq] at e
        obtain ⟨rfl, rfl, -⟩ := e
        exact ⟨rfl, HG.out.1, HG.out.2, HL2.out.next _ rfl⟩
      case measure => simp [intOf]; omega
    · go_wp2_with fail
      go_ret
      refine ⟨_, rfl, HB.out, ?_⟩
      have := HO.out
      rw [List.take_of_length_le (by omega)] at this
      rw [show ps.length = k by omega]
      exact owns_weaken this hB
end Go.Proofs.YtbjpjidliggdhaaDoor
