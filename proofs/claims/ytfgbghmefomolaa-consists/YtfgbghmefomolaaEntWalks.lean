
import Derived.Test.YtfgbghmefomolaaLeafWalks
import Derived.Test.YtfgbghmefomolaaRefRoot
import Derived.Laws.IdiomStrings
import Derived.Deep.AppendLies
import Derived.Lib.SliceRun
namespace Go.Proofs.Ytfgbghmefomolaa
open Go.RowKit

theorem bys_snoc (ss : List ByteArray) (k : Nat) (h : k < ss.length) : (bys ss).take (k + 1) = (bys ss).take k ++ [ss[k].data.toList] := by
  rw [List.take_succ_eq_append_getElem (by rw [bys_length]; exact h)]; simp [bys]
/-- A slice of bytes in a block of the call's own (a row of bytes), which may be written. -/
def EB (w : World) (B : Nat) (x : Value) (l : List UInt8) : Prop :=
  ∃ g cap C fr, x = .slice (some ⟨g, 0, none⟩) l.length cap ∧ B ≤ g ∧ w.heap[g]? = some (.cells C 5 fr) ∧ (∀ i (h : i < l.length), C[i]? = some (bv l[i])) ∧ l.length ≤ fr.1
/-- A slice of such. -/
def EBs (w : World) (B : Nat) (v : Value) (ls : List (List UInt8)) : Prop :=
  ∃ xs : List Value, w.ownsRow B 41 1 v ls.length xs ∧ ∀ j (h : j < ls.length), ∃ x, xs[j]? = some x ∧ EB w B x ls[j]

theorem heap_lt {w : World} {g : Nat} {o : Obj} (h : w.heap[g]? = some o) : g < w.heap.size := by
  rcases Nat.lt_or_ge g w.heap.size with h' | h'
  · exact h'
  · simp [Array.getElem?_eq_none h'] at h
theorem EB.below {w w' : World} {B : Nat} {x : Value} {l : List UInt8} (h : EB w B x l) (hb : Below w.heap.size w w') : EB w' B x l := by
  obtain ⟨g, cap, C, fr, e, hB, hg, hc, hf⟩ := h
  exact ⟨g, cap, C, fr, e, hB, by rw [hb.block g (heap_lt hg)]; exact hg, hc, hf⟩
theorem EB.grown {w w' : World} {B : Nat} {x v : Value} {l : List UInt8} {n : Nat} {xs : List Value} (h : EB w B x l) (ho : w.ownsRow B 41 1 v n xs) (hg' : w.grownBy w' v.ownBlock) : EB w' B x l := by
  obtain ⟨g, cap, C, fr, e, hB, hg, hc, hf⟩ := h
  refine ⟨g, cap, C, fr, e, hB, ?_, hc, hf⟩
  rw [hg'.block g (heap_lt hg) ?_]
  · exact hg
  · intro hq
    rcases ho.2 with ⟨rfl, _⟩ | ⟨g', c', cur, rfl, _, hg2, _⟩
    · simp [Value.ownBlock] at hq
    · simp only [Value.ownBlock, Option.some.injEq] at hq
      subst hq
      rw [hg] at hg2
      simp at hg2
theorem ownsRow_below {w w' : World} {B : Nat} {e : TypeId} {s : Nat} {v : Value} {n : Nat} {xs : List Value} (h : w.ownsRow B e s v n xs) (hb : Below w.heap.size w w') : w'.ownsRow B e s v n xs := by
  refine ⟨h.1, ?_⟩
  rcases h.2 with h | ⟨g, cap, cur, e1, e2, e3, r⟩
  · exact .inl h
  · exact .inr ⟨g, cap, cur, e1, e2, by rw [hb.block g (heap_lt e3)]; exact e3, r⟩
theorem EB.bs {w : World} {B : Nat} {x : Value} {l : List UInt8} (h : EB w B x l) : Bs w x l := by
  obtain ⟨g, cap, C, fr, rfl, hB, hg, hc, hf⟩ := h
  refine ⟨_, _, rfl, .inr ⟨g, 0, rfl, fun i hi => ?_⟩⟩
  rw [Nat.zero_add, cell_of_row _ _ _ _ _ _ hg]
  exact hc i hi
theorem EBs.bss {w : World} {B : Nat} {v : Value} {ls : List (List UInt8)} (h : EBs w B v ls) : Bss w v ls := by
  obtain ⟨xs, ⟨hl, ho⟩, hx⟩ := h
  rcases ho with ⟨rfl, h0⟩ | ⟨g, cap, cur, rfl, hB, hg, hn, hm, hs, ht⟩
  · exact ⟨none, 0, by rw [h0], by rw [h0]; exact Nat.le_refl _, .inl (List.length_eq_zero_iff.1 h0)⟩
  · refine ⟨_, _, rfl, hn, .inr ⟨g, 0, rfl, fun i hi => ?_⟩⟩
    obtain ⟨x, e, hb⟩ := hx i hi
    refine ⟨x, ?_, hb.bs⟩
    rw [Nat.zero_add, cell_of_row _ _ _ _ _ _ hg]
    rw [← ht, Nat.mul_one] at e
    rw [List.getElem?_take, if_pos hi] at e
    simpa using e
/-- What '[]byte(s)' lays. -/
theorem EB.conv (w : World) (s : ByteArray) (B cap : Nat) (hB : B ≤ w.heap.size) :
    EB (w.alloc (.cells (bytesRow s cap) 5 ((bytesRow s cap).size, (bytesRow s cap).size + 1))) B (.slice (some ⟨w.heap.size, 0, none⟩) s.size cap) s.data.toList := by
  refine ⟨w.heap.size, cap, _, _, by simp, hB, heap_alloc_last _ _, fun i hi => ?_, ?_⟩
  · have hi' : i < s.data.size := by simpa using hi
    rw [bytesRow, Array.getElem?_append_left (by simpa using hi')]
    rw [Array.getElem?_map, Array.getElem?_eq_getElem hi']
    rfl
  · simp [bytesRow]

theorem ent_step {wr w1 : World} {B : Nat} {u : Value} {xs : List Value} {ls : List (List UInt8)} {s : ByteArray} {cap g cap' : Nat} {o2 : Obj} (hB : B ≤ wr.heap.size) (ho : wr.ownsRow B 41 1 u ls.length xs)
    (hx : ∀ j (h : j < ls.length), ∃ x, xs[j]? = some x ∧ EB wr B x ls[j])
    (hown : w1.ownsRow B 41 1 (.slice (some ⟨g, 0, none⟩) (ls.length + 1) cap') (ls.length + 1) (xs ++ [.slice (some ⟨wr.heap.size, 0, none⟩) s.size cap]))
    (hgrow : (((wr.alloc (.cells (bytesRow s cap) 5 ((bytesRow s cap).size, (bytesRow s cap).size + 1))).alloc o2).drew).grownBy w1 u.ownBlock) :
    EBs w1 B (.slice (some ⟨g, 0, none⟩) (ls.length + 1) cap') (ls ++ [s.data.toList]) := by
  have hxl : xs.length = ls.length := by rw [ho.1, Nat.mul_one]
  refine ⟨xs ++ [.slice (some ⟨wr.heap.size, 0, none⟩) s.size cap], by simpa using hown, fun j hj => ?_⟩
  have ho2 := ownsRow_below ho (w' := ((wr.alloc (.cells (bytesRow s cap) 5 ((bytesRow s cap).size, (bytesRow s cap).size + 1))).alloc o2).drew) (below_alloc2 _ _ _).drew
  by_cases hjl : j < ls.length
  · obtain ⟨x, e, hb⟩ := hx j hjl
    refine ⟨x, by rw [List.getElem?_append_left (by omega)]; exact e, ?_⟩
    rw [List.getElem_append_left hjl]
    exact (hb.below (below_alloc2 _ _ _).drew).grown ho2 hgrow
  · obtain rfl : j = ls.length := by simp at hj; omega
    refine ⟨.slice (some ⟨wr.heap.size, 0, none⟩) s.size cap, by rw [List.getElem?_append_right (by omega), hxl]; simp, ?_⟩
    rw [List.getElem_append_right (Nat.le_refl _)]
    simp only [Nat.sub_self, List.getElem_cons_zero]
    exact EB.grown (w := ((wr.alloc (.cells (bytesRow s cap) 5 ((bytesRow s cap).size, (bytesRow s cap).size + 1))).alloc o2).drew) ((EB.conv wr s B cap hB).below (below_alloc _ _).drew) ho2 hgrow
theorem own_base {w : World} {B : Nat} {e : TypeId} {s : Nat} {v : Value} {n : Nat} {xs : List Value} (h : w.ownsRow B e s v n xs) : ∀ k, v.ownBlock = some k → B ≤ k := by
  intro k hk
  rcases h.2 with ⟨rfl, _⟩ | ⟨g, cap, cur, rfl, hB, _⟩
  · simp [Value.ownBlock] at hk
  · simp only [Value.ownBlock, Option.some.injEq] at hk
    omega

theorem infoBytes : (Try.prog.info? 41).map (fun i => (i.zero, i.size, i.bytes)) = some (some (.slice none 0 0), 1, 24) := by kernel_rfl

set_option maxHeartbeats 2000000 in
theorem entries_any (v : Value) (ss : List ByteArray) (w : World) (hn : ss.length ≤ 1000000) (h : Sss w v ss) :
    Calls Try.prog 23 #[v] w fun r w' => ∃ x, r = .returned x ∧ Below w.heap.size w w' ∧ EBs w' w.heap.size x (bys ss) := by
  obtain ⟨i, hi, hi'⟩ := Option.map_eq_some_iff.1 infoBytes
  obtain ⟨hz0, hz1, hz2⟩ : i.zero = some (.slice none 0 0) ∧ i.size = 1 ∧ i.bytes = 24 := by simpa using hi'
  clear hi'
  have HI := hide hi
  have HZ := hide (And.intro hz0 (And.intro hz1 hz2))
  clear hi hz0 hz1 hz2
  have H := hide h
  obtain ⟨a, cap, rfl, hcap, h'⟩ := h
  have Hc : Hid (ss.length = 0 ∨ ∃ b off, a = some ⟨b, off, none⟩ ∧ ∀ i (h : i < ss.length), w.cell? ⟨b, off + i, none⟩ = some (.string ss[i])) := by
    rcases h' with h | h
    · exact .inl (by simp [h])
    · exact .inr h
  clear h'
  go_enter Try.func23, Try.ntmps23
  go_wp2_with fail
  go_loopw [3, 8] (fun t i wr => ∃ k : Nat, k ≤ ss.length ∧ i = .int .i64 k ∧ Below w.heap.size w wr ∧ EBs wr w.heap.size t ((bys ss).take k)) (fun _ i _ => ss.length - (intOf i).toNat)
  case atStart => exact ⟨0, Nat.zero_le _, rfl, Below.refl _ _, ⟨[], ⟨rfl, .inl ⟨rfl, rfl⟩⟩, fun j hj => by simp at hj⟩⟩
  case round =>
    obtain ⟨k, hk, rfl, hbe, hebs⟩ := hrel
    have HB := hide hbe
    have HE := hide hebs
    clear hbe hebs
    by_cases hlt : k < ss.length
    · rcases Hc.out with h0 | ⟨b, off, rfl, hcell⟩
      · omega
      have hx := hcell k hlt
      rw [← HB.out.cell (cell_lt (p := ⟨b, off + k, none⟩) hx)] at hx
      clear hcell
      have Hs := hide (bys_snoc ss k hlt)
      have hcv := fun w0 => run_bytes_of_string (P := Try.prog) w0 9 41 5 ss[k] Try.underlying9 Try.underlying41 Try.underlying5
      generalize ss[k] = s at *
      obtain ⟨xs, ho, hxs⟩ := HE.out
      have hlk : ((bys ss).take k).length = k := by rw [List.length_take, bys_length]; omega
      have HX := hide hxs
      have HO : Hid (wr.ownsRow w.heap.size 41 1 u3 ((bys ss).take k).length xs) := ho
      rw [hlk] at ho
      have HO2 : Hid (∀ o1 o2, ((wr.alloc o1).alloc o2).drew.ownsRow w.heap.size 41 1 u3 k xs) := fun o1 o2 => ownsRow_below ho (below_alloc2 _ _ _).drew
      have HL := hide hlk
      clear ho hxs hlk
      have hsz : Hid (w.heap.size ≤ wr.heap.size) := HB.out.size
      go_wp2_with (at_builtin; refine wpList_append_lies _ rfl _ _ _ rfl w.heap.size 41 i (.slice none 0 0) 1 24 Try.underlying35 HI.out HZ.out.1 HZ.out.2.1 HZ.out.2.2 rfl (by omega) u3 k xs rfl (HO2.out _ _) ⟨wr.heap.size + 1, 0, none⟩ 1 1 [.slice (some ⟨wr.heap.size, 0, none⟩) s.size (grownCap wr s.size 0 5)] rfl rfl (World.news_of_block (by rw [show wr.heap.size + 1 = (wr.alloc (.cells (bytesRow s (grownCap wr s.size 0 5)) 5 ((bytesRow s (grownCap wr s.size 0 5)).size, (bytesRow s (grownCap wr s.size 0 5)).size + 1))).heap.size by simp]; exact heap_alloc_last _ _)) (by simp [Value.oneCell']) (by omega) (by unfold maxLen; omega) (by omega) (by have := hsz.out; simp; omega) (wr.heap.size + 1 + 1) (by simp) ?_; intro g cap' w1 hown hgrow hat hltg)
      have hst := ent_step (s := s) (hB := HB.out.size) HO.out HX.out (by rw [HL.out]; exact hown) hgrow
      have HB1 : Hid (Below w.heap.size w w1) := ((HB.out.trans ((below_alloc2 wr _ _).drew.mono HB.out.size)).grown hgrow (by have := HB.out.size; simp; omega) (own_base HO.out))
      rw [HL.out] at hst
      have HST := hide hst
      clear hst hgrow hat hltg hown
      go_wp2_with fail
      go_roundw
      case rel => exact ⟨k + 1, by omega, by go_num, HB1.out, by rw [Hs.out]; exact HST.out⟩
      case measure => simp [intOf]; omega
    · go_wp2_with fail
      go_ret
      refine ⟨_, rfl, HB.out, ?_⟩
      have := HE.out
      rw [List.take_of_length_le (by rw [bys_length]; omega)] at this
      exact this
end Go.Proofs.Ytfgbghmefomolaa
