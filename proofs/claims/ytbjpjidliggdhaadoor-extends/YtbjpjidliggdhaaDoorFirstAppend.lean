
import Derived.Test.YtbjpjidliggdhaaDoorKeepAppend
namespace Go.Proofs.YtbjpjidliggdhaaDoor
open Go.RowKit

/-- 'append([]string{s}, l...)'. -/
theorem wpList_append_first (w : World) {ops : Array Oper} {rest : List Oper} {o : Oper} {a : Act} {Q : Exit → Act → World → Prop}
    (hgd : o.guard = none) (s x : Operand) (hop : o.op = Op.call { callee := Callee.builtin Builtin.append, args := #[s, x], argTypes := #[22, 22] })
    (fst : ByteArray) (v : Value) (ss : List ByteArray) (hss : Sss w v ss) (hn : ss.length ≤ 1000) (hs : a.eval s = .slice (some ⟨w.heap.size, 0, none⟩) 1 1) (hx : a.eval x = v)
    (h : ∀ g cap w', ss.length + 1 ≤ cap → Sss w' (.slice (some ⟨g, 0, none⟩) (ss.length + 1) cap) (fst :: ss) → Below w.heap.size w w' → wpList Tryd.prog ops Q rest (a.put o.dst (.slice (some ⟨g, 0, none⟩) (ss.length + 1) cap)) w') :
    wpList Tryd.prog ops Q (o :: rest) a (w.alloc (.cells #[.string fst] 9)) := by
  obtain ⟨i, hi, hi'⟩ := Option.map_eq_some_iff.1 infoStr
  obtain ⟨hz0, hz1, hz2⟩ : i.zero = some (.string ⟨#[]⟩) ∧ i.size = 1 ∧ i.bytes = 16 := by simpa using hi'
  have hown : (w.alloc (.cells #[.string fst] 9)).ownsRow w.heap.size 9 1 (.slice (some ⟨w.heap.size, 0, none⟩) 1 1) 1 [.string fst] :=
    ⟨rfl, .inr ⟨w.heap.size, 1, #[.string fst], rfl, Nat.le_refl _, heap_alloc_last _ _, Nat.le_refl _, by unfold maxLen; simp, rfl, rfl⟩⟩
  obtain ⟨ad, cap, rfl, hcap, hc⟩ := hss
  by_cases h0 : ss.length = 0
  · obtain rfl : ss = [] := List.length_eq_zero_iff.1 h0
    have hrun : (Builtin.append_ #[22, 22] o.type #[.slice (some ⟨w.heap.size, 0, none⟩) 1 1, .slice ad 0 cap]).run Tryd.prog (w.alloc (.cells #[.string fst] 9)) = .ok (.slice (some ⟨w.heap.size, 0, none⟩) 1 1) (w.alloc (.cells #[.string fst] 9)) := by
      cases ad with
      | none => simp [Builtin.append_, run_underlying Tryd.underlying22, sizeOf, typeInfo, hi, Builtin.lenOf, Builtin.firstCells, storeCells]
      | some q => simp [Builtin.append_, run_underlying Tryd.underlying22, sizeOf, typeInfo, hi, Builtin.lenOf, Builtin.firstCells, loadCells, loadCellsFrom, storeCells]
    refine wpList_plain hgd fun K hK => ?_
    have hx' : a.eval x = .slice ad 0 cap := hx
    unfold Oper.wp
    simp [execOp, hop, resolve, invoke, builtin, hs, hx', hrun, Result.andThen]
    refine hK _ _ (h w.heap.size 1 _ (by simp) ?_ (below_alloc _ _))
    exact ⟨_, 1, rfl, by simp, .inr ⟨w.heap.size, 0, rfl, fun j hj => by
      obtain rfl : j = 0 := by simpa using hj
      rw [World.cell?_alloc_at _ _ _ _ rfl]; rfl⟩⟩
  · rcases hc with hc | ⟨b, off, rfl, hc⟩
    · simp [hc] at h0
    refine wpList_append_lies _ hgd s x _ hop w.heap.size 9 i (.string ⟨#[]⟩) 1 16 Tryd.underlying22 hi hz0 hz1 hz2 rfl (by omega) _ 1 _ hs hown ⟨b, off, none⟩ ss.length cap (ss.map Value.string) hx (by simp) ?_ ?_ (by omega) (by unfold maxLen; omega) (by omega) (by simp) _ rfl ?_
    · intro j u hj
      have hjl : j < ss.length := by simpa using (List.getElem?_eq_some_iff.1 hj).1
      rw [Addr.add_mid, cell_old _ _ ⟨b, off + j, none⟩ (cell_lt (hc j hjl)), hc j hjl]
      simpa [hjl] using hj
    · intro u hu
      obtain ⟨t, _, rfl⟩ := List.mem_map.1 hu
      rfl
    · intro g cap' w1 hown1 hgrow hat hlt
      have e : [Value.string fst] ++ ss.map Value.string = (fst :: ss).map Value.string := by simp
      rw [e, show 1 + ss.length = ss.length + 1 by omega] at hown1
      rw [show 1 + ss.length = ss.length + 1 by omega]
      have hcap' : ss.length + 1 ≤ cap' := by
        rcases hown1.2 with ⟨e, _⟩ | ⟨g', c', cur, e, _, _, hc', _⟩
        · simp at e
        · simp at e; omega
      refine h g cap' w1 hcap' (Sss.of_owns (ts := fst :: ss) hown1) ?_
      exact (below_alloc _ _).grown hgrow (by simp) (own_base hown)
end Go.Proofs.YtbjpjidliggdhaaDoor
