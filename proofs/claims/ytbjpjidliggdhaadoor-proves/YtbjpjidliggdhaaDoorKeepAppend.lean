
import Derived.Test.YtbjpjidliggdhaaDoorEightsWalks
import Derived.Test.YtbjpjidliggdhaaDoorSpoilWalks
import Derived.ArgAppend
namespace Go.Proofs.YtbjpjidliggdhaaDoor
open Go.RowKit

/-- 'append(p, r)' leaves p as it reads. -/
theorem wpList_append_keep (w : World) {ops : Array Oper} {rest : List Oper} {o : Oper} {a : Act} {Q : Exit → Act → World → Prop}
    (hgd : o.guard = none) (s x : Operand) (hop : o.op = Op.call { callee := Callee.builtin Builtin.append, args := #[s, x], argTypes := #[22, 22] })
    (B : Nat) (hB : B ≤ w.heap.size) (v : Value) (ts : List ByteArray) (hs : a.eval s = v) (hown : w.ownsRow B 9 1 v ts.length (ts.map Value.string)) (hn : ts.length ≤ 1000000)
    (ab : Nat) (c : Nat) (r : ByteArray) (hx : a.eval x = .slice (some ⟨ab, 0, none⟩) 1 c) (hc : w.cell? ⟨ab, 0, none⟩ = some (.string r))
    (h : ∀ v' w', Sss w' v' (ts ++ [r]) → Sss w' v ts → Below B w w' → (∀ (q : Addr) (u : Value), w.cell? q = some u → v.ownBlock ≠ some q.block → w'.cell? q = some u) → wpList Tryd.prog ops Q rest (a.put o.dst v') w') : wpList Tryd.prog ops Q (o :: rest) a w := by
  obtain ⟨i, hi, hi'⟩ := Option.map_eq_some_iff.1 infoStr
  obtain ⟨hz0, hz1, hz2⟩ : i.zero = some (.string ⟨#[]⟩) ∧ i.size = 1 ∧ i.bytes = 16 := by simpa using hi'
  have hnews : ∀ j u, [Value.string r][j]? = some u → w.cell? ((⟨ab, 0, none⟩ : Addr).add j) = some u := by
    intro j u hj
    match j, hj with
    | 0, hj => rw [Addr.add_mid, Nat.add_zero, hc]; simpa using hj
  have hone : ∀ u ∈ [Value.string r], u.oneCell' = true := by simp [Value.oneCell']
  have hmap : ts.map Value.string ++ [Value.string r] = (ts ++ [r]).map Value.string := by simp
  have hlen : (ts ++ [r]).length = ts.length + 1 := by simp
  rcases hown.2 with ⟨rfl, h0⟩ | ⟨g, cap, cur, rfl, hBg, hg, hcap, hm, hsz, ht⟩
  · refine wpList_append_lies w hgd s x _ hop B 9 i (.string ⟨#[]⟩) 1 16 Tryd.underlying22 hi hz0 hz1 hz2 rfl (by omega) _ ts.length _ hs hown ⟨ab, 0, none⟩ 1 c [.string r] hx rfl hnews hone (by omega) (by unfold maxLen; omega) (by omega) hB w.heap.size rfl ?_
    intro g cap w1 hown1 hgrow hat hlt
    refine h _ w1 ?_ ?_ ?_ (fun q u hq hne => hgrow.cell hq (Ne.symm hne))
    · rw [hmap, ← hlen] at hown1
      have e := Sss.of_owns hown1
      rw [hlen] at e
      exact e
    · exact ⟨none, 0, by rw [h0], by rw [h0]; exact Nat.le_refl _, .inl (List.length_eq_zero_iff.1 h0)⟩
    · exact (Below.refl _ _).grown hgrow hB (by intro k hk; simp [Value.ownBlock] at hk)
  · have holds : ∀ j u, (ts.map Value.string)[j]? = some u → w.cell? ⟨g, 0 + j, none⟩ = some u := by
      intro j u hj
      rw [Nat.zero_add, cell_of_row _ _ _ _ _ _ hg]
      have hjl : j < ts.length := by simpa using (List.getElem?_eq_some_iff.1 hj).1
      rw [← ht, List.getElem?_take, if_pos (by omega)] at hj
      simpa using hj
    have hthere : ∀ j, j < cap → (w.cell? ⟨g, j, none⟩).isSome = true ∧ w.frozen? ⟨g, j, none⟩ = false := by
      intro j hj
      refine ⟨?_, by simp [World.frozen?, hg]⟩
      rw [cell_of_row _ _ _ _ _ _ hg]
      have : j < cur.size := by rw [hsz]; omega
      simp [this]
    refine wpList_append_arg w hgd s x _ hop 9 i (.string ⟨#[]⟩) 1 16 Tryd.underlying22 hi hz0 hz1 hz2 rfl (by omega) g 0 ts.length cap (ts.map Value.string) hs (by simp) holds ⟨ab, 0, none⟩ 1 c [.string r] hx rfl hnews hone (fun hr j hj => ?_) (by unfold maxLen; omega) (by omega) (fun hr => ?_) (fun hr v' w' hown' hgrow => ?_)
    · obtain rfl : j = 0 := by simpa using hj
      have := hthere (0 + ts.length * 1 + 0) (by omega)
      exact this
    · have hin : ∀ j, j < 1 → (w.cell? ⟨g, (0 + ts.length * 1) + j, none⟩).isSome = true := fun j hj => (hthere _ (by omega)).1
      refine h _ _ ⟨_, cap, by rw [hlen], by rw [hlen]; exact hr, .inr ⟨g, 0, rfl, fun j hj => ?_⟩⟩ ⟨_, cap, rfl, hcap, .inr ⟨g, 0, rfl, fun j hj => ?_⟩⟩ ?_ (fun q u hq hne => by rw [World.cell?_setCells_out _ _ _ _ _ (fun e _ => absurd (by rw [e]; rfl) hne)]; exact hq)
      · rw [hlen] at hj
        by_cases hjl : j < ts.length
        · rw [World.cell?_setCells_out _ _ _ _ _ (fun _ _ => .inl (by show 0 + j < _; omega)), holds j (.string ts[j]) (by simp [hjl]), List.getElem_append_left hjl]
        · obtain rfl : j = ts.length := by omega
          have := World.cell?_setCells_in g [Value.string r] (0 + ts.length * 1) w hin 0 (by simp)
          rw [Nat.add_zero, Nat.mul_one] at this
          rw [Nat.mul_one, this]
          simp
      · rw [World.cell?_setCells_out _ _ _ _ _ (fun _ _ => .inl (by show 0 + j < _; omega)), holds j (.string ts[j]) (by simp [hj])]
      · obtain ⟨r1, r2, r3, r4⟩ := setCells_rest g [Value.string r] (0 + ts.length * 1) w
        exact ⟨r1, r2, r3, by rw [r4]; exact Nat.le_refl _, fun k hk => setCells_other _ _ _ _ _ (by omega)⟩
    · have hb : Below w.heap.size w w' := (Below.refl _ _).grown hgrow (Nat.le_refl _) (by intro k hk; cases hk)
      refine h v' w' ?_ ?_ (hb.mono hB) (fun q u hq _ => hgrow.cell hq (by simp))
      · rw [hmap, ← hlen] at hown'; exact Sss.of_owns hown'
      · exact (Sss.of_owns hown).below hb
theorem own_lt {w : World} {B : Nat} {e : TypeId} {s : Nat} {v : Value} {n : Nat} {xs : List Value} (h : w.ownsRow B e s v n xs) {k : Nat} (hk : w.heap.size ≤ k) : v.ownBlock ≠ some k := by
  rcases h.2 with ⟨rfl, _⟩ | ⟨g, cap, cur, rfl, hB, hg, _⟩
  · simp [Value.ownBlock]
  · have := heap_lt hg
    simp only [Value.ownBlock, ne_eq, Option.some.injEq]
    omega
end Go.Proofs.YtbjpjidliggdhaaDoor
