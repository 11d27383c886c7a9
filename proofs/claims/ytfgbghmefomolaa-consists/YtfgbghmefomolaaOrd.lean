
import Derived.Test.YtfgbghmefomolaaBase
import Derived.OrdersHeld
namespace Go.Proofs.Ytfgbghmefomolaa
open Go.RowKit

/- A REGION THAT DRAWS ITS ORDER, WHOSE STORES TURN WHAT ITS LOADS READ: the loads are taken first under a condition S on the world; S is shown anew only behind operations ahead of the stores (those that D names), for these wait for the loads. -/
section
variable {P : Program} {ops : Array Oper} {Q : Exit → Act → World → Prop} {md : Region.Mode} {S : World → Prop} {D : Nat → Bool}

def wpT (P : Program) (md : Region.Mode) (ops : Array Oper) (Q : Exit → Act → World → Prop) (S : World → Prop) (D : Nat → Bool) : Nat → Array Bool → Act → World → Prop
  | 0, listed, a, w => Region.ready md ops listed = [] ∧ Q .normal a w
  | fuel + 1, listed, a, w =>
    (Region.ready md ops listed = [] → Q .normal a w) ∧
    ∀ i ∈ Region.ready md ops listed, wpOp P ops Q i (fun a' w' => if D i = true then wpAny P md ops Q fuel (listed.setIfInBounds i true) a' w' else S w' ∧ wpT P md ops Q S D fuel (listed.setIfInBounds i true) a' w') a w

theorem wpAny_of_T : ∀ (fuel : Nat) (listed : Array Bool) (a : Act) (w : World), wpT P md ops Q S D fuel listed a w → wpAny P md ops Q fuel listed a w
  | 0, _, _, _, h => h
  | fuel + 1, listed, a, w, h => ⟨h.1, fun i hi => wpOp_mono (fun a' w' h' => by
      by_cases hd : D i = true
      · rw [if_pos hd] at h'; exact h'
      · rw [if_neg hd] at h'; exact wpAny_of_T fuel _ a' w' h'.2) (h.2 i hi)⟩

/-- All that waits for number i (W), straight or by another of W. -/
def waitsB (md : Region.Mode) (ops : Array Oper) (listed : Array Bool) (i : Nat) (W : List Nat) : Bool :=
  !W.contains i && W.all fun j => !listed.getD j true && match ops[j]? with
    | some o => o.after.any fun e => Region.binds md e && (e.on == i || W.contains e.on)
    | none => false

theorem wpT_first {i : Nat} {oi : Oper} {v : Value} {W : List Nat} (hi : ops[i]? = some oi) (hsel : ∀ (j : Nat) (o : Oper) cs b, ops[j]? = some o → o.op ≠ .select cs b)
    (hQ : ∀ c a w, Q (.panic c) (a.put oi.dst v) w → Q (.panic c) a w) (hD : ∀ j, D j = true → j ∈ W) :
    ∀ (fuel : Nat) (listed : Array Bool) (a : Act) (w : World), waitsB md ops listed i W = true →
      (∀ j oj, ops[j]? = some oj → j ≠ i → listed.getD j true = false → (∀ e ∈ oj.after, Region.binds md e = true → e.on ≠ i) → oi.apart ops oj = true) →
      i ∈ Region.ready md ops listed → YieldsIf P ops S oi v a → S w →
      wpT P md ops Q S D fuel (listed.setIfInBounds i true) (a.put oi.dst v) w → wpT P md ops Q S D (fuel + 1) listed a w := by
  intro fuel
  induction fuel with
  | zero =>
    intro listed a w hW _ hr hy hS H
    refine ⟨fun h => (by rw [h] at hr; cases hr), fun j hj => ?_⟩
    by_cases hji : j = i
    · subst hji
      have hDj : ¬ D j = true := fun hd => by
        have := hD j hd
        simp [waitsB, this] at hW
      refine hy.wpOp hi hS ?_
      rw [if_neg hDj]
      exact ⟨hS, H⟩
    · have := ready_mono hj hji
      rw [H.1] at this
      cases this
  | succ fuel ih =>
    intro listed a w hW hfree hr hy hS H
    have hWi : ¬ i ∈ W := by
      intro h
      simp [waitsB, h] at hW
    have hun : ∀ j ∈ W, listed.getD j true = false ∧ ∃ o, ops[j]? = some o ∧ ∃ e ∈ o.after, Region.binds md e = true ∧ (e.on = i ∨ e.on ∈ W) := by
      intro j hj
      simp only [waitsB, Bool.and_eq_true, List.all_eq_true] at hW
      have h1 := hW.2 j hj
      cases ho : ops[j]? with
      | none => simp [ho] at h1
      | some o =>
        simp only [ho, Bool.not_eq_true', Array.any_eq_true', Bool.and_eq_true, Bool.or_eq_true, beq_iff_eq, List.contains_eq_mem, decide_eq_true_eq] at h1
        exact ⟨h1.1, o, rfl, h1.2⟩
    have hiun : listed.getD i true = false := (mem_ready.1 hr).1
    have notBoth : ∀ k, listed.getD k true = false → listed.getD k false = true → False := fun k h0 h1 => by
      rcases Nat.lt_or_ge k listed.size with h' | h'
      · simp [h'] at h0 h1; rw [h0] at h1; cases h1
      · simp [Array.getElem?_eq_none h'] at h1
    have notW : ∀ j, j ∈ Region.ready md ops listed → ¬ j ∈ W := by
      intro j hj hjW
      obtain ⟨_, o, ho, e, he, hb, hon⟩ := hun j hjW
      obtain ⟨_, o', ho', hall⟩ := mem_ready.1 hj
      rw [ho] at ho'
      obtain rfl := Option.some.inj ho'
      have hl := hall e he hb
      rcases hon with hon | hon
      · rw [hon] at hl; exact notBoth i hiun hl
      · exact notBoth _ (hun _ hon).1 hl
    refine ⟨fun h => (by rw [h] at hr; cases hr), fun j hj => ?_⟩
    have hDj : ¬ D j = true := fun hd => notW j hj (hD j hd)
    by_cases hji : j = i
    · subst hji
      refine hy.wpOp hi hS ?_
      rw [if_neg hDj]
      exact ⟨hS, H⟩
    · have h1 := H.2 j (ready_mono hj hji)
      obtain ⟨hjun, oj, hoj, hall⟩ := mem_ready.1 hj
      have hnot : ∀ e ∈ oj.after, Region.binds md e = true → e.on ≠ i := fun e he hb heq => by
        have h1 := hall e he hb
        rw [heq] at h1
        exact notBoth i hiun h1
      have h2 := wpOp_putIf hoj (hfree j oj hoj hji hjun hnot) (fun cs b => hsel i oi cs b hi) (fun cs b => hsel j oj cs b hoj) hQ hy h1
      have hfree' : ∀ k ok, ops[k]? = some ok → k ≠ i → (listed.setIfInBounds j true).getD k true = false →
          (∀ e ∈ ok.after, Region.binds md e = true → e.on ≠ i) → oi.apart ops ok = true := fun k ok hk hki hun hno => by
        refine hfree k ok hk hki ?_ hno
        by_cases hjk : j = k
        · subst hjk; exact hjun
        · rw [getD_set_ne true hjk] at hun; exact hun
      have hW' : waitsB md ops (listed.setIfInBounds j true) i W = true := by
        simp only [waitsB, Bool.and_eq_true, List.all_eq_true] at hW ⊢
        refine ⟨hW.1, fun k hk => ⟨?_, (hW.2 k hk).2⟩⟩
        have hjk : j ≠ k := by rintro rfl; exact notW j hj hk
        rw [getD_set_ne true hjk]
        exact (hW.2 k hk).1
      refine wpOp_mono (fun a' w' h3 => ?_) h2
      rw [if_neg hDj] at h3 ⊢
      refine ⟨h3.2.1, ih (listed.setIfInBounds j true) a' w' hW' hfree' (ready_mono hr (Ne.symm hji)) h3.1 h3.2.1 ?_⟩
      rw [Array.setIfInBounds_comm _ _ hji]
      exact h3.2.2

theorem wpT_take {i : Nat} {oi : Oper} {v : Value} (W : List Nat) {fuel : Nat} {listed : Array Bool} {a : Act} {w : World} (hi : ops[i]? = some oi)
    (hs : Region.noSelect ops = true) (hf : Region.free md ops listed i = true) (hr : (Region.ready md ops listed).contains i = true) (hW : waitsB md ops listed i W = true) (hD : ∀ j, D j = true → j ∈ W)
    (hQ : ∀ c a w, Q (.panic c) (a.put oi.dst v) w → Q (.panic c) a w) (hy : YieldsIf P ops S oi v a) (hS : S w)
    (h : wpT P md ops Q S D fuel (listed.setIfInBounds i true) (a.put oi.dst v) w) : wpT P md ops Q S D (fuel + 1) listed a w :=
  wpT_first hi (Region.noSelect_spec hs) hQ hD fuel listed a w hW (Region.free_spec hi hf) (by simpa using hr) hy hS h

/-- The only one that may come up, ahead of the stores. -/
theorem wpT_one (i : Nat) {oi : Oper} {fuel : Nat} {listed : Array Bool} {a : Act} {w : World} (hi : ops[i]? = some oi) (hg : oi.guard = none) (hr : Region.ready md ops listed = [i]) (hd : D i = false)
    (h : ∀ K : Act → World → Prop, (∀ a' w', S w' → wpT P md ops Q S D fuel (listed.setIfInBounds i true) a' w' → K a' w') → oi.wp P a w K Q) : wpT P md ops Q S D (fuel + 1) listed a w := by
  refine ⟨fun h0 => (by rw [hr] at h0; cases h0), fun j hj => ?_⟩
  rw [hr] at hj
  obtain rfl : j = i := by simpa using hj
  unfold wpOp
  simp only [hi]
  rw [if_pos (by simp [Region.wanted, hg])]
  refine .inl (h _ fun a' w' hS h' => ?_)
  rw [if_neg (by rw [hd]; simp)]
  exact ⟨hS, h'⟩
/-- .. a store. -/
theorem wpT_store (i : Nat) {oi : Oper} {fuel : Nat} {listed : Array Bool} {a : Act} {w : World} (hi : ops[i]? = some oi) (hg : oi.guard = none) (hr : Region.ready md ops listed = [i]) (hd : D i = true)
    (h : ∀ K : Act → World → Prop, (∀ a' w', wpAny P md ops Q fuel (listed.setIfInBounds i true) a' w' → K a' w') → oi.wp P a w K Q) : wpT P md ops Q S D (fuel + 1) listed a w := by
  refine ⟨fun h0 => (by rw [hr] at h0; cases h0), fun j hj => ?_⟩
  rw [hr] at hj
  obtain rfl : j = i := by simpa using hj
  unfold wpOp
  simp only [hi]
  rw [if_pos (by simp [Region.wanted, hg])]
  refine .inl (h _ fun a' w' h' => ?_)
  rw [if_pos hd]
  exact h'
theorem wpAny_one (i : Nat) {oi : Oper} {fuel : Nat} {listed : Array Bool} {a : Act} {w : World} (hi : ops[i]? = some oi) (hg : oi.guard = none) (hr : Region.ready md ops listed = [i])
    (h : ∀ K : Act → World → Prop, (∀ a' w', wpAny P md ops Q fuel (listed.setIfInBounds i true) a' w' → K a' w') → oi.wp P a w K Q) : wpAny P md ops Q (fuel + 1) listed a w := by
  refine ⟨fun h0 => (by rw [hr] at h0; cases h0), fun j hj => ?_⟩
  rw [hr] at hj
  obtain rfl : j = i := by simpa using hj
  unfold wpOp
  simp only [hi]
  rw [if_pos (by simp [Region.wanted, hg])]
  exact .inl (h _ fun a' w' h' => h')

/-- The beginning, a copy of a slot taken first. -/
theorem wp_region_T1 {id : Nat} {a : Act} {w : World} (S : World → Prop) (D : Nat → Bool) (i : Nat) {oi : Oper} (x : Operand) (v : Value) {fuel : Nat} (hm : P.follows .mixedOrders = true) (hsz : ops.size = fuel + 1)
    (hi : ops[i]? = some oi) (hs : Region.noSelect ops = true) (hf : Region.free .any ops (Array.replicate ops.size false) i = true) (hr : (Region.ready .any ops (Array.replicate ops.size false)).contains i = true)
    (hQ : ∀ c a w, Q (.panic c) (a.put oi.dst v) w → Q (.panic c) a w) (hg : oi.guard = none) (ho : oi.op = .move x) (hx : a.eval x = v)
    (h : wpT P .any ops Q S D fuel ((Array.replicate ops.size false).setIfInBounds i true) (a.put oi.dst v) w.drew) : (Code.region id ops true).wp P Q a w := by
  refine wp_region_any hm ?_
  rw [show ops.size = fuel + 1 from hsz] at h hf hr ⊢
  exact wpAny_take hi hs hf hr hQ (.inl ⟨by simp [Region.wanted, hg], fun w => by unfold execOp; simp [ho, hx]⟩) (wpAny_of_T _ _ _ _ h)
/-- The beginning. -/
theorem wp_region_T {id : Nat} {a : Act} {w : World} (S : World → Prop) (D : Nat → Bool) (hm : P.follows .mixedOrders = true)
    (h : wpT P .any ops Q S D ops.size (Array.replicate ops.size false) a w.drew) : (Code.region id ops true).wp P Q a w :=
  wp_region_any hm (wpAny_of_T _ _ _ _ h)
/-- A load of a row whose block is known in every world that meets S. -/
theorem yields_row {op : Oper} {a : Act} (hw : Region.wanted op (yielded ops a.tmps) = true) (ty : TypeId) (x : Operand) (ho : op.op = .load ty x)
    (g : Nat) (hx : a.eval x = .pointer (some ⟨g, 0, none⟩)) (t : TypeId) (cs : Array Value) (d : TypeDesc) (hS : ∀ w, S w → w.heap[g]? = some (.cells cs t (0, 0)))
    (hu : P.underlying ty = some d) (hd : (match d with | .struct _ | .array _ _ => true | _ => false) = true) (hi : (P.info? ty).map (·.size) = some cs.size) : YieldsIf P ops S op (.agg cs) a :=
  .inl ⟨hw, fun w hw' => by
    unfold execOp
    simp only [ho, hx, Instr.loadAt, Instr.sureAddr, Sem.run_bind, Sem.run_pure, Result.andThen_ok, run_loadVar_row w g t ty cs (0, 0) d (hS w hw') hu hd hi]⟩
/-- A copy of a slot. -/
theorem yields_move {op : Oper} {a : Act} (hw : Region.wanted op (yielded ops a.tmps) = true) (x : Operand) (ho : op.op = .move x) (v : Value) (hx : a.eval x = v) : YieldsIf P ops S op v a :=
  .inl ⟨hw, fun w _ => by unfold execOp; simp [ho, hx]⟩
end
end Go.Proofs.Ytfgbghmefomolaa
