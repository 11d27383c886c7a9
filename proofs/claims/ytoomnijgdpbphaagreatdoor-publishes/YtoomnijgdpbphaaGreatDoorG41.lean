import Derived.Test.YtoomnijgdpbphaaGreatDoorG40
import Derived.Test.YtoomnijgdpbphaaGreatDoorG24
import Derived.Test.YtoomnijgdpbphaaGreatDoorG12
import Derived.Test.YtoomnijgdpbphaaGreatDoorG30
import Derived.Laws.AppendOwnNone

namespace Go.Proofs.YtoomnijgdpbphaaGreatDoor
open Go.RowKit
set_option maxRecDepth 100000

theorem at_drop (s : List UInt8) (j : Nat) (h : j + 1 < s.length) : (⟨s.toArray⟩ : ByteArray)[j + 1]'(by show j + 1 < s.toArray.size; simpa using h) = (s.drop 1).getD j 0 := by
  show s.toArray[j + 1] = _
  rw [List.getD_eq_getElem?_getD, List.getElem?_drop, show 1 + j = j + 1 by omega, List.getElem?_eq_getElem h]
  simp
theorem getD_hex (root rest : List UInt8) (j : Nat) (h : j < 2 * root.length) : isHex (((10 :: (hexF root ++ rest)).drop 1).getD j 0) := by
  have hl := hexF_len root
  rw [List.drop_succ_cons, List.drop_zero, List.getD_eq_getElem?_getD, List.getElem?_append_left (by omega), List.getElem?_eq_getElem (by omega)]
  exact hexF_hex root _ (List.getElem_mem _)
theorem pairs_len (l : List UInt8) : ∀ k, (pairs l k).length = k
  | 0 => rfl
  | k + 1 => by rw [pairs, List.length_append, pairs_len l k]; rfl

set_option maxHeartbeats 4000000 in
theorem refCheck_any (t key : List UInt8) (ht : t.length ≤ 1048576) (hk : key.length ≤ 2097152) (w : World) :
    Calls Tryz.prog 56 #[.string ⟨t.toArray⟩, .string ⟨key.toArray⟩] w fun r w' => Below w.heap.size w w' ∧
      ((∃ n root, IsSign t key n root ∧ r = .returned (.tuple #[.int .i64 n, .string ⟨root.toArray⟩, .bool true])) ∨ ((∀ n root, ¬ IsSign t key n root) ∧ r = .returned (.tuple #[.int .i64 0, .string ⟨#[]⟩, .bool false]))) := by
  go_enter Tryz.func56, Tryz.ntmps56
  go_wp2_with fail
  refine (begins_any t tilesL w).mono ?_
  rintro r w1 ⟨rfl, hb1⟩
  have HB1 := hide hb1
  clear hb1
  have HSG : Hid (∀ n root, IsSign t key n root → begF t tilesL = (dec n ++ (10 :: (hexF root ++ (10 :: (lastF n root key ++ [10])))), true)) := fun n root h => by
    rw [h.2.2, signF_eq, begF_app]
  have hbl := begF_len t tilesL
  generalize begF t tilesL = bt at *
  obtain ⟨s, bo⟩ := bt
  simp only [] at HSG hbl ⊢
  cases bo with
  | false =>
    have HN : Hid (∀ n root, ¬ IsSign t key n root) := fun n root h => by
      have := HSG.out n root h
      simp at this
    go_wp2_with fail
    go_ret3
    exact ⟨HB1.out, .inr ⟨HN.out, rfl⟩⟩
  | true =>
    go_wp2_with fail
    refine (refNumber_any s (by omega) w1).mono ?_
    rintro r w2 ⟨rfl, hb2⟩
    have HB2 : Hid (Below w.heap.size w w2) := HB1.out.trans (hb2.mono HB1.out.size)
    clear hb2
    have HSN : Hid (∀ n root, IsSign t key n root → numR s = (n, (10 :: (hexF root ++ (10 :: (lastF n root key ++ [10])))), true)) := fun n root h => by
      have e := HSG.out n root h
      simp only [Prod.mk.injEq, and_true] at e
      rw [e, numR_dec n h.1 _ (noDig10 _)]
    have hnb := numR_bound s
    generalize numR s = ns at *
    obtain ⟨n, s1, no⟩ := ns
    simp only [] at HSN hnb ⊢
    cases no with
    | false =>
      have HN : Hid (∀ n root, ¬ IsSign t key n root) := fun n root h => by
        have := HSN.out n root h
        simp at this
      go_wp2_with fail
      go_ret3
      exact ⟨HB2.out, .inr ⟨HN.out, rfl⟩⟩
    | true =>
      by_cases h17 : s1.length < 17
      · have n17 : (s1.length : Int) < 17 := by omega
        have HN : Hid (∀ n root, ¬ IsSign t key n root) := fun n root h => by
          have := HSN.out n root h
          simp only [Prod.mk.injEq, and_true] at this
          have e := congrArg List.length this.2
          simp only [List.length_cons, List.length_append, hexF_len, h.2.1] at e
          omega
        go_wp2_with fail
        go_ret3
        exact ⟨HB2.out, .inr ⟨HN.out, rfl⟩⟩
      · have n17 : ¬ (s1.length : Int) < 17 := by omega
        have HSP : Hid (∀ m root, IsSign t key m root → m = n ∧ ∃ rest, s1 = 10 :: (hexF root ++ rest)) := fun m root h => by
          have := HSN.out m root h
          simp only [Prod.mk.injEq, and_true] at this
          exact ⟨this.1.symm, _, this.2⟩
        go_wp2_with fail
        go_loopw [10, 11] (fun u i wr => ∃ k : Nat, k ≤ 8 ∧ i = .int .i64 (2 * (k : Int) + 1) ∧ Below w.heap.size w wr ∧ u = .string ⟨(pairs (s1.drop 1) k).toArray⟩) (fun _ i _ => 17 - (intOf i).toNat)
        case atStart => exact ⟨0, Nat.zero_le _, rfl, HB2.out, rfl⟩
        case round =>
          obtain ⟨k, hk8, rfl, hbe, rfl⟩ := hrel
          have HB := hide hbe
          clear hbe
          by_cases hlt : k < 8
          · have hc1 : ∀ (h : (2 * (k : Int) + 1).toNat < (⟨s1.toArray⟩ : ByteArray).size), (⟨s1.toArray⟩ : ByteArray)[(2 * (k : Int) + 1).toNat] = (s1.drop 1).getD (2 * k) 0 := fun h => by
              have e : (2 * (k : Int) + 1).toNat = 2 * k + 1 := by omega
              simp only [e]
              exact at_drop s1 (2 * k) (by omega)
            have hc2 : ∀ (h : (2 * (k : Int) + 1 + 1).toNat < (⟨s1.toArray⟩ : ByteArray).size), (⟨s1.toArray⟩ : ByteArray)[(2 * (k : Int) + 1 + 1).toNat] = (s1.drop 1).getD (2 * k + 1) 0 := fun h => by
              have e : (2 * (k : Int) + 1 + 1).toNat = 2 * k + 1 + 1 := by omega
              simp only [e]
              exact at_drop s1 (2 * k + 1) (by omega)
            have HP : Hid (pairs (s1.drop 1) (k + 1) = pairs (s1.drop 1) k ++ [UInt8.ofNat (16 * nv ((s1.drop 1).getD (2 * k) 0) + nv ((s1.drop 1).getD (2 * k + 1) 0))]) := rfl
            have HH : Hid (∀ m root, IsSign t key m root → isHex ((s1.drop 1).getD (2 * k) 0) ∧ isHex ((s1.drop 1).getD (2 * k + 1) 0)) := fun m root h => by
              obtain ⟨_, rest, e⟩ := HSP.out m root h
              rw [e]
              exact ⟨getD_hex root rest (2 * k) (by rw [h.2.1]; omega), getD_hex root rest (2 * k + 1) (by rw [h.2.1]; omega)⟩
            have hpl := pairs_len (s1.drop 1) k
            generalize (s1.drop 1).getD (2 * k) 0 = c1 at *
            generalize (s1.drop 1).getD (2 * k + 1) 0 = c2 at *
            generalize pairs (s1.drop 1) k = m at *
            have g1 : (2 * (k : Int) + 1) < (s1.length : Int) := by omega
            have g2 : (2 * (k : Int) + 1 + 1) < (s1.length : Int) := by omega
            have g3 : (2 * (k : Int) + 1) < 17 := by omega
            go_wp2_with fail
            refine (unhex_any c1 wr).mono ?_
            rintro r w3 ⟨v1, rfl, rfl, hv1⟩
            have HV1 := hide hv1
            clear hv1
            go_wp2_with fail
            refine (unhex_any c2 w3).mono ?_
            rintro r w4 ⟨v2, rfl, rfl, hv2⟩
            rcases HV1.out with ⟨x1, e1⟩ | ⟨x1, e1⟩
            · rcases hv2 with ⟨x2, e2⟩ | ⟨x2, e2⟩
              · have y1 := nv_lt c1 x1
                have y2 := nv_lt c2 x2
                generalize nv c1 = a at *
                generalize nv c2 = b at *
                subst e1 e2
                have p1 : ¬ (a : Int) < 0 := by omega
                have p2 : ¬ (b : Int) < 0 := by omega
                have hwr : IntKind.u8.wrap (16 * (a : Int) + (b : Int)) = 16 * (a : Int) + (b : Int) := by rw [IntKind.wrap_u8]; omega
                have hcv := conv_row (w4.alloc (.cells #[.int .u8 (16 * (a : Int) + (b : Int))] 5)) w4.heap.size 1 1 [UInt8.ofNat (16 * a + b)] 5 (0, 0) rfl (by rw [heap_alloc_last]; simp [hv, bv]; omega)
                unfold txt at hcv
                have bb : ¬ 9223372036854775807 < m.length + 1 := by omega
                have HX := hide (And.intro x1 x2)
                clear x1 x2 HV1
                go_wp2_with fail
                refine ⟨⟨k + 1, by omega, (by first | rfl | (congr 1; done) | (congr 1; omega)), HB.out.trans ((below_alloc w4 _).mono HB.out.size), ?_⟩, by simp [intOf]; omega⟩
                rw [HP.out]
                congr 1
                apply ByteArray.ext
                simp
              · have HN : Hid (∀ n root, ¬ IsSign t key n root) := fun n root h => x2 (HH.out n root h).2
                subst e2
                have y1 : ¬ v1 < 0 := by omega
                clear x1 x2 HV1 e1
                go_wp2_with fail
                go_ret3
                exact ⟨HB.out, .inr ⟨HN.out, rfl⟩⟩
            · have HN : Hid (∀ n root, ¬ IsSign t key n root) := fun n root h => x1 (HH.out n root h).1
              subst e1
              clear x1 HV1 hv2
              go_wp2_with fail
              go_ret3
              exact ⟨HB.out, .inr ⟨HN.out, rfl⟩⟩
          · obtain rfl : k = 8 := by omega
            have hpl := pairs_len (s1.drop 1) 8
            have HRR : Hid (∀ m root, IsSign t key m root → m = n ∧ pairs (s1.drop 1) 8 = root) := fun m root h => by
              obtain ⟨e1, rest, e2⟩ := HSP.out m root h
              refine ⟨e1, ?_⟩
              rw [e2, List.drop_succ_cons, List.drop_zero, pairs_hex root rest 8 (by rw [h.2.1]; exact Nat.le_refl _), List.take_of_length_le (by rw [h.2.1]; exact Nat.le_refl _)]
            generalize pairs (s1.drop 1) 8 = R at *
            go_wp2_with fail
            refine (refSign_any n (by omega) (by omega) R key hpl hk wr).mono ?_
            rintro r w5 ⟨rfl, hb5⟩
            have HB5 : Hid (Below w.heap.size w w5) := HB.out.trans (hb5.mono HB.out.size)
            clear hb5
            rw [Int.toNat_natCast]
            generalize hS : signF n R key = S at *
            have HSS := hide hS
            clear hS
            by_cases heq : S = t
            · have hq1 : (S == t) = true := by rw [beq_iff_eq]; exact heq
              have HIS : Hid (IsSign t key n R) := ⟨by omega, hpl, by rw [← heq, ← HSS.out]⟩
              clear heq
              go_wp2_with fail
              go_ret3
              exact ⟨HB5.out, .inl ⟨n, R, HIS.out, rfl⟩⟩
            · have hq1 : (S == t) = false := by rw [beq_eq_false_iff_ne]; exact heq
              have HN : Hid (∀ n root, ¬ IsSign t key n root) := fun m root h => by
                obtain ⟨rfl, rfl⟩ := HRR.out m root h
                exact heq (by rw [← HSS.out]; exact h.2.2.symm)
              clear heq
              go_wp2_with fail
              go_ret3
              exact ⟨HB5.out, .inr ⟨HN.out, rfl⟩⟩
end Go.Proofs.YtoomnijgdpbphaaGreatDoor

namespace Go.Proofs.YtoomnijgdpbphaaGreatDoor
open Go.RowKit
set_option maxRecDepth 100000

theorem tss_owns {w : World} {B : Nat} {v : Value} {ls : List (List UInt8)} (h : w.ownsRow B 9 1 v ls.length (ls.map txv)) : Tss w v ls := by
  rcases h.2 with ⟨rfl, h0⟩ | ⟨g, cap, cur, rfl, -, hg, hcap, -, hsz, ht⟩
  · exact ⟨none, 0, by rw [h0], by omega, .inl (List.eq_nil_of_length_eq_zero h0)⟩
  · refine ⟨_, cap, rfl, hcap, .inr ⟨g, 0, rfl, fun i hi => ?_⟩⟩
    rw [Nat.zero_add, cell_of_row _ _ _ _ _ _ hg]
    have e : (ls.map txv)[i]? = some (txv ls[i]) := by simp [hi]
    rw [← ht, List.getElem?_take, if_pos (by omega)] at e
    simpa using e
theorem own_slice {w : World} {B : Nat} {e : TypeId} {s : Nat} {v : Value} {n : Nat} {xs : List Value} (h : w.ownsRow B e s v n xs) : ∃ a cap, v = .slice a n cap := by
  rcases h.2 with ⟨rfl, rfl⟩ | ⟨g, cap, cur, rfl, -⟩
  · exact ⟨_, _, rfl⟩
  · exact ⟨_, _, rfl⟩
theorem refRoot_texts (v : Value) (ls : List (List UInt8)) (w : World) (hn : ls.length ≤ 1000000) (hl : ∀ l ∈ ls, l.length ≤ 20) (h : Tss w v ls) :
    Calls Tryz.prog 32 #[v] w fun r w' => r = .returned (.string ⟨(rootT ls).toArray⟩) ∧ Below w.heap.size w w' := by
  have := refRoot_any ls.length v (ls.map tb) w (by simp) (by simpa using hn) (fun s hs => by
    obtain ⟨l, hl', rfl⟩ := List.mem_map.1 hs
    have := hl l hl'
    show l.toArray.size < _
    unfold maxLen
    simp
    omega) h.to
  rw [bys_tb] at this
  exact this
theorem rootT_len (ls : List (List UInt8)) : (rootT ls).length = 8 := rootF_length _ _
/-- Texts appended to an own row of texts, none of them perhaps. -/
theorem app_texts (w : World) {ops : Array Oper} {rest : List Oper} {o : Oper} {a : Act} {Q : Exit → Act → World → Prop}
    (hgd : o.guard = none) (s x : Operand) (hop : o.op = Op.call { callee := Callee.builtin Builtin.append, args := #[s, x], argTypes := #[45, 45] })
    (B : Nat) (hB : B ≤ w.heap.size) (v : Value) (ls : List (List UInt8)) (hs : a.eval s = v) (hown : w.ownsRow B 9 1 v ls.length (ls.map txv))
    (y : Value) (ms : List (List UInt8)) (hx : a.eval x = y) (hy : Tss w y ms) (hn : ls.length + ms.length ≤ 1000000000)
    (h : ∀ v' w', w'.ownsRow B 9 1 v' (ls ++ ms).length ((ls ++ ms).map txv) → w.grownBy w' v.ownBlock → wpList Tryz.prog ops Q rest (a.put o.dst v') w') : wpList Tryz.prog ops Q (o :: rest) a w := by
  obtain ⟨i, hi, hi'⟩ := Option.map_eq_some_iff.1 infoStr
  obtain ⟨hz0, hz1, hz2⟩ : i.zero = some (.string ⟨#[]⟩) ∧ i.size = 1 ∧ i.bytes = 16 := by simpa using hi'
  obtain ⟨ad, cap, rfl, hcap, hc⟩ := hy
  cases ad with
  | none =>
    have h0 : ms = [] := by
      rcases hc with h | ⟨b, off, e, -⟩
      · exact h
      · simp at e
    subst h0
    have hrun : (Builtin.append_ #[45, 45] o.type #[v, .slice none 0 cap]).run Tryz.prog w = .ok v w := by
      rcases hown.2 with ⟨rfl, h0⟩ | ⟨g, cap', cur, rfl, -, hg, hcap', -, hsz, ht⟩
      · simp [Builtin.append_, run_underlying Tryz.underlying45, sizeOf, typeInfo, hi, Builtin.lenOf, Builtin.firstCells]
      · simp [Builtin.append_, run_underlying Tryz.underlying45, sizeOf, typeInfo, hi, Builtin.lenOf, Builtin.firstCells, storeCells, hcap']
    refine wpList_plain hgd fun K hK => ?_
    unfold Oper.wp
    simp only [List.length_nil] at hx
    simp [execOp, hop, resolve, invoke, builtin, hs, hx, hrun, Result.andThen]
    exact hK _ _ (h v w (by simpa using hown) ⟨rfl, rfl, rfl, Nat.le_refl _, fun _ _ _ => rfl⟩)
  | some ad =>
    refine wpList_append_own _ hgd s x 45 hop B 9 i (.string ⟨#[]⟩) 1 16 Tryz.underlying45 hi hz0 hz1 hz2 rfl (by omega) v ls.length (ls.map txv) hs hown ad ms.length cap (ms.map txv) hx (by simp) ?_ ?_ (by unfold maxLen; omega) (by omega) hB ?_
    · intro j u hj
      rcases hc with h | ⟨b, off, e, hc⟩
      · subst h; simp at hj
      · have hjl : j < ms.length := by simpa using (List.getElem?_eq_some_iff.1 hj).1
        obtain rfl : ad = ⟨b, off, none⟩ := by simpa using e
        rw [Addr.add_mid, hc j hjl]
        simpa [hjl] using hj
    · intro u hu
      obtain ⟨t, _, rfl⟩ := List.mem_map.1 hu
      rfl
    · intro v' w' hown' hgrow _
      refine h v' w' ?_ hgrow
      rw [List.length_append, List.map_append]
      exact hown'
end Go.Proofs.YtoomnijgdpbphaaGreatDoor
