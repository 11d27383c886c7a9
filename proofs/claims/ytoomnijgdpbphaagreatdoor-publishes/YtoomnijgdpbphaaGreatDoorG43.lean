import Derived.Test.YtoomnijgdpbphaaGreatDoorG42
import Derived.Test.YtoomnijgdpbphaaGreatDoorG28
import Derived.Test.YtoomnijgdpbphaaGreatDoorG08

namespace Go.Proofs.YtoomnijgdpbphaaGreatDoor
open Go.RowKit
set_option maxRecDepth 100000

theorem bunT_one (e : List UInt8) (h : e.length ≤ 20) : bunT (bys [tb e]) = bun1 e ∧ okB (bys [tb e]) = true := by
  have hb : bys [tb e] = [e] := rfl
  have ho : okB [e] = true := by simp [okB, h]
  rw [hb]
  refine ⟨?_, ho⟩
  rw [bunT_yes ho]
  simp [bunL]
theorem dataF_bun (es : List (List UInt8)) (k : Nat) (h : k < es.length) : dataF es (-1) k = bun1 es[k] := by
  unfold dataF
  rw [if_pos rfl, List.getD_eq_getElem?_getD, List.getElem?_eq_getElem h]
  rfl
theorem dataF_root (es : List (List UInt8)) (L k : Nat) : dataF es (L : Int) k = rootT ((es.drop (k * 4 ^ L)).take (4 ^ L)) := by
  unfold dataF
  rw [if_neg (by omega), Int.toNat_natCast]
theorem cut_at_P (n P j : Nat) (hP1 : 1 ≤ P) : j * P + P ≤ n ↔ j < n / P := by
  have h := Nat.le_div_iff_mul_le (x := j + 1) (y := n) (show 0 < P by omega)
  rw [Nat.add_mul, Nat.one_mul] at h
  omega
def dats (es : List (List UInt8)) (l : Int) (k : Nat) : List (List UInt8) := (List.range k).map (dataF es l)
theorem dats_len (es : List (List UInt8)) (l : Int) (k : Nat) : (dats es l k).length = k := by simp [dats]
theorem dats_succ (es : List (List UInt8)) (l : Int) (k : Nat) : dats es l (k + 1) = dats es l k ++ [dataF es l k] := by
  unfold dats
  rw [List.range_succ, List.map_append]
  rfl
theorem dats_21 {es : List (List UInt8)} (h20 : ∀ e ∈ es, e.length ≤ 20) (l : Int) (k : Nat) : ∀ d ∈ dats es l k, d.length ≤ 21 := by
  intro d hd
  obtain ⟨j, -, rfl⟩ := List.mem_map.1 hd
  exact dataF_len h20 l j
theorem wantTo_zero (es : List (List UInt8)) : wantTo es 0 = levG (-1) (dats es (-1) es.length) := by
  unfold dats
  rw [levG_levF]
  simp [wantTo]
theorem wantTo_succ (es : List (List UInt8)) (L : Nat) : wantTo es (L + 1) = wantTo es L ++ levG (L : Int) (dats es (L : Int) (es.length / 4 ^ L)) := by
  unfold dats
  rw [levG_levF]
  unfold wantTo
  rw [List.range_succ, List.flatMap_append, List.append_assoc]
  simp
theorem tss_part {w : World} {b off cap : Nat} {es : List (List UInt8)} (hx : ∀ i (h : i < es.length), w.cell? ⟨b, off + i, none⟩ = some (txv es[i])) (i n : Nat) (hin : i + n ≤ es.length) (hcap : es.length ≤ cap) : Tss w (.slice (some ⟨b, off + i, none⟩) n (cap - i)) ((es.drop i).take n) := by
  have hl : ((es.drop i).take n).length = n := by simp; omega
  refine ⟨_, _, by rw [hl], by omega, .inr ⟨b, off + i, rfl, fun j hj => ?_⟩⟩
  rw [hl] at hj
  rw [List.getElem_take, List.getElem_drop, Nat.add_assoc]
  exact hx (i + j) (by omega)
theorem wantTo_len (es : List (List UInt8)) (L : Nat) (hL : L ≤ 21) : (wantTo es L).length ≤ 22 * ((es.length + 3) / 4) := by
  unfold wantTo
  rw [List.length_append]
  have h1 := levF_len es (-1) 0 es.length
  have h2 := flatMap_len (fun (k : Nat) => levF es (k : Int) 0 (es.length / 4 ^ k)) ((es.length + 3) / 4) L (fun k => by
    have h := levF_len es (k : Int) 0 (es.length / 4 ^ k)
    have := Nat.div_le_self es.length (4 ^ k)
    omega)
  have h3 := Nat.mul_le_mul_right ((es.length + 3) / 4) hL
  omega
/-- A text more in an own row of texts. -/
theorem app_text (w : World) {ops : Array Oper} {rest : List Oper} {o : Oper} {a : Act} {Q : Exit → Act → World → Prop}
    (hgd : o.guard = none) (s x : Operand) (hop : o.op = Op.call { callee := Callee.builtin Builtin.append, args := #[s, x], argTypes := #[45, 45] })
    (B : Nat) (hB : B ≤ w.heap.size) (v : Value) (ls : List (List UInt8)) (hs : a.eval s = v) (hown : w.ownsRow B 9 1 v ls.length (ls.map txv))
    (t : List UInt8) (H : Nat) (hH : w.heap.size = H) (hx : a.eval x = .slice (some ⟨H, 0, none⟩) 1 1) (hn : ls.length ≤ 1000000000)
    (h : ∀ v' w', w'.ownsRow B 9 1 v' (ls ++ [t]).length ((ls ++ [t]).map txv) → Turn (fun g => v.ownBlock = some g) [9] w w' → (∀ g, v'.ownBlock = some g → v.ownBlock = some g ∨ w.heap.size ≤ g) → wpList Tryz.prog ops Q rest (a.put o.dst v') w') : wpList Tryz.prog ops Q (o :: rest) a (w.alloc (.cells #[txv t] 9)) := by
  obtain ⟨i, hi, hi'⟩ := Option.map_eq_some_iff.1 infoStr
  obtain ⟨hz0, hz1, hz2⟩ : i.zero = some (.string ⟨#[]⟩) ∧ i.size = 1 ∧ i.bytes = 16 := by simpa using hi'
  subst hH
  have ho := World.ownsRow.alloc hown (.cells #[txv t] 9)
  refine wpList_append_lies _ hgd s x _ hop B 9 i (.string ⟨#[]⟩) 1 16 Tryz.underlying45 hi hz0 hz1 hz2 rfl (by omega) v ls.length (ls.map txv) hs ho ⟨w.heap.size, 0, none⟩ 1 1 [txv t] hx rfl (World.news_of_block (heap_alloc_last _ _)) (by simp [txv, Value.oneCell']) (by omega) (by unfold maxLen; omega) (by omega) (by simp; omega) (w.heap.size + 1) (by simp) fun g cap w1 hown1 hgrow hat hlt => ?_
  refine h _ w1 (by simpa using hown1) (((Turn.refl (fun g => v.ownBlock = some g) [9] w).alloc _).grown ho hgrow (fun g hg => .inl hg) (by simp)) fun g' hg' => ?_
  simp only [Value.ownBlock, Option.some.injEq] at hg'
  subst hg'
  rcases hat with h | h
  · exact .inl h
  · exact .inr (by omega)

set_option maxHeartbeats 2000000 in
/-- tilesref.Files. -/
theorem refFiles_any (v : Value) (es : List (List UInt8)) (w : World) (hn : es.length ≤ 1000000) (h20 : ∀ e ∈ es, e.length ≤ 20) (h : Tss w v es) :
    Calls Tryz.prog 30 #[v] w fun r w' => ∃ x, r = .returned x ∧ Below w.heap.size w w' ∧ w'.ownsRow 0 86 2 x (want es).length (fcells (want es)) := by
  have HS := hide h
  have H20 := hide h20
  obtain ⟨a, cap, rfl, hcap, -⟩ := h
  clear h20
  go_enter Tryz.func30, Tryz.ntmps30
  go_wp2_with fail
  go_loopw [4, 5] (fun dv iv wr => ∃ k : Nat, k ≤ es.length ∧ iv = .int .i64 k ∧ Below w.heap.size w wr ∧ wr.ownsRow w.heap.size 9 1 dv (dats es (-1) k).length ((dats es (-1) k).map txv)) (fun _ iv _ => es.length - (intOf iv).toNat)
  case atStart => exact ⟨0, Nat.zero_le _, rfl, Below.refl _ _, ⟨rfl, .inl ⟨rfl, rfl⟩⟩⟩
  case round =>
    obtain ⟨k, hk, rfl, hbe, hown⟩ := hrel
    have HB := hide hbe
    obtain ⟨da, dc, rfl⟩ := own_slice hown
    have HO := hide hown
    clear hbe hown
    by_cases hlt : k < es.length
    · obtain ⟨-, -, hx0⟩ := HS.out.at
      obtain ⟨b, off, rfl, hx⟩ := hx0 (by omega)
      have y1 := hx k hlt
      have r1 : wr.cell? ⟨b, off + k, none⟩ = some (.string (tb es[k])) := by rw [HB.out.cell (p := ⟨b, _, none⟩) (cell_lt y1)]; exact y1
      have he20 := H20.out _ (List.getElem_mem hlt)
      have HDS : Hid (dats es (-1) (k + 1) = dats es (-1) k ++ [bun1 es[k]]) := by show _ = _; rw [dats_succ, dataF_bun es k hlt]
      have hdl : (dats es (-1) k).length = k := dats_len _ _ _
      have HDL := hide hdl
      clear y1 hx hx0 hdl
      generalize es[k] = e at *
      have HB1 := hide (bunT_one e he20)
      have hss : Sss wr (.slice (some ⟨b, off + k, none⟩) 1 (cap - k)) [tb e] := by
        refine ⟨_, _, rfl, by simp; omega, .inr ⟨b, off + k, rfl, fun i hi => ?_⟩⟩
        obtain rfl : i = 0 := by simpa using hi
        exact r1
      have HSS := hide hss
      have hnc : ¬ cap = k := by omega
      have hkc : k + 1 ≤ cap := by omega
      clear hss r1
      go_wp2_with fail
      refine (refBundle_any _ [tb e] wr (by simp) (fun s hs => by obtain rfl : s = tb e := (by simpa using hs); show e.toArray.size ≤ _; simp; omega) (by exact HSS.out)).mono ?_
      rintro r w1 ⟨rfl, hb1⟩
      rw [HB1.out.1, HB1.out.2]
      have HBW : Hid (Below w.heap.size w w1) := HB.out.trans (hb1.mono HB.out.size)
      have HO1 : Hid (w1.ownsRow w.heap.size 9 1 (.slice da (dats es (-1) k).length dc) (dats es (-1) k).length ((dats es (-1) k).map txv)) := ownsRow_turn HO.out (Turn.of_below (O := fun _ => False) (T := []) hb1) (by simp)
      clear hb1 HO HSS
      generalize bun1 e = t at *
      unfold txt
      go_wp2_with (at_builtin; refine app_text w1 rfl _ _ rfl w.heap.size HBW.out.size (.slice da (dats es (-1) k).length dc) (dats es (-1) k) rfl HO1.out t _ rfl rfl (by have := HDL.out; omega) ?_; intro v' w3 hown htn _; have HOW := hide hown; have HBZ : Hid (Below w.heap.size w w3) := HBW.out.trans (htn.below (own_base HO1.out) HBW.out.size); obtain ⟨ya, yc, he⟩ := own_slice hown; subst he; clear hown htn)
      go_roundw
      case rel => exact ⟨k + 1, by omega, by go_num, HBZ.out, by rw [HDS.out]; have h := HOW.out; rw [List.length_append] at h ⊢; exact h⟩
      case measure => simp [intOf]; omega
    · obtain rfl : k = es.length := by omega
      have hdl : Hid ((dats es (-1) es.length).length ≤ 1000000) := by show _ ≤ _; rw [dats_len]; exact hn
      go_wp2_with fail
      refine (refLevel_any _ _ [] (-1) (dats es (-1) es.length) w.heap.size wr HB.out.size ⟨rfl, .inl ⟨rfl, rfl⟩⟩ (by simp) HO.out hdl.out (dats_21 H20.out _ _)).mono ?_
      rintro r w1 ⟨x1, rfl, ht1, ho1⟩
      have HB1 : Hid (Below w.heap.size w w1) := HB.out.trans (ht1.below (fun _ h => h) HB.out.size)
      rw [List.nil_append, ← wantTo_zero] at ho1
      obtain ⟨xa, xc, rfl⟩ := own_slice ho1
      have HO1 := hide ho1
      clear ht1 ho1 HO HB hdl
      go_wp2_with fail
      go_loopw [3, 4, 8, 9] (fun ov dv uv av wr => ∃ L : Nat, L ≤ 10 ∧ uv = .int .i64 ((4 ^ L : Nat) : Int) ∧ av = .int .i64 (L : Int) ∧ Below w.heap.size w wr ∧ wr.ownsRow w.heap.size 86 2 ov (wantTo es L).length (fcells (wantTo es L))) (fun _ _ _ av _ => 11 - (intOf av).toNat)
      case atStart => exact ⟨0, by omega, rfl, rfl, HB1.out, HO1.out⟩
      case round =>
        obtain ⟨L, hL, rfl, rfl, hbe, hown⟩ := hrel
        clear HB1 HO1
        have HB := hide hbe
        obtain ⟨oa, oc, rfl⟩ := own_slice hown
        have HO := hide hown
        clear hbe hown
        have hP1 : 1 ≤ 4 ^ L := Nat.pow_pos (by omega)
        have HP10 : Hid (L = 10 → 1000000 < 4 ^ L) := fun e => by subst e; decide
        have HWS := hide (wantTo_succ es L)
        have HWA : Hid (es.length < 4 ^ L → wantTo es L = want es) := fun h => wantTo_all es L h (by omega)
        have HDR := hide (dataF_root es L)
        have HPS : Hid (((4 ^ L : Nat) : Int) * 4 = ((4 ^ (L + 1) : Nat) : Int)) := by show _ = _; rw [Nat.pow_succ]; push_cast; rfl
        have HWL := hide (wantTo_len es L (by omega))
        have HLG : Hid (L = 10 ∨ L + 1 ≤ 10) := by show _ ∨ _; omega
        generalize 4 ^ L = P at *
        by_cases hP : P ≤ es.length
        · have hL9 : L + 1 ≤ 10 := by
            rcases HLG.out with e | e
            · have := HP10.out e; omega
            · exact e
          have hcP : Hid (∀ j : Nat, j * P + P ≤ es.length ↔ j < es.length / P) := fun j => cut_at_P es.length P j hP1
          go_wp2_with fail
          go_loopw [4, 10] (fun dv jv wr2 => ∃ j : Nat, j ≤ es.length / P ∧ jv = .int .i64 (j : Int) ∧ Below w.heap.size w wr2 ∧ wr2.ownsRow w.heap.size 86 2 (.slice oa (wantTo es L).length oc) (wantTo es L).length (fcells (wantTo es L)) ∧ wr2.ownsRow w.heap.size 9 1 dv (dats es (L : Int) j).length ((dats es (L : Int) j).map txv)) (fun _ jv _ => es.length / P - (intOf jv).toNat)
          case atStart => exact ⟨0, Nat.zero_le _, rfl, HB.out, HO.out, ⟨rfl, .inl ⟨rfl, rfl⟩⟩⟩
          case round =>
            obtain ⟨j, hj, rfl, hbe, hfo, hown⟩ := hrel
            clear HB HO
            have HB := hide hbe
            have HO := hide hfo
            obtain ⟨da, dc, rfl⟩ := own_slice hown
            have HOD := hide hown
            obtain ⟨A, hA0⟩ : ∃ A, j * P = A := ⟨_, rfl⟩
            have hA : (j : Int) * (P : Int) = (A : Int) := by rw [← hA0]; push_cast; rfl
            have hA1 : ((j : Int) + 1) * (P : Int) = (A : Int) + (P : Int) := by rw [Int.add_mul, hA]; omega
            have hjc := hcP.out j
            rw [hA0] at hjc
            have HJC := hide hjc
            have HAA := hide hA0
            have HDS := hide (dats_succ es (L : Int) j)
            have hdl : (dats es (L : Int) j).length = j := dats_len _ _ _
            have HDL := hide hdl
            have hjn : j ≤ es.length := Nat.le_trans hj (Nat.div_le_self _ _)
            have hjd : Hid (j ≤ es.length / P) := hj
            have hAn : A ≤ es.length := by rw [← HAA.out]; exact Nat.le_trans (Nat.mul_le_mul_right P hj) (Nat.div_mul_le_self _ _)
            clear hbe hfo hown hA0 hjc hdl hj
            by_cases hle : A + P ≤ es.length
            · have hlej : Hid (j < es.length / P) := HJC.out.1 hle
              obtain ⟨-, -, hx0⟩ := HS.out.at
              obtain ⟨b, off, rfl, hx⟩ := hx0 (by omega)
              have HTS := hide (tss_part (fun i hi => by rw [HB.out.cell (p := ⟨b, _, none⟩) (cell_lt (hx i hi))]; exact hx i hi) A P hle hcap)
              have HRT : Hid (dataF es (L : Int) j = rootT ((es.drop A).take P)) := by show _ = _; rw [HDR.out j, HAA.out]
              have hnc : ¬ cap = A := by omega
              clear hx hx0
              go_wp2_with fail
              refine (refRoot_texts _ ((es.drop A).take P) wr (by simp; omega) (fun l hl => H20.out l (List.mem_of_mem_drop (List.mem_of_mem_take hl))) (by exact HTS.out)).mono ?_
              rintro r w1 ⟨rfl, hb1⟩
              rw [← HRT.out]
              have HBW : Hid (Below w.heap.size w w1) := HB.out.trans (hb1.mono HB.out.size)
              have HOD1 : Hid (w1.ownsRow w.heap.size 9 1 (.slice da (dats es (L : Int) j).length dc) (dats es (L : Int) j).length ((dats es (L : Int) j).map txv)) := ownsRow_turn HOD.out (Turn.of_below (O := fun _ => False) (T := []) hb1) (by simp)
              have HO1 : Hid (w1.ownsRow w.heap.size 86 2 (.slice oa (wantTo es L).length oc) (wantTo es L).length (fcells (wantTo es L))) := ownsRow_turn HO.out (Turn.of_below (O := fun _ => False) (T := []) hb1) (by simp)
              clear hb1 HO HOD HTS HRT
              generalize dataF es (L : Int) j = t at *
              go_wp2_with (at_builtin; refine app_text w1 rfl _ _ rfl w.heap.size HBW.out.size (.slice da (dats es (L : Int) j).length dc) (dats es (L : Int) j) rfl HOD1.out t _ rfl rfl (by have := HDL.out; omega) ?_; intro v' w3 hown htn _; have HOW := hide hown; have HO3 := hide (ownsRow_turn HO1.out htn (by decide)); have HBZ : Hid (Below w.heap.size w w3) := HBW.out.trans (htn.below (own_base HOD1.out) HBW.out.size); obtain ⟨ya, yc, he⟩ := own_slice hown; subst he; clear hown htn)
              go_roundw
              case rel => exact ⟨j + 1, by have := hlej.out; omega, by go_num, HBZ.out, HO3.out, by rw [HDS.out]; have h := HOW.out; rw [List.length_append] at h ⊢; exact h⟩
              case measure =>
                have := hlej.out
                simp [intOf]
                omega
            · have hle' : ¬ (A : Int) + (P : Int) ≤ (es.length : Int) := by omega
              have hjq : j = es.length / P := by
                have := hjd.out
                have h2 := HJC.out
                omega
              have HJQ := hide hjq
              have HWL' := hide HWL.out
              clear hjq
              go_wp2_with fail
              refine (refLevel_any _ _ (wantTo es L) (L : Int) (dats es (L : Int) j) w.heap.size wr HB.out.size HO.out (by have := HWL.out; omega) HOD.out (by have := HDL.out; omega) (dats_21 H20.out _ _)).mono ?_
              rintro r w1 ⟨x1, rfl, ht1, ho1⟩
              have HB1 : Hid (Below w.heap.size w w1) := HB.out.trans (ht1.below (fun _ h => h) HB.out.size)
              rw [HJQ.out, ← HWS.out] at ho1
              obtain ⟨xa', xc', he⟩ := own_slice ho1
              subst he
              have HO1 := hide ho1
              clear ht1 ho1
              go_wp2_with fail
              go_roundw
              case rel => exact ⟨L + 1, hL9, congrArg (Value.int .i64) HPS.out, by go_num, HB1.out, HO1.out⟩
              case measure => simp [intOf]; omega
        · have HW : Hid (wantTo es L = want es) := HWA.out (by omega)
          go_wp2_with fail
          go_ret
          have ho := HO.out
          rw [HW.out] at ho
          exact ⟨_, rfl, HB.out, by rw [HW.out]; exact owns_lower ho (Nat.zero_le _)⟩
end Go.Proofs.YtoomnijgdpbphaaGreatDoor

namespace Go.Proofs.YtoomnijgdpbphaaGreatDoor
open Go.RowKit
set_option maxRecDepth 100000

theorem bound_ext {B : Nat} {w w' : World} {O : Nat → Prop} (hB : B ≤ w.heap.size) (hO : ∀ k, O k → B ≤ k ∧ k < w.heap.size) (hs : w.heap.size ≤ w'.heap.size) : ∀ k, Ext O w w' k → B ≤ k ∧ k < w'.heap.size := by
  intro k hk
  rcases hk with hk | hk
  · exact ⟨(hO k hk).1, Nat.lt_of_lt_of_le (hO k hk).2 hs⟩
  · exact ⟨Nat.le_trans hB hk.1, hk.2⟩
/-- What is left as it was. -/
theorem Full.below {w w' : World} {O : Nat → Prop} {wb db : Nat} {lv ev : Value} {x : Wd} {d : Dk} {s : List Nat} {n : Nat} (h : Full w O wb db lv ev x d s n) (hb : Below w.heap.size w w') : Full w' (Ext O w w') wb db lv ev x d s n := by
  obtain ⟨h0, h1, h2, h3, h4⟩ := h
  have ht : Turn O [] w w' := .of_below hb
  refine ⟨h0, ht.keep h1 (by simp), (h2.stay ht (by simp) (by simp)).mono (fun _ h => .inl h), h3, ?_⟩
  rcases h4 with h | ⟨pb, lb, es, put, g1, g2, g3, g4, g5, g6, g7⟩
  · exact .inl h
  · exact .inr ⟨pb, lb, es, put, g1, .inl g2, ht.keep g3 (by simp), (g4.stay ht (by simp) (by simp) (by simp)).mono (fun _ h => .inl h), ownsRow_turn g5 ht (by simp), fun g hg => .inl (g6 g hg), g7⟩

set_option maxHeartbeats 2000000 in
theorem wappend_any (O : Nat → Prop) (W : World) (at_ : Nat → Addr) (hSN : Sents W at_) (wb db : Nat) (lv ev : Value) (x : Wd) (d : Dk) (s : List Nat) (n : Nat) (t : List UInt8) (w : World) (hOW : ∀ k, O k → W.heap.size ≤ k ∧ k < w.heap.size) (hW : Below W.heap.size W w) (hn : n ≤ 4200) (ht : t.length ≤ 9223372036854775807) (hO : O wb) (h : Full w O wb db lv ev x d s n) (hlv : lv ≠ .pointer none) :
    Calls Tryz.prog 15 #[.pointer (some ⟨wb, 0, none⟩), .string ⟨t.toArray⟩] w fun r w' => r = .returned (.bool true) ∧ Turn O aT w w' ∧ Inv W.heap.size w' (Ext O w w') wb (n + 1) := by
  have HFULL := hide h
  obtain ⟨hfg, hwa, hd, hnum, hpub⟩ := h
  rcases hpub with e | ⟨pb, lb, es, put, rfl, hOp, hpl, hlog, hrow, hrO, hent⟩
  · exact absurd e hlv
  have HNUM := hide hnum
  have HWA := hide hwa
  have HD := hide hd
  have HOW := hide hOW
  have HOB : Hid (∀ k, O k → W.heap.size ≤ k) := fun k hk => (hOW k hk).1
  have HW := hide hW
  have HSN := hide hSN
  have HO := hide hO
  have HFG := hide hfg
  have HPL := hide hpl
  have HLOG := hide hlog
  have HROW := hide hrow
  have HRO := hide hrO
  have HENT := hide hent
  have HOP := hide hOp
  have hfew : es.length ≤ 40000 := by have := ent_few hent; have := hnum.small; omega
  obtain ⟨-, -, ⟨c2, -⟩, -⟩ := wall hwa
  obtain ⟨ea, ec, rfl⟩ := own_slice hrow
  clear hwa hd hnum hOW hW hSN hO hfg hpl hlog hrow hrO hent hOp hlv
  go_enter Tryz.func15, Tryz.ntmps15
  go_wp2_with fail
  refine (pappend_any O W at_ HSN.out HOB.out db pb lb _ t w HW.out (by show es.length ≤ _; omega) ht HPL.out HLOG.out).mono ?_
  rintro r w1 ⟨ht1, hres⟩
  have HT1 := hide ht1
  have HWA1 : Hid (WAt w1 wb db (.pointer (some ⟨pb, 0, none⟩)) (.slice ea es.length ec) x) := ht1.keep HWA.out (by decide)
  obtain ⟨⟨k0, -⟩, ⟨k1, -⟩, ⟨k2, f2⟩, ⟨k3, f3⟩, ⟨k4, f4⟩, ⟨k5, f5⟩, -⟩ := wall HWA1.out
  unfold dptr at k0
  unfold txv at k1
  have HIV : Hid (∀ w', Below w.heap.size w w' → Inv W.heap.size w' (Ext O w w') wb (n + 1)) := fun w' hb => Inv.more ⟨.inl HO.out, bound_ext HW.out.size HOW.out hb.size, .inr ⟨_, _, _, _, _, _, HFULL.out.below hb⟩⟩ (by omega)
  have a5 : ∀ o, (w1.alloc o).cell? ⟨wb, 5, none⟩ = some (.bool x.failed) := fun o => by rw [cell_old _ _ ⟨wb, 5, none⟩ (cell_lt k5)]; exact k5
  have a3 : ∀ o, (w1.alloc o).cell? ⟨wb, 3, none⟩ = some (.slice ea es.length ec) := fun o => by rw [cell_old _ _ ⟨wb, 3, none⟩ (cell_lt k3)]; exact k3
  clear ht1 c2 k0 k1 k2 f2 k3 f3 k4 f4 k5 f5
  rcases hres with ⟨h20, rfl, hb⟩ | ⟨h20, hlive, rfl, hb⟩ | ⟨h20, hlive, rfl, hlog⟩
  · have HB := hide hb
    unfold told
    clear hb
    go_wp2_with fail
    go_ret
    have hb' := fun o => HB.out.alloc HB.out.size o
    exact ⟨by first | rfl | simp, Turn.of_below (hb' _), HIV.out _ (hb' _)⟩
  · have HB := hide hb
    have hfl : x.failed = true := by simpa using hlive
    unfold told
    rw [hfl] at a5
    clear hb hlive hfl
    go_wp2_with fail
    go_ret
    have hb' := fun o => HB.out.alloc HB.out.size o
    exact ⟨by first | rfl | simp, Turn.of_below (hb' _), HIV.out _ (hb' _)⟩
  · have hfl : x.failed = false := by simpa using hlive
    have HFL := hide hfl
    have hTt : Turn O [] w1 (w1.alloc (.cells #[.int .i64 0, .string ⟨#[]⟩] 26)) := .of_below (below_alloc w1 _)
    have hbt : (w1.alloc (.cells #[.int .i64 0, .string ⟨#[]⟩] 26)).heap[w1.heap.size]? = some (.cells #[.int .i64 0, .string ⟨#[]⟩] 26 (0, 0)) := heap_alloc_last _ _
    have hxt : ∀ k, Ext O w w1 k → Ext O w (w1.alloc (.cells #[.int .i64 0, .string ⟨#[]⟩] 26)) k := fun k hk => Ext.more hTt.size k hk
    have HLOGT := hide ((hlog.stay hTt (by simp) (by simp) (by simp)).mono hxt)
    have hT : Turn O aT w w1 := HT1.out.mono (fun _ h => h) (by decide)
    have HTT : Hid (Turn O aT w (w1.alloc (.cells #[.int .i64 0, .string ⟨#[]⟩] 26))) := hT.trans (hTt.mono (fun _ h => .inl h) (by simp))
    have HROWT := hide (ownsRow_turn (ownsRow_turn HROW.out HT1.out (by decide)) hTt (by simp))
    have HDT : Hid (DiskAt (w1.alloc (.cells #[.int .i64 0, .string ⟨#[]⟩] 26)) (Ext O w w1) db d) := ((HD.out.stay HT1.out (by decide) (by decide)).mono (fun _ h => .inl h)).stay hTt (by simp) (by simp)
    have HPLT : Hid (PlAt (w1.alloc (.cells #[.int .i64 0, .string ⟨#[]⟩] 26)) pb lb) := plAt_turn (plAt_turn HPL.out HT1.out (by decide)) hTt (by simp)
    have HWAT : Hid (WAt (w1.alloc (.cells #[.int .i64 0, .string ⟨#[]⟩] 26)) wb db (.pointer (some ⟨pb, 0, none⟩)) (.slice ea es.length ec) x) := hTt.keep HWA1.out (by simp)
    have HBT := hide hbt
    have HXT := hide hxt
    have hsz1 : Hid (w.heap.size ≤ w1.heap.size) := HT1.out.size
    have hne1 : ¬ w1.heap.size = wb := by have := heap_some_lt HWA1.out; omega
    unfold told
    rw [hfl] at a5
    clear hlive hfl hlog HIV hT hTt hbt hxt
    go_wp2_with (at_builtin; refine app_text (w1.alloc (.cells #[.int .i64 0, .string ⟨#[]⟩] 26)) rfl _ _ rfl 0 (Nat.zero_le _) (.slice ea es.length ec) es rfl HROWT.out t (w1.heap.size + 1) (by simp) rfl (by omega) ?_; intro v' w3 hown htn hblk; have HOW3 := hide hown; have HBLK := hide hblk; have HTN := hide htn; obtain ⟨ya, yc, he⟩ := own_slice hown; subst he; have hw3 : WAt w3 wb db (.pointer (some ⟨pb, 0, none⟩)) (.slice ea es.length ec) x := htn.keep HWAT.out (by decide); have HWA3 := hide hw3; obtain ⟨-, -, -, ⟨m3, g3⟩, -⟩ := wall hw3; obtain ⟨n0, -⟩ := dcell (htn.keep HBT.out (by decide)) 0 _ rfl; clear hown htn hw3 hblk)
    go_ret
    have hset := (wset HWA3.out).2.1 (.slice ya (es.length + 1) yc)
    have hts : Turn (fun k => k = wb) [47] w3 (w3.setCell ⟨wb, 3, none⟩ (.slice ya (es.length + 1) yc)) := (Turn.refl (fun k => k = wb) [47] w3).set (.inl rfl) HWA3.out (by simp) _
    have hsz : (w3.setCell ⟨wb, 3, none⟩ (.slice ya (es.length + 1) yc)).heap.size = w3.heap.size := by simp [World.setCell]
    have h3 : Turn O aT w w3 := HTT.out.trans (HTN.out.mono (fun g hg => .inl (HRO.out g hg)) (by decide))
    have hx : ∀ k, Ext O w w1 k → Ext O w (w3.setCell ⟨wb, 3, none⟩ (.slice ya (es.length + 1) yc)) k := fun k hk => Ext.more (by rw [hsz]; exact HTN.out.size) k (HXT.out k hk)
    refine ⟨by first | rfl | simp, h3.trans (hts.mono (fun k hk => .inl (by rw [hk]; exact HO.out)) (by decide)), .inl HO.out, bound_ext HW.out.size HOW.out (by rw [hsz]; exact h3.size), .inr ⟨db, _, _, x, d, es.length / 4 :: s, HFG.out, hset, ((HDT.out.stay HTN.out (by decide) (by decide)).stay hts (by decide) (by decide)).mono hx, ?_, .inr ⟨pb, lb, es ++ [t], put, rfl, .inl HOP.out, plAt_turn (plAt_turn HPLT.out HTN.out (by decide)) hts (by decide), ((HLOGT.out.stay HTN.out (by decide) (by decide) (by decide)).stay hts (by decide) (by decide) (by decide)).mono (fun k hk => Ext.more (by rw [hsz]; exact HTN.out.size) k hk), by have h := ownsRow_turn HOW3.out hts (by decide); rw [List.length_append] at h ⊢; exact h, fun g hg => ?_, ?_⟩⟩⟩
    · have hnum := HNUM.out
      exact ⟨hnum.apart, hnum.data, Nat.le_trans hnum.count (Nat.add_le_add_left (Nat.mul_le_mul_right _ (Nat.le_succ n)) _), fun j w' h1 h4 h => List.mem_cons_of_mem _ (hnum.among j w' h1 h4 h), by have := hnum.small; simp only [List.length_cons]; omega, hnum.key, hnum.turned⟩
    · have hg : (Value.slice ya (es ++ [t]).length yc).ownBlock = some g := by rw [List.length_append]; exact hg
      have hlt := HOW3.out.lt g hg
      rcases HBLK.out g hg with h | h
      · exact .inl (HRO.out g h)
      · exact .inr ⟨by have := hsz1.out; simp at h; omega, by rw [hsz]; exact hlt.2⟩
    · have hent := HENT.out
      refine ⟨fun e he => ?_, fun j hj => ?_, by have := hent.le; rw [List.length_append]; omega, fun hf => ?_⟩
      · rcases List.mem_append.1 he with he | he
        · exact hent.short e he
        · obtain rfl : e = t := by simpa using he
          exact h20
      · rw [List.length_append] at hj
        simp only [List.length_cons, List.length_nil] at hj
        by_cases h4 : 4 * j < es.length
        · exact List.mem_cons_of_mem _ (hent.ins j h4)
        · obtain rfl : j = es.length / 4 := by omega
          exact List.mem_cons_self
      · rw [List.take_append_of_le_length hent.le]
        exact hent.there hf
end Go.Proofs.YtoomnijgdpbphaaGreatDoor
