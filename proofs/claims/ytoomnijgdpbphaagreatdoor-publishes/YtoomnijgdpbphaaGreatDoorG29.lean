import Derived.Test.YtoomnijgdpbphaaGreatDoorG22
import Derived.Test.YtoomnijgdpbphaaGreatDoorG01

namespace Go.Proofs.YtoomnijgdpbphaaGreatDoor
open Go.RowKit
set_option maxRecDepth 100000

theorem results_row_one {P : Program} {fn : Func} {p u : Tmp} {ty : TypeId} (h : fn.results = #[.cell p ty, .tmp u]) (tmps : Array Value) (w : World) (g : Nat) (t : TypeId) (cs : Array Value) (fr : Nat × Nat) (d : TypeDesc)
    (hp : tmps.getD p undef = .pointer (some ⟨g, 0, none⟩)) (hg : w.heap[g]? = some (.cells cs t fr))
    (hu : P.underlying ty = some d) (hd : (match d with | .struct _ | .array _ _ => true | _ => false) = true) (hi : (P.info? ty).map (·.size) = some cs.size) (x : Value) (hx : tmps.getD u undef = x) :
    (results fn tmps).run P w = .ok (.tuple #[.agg cs, x]) w := by
  rw [results_cell_tmp h, hp, hx]
  simp [asAddr, run_loadVar_row w g t ty cs fr d hg hu hd hi]
def z9 : Array Value := #[.int .i64 0, .int .u8 0, .int .u8 0, .int .u8 0, .int .u8 0, .int .u8 0, .int .u8 0, .int .u8 0, .int .u8 0]
theorem z9_one : z9.all (·.oneCell') = true := by simp [z9, Value.oneCell']
theorem z9_info : (Tryz.prog.info? 95).map (·.size) = some z9.size := by kernel_rfl

theorem tv_one (n : Int) (b0 b1 b2 b3 b4 b5 b6 b7 : UInt8) : (tv n b0 b1 b2 b3 b4 b5 b6 b7).all (·.oneCell') = true := by simp [tv, Value.oneCell']
theorem tv_info (n : Int) (b0 b1 b2 b3 b4 b5 b6 b7 : UInt8) : (Tryz.prog.info? 95).map (·.size) = some (tv n b0 b1 b2 b3 b4 b5 b6 b7).size := z9_info
theorem splitK_len : ∀ (k : Nat) (s : List UInt8), (Lib.splitK [10] 0 k s).length ≤ k + 1
  | 0, _ => Nat.le_refl _
  | k + 1, s => by
    rw [Lib.splitK]
    split
    · simp
    · have := splitK_len k (s.drop ((Lib.index s [10]).toNat + [10].length))
      simp only [List.length_cons] at this ⊢
      omega
theorem splitK_piece (c : List UInt8) : ∀ (k : Nat) (s : List UInt8), ∀ x ∈ Lib.splitK c 0 k s, x.length ≤ s.length
  | 0, s, x, hx => by
    obtain rfl : x = s := by simpa [Lib.splitK] using hx
    exact Nat.le_refl _
  | k + 1, s, x, hx => by
    rw [Lib.splitK] at hx
    split at hx
    · obtain rfl : x = s := by simpa using hx
      exact Nat.le_refl _
    · rcases List.mem_cons.1 hx with rfl | h
      · simp; omega
      · have := splitK_piece c k _ x h
        simp at this
        omega

/-- What ParseUint answers, of any text and of 16 digits. -/
theorem parseUint_call (l : List UInt8) (hl : l.length ≤ 1000000000) (w : World) (E : Env w) :
    Calls Tryz.prog 72 #[.string ⟨l.toArray⟩, .int .i64 16, .int .i64 64] w fun r w' => ∃ v e, r = .returned (.tuple #[.int .u64 v, e]) ∧ 0 ≤ v ∧ v ≤ 18446744073709551615 ∧ (e = .nilIface ∨ ∃ t p, e = .iface t p) ∧ (∀ root, root.length = 8 → l = hexF root → e = .nilIface ∧ out8 v = root) ∧ Below w.heap.size w w' := by
  by_cases hg : ∃ root, root.length = 8 ∧ l = hexF root
  · obtain ⟨root, hr, rfl⟩ := hg
    refine (parseUint_good root hr w).mono ?_
    rintro r w' ⟨rfl, hb⟩
    have hlt := hexN_lt (hexF root) (hexF_hex root) 0 0 (by decide)
    rw [hexF_len, hr] at hlt
    have hlt' : hexN 0 (hexF root) < 18446744073709551616 := hlt
    refine ⟨_, _, rfl, by omega, by omega, .inl rfl, fun root' hr' e => ⟨rfl, ?_⟩, hb⟩
    rw [hexF_inj hr hr' e]
    exact out8_hex root' hr'
  · refine (parseUint_any l hl w E).mono ?_
    rintro r w' ⟨v, e, rfl, v0, v1, he, hb⟩
    exact ⟨v, e, rfl, v0, v1, he, fun root hr h => absurd ⟨root, hr, h⟩ hg, hb⟩
theorem lines_sign {t key : List UInt8} {n : Nat} {root : List UInt8} (h : IsSign t key n root) : Lib.splitK [10] 0 (min 4 (t.length + 1) - 1) t = [[116, 105, 108, 101, 115], dec n, hexF root, lastF n root key ++ [10]] := by
  obtain ⟨_, _, rfl⟩ := h
  have := signF_len n root key
  rw [show min 4 ((signF n root key).length + 1) - 1 = 3 by omega]
  exact split_sign n root key

set_option maxHeartbeats 4000000 in
theorem check_any (t key : List UInt8) (ht : t.length ≤ 1048576) (hk : key.length ≤ 9223372036854775807) (w : World) (E : Env w) :
    Calls Tryz.prog 39 #[.string ⟨t.toArray⟩, .string ⟨key.toArray⟩] w fun r w' => Below w.heap.size w w' ∧
      ((∃ n b0 b1 b2 b3 b4 b5 b6 b7, IsSign t key n [b0, b1, b2, b3, b4, b5, b6, b7] ∧ r = .returned (.tuple #[.agg (tv n b0 b1 b2 b3 b4 b5 b6 b7), .bool true])) ∨ ((∀ n root, ¬ IsSign t key n root) ∧ r = .returned (.tuple #[.agg z9, .bool false]))) := by
  have HE := hide E
  clear E
  go_enter Tryz.func39, Tryz.ntmps39
  go_wp2_with fail
  have HB1 := hide (below_alloc w (.cells z9 95))
  have HG1 := hide (heap_alloc_last w (.cells z9 95))
  unfold z9 at HB1 HG1
  generalize w.alloc (.cells #[.int .i64 0, .int .u8 0, .int .u8 0, .int .u8 0, .int .u8 0, .int .u8 0, .int .u8 0, .int .u8 0, .int .u8 0] 95) = W1 at *
  refine (splitN_call t (by omega) W1 (HE.out.below HB1.out)).mono ?_
  rintro r w2 ⟨ps, hps, rfl, rfl⟩
  have HPS := hide hps
  have HL2 := hide (heap_alloc_last W1 (.cells (Lib.cellsOf ps (min 4 (t.length + 1))) 9))
  have HB2 : Hid (Below w.heap.size w (W1.alloc (.cells (Lib.cellsOf ps (min 4 (t.length + 1))) 9))) := HB1.out.trans ((below_alloc W1 _).mono HB1.out.size)
  have HG2 := hide (heap_alloc_old (o := .cells (Lib.cellsOf ps (min 4 (t.length + 1))) 9) HG1.out)
  generalize W1.alloc (.cells (Lib.cellsOf ps (min 4 (t.length + 1))) 9) = W2 at *
  generalize W1.heap.size = gl at *
  have HLB : Hid (∀ x ∈ ps.map (·.data.toList), x.length ≤ t.length) := fun x hx => by rw [HPS.out] at hx; exact splitK_piece _ _ _ x hx
  have HNE : Hid (ps.length ≤ min 4 (t.length + 1)) := by
    show ps.length ≤ _
    have := splitK_len (min 4 (t.length + 1) - 1) t
    rw [← HPS.out, List.length_map] at this
    omega
  have hg0 : ∃ g0, w.heap.size = g0 := ⟨_, rfl⟩
  obtain ⟨g0, hg0⟩ := hg0
  rw [hg0] at HG2 ⊢
  have HGE := hide hg0
  clear hps HG1 HB1 hg0
  by_cases h4 : ps.length < 4
  · have n4 : (ps.length : Int) < 4 := by omega
    have HN : Hid (∀ n root, ¬ IsSign t key n root) := fun n root h => by
      have e := HPS.out
      rw [lines_sign h] at e
      have := congrArg List.length e
      simp at this
      omega
    generalize min 4 (t.length + 1) = N at *
    go_wp2_with (show wpList _ _ _ ({ dst := none, op := Op.store _ _ _, type := _, pos := _, after := _, guard := _ } :: _) _ _; refine wpList_store_row rfl 95 _ _ rfl g0 z9 rfl rfl 95 _ HG2.out z9_info rfl z9_one ?_)
    refine bodyPost_ret (v := .tuple #[.agg z9, .bool false]) (results_row_one Tryz.results39 _ _ g0 95 _ (0, 0) _ rfl (setRow_heap _ _ _ _ _ _ HG2.out) Tryz.underlying95 rfl z9_info _ rfl) rfl ⟨below_setRow HB2.out (Nat.le_of_eq HGE.out) _, .inr ⟨HN.out, rfl⟩⟩
  · have hp4 : ps.length = 4 := by have := HNE.out; omega
    have hN4 : min 4 (t.length + 1) = 4 := by have := HNE.out; omega
    rw [hN4] at HL2 ⊢
    obtain ⟨p0, p1, p2, p3, rfl⟩ : ∃ p0 p1 p2 p3, ps = [p0, p1, p2, p3] := by
      match ps, hp4 with
      | [p0, p1, p2, p3], _ => exact ⟨p0, p1, p2, p3, rfl⟩
    obtain ⟨l1, rfl⟩ : ∃ l : List UInt8, p1 = ⟨l.toArray⟩ := ⟨p1.data.toList, by simp⟩
    obtain ⟨l2, rfl⟩ : ∃ l : List UInt8, p2 = ⟨l.toArray⟩ := ⟨p2.data.toList, by simp⟩
    have b1 : l1.length ≤ 1048576 := Nat.le_trans (HLB.out l1 (by simp)) ht
    have b2 : l2.length ≤ 1048576 := Nat.le_trans (HLB.out l2 (by simp)) ht
    have HSG : Hid (∀ n root, IsSign t key n root → l1 = dec n ∧ l2 = hexF root) := fun n root h => by
      have e := HPS.out
      rw [lines_sign h] at e
      simp only [List.map_cons, List.map_nil, List.cons.injEq] at e
      exact ⟨e.2.1, e.2.2.1⟩
    have c1 : W2.cell? ⟨gl, 1, none⟩ = some (.string ⟨l1.toArray⟩) := by rw [cell_of_row _ _ _ _ _ _ HL2.out]; rfl
    have c2 : W2.cell? ⟨gl, 2, none⟩ = some (.string ⟨l2.toArray⟩) := by rw [cell_of_row _ _ _ _ _ _ HL2.out]; rfl
    have hl4 : ([p0, ⟨l1.toArray⟩, ⟨l2.toArray⟩, p3] : List ByteArray).length = 4 := rfl
    clear h4 hp4 HNE HLB HPS hN4
    rw [hl4]
    clear hl4
    go_wp2_with fail
    refine (parseUint_call l2 (by omega) W2 (HE.out.below HB2.out)).mono ?_
    rintro r w3 ⟨v, e, rfl, v0, v1, he, hF, hb3⟩
    have HB3 : Hid (Below w.heap.size w w3) := HB2.out.trans (hb3.mono HB2.out.size)
    have HG3 := hide ((hb3.block g0 (own_lt HG2.out)).trans HG2.out)
    rw [← hb3.cell (p := ⟨gl, 1, none⟩) (cell_lt (p := ⟨gl, 1, none⟩) c1)] at c1
    have HF := hide hF
    have HV := hide (And.intro v0 v1)
    have HEE := hide he
    clear hb3 hF v0 v1 he c2 HB2 HG2 HL2
    go_wp2_with fail
    refine (number_call l1 (by omega) w3 (HE.out.below HB3.out)).mono ?_
    rintro r w4 ⟨rfl, hb4⟩
    have HB4 : Hid (Below w.heap.size w w4) := HB3.out.trans (hb4.mono HB3.out.size)
    have HG4 := hide ((hb4.block g0 (own_lt HG3.out)).trans HG3.out)
    have hnb := numP_bounds l1
    have HNP : Hid (∀ n, l1 = dec n → n ≤ 9223372036854775807 → numP l1 = (n : Int)) := fun n e h => by rw [e]; exact numP_dec n h
    generalize numP l1 = nn at *
    clear hb4 HB3 HG3 c1
    go_wp2_with fail
    refine (hf_any v w4 HV.out.1 HV.out.2).mono ?_
    rintro r w5 ⟨rfl, hb5⟩
    have HB5 : Hid (Below w.heap.size w w5) := HB4.out.trans (hb5.mono HB4.out.size)
    have HG5 := hide ((hb5.block g0 (own_lt HG4.out)).trans HG4.out)
    clear hb5 HB4 HG4
    obtain ⟨b0, b1, b2, b3, b4, b5, b6, b7, hx⟩ := hv8 (out8 v) rfl
    have HX := hide hx
    rw [hx, show hv [b0, b1, b2, b3, b4, b5, b6, b7] = #[.int .u8 b0.toNat, .int .u8 b1.toNat, .int .u8 b2.toNat, .int .u8 b3.toNat, .int .u8 b4.toNat, .int .u8 b5.toNat, .int .u8 b6.toNat, .int .u8 b7.toNat] from rfl]
    clear hx
    have HB6 : Hid (Below w.heap.size w (w5.alloc (.cells (tv nn b0 b1 b2 b3 b4 b5 b6 b7) 95))) := HB5.out.trans ((below_alloc w5 _).mono HB5.out.size)
    have HG6 := hide (heap_alloc_old (o := .cells (tv nn b0 b1 b2 b3 b4 b5 b6 b7) 95) HG5.out)
    have HT6 := hide (heap_alloc_last w5 (.cells (tv nn b0 b1 b2 b3 b4 b5 b6 b7) 95))
    obtain ⟨d0, d1, d2, d3, d4, d5, d6, d7, d8⟩ := cells9 HT6.out
    rcases HEE.out with rfl | ⟨te, pe, rfl⟩
    · by_cases hneg : nn < 0
      · have HN : Hid (∀ n root, ¬ IsSign t key n root) := fun n root h => by
          have := HNP.out n (HSG.out n root h).1 h.1
          omega
        go_wp2_with (first | (show wpList _ _ _ ({ dst := none, op := Op.store _ _ _, type := _, pos := _, after := _, guard := _ } :: _) _ _; refine wpList_store_row rfl 95 _ _ rfl w5.heap.size (tv nn b0 b1 b2 b3 b4 b5 b6 b7) rfl rfl 95 _ (heap_alloc_last _ _) z9_info rfl (tv_one _ _ _ _ _ _ _ _ _) ?_; rw [World.setRow_alloc_new]; generalize w5.alloc (.cells (tv nn b0 b1 b2 b3 b4 b5 b6 b7) 95) = W6 at *; generalize w5.heap.size = g9 at *) | (show wpList _ _ _ ({ dst := none, op := Op.store _ _ _, type := _, pos := _, after := _, guard := _ } :: _) _ _; refine wpList_store_row rfl 95 _ _ rfl g0 z9 rfl rfl 95 _ HG6.out z9_info rfl z9_one ?_))
        refine bodyPost_ret (v := .tuple #[.agg z9, .bool false]) (results_row_one Tryz.results39 _ _ g0 95 _ (0, 0) _ rfl (setRow_heap _ _ _ _ _ _ HG6.out) Tryz.underlying95 rfl z9_info _ rfl) rfl ⟨below_setRow HB6.out (Nat.le_of_eq HGE.out) _, .inr ⟨HN.out, rfl⟩⟩
      · have n0 : ¬ nn < 0 := hneg
        go_wp2_with (show wpList _ _ _ ({ dst := none, op := Op.store _ _ _, type := _, pos := _, after := _, guard := _ } :: _) _ _; refine wpList_store_row rfl 95 _ _ rfl w5.heap.size (tv nn b0 b1 b2 b3 b4 b5 b6 b7) rfl rfl 95 _ (heap_alloc_last _ _) z9_info rfl (tv_one _ _ _ _ _ _ _ _ _) ?_; rw [World.setRow_alloc_new]; generalize w5.alloc (.cells (tv nn b0 b1 b2 b3 b4 b5 b6 b7) 95) = W6 at *; generalize w5.heap.size = g9 at *)
        refine (sign_any nn (by omega) (by omega) b0 b1 b2 b3 b4 b5 b6 b7 key hk W6 (HE.out.below HB6.out)).mono ?_
        rintro r w7 ⟨rfl, hb7⟩
        have HB7 : Hid (Below w.heap.size w w7) := HB6.out.trans (hb7.mono HB6.out.size)
        have HG7 := hide ((hb7.block g0 (own_lt HG6.out)).trans HG6.out)
        obtain ⟨f0, f1, f2, f3, f4, f5, f6, f7, f8⟩ := cells9 ((hb7.block g9 (own_lt HT6.out)).trans HT6.out)
        clear hb7 d0 d1 d2 d3 d4 d5 d6 d7 d8
        have HSN : Hid (signF nn.toNat [b0, b1, b2, b3, b4, b5, b6, b7] key = signF nn.toNat [b0, b1, b2, b3, b4, b5, b6, b7] key) := rfl
        generalize hS : signF nn.toNat [b0, b1, b2, b3, b4, b5, b6, b7] key = S at *
        have HSS := hide hS
        clear hS HSN
        by_cases heq : S = t
        · have hq1 : (S == t) = true := by rw [beq_iff_eq]; exact heq
          have HQ := hide heq
          clear heq
          have HIS : Hid (IsSign t key nn.toNat [b0, b1, b2, b3, b4, b5, b6, b7]) := ⟨by omega, rfl, by rw [← HQ.out, ← HSS.out]⟩
          have HNN : Hid (((nn.toNat : Nat) : Int) = nn) := by show _ = _; omega
          go_wp2_with (show wpList _ _ _ ({ dst := none, op := Op.store _ _ _, type := _, pos := _, after := _, guard := _ } :: _) _ _; refine wpList_store_row rfl 95 _ _ rfl g0 (tv nn b0 b1 b2 b3 b4 b5 b6 b7) rfl rfl 95 _ HG7.out z9_info rfl (tv_one _ _ _ _ _ _ _ _ _) ?_)
          refine bodyPost_ret (v := .tuple #[.agg (tv nn b0 b1 b2 b3 b4 b5 b6 b7), .bool true]) (results_row_one Tryz.results39 _ _ g0 95 _ (0, 0) _ rfl (setRow_heap _ _ _ _ _ _ HG7.out) Tryz.underlying95 rfl (tv_info _ _ _ _ _ _ _ _ _) _ rfl) rfl ⟨below_setRow HB7.out (Nat.le_of_eq HGE.out) _, .inl ⟨nn.toNat, b0, b1, b2, b3, b4, b5, b6, b7, HIS.out, by rw [HNN.out]⟩⟩
        · have hq1 : (S == t) = false := by rw [beq_eq_false_iff_ne]; exact heq
          have HQ := hide heq
          clear heq
          have HN : Hid (∀ n root, ¬ IsSign t key n root) := fun n root h => by
            have e1 := HNP.out n (HSG.out n root h).1 h.1
            have e2 := (HF.out root h.2.1 (HSG.out n root h).2).2
            refine HQ.out ?_
            rw [← HSS.out, ← HX.out, e2, e1, Int.toNat_natCast]
            exact h.2.2.symm
          go_wp2_with (show wpList _ _ _ ({ dst := none, op := Op.store _ _ _, type := _, pos := _, after := _, guard := _ } :: _) _ _; refine wpList_store_row rfl 95 _ _ rfl g0 z9 rfl rfl 95 _ HG7.out z9_info rfl z9_one ?_)
          refine bodyPost_ret (v := .tuple #[.agg z9, .bool false]) (results_row_one Tryz.results39 _ _ g0 95 _ (0, 0) _ rfl (setRow_heap _ _ _ _ _ _ HG7.out) Tryz.underlying95 rfl z9_info _ rfl) rfl ⟨below_setRow HB7.out (Nat.le_of_eq HGE.out) _, .inr ⟨HN.out, rfl⟩⟩
    · have HN : Hid (∀ n root, ¬ IsSign t key n root) := fun n root h => by
        have := (HF.out root h.2.1 (HSG.out n root h).2).1
        simp at this
      go_wp2_with (first | (show wpList _ _ _ ({ dst := none, op := Op.store _ _ _, type := _, pos := _, after := _, guard := _ } :: _) _ _; refine wpList_store_row rfl 95 _ _ rfl w5.heap.size (tv nn b0 b1 b2 b3 b4 b5 b6 b7) rfl rfl 95 _ (heap_alloc_last _ _) z9_info rfl (tv_one _ _ _ _ _ _ _ _ _) ?_; rw [World.setRow_alloc_new]; generalize w5.alloc (.cells (tv nn b0 b1 b2 b3 b4 b5 b6 b7) 95) = W6 at *; generalize w5.heap.size = g9 at *) | (show wpList _ _ _ ({ dst := none, op := Op.store _ _ _, type := _, pos := _, after := _, guard := _ } :: _) _ _; refine wpList_store_row rfl 95 _ _ rfl g0 z9 rfl rfl 95 _ HG6.out z9_info rfl z9_one ?_))
      refine bodyPost_ret (v := .tuple #[.agg z9, .bool false]) (results_row_one Tryz.results39 _ _ g0 95 _ (0, 0) _ rfl (setRow_heap _ _ _ _ _ _ HG6.out) Tryz.underlying95 rfl z9_info _ rfl) rfl ⟨below_setRow HB6.out (Nat.le_of_eq HGE.out) _, .inr ⟨HN.out, rfl⟩⟩
end Go.Proofs.YtoomnijgdpbphaaGreatDoor

namespace Go.Proofs.YtoomnijgdpbphaaGreatDoor
open Go.RowKit

theorem compPtr : (Tryz.prog.info? 221).map (·.comparable) = some true := by kernel_rfl
theorem sizeStr : (Tryz.prog.info? 223).map (·.size) = some 1 := by kernel_rfl

/-- The two errors are of different places: '==' says no. -/
theorem errs_differ {w : World} {a b : Addr} (hne : a ≠ b) (ha : ∃ c t, w.heap[a.block]? = some (.cells c t (0, 0))) (hb : ∃ c t, w.heap[b.block]? = some (.cells c t (0, 0))) :
    (binOp .eql 39 (.iface 221 (.pointer (some a))) (.iface 221 (.pointer (some b)))).run Tryz.prog w = .ok (.bool false) w := by
  obtain ⟨i, hi, hcmp⟩ := Option.map_eq_some_iff.1 compPtr
  obtain ⟨j, hj, hjs⟩ := Option.map_eq_some_iff.1 sizeStr
  obtain ⟨ca, ta, ha⟩ := ha
  obtain ⟨cb, tb, hb⟩ := hb
  exact run_eql_iface_ptr_other w Tryz.underlying39 Tryz.underlying221 hi hcmp hj (by rw [hjs]; decide) hne ha hb

/-- What the seven sentinels' cells hold. -/
structure Sents (w : World) (at_ : Nat → Addr) : Prop where
  entry : w.cell? ⟨1, 0, none⟩ = some (.iface 221 (.pointer (some (at_ 0))))
  range : w.cell? ⟨2, 0, none⟩ = some (.iface 221 (.pointer (some (at_ 1))))
  check : w.cell? ⟨3, 0, none⟩ = some (.iface 221 (.pointer (some (at_ 2))))
  old : w.cell? ⟨4, 0, none⟩ = some (.iface 221 (.pointer (some (at_ 3))))
  proof : w.cell? ⟨5, 0, none⟩ = some (.iface 221 (.pointer (some (at_ 4))))
  tile : w.cell? ⟨6, 0, none⟩ = some (.iface 221 (.pointer (some (at_ 5))))
  failed : w.cell? ⟨0, 0, none⟩ = some (.iface 221 (.pointer (some (at_ 6))))
  apart : ∀ i j, i < 7 → j < 7 → i ≠ j → at_ i ≠ at_ j
  block : ∀ i, i < 7 → ∃ c t, w.heap[(at_ i).block]? = some (.cells c t (0, 0))

end Go.Proofs.YtoomnijgdpbphaaGreatDoor
