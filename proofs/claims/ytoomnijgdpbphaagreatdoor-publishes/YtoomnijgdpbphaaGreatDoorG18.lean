import Derived.Test.YtoomnijgdpbphaaGreatDoorG09
import Derived.Test.YtoomnijgdpbphaaGreatDoorG16
import Derived.Test.YtoomnijgdpbphaaGreatDoorG11
import Derived.Laws.BytesArg

namespace Go.Proofs.YtoomnijgdpbphaaGreatDoor
open Go.RowKit
set_option maxRecDepth 100000

theorem Bq.rest {w : World} {v : Value} {l : List UInt8} (h : Bq w v l) : Rest w v l := by
  obtain ⟨g, cap, C, fr, rfl, hl, hg, hc⟩ := h
  refine ⟨⟨g, 0, none⟩, cap, rfl, hl, rfl, fun i hi => ?_⟩
  show w.cell? ⟨g, 0 + i, none⟩ = _
  rw [Nat.zero_add, cell_of_row _ _ _ _ _ _ hg]
  exact hc i hi
theorem obs_shape {w : World} {B : Nat} {y : Value} {es : List (List UInt8)} (h : OBs w B y es) : ∃ a c, y = .slice a es.length c := by
  obtain ⟨xs, ho, -⟩ := h
  rcases ho.2 with ⟨e, e0⟩ | ⟨g, cap, cur, e, _⟩
  · exact ⟨none, 0, by rw [e, e0]⟩
  · exact ⟨_, _, e⟩
set_option maxHeartbeats 400000 in
theorem unb_nil_any (w : World) :
    Calls Tryz.prog 77 #[.slice none 0 0] w fun r w' => r = .returned (.tuple #[.slice none 0 0, .bool false]) ∧ w' = w := by
  go_enter Tryz.func77, Tryz.ntmps77
  go_wp2_with fail
  refine wp_loop_rounds 1 ?_
  rw [rounds_succ]
  go_wp2
  go_ret2
  exact ⟨rfl, rfl⟩
/-- A bundle of a width, out of what a store gave. -/
def bunD (x : Option (List UInt8)) (w : Nat) : Option (List (List UInt8)) := match x with
  | some d => (match unbF d with | some es => if es.length = w then some es else none | none => none)
  | none => none
/-- What a store gave, in memory. -/
def GotV (w : World) (v : Value) (x : Option (List UInt8)) : Prop := (∃ d, x = some d ∧ Bq w v d) ∨ (x = none ∧ v = .slice none 0 0)
set_option maxHeartbeats 400000 in
theorem unbOf_any (n : Nat) (v : Value) (x : Option (List UInt8)) (w : World) (h : GotV w v x) :
    Calls Tryz.prog 41 #[.int .i64 n, v] w fun r w' => Below w.heap.size w w' ∧ ((∃ es y, bunD x n = some es ∧ r = .returned (.tuple #[y, .bool true]) ∧ OBs w' w.heap.size y es) ∨ (bunD x n = none ∧ r = .returned (.tuple #[.slice none 0 0, .bool false]))) := by
  rcases h with ⟨d, rfl, hq⟩ | ⟨rfl, rfl⟩
  · have HQ := hide hq
    clear hq
    go_enter Tryz.func41, Tryz.ntmps41
    go_wp2_with fail
    refine (unb_any v d w HQ.out.rest).mono ?_
    rintro r w1 ⟨y, rfl, hb1, ho⟩
    have HB := hide hb1
    clear hb1
    cases e : unbF d with
    | none =>
      have HR : Hid (bunD (some d) n = none) := by show bunD (some d) n = none; unfold bunD; simp only [e]
      obtain ⟨a, c, rfl⟩ := obs_shape ho
      clear e ho
      go_wp2_with fail
      go_ret2
      exact ⟨HB.out, .inr ⟨HR.out, rfl⟩⟩
    | some es =>
      rw [e] at ho
      simp only [Option.getD_some, Option.isSome_some] at ho ⊢
      obtain ⟨a, c, rfl⟩ := obs_shape ho
      have HO := hide ho
      clear ho
      by_cases hl : es.length = n
      · have HR : Hid (bunD (some d) n = some es) := by show bunD (some d) n = _; unfold bunD; simp only [e, if_pos hl]
        have q1 : ((es.length : Int) == (n : Int)) = true := by rw [beq_iff_eq]; omega
        clear e hl
        go_wp2_with fail
        go_ret2
        exact ⟨HB.out, .inl ⟨es, _, HR.out, rfl, HO.out⟩⟩
      · have HR : Hid (bunD (some d) n = none) := by show bunD (some d) n = _; unfold bunD; simp only [e, if_neg hl]
        have q1 : ((es.length : Int) == (n : Int)) = false := by rw [beq_eq_false_iff_ne]; omega
        clear e hl
        go_wp2_with fail
        go_ret2
        exact ⟨HB.out, .inr ⟨HR.out, rfl⟩⟩
  · go_enter Tryz.func41, Tryz.ntmps41
    go_wp2_with fail
    refine (unb_nil_any w).mono ?_
    rintro r w1 ⟨rfl, rfl⟩
    go_wp2_with fail
    go_ret2
    exact ⟨Below.refl _ _, .inr ⟨rfl, rfl⟩⟩
theorem bunD_at (lk : Lk) (j w : Nat) : bunD (lk (nameF (-1) j w)) w = bunAt lk j w := rfl
/-- What a get through the publisher comes to. -/
theorem got_of {d : Dk} {p : List UInt8} {w : World} {v : Value} (hb : bad d = false) (h : (bad d = false ∧ ∃ x, look d.fs p = some x ∧ Bq w v x) ∨ ((bad d = true ∨ look d.fs p = none) ∧ v = .slice none 0 0)) : GotV w v (look d.fs p) := by
  rcases h with ⟨-, x, h1, h2⟩ | ⟨h1, h2⟩
  · exact .inl ⟨x, h1, h2⟩
  · rcases h1 with h1 | h1
    · rw [hb] at h1; simp at h1
    · exact .inr ⟨h1, h2⟩
theorem gotV_shape {w : World} {v : Value} {x : Option (List UInt8)} (h : GotV w v x) : (x = none ∧ v = .slice none 0 0) ∨ ∃ d g n c, x = some d ∧ v = .slice (some g) n c := by
  rcases h with ⟨d, e, g, cap, C, fr, rfl, -⟩ | ⟨h1, h2⟩
  · exact .inr ⟨d, _, _, _, e, rfl⟩
  · exact .inl ⟨h1, h2⟩
theorem Home_env {w w' : World} {B : Nat} (h : Env w) (hB : w.heap.size = B) (hb : Below B w w') : Env w' := h.below (by rw [hB]; exact hb)
theorem Env.turn {w w' : World} {O : Nat → Prop} {T : List Nat} {W : World} (h : Env W) (hb : Below W.heap.size W w) (ht : Turn O T w w') (hO : ∀ k, O k → W.heap.size ≤ k) : Env w' ∧ Below W.heap.size W w' := by
  have := hb.trans (ht.below hO hb.size)
  exact ⟨h.below this, this⟩
/-- The store's state behind n fine calls. -/
theorem enterD_more (d : Dk) : (enterD d).fs = d.fs ∧ tk (enterD d) = tk d := ⟨enterD_fs d, enterD_tk d⟩

theorem find4 (f : Nat → Bool) (hv k : Nat) (h1 : hv < k) (h4 : k ≤ 4) (hk : f k = true) (hno : ∀ j : Nat, k < j → j ≤ 4 → hv < j → f j = false) : [4, 3, 2, 1].find? (fun w => decide (hv < w) && f w) = some k := by
  have e : k = 4 ∨ k = 3 ∨ k = 2 ∨ k = 1 := by omega
  rcases e with rfl | rfl | rfl | rfl
  · simp [List.find?, h1, hk]
  · simp [List.find?, h1, hk, hno 4 (by omega) (by omega) (by omega)]
  · simp [List.find?, h1, hk, hno 3 (by omega) (by omega) (by omega), hno 4 (by omega) (by omega) (by omega)]
  · simp [List.find?, h1, hk, hno 2 (by omega) (by omega) (by omega), hno 3 (by omega) (by omega) (by omega), hno 4 (by omega) (by omega) (by omega)]
theorem find4_no (f : Nat → Bool) (hv : Nat) (hno : ∀ j : Nat, j ≤ 4 → hv < j → f j = false) : [4, 3, 2, 1].find? (fun w => decide (hv < w) && f w) = none := by
  rw [List.find?_eq_none]
  intro w hw
  have : w ≤ 4 := by simp at hw; omega
  by_cases h : hv < w
  · simp [hno w this h]
  · simp [h]
theorem wdF_eq {lk : Lk} {i hv k : Nat} (h1 : hv < k) (h4 : k ≤ 4) (hk : (lk (nameF (-1) i (k : Nat))).isSome = true) (hno : ∀ j : Nat, k < j → j ≤ 4 → hv < j → (lk (nameF (-1) i (j : Nat))).isSome = false) : wdF lk i hv = some k :=
  find4 (fun w => (lk (nameF (-1) i (w : Nat))).isSome) hv k h1 h4 hk hno
theorem wdF_no {lk : Lk} {i hv : Nat} (hno : ∀ j : Nat, j ≤ 4 → hv < j → (lk (nameF (-1) i (j : Nat))).isSome = false) : wdF lk i hv = none :=
  find4_no (fun w => (lk (nameF (-1) i (w : Nat))).isSome) hv hno
theorem gotErr_cases {b : Bool} {p : List UInt8} {B : Nat} {e : Value} {w : World} (h : GotErr b p B e w) : (b = false ∧ e = .nilIface) ∨ (b = true ∧ ∃ g, e = .iface 62 (.pointer (some ⟨g, 0, none⟩))) := by
  rcases h with h | ⟨h, g, rfl, -⟩
  · exact .inl h
  · exact .inr ⟨h, g, rfl⟩
theorem GotErr.weaken {b : Bool} {p : List UInt8} {B B' : Nat} {e : Value} {w : World} (h : GotErr b p B e w) (hB : B' ≤ B) : GotErr b p B' e w := by
  rcases h with h | ⟨h, g, e, hg, r⟩
  · exact .inl h
  · exact .inr ⟨h, g, e, Nat.le_trans hB hg, r⟩

set_option maxHeartbeats 1000000 in
theorem widest_any (O : Nat → Prop) (W : World) (hE : Env W) (hOW : ∀ k, O k → W.heap.size ≤ k) (db lb : Nat) (d : Dk) (i hv : Nat) (w : World) (hn : d.fs.length ≤ 1000000000) (hl : ∀ f ∈ d.fs, f.2.length ≤ 1000000000) (hi : i ≤ 1000000) (hv4 : hv < 4) (hc : Calm d) (hW : Below W.heap.size W w) (h : DiskAt w O db d) (cs : Array Value) (hsb : w.heap[lb]? = some (.cells cs 58 (0, 0))) (hsc : cs[0]? = some (stV db true)) :
    Calls Tryz.prog 43 #[.pointer (some ⟨lb, 0, none⟩), .int .i64 i, .int .i64 (hv + 1 : Nat)] w fun r w' => ∃ (d' : Dk) (n : Nat) (v e : Value), r = .returned (.tuple #[.int .i64 n, v, e]) ∧ Turn O dT1 w w' ∧ DiskAt w' O db d' ∧ d'.fs = d.fs ∧ tk d' = tk d ∧
      ((d'.hit = true ∧ ∃ p, GotErr true p w.heap.size e w') ∨ (Calm d' ∧ e = .nilIface ∧ ((wdF (look d.fs) i hv = none ∧ n = 0 ∧ v = .slice none 0 0) ∨ (wdF (look d.fs) i hv = some n ∧ ∃ x, look d.fs (nameF (-1) i n) = some x ∧ Bq w' v x)))) := by
  have HL := hide hl
  have HD := hide h
  have HS : Hid (w.cell? ⟨lb, 0, none⟩ = some (stV db true)) := (dcell hsb 0 _ hsc).1
  have HSB := hide hsb
  have HSC := hide hsc
  have HW := hide hW
  have HC := hide hc
  have HO := hide hOW
  have hEE := hide hE
  clear hl h hsb hsc hW hc hOW hE
  go_enter Tryz.func43, Tryz.ntmps43
  go_wp2_with fail
  go_loopw [9, 10, 11] (fun s9 _ _ wr => ∃ (k : Nat) (d1 : Dk), s9 = .int .i64 k ∧ hv ≤ k ∧ k ≤ 4 ∧ Turn O dT1 w wr ∧ DiskAt wr O db d1 ∧ d1.fs = d.fs ∧ tk d1 = tk d ∧ Calm d1 ∧ ∀ j, k < j → j ≤ 4 → hv < j → (look d.fs (nameF (-1) i (j : Nat))).isSome = false) (fun s9 _ _ _ => (intOf s9).toNat)
  case atStart => exact ⟨4, d, rfl, by omega, by omega, Turn.refl _ _ _, HD.out, rfl, rfl, HC.out, fun j h1 h2 => by omega⟩
  case round =>
    obtain ⟨k, d1, rfl, hk1, hk2, ht, hd, hfs, htu, hcm, hno⟩ := hrel
    have HT := hide ht
    have HD1 := hide hd
    have HF := hide (And.intro hfs htu)
    have HCM := hide hcm
    have HN := hide hno
    have hew := Env.turn hEE.out HW.out ht HO.out
    have HSR : Hid (wr.cell? ⟨lb, 0, none⟩ = some (stV db true)) := by
      have := dcell (ht.keep HSB.out (by decide)) 0 _ HSC.out
      exact this.1
    have HEW := hide hew
    clear ht hd hfs htu hcm hno hew
    by_cases hlt : hv < k
    · go_wp2_with fail
      refine (name_any (-1) i k (by omega) wr HEW.out.1).mono ?_
      rintro r w1 ⟨rfl, hb1⟩
      have HB1 := hide hb1
      have hst1 : w1.cell? ⟨lb, 0, none⟩ = some (stV db true) := by rw [hb1.cell (p := ⟨lb, 0, none⟩) (Nat.lt_of_lt_of_le (cell_lt HS.out) HT.out.size)]; exact HSR.out
      go_wp2_with fail
      refine (lget_any O db lb d1 (nameF (-1) i k) w1 (by rw [HF.out.1]; exact hn) (by rw [HF.out.1]; exact HL.out) (HD1.out.stay (O1 := fun _ => False) (T := []) (.of_below hb1) (by simp) (by simp)) hst1).mono ?_
      rintro r w2 ⟨v, e, rfl, hge, ht2, hd2, hv2⟩
      have HT2 : Hid (Turn O dT1 w w2) := (HT.out.then_below hb1).trans (ht2.mono (fun _ h => .inl h) (fun _ h => h))
      have HD2 := hide hd2
      have hsz : w.heap.size ≤ w1.heap.size := (HT.out.then_below hb1).size
      have HGE := hide (hge.weaken hsz)
      clear hb1 hst1 ht2 hd2 hsz
      rcases gotErr_cases hge with ⟨hbd, rfl⟩ | ⟨hbd, g, rfl⟩
      · have hK0 : enterK d1 = 0 := by
          have := (enterK_le d1).1
          have h2 : ¬ 0 < enterK d1 := by simpa [bad] using hbd
          omega
        have HC2 : Hid (Calm (enterD d1)) := by
          rcases calm_enter HCM.out with ⟨-, h⟩ | ⟨h, -⟩
          · exact h
          · omega
        have HG := hide (got_of hbd hv2)
        clear hge hbd hv2 hK0
        rcases gotV_shape HG.out with ⟨hx, rfl⟩ | ⟨x, a, n, c, hx, rfl⟩
        · go_wp2_with fail
          go_roundw
          case rel =>
            repeat apply Exists.intro
            refine ⟨⟨k - 1, enterD d1, by congr 1; omega, by omega, by omega, HT2.out, HD2.out, (enterD_fs d1).trans HF.out.1, (enterD_tk d1).trans HF.out.2, HC2.out, fun j h1 h2 h3 => ?_⟩, rfl⟩
            by_cases hj : k < j
            · exact HN.out j hj h2 h3
            · obtain rfl : j = k := by omega
              rw [← HF.out.1, hx]
              rfl
          case measure => simp [intOf]; omega
        · have HWD : Hid (wdF (look d.fs) i hv = some k) := wdF_eq hlt hk2 (by rw [← HF.out.1, hx]; rfl) HN.out
          go_wp2_with fail
          go_ret3
          refine ⟨enterD d1, k, _, _, rfl, HT2.out, HD2.out, (enterD_fs d1).trans HF.out.1, (enterD_tk d1).trans HF.out.2, .inr ⟨HC2.out, rfl, .inr ⟨HWD.out, x, by rw [← HF.out.1]; exact hx, ?_⟩⟩⟩
          rcases HG.out with ⟨x', e, hb⟩ | ⟨-, e⟩
          · rw [hx] at e
            obtain rfl : x = x' := by simpa using e
            exact hb
          · simp at e
      · have HH : Hid ((enterD d1).hit = true) := by
          rcases calm_enter HCM.out with ⟨h, -⟩ | ⟨-, h⟩
          · rw [bad, h] at hbd; simp at hbd
          · exact h
        rw [hbd] at HGE
        obtain ⟨a, n, c, rfl⟩ := got_slice hv2
        clear hge hbd hv2
        go_wp2_with fail
        go_ret3
        exact ⟨enterD d1, k, _, _, rfl, HT2.out, HD2.out, (enterD_fs d1).trans HF.out.1, (enterD_tk d1).trans HF.out.2, .inl ⟨HH.out, _, HGE.out⟩⟩
    · go_wp2_with fail
      go_ret3
      exact ⟨d1, 0, _, _, rfl, HT.out, HD1.out, HF.out.1, HF.out.2, .inr ⟨HCM.out, rfl, .inl ⟨wdF_no (fun j h1 h2 => HN.out j (by omega) h1 h2), rfl, rfl⟩⟩⟩
end Go.Proofs.YtoomnijgdpbphaaGreatDoor

namespace Go.Proofs.YtoomnijgdpbphaaGreatDoor
open Go.RowKit
set_option maxRecDepth 100000

theorem Bs.conv {w : World} {v : Value} {l : List UInt8} (h : Bs w v l) : (convert 89 9 v).run Tryz.prog w = .ok (.string ⟨l.toArray⟩) w := by
  obtain ⟨a, cap, rfl, h⟩ := h
  rcases h with rfl | ⟨b, off, rfl, hc⟩
  · cases a with
    | none => exact run_convert_bytes_nil w _ _ Tryz.underlying89 Tryz.underlying5 _ _ _ Tryz.underlying9
    | some a => exact run_convert_bytes_back w _ _ 5 a cap [] Tryz.underlying89 Tryz.underlying5 Tryz.underlying9 (fun j hj => by simp at hj)
  · refine run_convert_bytes_back w _ _ 5 ⟨b, off, none⟩ cap l Tryz.underlying89 Tryz.underlying5 Tryz.underlying9 (fun j hj => ?_)
    rw [Addr.add_mid]
    exact hc j hj
set_option maxHeartbeats 400000 in
theorem beq_any (x y : Value) (a b : List UInt8) (w : World) (ha : Bs w x a) (hb : Bs w y b) :
    Calls Tryz.prog 45 #[x, y] w fun r w' => r = .returned (.bool (decide (a = b))) ∧ w' = w := by
  have h1 := ha.conv
  have h2 := hb.conv
  clear ha hb
  go_enter Tryz.func45, Tryz.ntmps45
  go_wp2_with fail
  go_ret
  exact ⟨congrArg (fun b => Ending.returned (.bool b)) (by show (a == b) = _; rw [Bool.eq_iff_iff]; simp), rfl⟩
theorem Bss.at {w : World} {v : Value} {ls : List (List UInt8)} (h : Bss w v ls) : ∃ a cap, v = .slice a ls.length cap ∧ ∀ j (hj : j < ls.length), ∃ b off, a = some ⟨b, off, none⟩ ∧ ls.length ≤ cap ∧ ∃ x, w.cell? ⟨b, off + j, none⟩ = some x ∧ Bs w x ls[j] := by
  obtain ⟨a, cap, rfl, hc, h⟩ := h
  refine ⟨a, cap, rfl, fun j hj => ?_⟩
  rcases h with rfl | ⟨b, off, rfl, h⟩
  · simp at hj
  · obtain ⟨x, h1, h2⟩ := h j hj
    exact ⟨b, off, rfl, hc, x, h1, h2⟩

set_option maxHeartbeats 1000000 in
theorem eqf_any (x y : Value) (as_ bs : List (List UInt8)) (w : World) (hl : as_.length = bs.length) (hn : as_.length ≤ 1000000) (ha : Bss w x as_) (hb : Bss w y bs) :
    Calls Tryz.prog 44 #[x, y, .func (.func 45) #[] #[]] w fun r w' => r = .returned (.bool (decide (as_ = bs))) ∧ w' = w := by
  have eg : ∀ args w, (callFunc 45 args).run Tryz.prog w = .ok (.enter 45 args) w := enters_of Tryz.func45 (by kernel_rfl) rfl
  obtain ⟨a, ca, rfl, ha'⟩ := ha.at
  obtain ⟨b, cb, rfl, hb'⟩ := hb.at
  have HA := hide ha'
  have HB := hide hb'
  clear ha hb ha' hb'
  rw [← hl]
  have HLL := hide hl
  have hbl : as_.length ≤ bs.length := by omega
  have hbl2 : bs.length ≤ as_.length := by omega
  clear hl
  go_enter Tryz.func44, Tryz.ntmps44
  go_wp2_with fail
  go_loopw [7, 8, 9, 17] (fun _ _ _ s wr => ∃ k : Nat, k ≤ as_.length ∧ s = .int .i64 k ∧ wr = w ∧ ∀ j (h : j < as_.length), j < k → as_[j] = bs[j]'(by omega)) (fun _ _ _ s _ => as_.length - (intOf s).toNat)
  case atStart => exact ⟨0, Nat.zero_le _, rfl, rfl, fun j _ h => absurd h (Nat.not_lt_zero _)⟩
  case round =>
    obtain ⟨k, hk, rfl, rfl, hno⟩ := hrel
    have HN := hide hno
    clear hno
    by_cases hlt : k < as_.length
    · obtain ⟨b1, o1, rfl, hc1, x1, cx, bx⟩ := HA.out k hlt
      obtain ⟨b2, o2, rfl, hc2, y1, cy, by_⟩ := HB.out k (by omega)
      obtain ⟨u1, m1, n1, rfl⟩ : ∃ u m n, x1 = .slice u m n := by obtain ⟨u, c, e, -⟩ := bx; exact ⟨_, _, _, e⟩
      obtain ⟨u2, m2, n2, rfl⟩ : ∃ u m n, y1 = .slice u m n := by obtain ⟨u, c, e, -⟩ := by_; exact ⟨_, _, _, e⟩
      have hlt2 : k < bs.length := by omega
      have hcall := beq_any _ _ _ _ wr bx by_
      clear bx by_
      by_cases he : as_[k] = bs[k]
      · rw [show decide (as_[k] = bs[k]) = true by simp [he]] at hcall
        have HN' : Hid (∀ j (h : j < as_.length), j < k + 1 → as_[j] = bs[j]'(by omega)) := fun j h hj => by
          by_cases e : j = k
          · subst e; exact he
          · exact HN.out j h (by omega)
        clear he HN
        go_wp2_with (go_at_fn 45; refine hcall.mono ?_; rintro e w' ⟨rfl, rfl⟩)
        go_roundw
        case rel =>
          exact ⟨k + 1, by omega, by go_num, by first | trivial | rfl, HN'.out⟩
        case measure => simp [intOf]; omega
      · rw [show decide (as_[k] = bs[k]) = false by simp [he]] at hcall
        have HR : Hid (decide (as_ = bs) = false) := by
          show decide (as_ = bs) = false
          simp only [decide_eq_false_iff_not]
          rintro rfl
          exact he rfl
        clear he HN
        go_wp2_with (go_at_fn 45; refine hcall.mono ?_; rintro e w' ⟨rfl, rfl⟩)
        go_ret
        exact ⟨by rw [HR.out]; rfl, rfl⟩
    · have HR : Hid (decide (as_ = bs) = true) := by
        show decide (as_ = bs) = true
        simp only [decide_eq_true_eq]
        exact List.ext_getElem HLL.out (fun j h1 h2 => HN.out j h1 (by omega))
      go_wp2_with fail
      go_ret
      exact ⟨by rw [HR.out]; rfl, rfl⟩
end Go.Proofs.YtoomnijgdpbphaaGreatDoor
