import Derived.Test.YtoomnijgdpbphaaGreatDoorG30

namespace Go.Proofs.YtoomnijgdpbphaaGreatDoor
open Go.RowKit
set_option maxRecDepth 100000

set_option maxHeartbeats 1000000 in
theorem open_any (O : Nat → Prop) (W : World) (at_ : Nat → Addr) (hE : Env W) (hSN : Sents W at_) (hOW : ∀ k, O k → W.heap.size ≤ k) (db : Nat) (d : Dk) (key : List UInt8) (w : World) (hn : d.fs.length ≤ 1000000000) (hl : ∀ f ∈ d.fs, f.2.length ≤ 1048576) (hk : key.length ≤ 9223372036854775807) (hc : Calm d) (hW : Below W.heap.size W w) (h : DiskAt w O db d)
    (s : List Nat) (hs : Among (look d.fs) s) (hsl : s.length ≤ 100000) :
    Calls Tryz.prog 8 #[.iface 43 (dptr db), txv key] w fun r w' => ∃ (d' : Dk), Turn O rT w w' ∧ DiskAt w' (Ext O w w') db d' ∧ d'.fs = d.fs ∧ tk d' = tk d ∧
      ((d'.hit = true ∧ ∃ p e, r = .returned (.tuple #[.pointer none, e]) ∧ GotErr true p w.heap.size e w') ∨ (Calm d' ∧ ∃ (err : Int) (p : List UInt8) (es : List (List UInt8)) (m : Nat), OpenIs (look d.fs) key err p es m ∧
        ((err = 0 ∧ ∃ lb, r = .returned (.tuple #[.pointer (some ⟨lb, 0, none⟩), .nilIface]) ∧ w.heap.size ≤ lb ∧ LogAt w' (Ext O w w') db lb { key := key, es := es, put := 0, live := true }) ∨
         (err = 3 ∧ r = .returned (.tuple #[.pointer none, errS at_ 2])) ∨ (err = 5 ∧ r = .returned (.tuple #[.pointer none, errS at_ 4])) ∨
         (err = 6 ∧ ∃ g, r = .returned (.tuple #[.pointer none, pathE g]) ∧ w'.heap[g]? = some (.cells #[txv p, errS at_ 5] 64 (0, 0)))))) := by
  have HD := hide h
  have HL := hide hl
  have HS := hide hs
  have HW := hide hW
  have HC := hide hc
  have HO := hide hOW
  have hEE := hide hE
  have HSN := hide hSN
  clear hl h hW hc hOW hE hs hSN
  unfold dptr
  have htx : txv key = .string ⟨key.toArray⟩ := rfl
  rw [htx]
  go_enter Tryz.func8, Tryz.ntmps8
  go_wp2_with fail
  have HLG : Hid (LogAt (w.alloc (.cells #[.iface 43 (.pointer (some ⟨db, 0, none⟩)), .string ⟨key.toArray⟩, .slice none 0 0, .int .i64 0] 58)) (Ext O w (w.alloc (.cells #[.iface 43 (.pointer (some ⟨db, 0, none⟩)), .string ⟨key.toArray⟩, .slice none 0 0, .int .i64 0] 58))) db w.heap.size { key := key, es := [], put := 0, live := true }) :=
    ⟨.slice none 0 0, .inr ⟨Nat.le_refl _, by simp⟩, heap_alloc_last _ _, OBs.nil _ _, fun g e => by simp [Value.ownBlock] at e⟩
  have hT0 : Turn O rT w (w.alloc (.cells #[.iface 43 (.pointer (some ⟨db, 0, none⟩)), .string ⟨key.toArray⟩, .slice none 0 0, .int .i64 0] 58)) := (Turn.refl _ _ _).alloc _
  have hsz0 : w.heap.size ≤ (w.alloc (.cells #[.iface 43 (.pointer (some ⟨db, 0, none⟩)), .string ⟨key.toArray⟩, .slice none 0 0, .int .i64 0] 58)).heap.size := hT0.size
  have hTe : Turn O [] w (w.alloc (.cells #[.iface 43 (.pointer (some ⟨db, 0, none⟩)), .string ⟨key.toArray⟩, .slice none 0 0, .int .i64 0] 58)) := (Turn.refl _ _ _).alloc _
  generalize (w.alloc (.cells #[.iface 43 (.pointer (some ⟨db, 0, none⟩)), .string ⟨key.toArray⟩, .slice none 0 0, .int .i64 0] 58)) = w0 at *
  have HD0 : Hid (DiskAt w0 (Ext O w w0) db d) := (HD.out.stay hTe (by decide) (by decide)).mono (fun _ h => .inl h)
  have HO0 : Hid (∀ k, Ext O w w0 k → W.heap.size ≤ k) := Ext.base HO.out HW.out.size
  have HW0 : Hid (Below W.heap.size W w0) := HW.out.trans (hT0.below HO.out HW.out.size)
  have HT0 := hide hT0
  have hsz0' := hide hsz0
  clear hT0 hTe hsz0
  refine (rpub_any (Ext O w w0) W at_ hEE.out HSN.out HO0.out db w.heap.size d _ w0 hn HL.out hk HC.out HW0.out HD0.out HLG.out rfl rfl s HS.out hsl).mono ?_
  rintro r w1 ⟨d1, es1, ht1, hd1, hl1, hf1, hu1, hres⟩
  have HT1 : Hid (Turn O rT w w1) := HT0.out.trans ht1
  have hx1 : ∀ k, Ext (Ext O w w0) w0 w1 k → Ext O w w1 k := Ext.trans hsz0'.out ht1.size
  have HD1 : Hid (DiskAt w1 (Ext O w w1) db d1) := hd1.mono (fun k hk => Ext.more ht1.size _ hk)
  have HL1 := hide (hl1.mono hx1)
  have HF1 := hide (And.intro hf1 hu1)
  have HO1 : Hid (∀ k, Ext O w w1 k → W.heap.size ≤ k) := Ext.base HO.out HW.out.size
  have HW1 : Hid (Below W.heap.size W w1) := HW.out.trans (HT1.out.below HO.out HW.out.size)
  clear ht1 hd1 hl1 hf1 hu1 hx1
  rcases hres with ⟨hh, p, e, rfl, hge⟩ | ⟨hc1, hres⟩
  · have HH := hide hh
    have HGE := hide (hge.weaken hsz0'.out)
    obtain ⟨g, rfl⟩ : ∃ g, e = .iface 62 (.pointer (some ⟨g, 0, none⟩)) := by
      rcases gotErr_cases hge with ⟨h, -⟩ | ⟨-, h⟩
      · simp at h
      · exact h
    clear hh hge
    go_wp2_with fail
    go_ret2
    exact ⟨d1, HT1.out, HD1.out, HF1.out.1, HF1.out.2, .inl ⟨HH.out, p, _, rfl, HGE.out⟩⟩
  · have HC1 := hide hc1
    clear hc1
    rcases hres with ⟨rfl, n, R, hcp, hrd, hrt⟩ | ⟨rfl, hno⟩ | ⟨n, R, k, d0, g, hcp, hk4, hrd, hbu, rfl, hpe⟩ | ⟨rfl, n, R, hcp, hrd, hrt⟩
    · have HCP := hide hcp
      have HRD := hide hrd
      have HRT := hide hrt
      have hb0 := rdTo_bound HS.out hrd (by omega)
      have hl0 := rdTo_len hrd (by omega)
      have HJ : Hid (∀ j, 4 * j < es1.length → j ∈ s) := fun j hj => hb0.2 j (by omega)
      clear hcp hrd hrt hb0 hl0
      go_wp2_with fail
      refine (behind_any (Ext O w w1) W hEE.out HO1.out db w.heap.size d1 _ w1 (by rw [HF1.out.1]; exact hn) (by rw [HF1.out.1]; exact fun f hf => Nat.le_trans (HL.out f hf) (by omega)) HC1.out HW1.out HD1.out HL1.out rfl s (by rw [HF1.out.1]; exact HS.out) hsl HJ.out).mono ?_
      rintro r w2 ⟨d2, es2, ht2, hd2, hl2, hf2, hu2, hres2⟩
      have HT2 : Hid (Turn O rT w w2) := HT1.out.trans ht2
      have hx2 : ∀ k, Ext (Ext O w w1) w1 w2 k → Ext O w w2 k := Ext.trans HT1.out.size ht2.size
      have HD2 : Hid (DiskAt w2 (Ext O w w2) db d2) := hd2.mono (fun k hk => Ext.more ht2.size _ hk)
      have HL2 := hide (hl2.mono hx2)
      have HF2 : Hid (d2.fs = d.fs ∧ tk d2 = tk d) := ⟨hf2.trans HF1.out.1, hu2.trans HF1.out.2⟩
      rw [HF1.out.1] at hres2
      have hs12 := HT1.out.size
      clear ht2 hd2 hl2 hf2 hu2 hx2
      rcases hres2 with ⟨hh, p, e, rfl, hge⟩ | ⟨hc2, rfl, hbh⟩
      · have HH := hide hh
        have HGE := hide (hge.weaken hs12)
        obtain ⟨g, rfl⟩ : ∃ g, e = .iface 62 (.pointer (some ⟨g, 0, none⟩)) := by
          rcases gotErr_cases hge with ⟨h, -⟩ | ⟨-, h⟩
          · simp at h
          · exact h
        clear hh hge hs12
        go_wp2_with fail
        go_ret2
        exact ⟨d2, HT2.out, HD2.out, HF2.out.1, HF2.out.2, .inl ⟨HH.out, p, _, rfl, HGE.out⟩⟩
      · have HC2 := hide hc2
        have HBH := hide hbh
        clear hc2 hbh hs12
        go_wp2_with fail
        go_ret2
        exact ⟨d2, HT2.out, HD2.out, HF2.out.1, HF2.out.2, .inr ⟨HC2.out, 0, [], es2, n, .inr ⟨n, R, HCP.out, .inr ⟨es1, HRD.out, .inr ⟨HRT.out, HBH.out, rfl, rfl, rfl⟩⟩⟩, .inl ⟨rfl, _, rfl, Nat.le_refl _, HL2.out⟩⟩⟩
    · have HNO := hide hno
      clear hno
      unfold errS
      go_wp2_with fail
      go_ret2
      exact ⟨d1, HT1.out, HD1.out, HF1.out.1, HF1.out.2, .inr ⟨HC1.out, 3, [], [], 0, .inl ⟨HNO.out, rfl, rfl, rfl, rfl⟩, .inr (.inl ⟨rfl, rfl⟩)⟩⟩
    · have HH := hide (And.intro hcp (And.intro hk4 (And.intro hrd (And.intro hbu hpe))))
      clear hcp hk4 hrd hbu hpe
      unfold pathE
      go_wp2_with fail
      go_ret2
      exact ⟨d1, HT1.out, HD1.out, HF1.out.1, HF1.out.2, .inr ⟨HC1.out, 6, _, [], 0, .inr ⟨n, R, HH.out.1, .inl ⟨k, d0, HH.out.2.1, HH.out.2.2.1, HH.out.2.2.2.1, rfl, rfl, rfl, rfl⟩⟩, .inr (.inr (.inr ⟨rfl, g, rfl, HH.out.2.2.2.2⟩))⟩⟩
    · have HH := hide (And.intro hcp (And.intro hrd hrt))
      clear hcp hrd hrt
      unfold errS
      go_wp2_with fail
      go_ret2
      exact ⟨d1, HT1.out, HD1.out, HF1.out.1, HF1.out.2, .inr ⟨HC1.out, 5, [], [], 0, .inr ⟨n, R, HH.out.1, .inr ⟨es1, HH.out.2.1, .inl ⟨HH.out.2.2, rfl, rfl, rfl, rfl⟩⟩⟩, .inr (.inr (.inl ⟨rfl, rfl⟩))⟩⟩
set_option maxHeartbeats 400000 in
theorem open_nil (W : World) (at_ : Nat → Addr) (hSN : Sents W at_) (key : List UInt8) :
    Calls Tryz.prog 8 #[.nilIface, txv key] W fun r w' => r = .returned (.tuple #[.pointer none, errS at_ 6]) ∧ Below W.heap.size W w' := by
  have h6 := hSN.failed
  clear hSN
  unfold errS
  have htx : txv key = .string ⟨key.toArray⟩ := rfl
  rw [htx]
  go_enter Tryz.func8, Tryz.ntmps8
  go_wp2_with fail
  go_region
  all_goals go_wp2_with fail
  all_goals go_ret2
  all_goals exact ⟨rfl, (Below.refl _ _).drew⟩
end Go.Proofs.YtoomnijgdpbphaaGreatDoor

namespace Go.Proofs.YtoomnijgdpbphaaGreatDoor
open Go.RowKit
set_option maxRecDepth 100000

set_option maxHeartbeats 400000 in
theorem failed_any (O : Nat → Prop) (db lb : Nat) (l : Lg) (w : World) (h : LogAt w O db lb l) :
    Calls Tryz.prog 91 #[.pointer (some ⟨lb, 0, none⟩)] w fun r w' => r = .returned (.bool !l.live) ∧ w' = w := by
  obtain ⟨a, cap, hb, -⟩ := lok h
  obtain ⟨⟨c0, f0⟩, -⟩ := lall hb
  clear h hb
  cases hl : l.live with
  | true =>
    rw [hl] at c0
    unfold stV dptr at c0
    simp only [if_true] at c0
    clear hl
    go_enter Tryz.func91, Tryz.ntmps91
    go_wp2_with fail
    go_ret
    exact ⟨rfl, rfl⟩
  | false =>
    rw [hl] at c0
    unfold stV at c0
    simp only [Bool.false_eq_true, if_false] at c0
    clear hl
    go_enter Tryz.func91, Tryz.ntmps91
    go_wp2_with fail
    go_ret
    exact ⟨rfl, rfl⟩
set_option maxHeartbeats 400000 in
theorem size_any (O : Nat → Prop) (db lb : Nat) (l : Lg) (w : World) (h : LogAt w O db lb l) :
    Calls Tryz.prog 37 #[.pointer (some ⟨lb, 0, none⟩)] w fun r w' => r = .returned (.int .i64 (l.es.length : Int)) ∧ w' = w := by
  obtain ⟨a, cap, hb, -⟩ := lok h
  obtain ⟨-, -, ⟨c2, f2⟩, -⟩ := lall hb
  clear h hb
  go_enter Tryz.func37, Tryz.ntmps37
  go_wp2_with fail
  go_ret
  exact ⟨rfl, rfl⟩
set_option maxHeartbeats 400000 in
theorem bits_any (l : Int) (h1 : -1 ≤ l) (h2 : l ≤ 30) (w : World) :
    Calls Tryz.prog 128 #[.int .i64 l] w fun r w' => r = .returned (.int .i64 ((2 * l.toNat : Nat) : Int)) ∧ w' = w := by
  by_cases hl : l = -1
  · subst hl
    go_enter Tryz.func128, Tryz.ntmps128
    go_wp2_with fail
    go_ret
    exact ⟨rfl, rfl⟩
  · obtain ⟨k, rfl⟩ := Int.eq_ofNat_of_zero_le (show 0 ≤ l by omega)
    have hmx : max (k : Int) 0 = (k : Int) := by omega
    go_enter Tryz.func128, Tryz.ntmps128
    go_wp2_with fail
    go_ret
    exact ⟨congrArg (fun x => Ending.returned (.int .i64 x)) (by simp), rfl⟩
theorem pow_two_four (l : Int) : 2 ^ (2 * l.toNat) = 4 ^ l.toNat := by rw [Nat.pow_mul]
set_option maxHeartbeats 400000 in
theorem countAt_any (l : Int) (h1 : -1 ≤ l) (h2 : l ≤ 30) (n : Nat) (w : World) :
    Calls Tryz.prog 104 #[.int .i64 l, .int .i64 n] w fun r w' => r = .returned (.int .i64 ((cntL l n : Nat) : Int)) ∧ w' = w := by
  go_enter Tryz.func104, Tryz.ntmps104
  go_wp2_with fail
  refine (bits_any l h1 h2 w).mono ?_
  rintro r w1 ⟨rfl, rfl⟩
  have HP := hide (pow_two_four l)
  generalize hb : 2 * l.toNat = b at *
  have hb60 : b ≤ 60 := by omega
  clear hb
  go_wp2_with fail
  go_ret
  refine ⟨congrArg (fun x => Ending.returned (.int .i64 x)) ?_, rfl⟩
  show ((n : Int) / 2 ^ b) = ((cntL l n : Nat) : Int)
  unfold cntL
  rw [← HP.out]
  simp
set_option maxHeartbeats 400000 in
theorem firstOf_any (l : Int) (h1 : 0 ≤ l) (h2 : l ≤ 20) (n : Nat) (hn : n * 4 ^ l.toNat ≤ 1000000) (w : World) :
    Calls Tryz.prog 150 #[.int .i64 l, .int .i64 n] w fun r w' => r = .returned (.int .i64 ((n * 4 ^ l.toNat : Nat) : Int)) ∧ w' = w := by
  rw [← pow_two_four l] at hn ⊢
  go_enter Tryz.func150, Tryz.ntmps150
  go_wp2_with fail
  refine (bits_any l (by omega) (by omega) w).mono ?_
  rintro r w1 ⟨rfl, rfl⟩
  generalize hb : 2 * l.toNat = b at *
  have hb60 : b ≤ 60 := by omega
  have HBB := hide hb
  clear hb
  have hcast : ((n : Int) * 2 ^ b) = ((n * 2 ^ b : Nat) : Int) := by simp
  have h00 : (0 : Int) ≤ (n : Int) * 2 ^ b := by rw [hcast]; omega
  have h01 : (n : Int) * 2 ^ b ≤ 1000000 := by rw [hcast]; omega
  have HCA := hide hcast
  clear hcast
  go_wp2_with fail
  go_ret
  exact ⟨by rw [HBB.out]; exact congrArg (fun x => Ending.returned (.int .i64 x)) HCA.out, rfl⟩
end Go.Proofs.YtoomnijgdpbphaaGreatDoor
