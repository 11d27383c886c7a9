import Derived.Test.YtoomnijgdpbphaaGreatDoorG45

namespace Go.Proofs.YtoomnijgdpbphaaGreatDoor
open Go.RowKit
set_option maxRecDepth 100000

def mendD (d : Dk) : Dk := { d with failAt := 0, dead := false, hit := false }
theorem open_in {lk : Lk} {key p : List UInt8} {es : List (List UInt8)} {m : Nat} {s : List Nat} (h : OpenIs lk key 0 p es m) (hs : Among lk s) : (∀ e ∈ es, e.length ≤ 20) ∧ ∀ j, 4 * j < es.length → j ∈ s := by
  rcases h with ⟨-, h, -⟩ | ⟨n, R, hc, h⟩
  · simp at h
  · rcases h with ⟨k, d, -, -, -, h, -⟩ | ⟨d, hrd, h⟩
    · simp at h
    · rcases h with ⟨-, h, -⟩ | ⟨hr, ⟨k, h1, h2, rfl⟩, -⟩
      · simp at h
      · have hd : ∀ j, 4 * j < d.length → j ∈ s := fun j hj => by
          have hl := rdTo_len hrd (by omega)
          exact (rdTo_bound hs hrd (by omega)).2 j (by omega)
        refine ⟨?_, fun j hj => ?_⟩
        · have step : ∀ e : List (List UInt8), (∀ y ∈ e, y.length ≤ 20) → ∀ y ∈ (stepB lk e).1, y.length ≤ 20 := by
            intro e he y hy
            unfold stepB at hy
            split at hy
            · simp at hy
            · split at hy
              · simp at hy
              · rename_i b hb
                split at hy
                · exact bun20 hb y (List.mem_of_mem_drop hy)
                · simp at hy
          have all : ∀ k, ∀ y ∈ bhTo lk d k, y.length ≤ 20 := by
            intro k
            induction k with
            | zero => exact es20 hrd
            | succ k ih =>
              intro y hy
              rw [bhTo] at hy
              rcases List.mem_append.1 hy with hy | hy
              · exact ih y hy
              · exact step _ ih y hy
          exact all (k + 1)
        · refine bh_in hs hd h1 j ?_
          rw [bhTo, List.length_append] at hj
          exact hj

theorem wset4 {w : World} {wb db : Nat} {lv ev : Value} {x : Wd} (h : WAt w wb db lv ev x) (u e : Value) (m : Int) :
    WAt ((((w.setCell ⟨wb, 2, none⟩ u).setCell ⟨wb, 5, none⟩ (.bool false)).setCell ⟨wb, 3, none⟩ e).setCell ⟨wb, 4, none⟩ (.int .i64 m)) wb db u e { key := x.key, published := m, failed := false, foreign := x.foreign } ∧
    Turn (fun k => k = wb) [47] w ((((w.setCell ⟨wb, 2, none⟩ u).setCell ⟨wb, 5, none⟩ (.bool false)).setCell ⟨wb, 3, none⟩ e).setCell ⟨wb, 4, none⟩ (.int .i64 m)) := by
  have h1 := (wset h).1 u
  have h2 := (wset h1).2.2.2.1 false
  have h3 := (wset h2).2.1 e
  have h4 := (wset h3).2.2.1 m
  exact ⟨h4, (((((Turn.refl (fun k => k = wb) [47] w).set (.inl rfl) h (by simp) _).set (.inl rfl) h1 (by simp) _).set (.inl rfl) h2 (by simp) _).set (.inl rfl) h3 (by simp) _)⟩
theorem wset2 {w : World} {wb db : Nat} {lv ev : Value} {x : Wd} (h : WAt w wb db lv ev x) (u : Value) :
    WAt ((w.setCell ⟨wb, 2, none⟩ u).setCell ⟨wb, 5, none⟩ (.bool false)) wb db u ev { x with failed := false } ∧
    Turn (fun k => k = wb) [47] w ((w.setCell ⟨wb, 2, none⟩ u).setCell ⟨wb, 5, none⟩ (.bool false)) := by
  have h1 := (wset h).1 u
  have h2 := (wset h1).2.2.2.1 false
  exact ⟨h2, ((Turn.refl (fun k => k = wb) [47] w).set (.inl rfl) h (by simp) _).set (.inl rfl) h1 (by simp) _⟩

set_option maxHeartbeats 2000000 in
theorem wopen_any (O : Nat → Prop) (W : World) (at_ : Nat → Addr) (hE : Env W) (hSN : Sents W at_) (hET : ETy W) (wb db : Nat) (lv ev : Value) (x : Wd) (d : Dk) (s : List Nat) (n : Nat) (w : World) (hOW : ∀ k, O k → W.heap.size ≤ k ∧ k < w.heap.size) (hW : Below W.heap.size W w) (hn : n ≤ 4200) (hO : O wb) (h : Full w O wb db lv ev x d s n) :
    Calls Tryz.prog 11 #[.pointer (some ⟨wb, 0, none⟩)] w fun r w' => r = .returned (.bool true) ∧ Turn O aT w w' ∧ Inv W.heap.size w' (Ext O w w') wb n := by
  obtain ⟨hfg, hwa, hd, hnum, -⟩ := h
  have HNUM := hide hnum
  have HWA := hide hwa
  have HD := hide hd
  have HOW := hide hOW
  have HOB : Hid (∀ k, O k → W.heap.size ≤ k) := fun k hk => (hOW k hk).1
  have HW := hide hW
  have HEE := hide hE
  have HSN := hide hSN
  have HET := hide hET
  have HO := hide hO
  have HFG := hide hfg
  have hne := diskNe hwa hd
  have hcount : Hid (d.fs.length ≤ 800000000) := by have := hnum.count; show _ ≤ _; omega
  obtain ⟨⟨c0, -⟩, -⟩ := wall hwa
  unfold dptr at c0
  clear hwa hd hnum hOW hW hE hSN hET hO hfg
  go_enter Tryz.func11, Tryz.ntmps11
  go_wp2_with fail
  refine (mend_any O db d w HD.out).mono ?_
  rintro r w1 ⟨rfl, ht1, hd1⟩
  have HT1 := hide ht1
  have HWA1 : Hid (WAt w1 wb db lv ev x) := ht1.keep HWA.out (by decide)
  have HD1 : Hid (DiskAt w1 O db (mendD d)) := hd1
  obtain ⟨⟨d0, -⟩, -⟩ := wall HWA1.out
  have hd0 := d0
  unfold dptr at d0
  have HW1 : Hid (Below W.heap.size W w1) := HW.out.trans (ht1.below HOB.out HW.out.size)
  clear ht1 hd1 c0
  go_wp2_with fail
  refine (lfiles_any O db wb (mendD d) w1 (by have := hcount.out; show d.fs.length ≤ _; omega) HD1.out hd0).mono ?_
  rintro r w2 ⟨v2, fs2, rfl, hp2, hf2, hb2, -⟩
  have HP2 : Hid (fs2.Perm d.fs) := hp2
  have HF2 := hide hf2
  have HT2 : Hid (Turn O dT1 w w2) := HT1.out.then_below hb2
  have HWA2 : Hid (WAt w2 wb db lv ev x) := (Turn.of_below (O := O) (T := []) hb2).keep HWA1.out (by simp)
  have HD2 : Hid (DiskAt w2 O db (mendD d)) := HD1.out.stay (Turn.of_below (O := O) (T := []) hb2) (by simp) (by simp)
  have HW2 : Hid (Below W.heap.size W w2) := HW1.out.trans (hb2.mono HW1.out.size)
  obtain ⟨-, ⟨d1, -⟩, -⟩ := wall HWA2.out
  unfold txv at d1
  obtain ⟨va, vc, he, -⟩ := id hf2
  subst he
  clear hp2 hf2 hb2 d0 hd0 HT1 HD1 HWA1
  go_wp2_with fail
  refine (refOpened_any _ fs2 x.key w2 (by have := hcount.out; rw [HP2.out.length_eq]; omega) (perm_data HP2.out HNUM.out.data) (by have := HNUM.out.key; omega) HF2.out s (by rw [look_same HNUM.out.apart HP2.out]; exact HNUM.out.among) (by have := HNUM.out.small; omega)).mono ?_
  rintro r w3 ⟨hb3, ev3, err, p, es, m, ho3, rfl, hrow⟩
  rw [look_same HNUM.out.apart HP2.out] at ho3
  have HO3 := hide ho3
  have HROW := hide hrow
  obtain ⟨ea, ec, he⟩ := own_slice hrow
  subst he
  have HT3 : Hid (Turn O dT1 w w3) := HT2.out.then_below hb3
  have HWA3 : Hid (WAt w3 wb db lv ev x) := (Turn.of_below (O := O) (T := []) hb3).keep HWA2.out (by simp)
  have HD3 : Hid (DiskAt w3 O db (mendD d)) := HD2.out.stay (Turn.of_below (O := O) (T := []) hb3) (by simp) (by simp)
  have HW3 : Hid (Below W.heap.size W w3) := HW2.out.trans (hb3.mono HW2.out.size)
  have HF3 := hide (HF2.out.below hb3)
  obtain ⟨⟨e0, -⟩, ⟨e1, -⟩, -⟩ := wall HWA3.out
  unfold dptr at e0
  unfold txv at e1
  have hsz23 : Hid (w.heap.size ≤ w2.heap.size) := HT2.out.size
  clear ho3 hrow hb3 d1 HT2 HD2 HWA2 HF2
  have a0 : ∀ o, (w3.alloc o).cell? ⟨wb, 0, none⟩ = some (.pointer (some ⟨db, 0, none⟩)) := fun o => by rw [cell_old _ _ ⟨wb, 0, none⟩ (cell_lt e0)]; exact e0
  have a1 : ∀ o, (w3.alloc o).cell? ⟨wb, 1, none⟩ = some (.string ⟨x.key.toArray⟩) := fun o => by rw [cell_old _ _ ⟨wb, 1, none⟩ (cell_lt e1)]; exact e1
  have hE0 : Hid (Below w3.heap.size w3 w3.drew) := (Below.refl _ _).drew
  have hE1 : Hid (∀ o, Below w3.heap.size w3 (w3.alloc o).drew) := fun o => (below_alloc _ _).drew
  have HPO : Hid (∀ w', Below w3.heap.size w3 w' → Calls Tryz.prog 26 #[.pointer (some ⟨db, 0, none⟩), .string ⟨x.key.toArray⟩] w' fun r w'' => ∃ a e p, r = .returned (.tuple #[.pointer a, .agg #[.int .i64 e, .string ⟨p.toArray⟩]]) ∧ PO O db (mendD d) x.key w' w'' a e p) := fun w' hb => popen_po O W at_ HEE.out HSN.out HET.out HOB.out db (mendD d) x.key w' (by have := hcount.out; show d.fs.length ≤ _; omega) HNUM.out.data (by have := HNUM.out.key; omega) ⟨rfl, rfl⟩ (HW3.out.trans (hb.mono HW3.out.size)) (HD3.out.stay (Turn.of_below (O := O) (T := []) hb) (by simp) (by simp)) s HNUM.out.among (by have := HNUM.out.small; omega)
  go_upto_region 4 with fail
  go_cut [8, 9] from 30 to 41 (fun s8 s9 wx => ∃ (a : Option Addr) (e : Int) (q : List UInt8) (B : Nat), s8 = .pointer a ∧ s9 = .pointer (some ⟨B, 0, none⟩) ∧ w3.heap.size ≤ B ∧ wx.heap[B]? = some (.cells #[.int .i64 e, .string ⟨q.toArray⟩] 26 (0, 0)) ∧ PO O db (mendD d) x.key w3 wx a e q)
  case first =>
    clear HNUM HOW HOB HW HEE HSN HET HO HFG hcount HP2 HO3 HROW HT3 HW3 HD3 HF3 hsz23
    go_region_with (first
      | (go_at_call 26; refine (HPO.out w3.drew hE0.out).mono ?_; rintro r w4 ⟨a, e, q, rfl, hpo⟩; have HP := hide hpo; clear hpo)
      | (go_at_call 26; refine (HPO.out (w3.alloc (.cells #[.int .i64 0, .string ⟨#[]⟩] 26)).drew (hE1.out _)).mono ?_; rintro r w4 ⟨a, e, q, rfl, hpo⟩; have HP := hide hpo; have hnw : w4.heap[w3.heap.size]? = some (.cells #[.int .i64 0, .string ⟨#[]⟩] 26 (0, 0)) := (by obtain ⟨-, hpt, -⟩ := hpo; exact hpt.keep (heap_alloc_last w3 _) (by decide)); obtain ⟨x0, z0⟩ := dcell hnw 0 _ rfl; obtain ⟨x1, z1⟩ := dcell hnw 1 _ rfl; have HNW := hide hnw; clear hnw hpo))
    all_goals go_wp2_with fail
    all_goals go_meet
    all_goals first
      | (have hN := HNW.out; exact ⟨a, e, q, w3.heap.size, rfl, rfl, Nat.le_refl _, told_end hN e q rfl, HP.out.sets (hE1.out _) hN _ _⟩)
      | exact ⟨a, e, q, w4.heap.size, rfl, rfl, (by obtain ⟨-, hpt, -⟩ := HP.out; exact hpt.size), heap_alloc_last _ _, HP.out.after hE0.out _⟩
  case rest =>
  obtain ⟨pa, err', p', B, rfl, rfl, hB3, hBT, hpo⟩ := hcut
  obtain ⟨d', ht4, hd4, hfs4, htk, hres⟩ := hpo
  clear a0 a1 hE0 hE1 HPO
  have hhit : d'.hit = false := tk_calm htk rfl rfl
  have HTU : Hid (d'.turned = false) := (tk_turned htk).trans HNUM.out.turned
  have HFS4 : Hid (d'.fs = d.fs) := hfs4
  have htu : d'.turned = d.turned := tk_turned (e := mendD d) htk
  have HNM : Hid (Num n { key := x.key, published := (m : Int), failed := false, foreign := x.foreign } d' s ∧ Num n { x with failed := false } d' s) := ⟨num_same HNUM.out rfl hfs4 htu, num_same HNUM.out rfl hfs4 htu⟩
  have HT4 : Hid (Turn O aT w wc) := (HT3.out.mono (fun _ h => h) (by decide)).trans (ht4.mono (fun _ h => .inl h) (by decide))
  have HWA4 : Hid (WAt wc wb db lv ev x) := ht4.keep HWA3.out (by decide)
  have HD4 := hide hd4
  have HBT := hide hBT
  have HROW4 : Hid (wc.ownsRow w2.heap.size 9 1 (.slice ea es.length ec) es.length (es.map txv)) := ownsRow_turn HROW.out ht4 (by decide)
  have hsz34 : Hid (w3.heap.size ≤ wc.heap.size) := ht4.size
  have hsz03 : Hid (w.heap.size ≤ w3.heap.size) := HT3.out.size
  have hneB : ¬ B = wb := by have := heap_some_lt HWA3.out; omega
  obtain ⟨⟨g0, -⟩, -⟩ := wall HWA4.out
  clear ht4 hd4 hfs4 htk htu e0 e1 HT3 HD3 HWA3 HROW HF3 hBT hB3
  rcases hres with ⟨hh, -⟩ | ⟨hcalm, es', m', ho', hres⟩
  · rw [hhit] at hh; simp at hh
  obtain ⟨rfl, rfl, rfl, rfl⟩ := HO3.out.unique ho'
  have HCALM := hide hcalm
  have hf4 : ∀ k, Ext O w3 wc k → Ext O w wc k := fun k hk => by
    rcases hk with hk | hk
    · exact .inl hk
    · exact .inr ⟨by have := hsz03.out; omega, hk.2⟩
  have HX4 := hide hf4
  clear ho' hcalm hhit hf4
  rcases hres with ⟨rfl, pb, lb, rfl, hpb, hpl, hlog⟩ | ⟨herr, rfl⟩
  · have HPL := hide hpl
    have HLOG := hide hlog
    have HPB := hide hpb
    clear hpl hlog hpb
    go_wp2_with fail
    refine (lfiles_any (Ext O w3 wc) db wb d' wc (by have := hcount.out; rw [HFS4.out]; omega) HD4.out g0).mono ?_
    rintro r w5 ⟨v5, fs5, rfl, hp5, hf5, hb5, -⟩
    obtain ⟨n0, -⟩ := dcell ((Turn.of_below (O := O) (T := []) hb5).keep HBT.out (by simp)) 0 _ rfl
    obtain ⟨n1, -⟩ := dcell ((Turn.of_below (O := O) (T := []) hb5).keep HBT.out (by simp)) 1 _ rfl
    have HP5 : Hid (fs5.Perm d.fs) := by rw [← HFS4.out]; exact hp5
    obtain ⟨v5a, v5c, he, -⟩ := id hf5
    subst he
    have hl2 : fs2.length = d.fs.length := HP2.out.length_eq
    have hl5 : fs5.length = d.fs.length := HP5.out.length_eq
    rw [hl2, hl5]
    have HT5 : Hid (Turn O aT w w5) := HT4.out.then_below hb5
    have hT45 : Turn O [] wc w5 := .of_below hb5
    have HWA5 : Hid (WAt w5 wb db lv ev x) := hT45.keep HWA4.out (by simp)
    have HD5 : Hid (DiskAt w5 (Ext O w wc) db d') := (HD4.out.stay hT45 (by simp) (by simp)).mono HX4.out
    have HPL5 : Hid (PlAt w5 pb lb) := hT45.keep HPL.out (by simp)
    have HLOG5 := hide ((HLOG.out.stay hT45 (by simp) (by simp) (by simp)).mono HX4.out)
    have HROW5 := hide (ownsRow_turn HROW4.out hT45 (by simp))
    have hsz45 : Hid (wc.heap.size ≤ w5.heap.size) := hb5.size
    have HWS := hide (wset4 HWA5.out (.pointer (some ⟨pb, 0, none⟩)) (.slice ea es.length ec) (m : Int))
    obtain ⟨⟨k0, -⟩, ⟨k1, -⟩, ⟨k2, f2⟩, ⟨k3, f3⟩, ⟨k4, f4⟩, ⟨k5, f5⟩, -⟩ := wall HWA5.out
    obtain ⟨fv, -, hdb, -⟩ := id HD5.out
    obtain ⟨-, -, -, -, -, -, -, ⟨t7, -⟩⟩ := dall hdb
    rw [HTU.out] at t7
    have HPL9 := hide (HWS.out.2.keep HPL5.out (by decide))
    have HLOG9 := hide (HLOG5.out.stay HWS.out.2 (by decide) (by decide) (by decide))
    unfold dptr at k0
    clear hp5 hf5 hb5 hl2 hl5 hT45 hdb g0 HWA4 HBT HD4 HPL HLOG HROW4 HT4
    generalize d.fs.length = N at *
    go_wp2_with fail
    refine (psize_any _ db pb lb _ _ (by exact HPL9.out) (by exact HLOG9.out)).mono ?_
    rintro r w9 ⟨rfl, rfl⟩
    go_wp2_with fail
    go_ret
    have hws := HWS.out
    have hOP := open_in HO3.out HNUM.out.among
    have hsz9 : ∀ (W1 : World) a1 a2 a3 a4 u1 u2 u3 u4, (((((W1.setCell a1 u1).setCell a2 u2).setCell a3 u3).setCell a4 u4)).heap.size = W1.heap.size := fun W1 a1 a2 a3 a4 u1 u2 u3 u4 => by simp [World.setCell]
    have hx9 : ∀ (W1 : World) a1 a2 a3 a4 u1 u2 u3 u4, W1.heap.size = w5.heap.size → ∀ k, Ext O w wc k → Ext O w (((((W1.setCell a1 u1).setCell a2 u2).setCell a3 u3).setCell a4 u4)) k := fun W1 a1 a2 a3 a4 u1 u2 u3 u4 e k hk => by
      rcases hk with hk | hk
      · exact .inl hk
      · exact .inr ⟨hk.1, by rw [hsz9, e]; have := hsz45.out; omega⟩
    refine ⟨by first | rfl | simp, HT5.out.trans (hws.2.mono (fun k hk => .inl (by rw [hk]; exact HO.out)) (by decide)), .inl HO.out, fun k hk => ?_, .inr ⟨db, _, _, { key := x.key, published := (m : Int), failed := false, foreign := x.foreign }, d', s, HFG.out, hws.1, (HD5.out.stay hws.2 (by decide) (by decide)).mono (hx9 _ _ _ _ _ _ _ _ _ rfl), HNM.out.1, .inr ⟨pb, lb, es, 0, rfl, ?_, HPL9.out, HLOG9.out.mono (hx9 _ _ _ _ _ _ _ _ _ rfl), ownsRow_turn (owns_lower HROW5.out (Nat.zero_le _)) hws.2 (by decide), fun g hg => ?_, ⟨hOP.1, hOP.2, Nat.zero_le _, fun _ => ⟨HCALM.out, fun f hf => absurd hf (by rw [List.take_zero]; exact want_nil)⟩⟩⟩⟩⟩
    · rw [hsz9]
      rcases hk with hk | hk
      · exact ⟨(HOW.out k hk).1, Nat.lt_of_lt_of_le (HOW.out k hk).2 HT5.out.size⟩
      · rw [hsz9] at hk
        exact ⟨Nat.le_trans HW.out.size hk.1, hk.2⟩
    · refine .inr ⟨by have := HPB.out; have := hsz03.out; omega, ?_⟩
      rw [hsz9]
      exact heap_some_lt HPL5.out
    · have := HROW5.out.lt g hg
      refine .inr ⟨by have := hsz23.out; omega, ?_⟩
      rw [hsz9]
      exact this.2
  · have hq : (err == 0) = false := by simpa using herr
    have hq' : ¬ err = 0 := herr
    go_wp2_with fail
    refine (lfiles_any (Ext O w3 wc) db wb d' wc (by have := hcount.out; rw [HFS4.out]; omega) HD4.out g0).mono ?_
    rintro r w5 ⟨v5, fs5, rfl, hp5, hf5, hb5, -⟩
    obtain ⟨n0, -⟩ := dcell ((Turn.of_below (O := O) (T := []) hb5).keep HBT.out (by simp)) 0 _ rfl
    obtain ⟨n1, -⟩ := dcell ((Turn.of_below (O := O) (T := []) hb5).keep HBT.out (by simp)) 1 _ rfl
    have HP5 : Hid (fs5.Perm d.fs) := by rw [← HFS4.out]; exact hp5
    obtain ⟨v5a, v5c, he, -⟩ := id hf5
    subst he
    have hl2 : fs2.length = d.fs.length := HP2.out.length_eq
    have hl5 : fs5.length = d.fs.length := HP5.out.length_eq
    rw [hl2, hl5]
    have HT5 : Hid (Turn O aT w w5) := HT4.out.then_below hb5
    have hT45 : Turn O [] wc w5 := .of_below hb5
    have HWA5 : Hid (WAt w5 wb db lv ev x) := hT45.keep HWA4.out (by simp)
    have HD5 : Hid (DiskAt w5 (Ext O w wc) db d') := (HD4.out.stay hT45 (by simp) (by simp)).mono HX4.out
    have hsz45 : Hid (wc.heap.size ≤ w5.heap.size) := hb5.size
    have HWS := hide (wset2 HWA5.out (.pointer none))
    obtain ⟨⟨k0, -⟩, ⟨k1, -⟩, ⟨k2, f2⟩, ⟨k3, f3⟩, ⟨k4, f4⟩, ⟨k5, f5⟩, -⟩ := wall HWA5.out
    unfold dptr at k0
    clear hp5 hf5 hb5 hl2 hl5 hT45 g0 HWA4 HBT HD4 HROW4 HT4
    generalize d.fs.length = N at *
    go_wp2_with fail
    go_ret
    have hws := HWS.out
    have hsz9 : ∀ (W1 : World) a1 a2 u1 u2, ((W1.setCell a1 u1).setCell a2 u2).heap.size = W1.heap.size := fun W1 a1 a2 u1 u2 => by simp [World.setCell]
    refine ⟨by first | rfl | simp, HT5.out.trans (hws.2.mono (fun k hk => .inl (by rw [hk]; exact HO.out)) (by decide)), .inl HO.out, fun k hk => ?_, .inr ⟨db, _, _, { x with failed := false }, d', s, HFG.out, hws.1, (HD5.out.stay hws.2 (by decide) (by decide)).mono (fun k hk => ?_), HNM.out.2, .inl rfl⟩⟩
    · rw [hsz9]
      rcases hk with hk | hk
      · exact ⟨(HOW.out k hk).1, Nat.lt_of_lt_of_le (HOW.out k hk).2 HT5.out.size⟩
      · rw [hsz9] at hk
        exact ⟨Nat.le_trans HW.out.size hk.1, hk.2⟩
    · rcases hk with hk | hk
      · exact .inl hk
      · exact .inr ⟨hk.1, by rw [hsz9]; have := hsz45.out; omega⟩
end Go.Proofs.YtoomnijgdpbphaaGreatDoor

namespace Go.Proofs.YtoomnijgdpbphaaGreatDoor
open Go.RowKit
set_option maxRecDepth 100000

set_option maxHeartbeats 2000000 in
theorem wopens_any (O : Nat → Prop) (W : World) (at_ : Nat → Addr) (hE : Env W) (hSN : Sents W at_) (hET : ETy W) (wb db : Nat) (ev : Value) (x : Wd) (d : Dk) (s : List Nat) (n : Nat) (w : World) (hOW : ∀ k, O k → W.heap.size ≤ k ∧ k < w.heap.size) (hW : Below W.heap.size W w) (hn : n ≤ 4200) (hO : O wb) (h : Full w O wb db (.pointer none) ev x d s n) (hc : Calm d) :
    Calls Tryz.prog 14 #[.pointer (some ⟨wb, 0, none⟩)] w fun r w' => r = .returned (.bool true) ∧ Turn O aT w w' ∧ Inv W.heap.size w' (Ext O w w') wb n := by
  obtain ⟨hfg, hwa, hd, hnum, -⟩ := h
  have HNUM := hide hnum
  have HWA := hide hwa
  have HD := hide hd
  have HOW := hide hOW
  have HOB : Hid (∀ k, O k → W.heap.size ≤ k) := fun k hk => (hOW k hk).1
  have HW := hide hW
  have HEE := hide hE
  have HSN := hide hSN
  have HET := hide hET
  have HO := hide hO
  have HFG := hide hfg
  have HCM := hide hc
  have hcount : Hid (d.fs.length ≤ 800000000) := by have := hnum.count; show _ ≤ _; omega
  obtain ⟨⟨c0, -⟩, -⟩ := wall hwa
  have hc0 := c0
  unfold dptr at c0
  clear hwa hd hnum hOW hW hE hSN hET hO hfg hc
  go_enter Tryz.func14, Tryz.ntmps14
  go_wp2_with fail
  refine (lfiles_any O db wb d w (by have := hcount.out; omega) HD.out hc0).mono ?_
  rintro r w2 ⟨v2, fs2, rfl, hp2, hf2, hb2, -⟩
  have HP2 := hide hp2
  have HWA2 : Hid (WAt w2 wb db (.pointer none) ev x) := (Turn.of_below (O := O) (T := []) hb2).keep HWA.out (by simp)
  have HD2 : Hid (DiskAt w2 O db d) := HD.out.stay (Turn.of_below (O := O) (T := []) hb2) (by simp) (by simp)
  have HW2 : Hid (Below W.heap.size W w2) := HW.out.trans (hb2.mono HW.out.size)
  have HT2 : Hid (Turn O aT w w2) := Turn.of_below hb2
  obtain ⟨⟨d0, -⟩, ⟨d1, -⟩, -⟩ := wall HWA2.out
  unfold dptr at d0
  unfold txv at d1
  obtain ⟨va, vc, he, -⟩ := id hf2
  subst he
  clear hp2 hf2 hb2 c0 hc0 HD HWA
  have a0 : ∀ o, (w2.alloc o).cell? ⟨wb, 0, none⟩ = some (.pointer (some ⟨db, 0, none⟩)) := fun o => by rw [cell_old _ _ ⟨wb, 0, none⟩ (cell_lt d0)]; exact d0
  have a1 : ∀ o, (w2.alloc o).cell? ⟨wb, 1, none⟩ = some (.string ⟨x.key.toArray⟩) := fun o => by rw [cell_old _ _ ⟨wb, 1, none⟩ (cell_lt d1)]; exact d1
  have hE0 : Hid (Below w2.heap.size w2 w2.drew) := (Below.refl _ _).drew
  have hE1 : Hid (∀ o, Below w2.heap.size w2 (w2.alloc o).drew) := fun o => (below_alloc _ _).drew
  have HPO : Hid (∀ w', Below w2.heap.size w2 w' → Calls Tryz.prog 26 #[.pointer (some ⟨db, 0, none⟩), .string ⟨x.key.toArray⟩] w' fun r w'' => ∃ a e p, r = .returned (.tuple #[.pointer a, .agg #[.int .i64 e, .string ⟨p.toArray⟩]]) ∧ PO O db d x.key w' w'' a e p) := fun w' hb => popen_po O W at_ HEE.out HSN.out HET.out HOB.out db d x.key w' (by have := hcount.out; omega) HNUM.out.data (by have := HNUM.out.key; omega) HCM.out (HW2.out.trans (hb.mono HW2.out.size)) (HD2.out.stay (Turn.of_below (O := O) (T := []) hb) (by simp) (by simp)) s HNUM.out.among (by have := HNUM.out.small; omega)
  go_upto_region 2 with fail
  go_cut [4, 5] from 10 to 21 (fun s8 s9 wx => ∃ (a : Option Addr) (e : Int) (q : List UInt8) (B : Nat), s8 = .pointer a ∧ s9 = .pointer (some ⟨B, 0, none⟩) ∧ w2.heap.size ≤ B ∧ wx.heap[B]? = some (.cells #[.int .i64 e, .string ⟨q.toArray⟩] 26 (0, 0)) ∧ PO O db d x.key w2 wx a e q)
  case first =>
    clear HNUM HOW HOB HW HEE HSN HET HO HFG hcount HP2 HW2 HD2 HT2 HCM
    go_region_with (first
      | (go_at_call 26; refine (HPO.out w2.drew hE0.out).mono ?_; rintro r w4 ⟨a, e, q, rfl, hpo⟩; have HP := hide hpo; clear hpo)
      | (go_at_call 26; refine (HPO.out (w2.alloc (.cells #[.int .i64 0, .string ⟨#[]⟩] 26)).drew (hE1.out _)).mono ?_; rintro r w4 ⟨a, e, q, rfl, hpo⟩; have HP := hide hpo; have hnw : w4.heap[w2.heap.size]? = some (.cells #[.int .i64 0, .string ⟨#[]⟩] 26 (0, 0)) := (by obtain ⟨-, hpt, -⟩ := hpo; exact hpt.keep (heap_alloc_last w2 _) (by decide)); obtain ⟨x0, z0⟩ := dcell hnw 0 _ rfl; obtain ⟨x1, z1⟩ := dcell hnw 1 _ rfl; have HNW := hide hnw; clear hnw hpo))
    all_goals go_wp2_with fail
    all_goals go_meet
    all_goals first
      | (have hN := HNW.out; exact ⟨a, e, q, w2.heap.size, rfl, rfl, Nat.le_refl _, told_end hN e q rfl, HP.out.sets (hE1.out _) hN _ _⟩)
      | exact ⟨a, e, q, w4.heap.size, rfl, rfl, (by obtain ⟨-, hpt, -⟩ := HP.out; exact hpt.size), heap_alloc_last _ _, HP.out.after hE0.out _⟩
  case rest =>
  obtain ⟨lv', err', p', B, rfl, rfl, hB3, hBT, hpo⟩ := hcut
  obtain ⟨d', ht4, hd4, hfs4, htk, hres⟩ := hpo
  clear a0 a1 hE0 hE1 HPO
  have htu : d'.turned = d.turned := tk_turned htk
  have HFS4 := hide hfs4
  have HNM : Hid (Num n x d' s) := num_same HNUM.out rfl hfs4 htu
  have HT4 : Hid (Turn O aT w wc) := HT2.out.trans (ht4.mono (fun _ h => .inl h) (by decide))
  have HWA4 : Hid (WAt wc wb db (.pointer none) ev x) := ht4.keep HWA2.out (by decide)
  have HD4 := hide hd4
  have HBT := hide hBT
  have hsz02 : Hid (w.heap.size ≤ w2.heap.size) := HT2.out.size
  obtain ⟨⟨g0, -⟩, -⟩ := wall HWA4.out
  have hg0 := g0
  unfold dptr at g0
  have HCS : Hid ((d'.hit = true ∧ lv' = none ∧ err' = 8) ∨ d'.hit = false) := by
    rcases hres with h | ⟨hcalm, -⟩
    · exact .inl h
    · exact .inr hcalm.2
  clear ht4 hd4 hfs4 htk htu hres d0 d1 hBT hB3
  go_wp2_with fail
  refine (hit_any (Ext O w2 wc) db d' wc HD4.out).mono ?_
  rintro r w4' ⟨rfl, hw4⟩
  obtain rfl := hw4.symm
  go_wp2_with fail
  refine (lfiles_any (Ext O w2 wc) db wb d' wc (by have := hcount.out; rw [HFS4.out]; omega) HD4.out hg0).mono ?_
  rintro r w5 ⟨v5, fs5, rfl, hp5, hf5, hb5, -⟩
  obtain ⟨n0, -⟩ := dcell ((Turn.of_below (O := O) (T := []) hb5).keep HBT.out (by simp)) 0 _ rfl
  obtain ⟨v5a, v5c, he, -⟩ := id hf5
  subst he
  have hl2 : fs2.length = d.fs.length := HP2.out.length_eq
  have hl5 : fs5.length = d.fs.length := by rw [hp5.length_eq, HFS4.out]
  rw [hl2, hl5]
  have HT5 : Hid (Turn O aT w w5) := HT4.out.then_below hb5
  have hT45 : Turn O [] wc w5 := .of_below hb5
  have HWA5 : Hid (WAt w5 wb db (.pointer none) ev x) := hT45.keep HWA4.out (by simp)
  have HFIN : Hid (Inv W.heap.size w5 (Ext O w w5) wb n) := by
    refine ⟨.inl HO.out, fun k hk => ?_, .inr ⟨db, _, _, _, d', s, HFG.out, HWA5.out, (HD4.out.stay hT45 (by simp) (by simp)).mono (fun k hk => ?_), HNM.out, .inl rfl⟩⟩
    · rcases hk with hk | hk
      · exact ⟨(HOW.out k hk).1, Nat.lt_of_lt_of_le (HOW.out k hk).2 HT5.out.size⟩
      · exact ⟨Nat.le_trans HW.out.size hk.1, hk.2⟩
    · rcases hk with hk | hk
      · exact .inl hk
      · exact .inr ⟨by have := hsz02.out; omega, Nat.lt_of_lt_of_le hk.2 hb5.size⟩
  clear hp5 hf5 hb5 hl2 hl5 hT45 g0 hg0 HBT HWA4 HD4 HT4 HWA5
  generalize d.fs.length = N at *
  rcases HCS.out with ⟨hh, rfl, rfl⟩ | hh
  · rw [hh]
    go_wp2_with fail
    go_ret
    exact ⟨by first | rfl | simp, HT5.out, HFIN.out⟩
  · rw [hh]
    go_wp2_with fail
    go_ret
    exact ⟨by first | rfl | simp, HT5.out, HFIN.out⟩
end Go.Proofs.YtoomnijgdpbphaaGreatDoor
