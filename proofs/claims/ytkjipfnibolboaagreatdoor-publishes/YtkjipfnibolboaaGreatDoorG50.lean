import Derived.Test.YtkjipfnibolboaaGreatDoorG47
import Derived.Test.YtkjipfnibolboaaGreatDoorG49

namespace Go.Proofs.YtkjipfnibolboaaGreatDoor
open Go.RowKit
set_option maxRecDepth 100000

theorem Inv.same {B : Nat} {w w' : World} {O : Nat → Prop} {wb n : Nat} (h : Inv B w O wb n) (hb : Below w.heap.size w w') (hB : B ≤ w.heap.size) : Inv B w' (Ext O w w') wb n := by
  obtain ⟨h0, hO, h⟩ := h
  refine ⟨.inl h0, bound_ext hB hO hb.size, ?_⟩
  rcases h with ⟨db, lv, ev, x, hw, hf⟩ | ⟨db, lv, ev, x, d, s, hf⟩
  · exact .inl ⟨db, lv, ev, x, (Turn.of_below (O := O) (T := []) hb).keep hw (by simp), hf⟩
  · exact .inr ⟨db, lv, ev, x, d, s, hf.below hb⟩
def faultD (d : Dk) (m : Int) (half once : Bool) : Dk := { d with failAt := wrap64 (d.calls + m), half := half, once := once, dead := false, hit := false }
theorem Full.fault {w w' : World} {O : Nat → Prop} {wb db : Nat} {lv ev : Value} {x : Wd} {d : Dk} {s : List Nat} {n : Nat} (h : Full w O wb db lv ev x d s n) (ht : Turn O dT1 w w') (m : Int) (half once : Bool) (hd : DiskAt w' O db (faultD d m half once)) : Full w' O wb db lv ev x (faultD d m half once) s n := by
  obtain ⟨h0, h1, -, h3, h4⟩ := h
  refine ⟨h0, ht.keep h1 (by decide), hd, num_same h3 rfl rfl rfl, ?_⟩
  rcases h4 with h | ⟨pb, lb, es, put, g1, g2, g3, g4, g5, g6, g7⟩
  · exact .inl h
  · exact .inr ⟨pb, lb, es, put, g1, g2, ht.keep g3 (by decide), g4.stay ht (by decide) (by decide) (by decide), ownsRow_turn g5 ht (by decide), g6, ⟨g7.short, g7.ins, g7.le, fun hf => ⟨⟨rfl, rfl⟩, (g7.there hf).2⟩⟩⟩
theorem Full.ext {w : World} {O : Nat → Prop} {wb db : Nat} {lv ev : Value} {x : Wd} {d : Dk} {s : List Nat} {n : Nat} (h : Full w O wb db lv ev x d s n) {O' : Nat → Prop} (hO : ∀ k, O k → O' k) : Full w O' wb db lv ev x d s n := by
  obtain ⟨h0, h1, h2, h3, h4⟩ := h
  refine ⟨h0, h1, h2.mono hO, h3, ?_⟩
  rcases h4 with h | ⟨pb, lb, es, put, g1, g2, g3, g4, g5, g6, g7⟩
  · exact .inl h
  · exact .inr ⟨pb, lb, es, put, g1, hO _ g2, g3, g4.mono hO, g5, fun g hg => hO g (g6 g hg), g7⟩
theorem Inv.wide {B : Nat} {w : World} {O O' : Nat → Prop} {wb n : Nat} (h : Inv B w O wb n) (hO : ∀ k, O k → O' k) (hB : ∀ k, O' k → B ≤ k ∧ k < w.heap.size) : Inv B w O' wb n := by
  obtain ⟨h0, -, h⟩ := h
  refine ⟨hO _ h0, hB, ?_⟩
  rcases h with h | ⟨db, lv, ev, x, d, s, hf⟩
  · exact .inl h
  · exact .inr ⟨db, lv, ev, x, d, s, hf.ext hO⟩
theorem fin_step {B : Nat} {w w0 w1 : World} {O : Nat → Prop} {wb n : Nat} (hb : Below w.heap.size w w0) (hO : ∀ k, O k → B ≤ k ∧ k < w.heap.size) (hB : B ≤ w.heap.size) (ht : Turn (Ext O w w0) aT w0 w1) (hi : Inv B w1 (Ext (Ext O w w0) w0 w1) wb n) : Turn O aT w w1 ∧ Inv B w1 (Ext O w w1) wb n :=
  ⟨(Turn.of_below hb).trans ht, hi.wide (Ext.trans hb.size ht.size) (bound_ext hB hO (Nat.le_trans hb.size ht.size))⟩
theorem lv_shape {w : World} {O : Nat → Prop} {db : Nat} {lv ev : Value} {x : Wd} {d : Dk} {s : List Nat} (h : Pub w O db lv ev x d s) : lv = .pointer none ∨ ∃ pb, lv = .pointer (some ⟨pb, 0, none⟩) := by
  rcases h with h | ⟨pb, _, _, _, h, -⟩
  · exact .inl h
  · exact .inr ⟨pb, h⟩

set_option maxHeartbeats 800000 in
theorem wstep_any (O : Nat → Prop) (W : World) (at_ : Nat → Addr) (hE : Env W) (hSN : Sents W at_) (hET : ETy W) (wb n : Nat) (w : World) (hW : Below W.heap.size W w) (hn : n ≤ 4100) (h : Inv W.heap.size w O wb n) (kind A : Int) (two : Bool) (t : List UInt8) (hA1 : -9223372036854775808 ≤ A) (hA2 : A ≤ 9223372036854775807) (ht : t.length ≤ 9223372036854775807) :
    Calls Tryz.prog 7 #[.pointer (some ⟨wb, 0, none⟩), .agg #[.int .i64 kind, .int .i64 A, .bool two, .string ⟨t.toArray⟩]] w fun r w' => r = .returned (.bool true) ∧ Turn O aT w w' ∧ Inv W.heap.size w' (Ext O w w') wb (n + 1) := by
  have HB0 : Hid (∀ o, Below w.heap.size w (w.alloc o)) := fun o => below_alloc w o
  have HSAME : Hid (∀ o, Inv W.heap.size (w.alloc o) (Ext O w (w.alloc o)) wb (n + 1)) := fun o => (h.same (below_alloc w o) hW.size).more (by omega)
  have HW := hide hW
  have HEE := hide hE
  have HSN := hide hSN
  have HET := hide hET
  obtain ⟨h0, hOW, h⟩ := h
  have HO := hide h0
  have HOW := hide hOW
  have HK0 : Hid (∀ o, (∀ k, Ext O w (w.alloc o) k → W.heap.size ≤ k ∧ k < (w.alloc o).heap.size) ∧ Below W.heap.size W (w.alloc o)) := fun o => ⟨bound_ext hW.size hOW (below_alloc w o).size, hW.trans ((below_alloc w o).mono hW.size)⟩
  clear hW hE hSN hET h0 hOW
  rcases h with ⟨db, lv, ev, x, hw, hf⟩ | ⟨db, lv, ev, x, d, s, hf⟩
  · obtain ⟨-, -, -, -, -, -, ⟨c6, -⟩⟩ := wall hw
    rw [hf] at c6
    have a6 : ∀ o, (w.alloc o).cell? ⟨wb, 6, none⟩ = some (.bool true) := fun o => by rw [cell_old _ _ ⟨wb, 6, none⟩ (cell_lt c6)]; exact c6
    clear hw hf c6
    go_enter Tryz.func7, Tryz.ntmps7
    go_wp2_with fail
    go_ret
    exact ⟨rfl, Turn.of_below (HB0.out _), HSAME.out _⟩
  · have HF : Hid (∀ o, Full (w.alloc o) (Ext O w (w.alloc o)) wb db lv ev x d s n) := fun o => hf.below (below_alloc w o)
    obtain ⟨hfg, hw, hd, -, hp⟩ := hf
    obtain ⟨⟨c0, -⟩, -, ⟨c2, -⟩, ⟨c3, -⟩, -, -, ⟨c6, -⟩⟩ := wall hw
    rw [hfg] at c6
    have HLV := hide (lv_shape hp)
    unfold dptr at c0
    have a0 : ∀ o, (w.alloc o).cell? ⟨wb, 0, none⟩ = some (.pointer (some ⟨db, 0, none⟩)) := fun o => by rw [cell_old _ _ ⟨wb, 0, none⟩ (cell_lt c0)]; exact c0
    have a2 : ∀ o, (w.alloc o).cell? ⟨wb, 2, none⟩ = some lv := fun o => by rw [cell_old _ _ ⟨wb, 2, none⟩ (cell_lt c2)]; exact c2
    have a3 : ∀ o, (w.alloc o).cell? ⟨wb, 3, none⟩ = some ev := fun o => by rw [cell_old _ _ ⟨wb, 3, none⟩ (cell_lt c3)]; exact c3
    have a6 : ∀ o, (w.alloc o).cell? ⟨wb, 6, none⟩ = some (.bool false) := fun o => by rw [cell_old _ _ ⟨wb, 6, none⟩ (cell_lt c6)]; exact c6
    have HP := hide hp
    clear hw hfg hd hp c0 c2 c3 c6
    by_cases hk1 : kind = 1
    · subst hk1
      go_enter Tryz.func7, Tryz.ntmps7
      go_wp2_with fail
      refine (wopen_any (Ext O w _) W at_ HEE.out HSN.out HET.out wb db lv ev x d s n _ (HK0.out _).1 (HK0.out _).2 (by omega) (.inl HO.out) (HF.out _)).mono ?_
      rintro r w1 ⟨rfl, ht1, hi1⟩
      have HFIN := hide (fin_step (HB0.out _) HOW.out HW.out.size ht1 (hi1.more (show n ≤ n + 1 by omega)))
      clear ht1 hi1
      go_wp2_with fail
      go_ret
      exact ⟨rfl, HFIN.out.1, HFIN.out.2⟩
    · have hq1 : (kind == 1) = false := by simpa using hk1
      by_cases hk5 : kind = 5
      · subst hk5
        clear hq1
        go_enter Tryz.func7, Tryz.ntmps7
        go_upto_region 7 with fail
        go_cut [] from 18 to 33 (fun wx => ∃ (m : Int) (half once : Bool), Turn (Ext O w (w.alloc (.cells #[.int .i64 5, .int .i64 A, .bool two, .string ⟨t.toArray⟩] 32))) dT1 (w.alloc (.cells #[.int .i64 5, .int .i64 A, .bool two, .string ⟨t.toArray⟩] 32)) wx ∧ DiskAt wx (Ext O w (w.alloc (.cells #[.int .i64 5, .int .i64 A, .bool two, .string ⟨t.toArray⟩] 32))) db (faultD d m half once))
        case first =>
          have HDX : Hid (DiskAt (w.alloc (.cells #[.int .i64 5, .int .i64 A, .bool two, .string ⟨t.toArray⟩] 32)) (Ext O w (w.alloc (.cells #[.int .i64 5, .int .i64 A, .bool two, .string ⟨t.toArray⟩] 32))) db d) := (HF.out _).2.2.1
          have hbx : (w.alloc (.cells #[.int .i64 5, .int .i64 A, .bool two, .string ⟨t.toArray⟩] 32)).heap[w.heap.size]? = some (.cells #[.int .i64 5, .int .i64 A, .bool two, .string ⟨t.toArray⟩] 32 (0, 0)) := heap_alloc_last _ _
          have hwx := (HF.out (.cells #[.int .i64 5, .int .i64 A, .bool two, .string ⟨t.toArray⟩] 32)).2.1
          have HBX := hide hbx
          have HWX := hide hwx
          have e0 := a0 (.cells #[.int .i64 5, .int .i64 A, .bool two, .string ⟨t.toArray⟩] 32)
          have e1 := (dcell hbx 1 _ rfl).1
          have e3 := (dcell hbx 3 _ rfl).1
          have HSX : Hid (∀ w1 T, Turn (Ext O w (w.alloc (.cells #[.int .i64 5, .int .i64 A, .bool two, .string ⟨t.toArray⟩] 32))) T (w.alloc (.cells #[.int .i64 5, .int .i64 A, .bool two, .string ⟨t.toArray⟩] 32)).drew w1 → T = dT1 → w1.cell? ⟨wb, 0, none⟩ = some (.pointer (some ⟨db, 0, none⟩)) ∧ w1.cell? ⟨w.heap.size, 1, none⟩ = some (.int .i64 A) ∧ w1.cell? ⟨w.heap.size, 3, none⟩ = some (.string ⟨t.toArray⟩)) := fun w1 T hT e => by
            subst e
            have h1 := hT.undrew.keep hwx (by decide)
            have h2 := hT.undrew.keep hbx (by decide)
            exact ⟨(dcell h1 0 _ rfl).1, (dcell h2 1 _ rfl).1, (dcell h2 3 _ rfl).1⟩
          clear HSAME HW HEE HSN HET HO HOW HK0 HF HLV HP HB0 a0 a2 a3 a6 hbx hwx HBX HWX
          generalize (w.alloc (.cells #[.int .i64 5, .int .i64 A, .bool two, .string ⟨t.toArray⟩] 32)) = wz at *
          generalize w.heap.size = ob at *
          go_region_held3 (fun X => X.cell? ⟨wb, 0, none⟩ = some (.pointer (some ⟨db, 0, none⟩)) ∧ X.cell? ⟨ob, 1, none⟩ = some (.int .i64 A) ∧ X.cell? ⟨ob, 3, none⟩ = some (.string ⟨t.toArray⟩)) (go_keep) (first
            | (go_at_call 13; refine (pick_any A 30 _ hA1 hA2 (by omega) (by omega)).mono ?_; rintro r w' ⟨⟨m, hm, rfl⟩, rfl⟩)
            | (go_at_call 12; refine (fault_any (Ext O w wz) db d _ (by exact HDX.out) _ _ _).mono ?_; rintro r w1 ⟨rfl, ht1, hd1⟩; obtain ⟨q0, q1, q3⟩ := HSX.out w1 _ ht1 rfl; have HT1 := hide ht1; have HD1 := hide hd1; clear ht1 hd1))
          all_goals go_wp2_with fail
          all_goals go_meet
          all_goals exact ⟨_, _, _, HT1.out.undrew, HD1.out⟩
        case rest =>
          obtain ⟨m, half, once, htc, hdc⟩ := hcut
          have hf1 := (HF.out _).fault htc m half once hdc
          have HF1 := hide hf1
          obtain ⟨-, -, ⟨b2, -⟩, -⟩ := wall hf1.2.1
          have hb0 := HB0.out (.cells #[.int .i64 5, .int .i64 A, .bool two, .string ⟨t.toArray⟩] 32)
          have hsz0 := hb0.size
          have hszc := htc.size
          have HOC : Hid (∀ k, Ext O w (w.alloc (.cells #[.int .i64 5, .int .i64 A, .bool two, .string ⟨t.toArray⟩] 32)) k → W.heap.size ≤ k ∧ k < wc.heap.size) := fun k hk => by
            have := (HK0.out _).1 k hk
            exact ⟨this.1, Nat.lt_of_lt_of_le this.2 hszc⟩
          have HWC : Hid (Below W.heap.size W wc) := (HK0.out _).2.trans (htc.below (fun k hk => ((HK0.out _).1 k hk).1) (HK0.out _).2.size)
          have HTC : Hid (Turn O aT w wc) := (Turn.of_below hb0).trans (htc.mono (fun _ h => h) (by decide))
          have HXC : Hid (∀ k, Ext O w (w.alloc (.cells #[.int .i64 5, .int .i64 A, .bool two, .string ⟨t.toArray⟩] 32)) k → Ext O w wc k) := fun k hk => Ext.more hszc k hk
          have HSC : Hid (w.heap.size ≤ wc.heap.size) := Nat.le_trans hsz0 hszc
          clear htc hdc hf1 hb0 hsz0 hszc a0 a2 a3 a6
          rcases HLV.out with rfl | ⟨pb, rfl⟩
          · go_wp2_with fail
            refine (wopens_any _ W at_ HEE.out HSN.out HET.out wb db ev x _ s n wc HOC.out HWC.out (by omega) (.inl HO.out) HF1.out ⟨rfl, rfl⟩).mono ?_
            rintro r w1 ⟨rfl, ht1, hi1⟩
            have HFT : Hid (Turn O aT w w1) := HTC.out.trans (ht1.mono (fun k hk => HXC.out k hk) (fun _ h => h))
            have HFI : Hid (Inv W.heap.size w1 (Ext O w w1) wb (n + 1)) := by
              refine (hi1.wide (fun k hk => ?_) (bound_ext HW.out.size HOW.out HFT.out.size)).more (by omega)
              rcases hk with hk | hk
              · exact Ext.more ht1.size k (HXC.out k hk)
              · exact .inr ⟨Nat.le_trans HSC.out hk.1, hk.2⟩
            clear ht1 hi1
            go_wp2_with fail
            go_ret
            exact ⟨rfl, HFT.out, HFI.out⟩
          · go_wp2_with fail
            go_ret
            exact ⟨rfl, HTC.out, (Inv.wide (B := W.heap.size) ⟨.inl HO.out, HOC.out, .inr ⟨_, _, _, _, _, _, HF1.out⟩⟩ HXC.out (bound_ext HW.out.size HOW.out HTC.out.size)).more (by omega)⟩
      · have hq5 : (kind == 5) = false := by simpa using hk5
        rcases HLV.out with rfl | ⟨pb, rfl⟩
        · go_enter Tryz.func7, Tryz.ntmps7
          go_wp2_with fail
          go_ret
          exact ⟨rfl, Turn.of_below (HB0.out _), HSAME.out _⟩
        · have hlv : Hid (Value.pointer (some (⟨pb, 0, none⟩ : Addr)) ≠ .pointer none) := fun h => by simp at h
          by_cases hk2 : kind = 2
          · subst hk2
            clear hq1 hq5
            go_enter Tryz.func7, Tryz.ntmps7
            go_wp2_with fail
            refine (wappend_any (Ext O w _) W at_ HSN.out wb db _ ev x d s n t _ (HK0.out _).1 (HK0.out _).2 (by omega) ht (.inl HO.out) (HF.out _) hlv.out).mono ?_
            rintro r w1 ⟨rfl, ht1, hi1⟩
            have HFIN := hide (fin_step (HB0.out _) HOW.out HW.out.size ht1 hi1)
            clear ht1 hi1
            go_wp2_with fail
            go_ret
            exact ⟨rfl, HFIN.out.1, HFIN.out.2⟩
          · have hq2 : (kind == 2) = false := by simpa using hk2
            by_cases hk3 : kind = 3
            · subst hk3
              clear hq1 hq5 hq2
              go_enter Tryz.func7, Tryz.ntmps7
              go_wp2_with fail
              refine (wpublish_any (Ext O w _) W at_ HEE.out HSN.out HET.out wb db _ ev x d s n _ (HK0.out _).1 (HK0.out _).2 hn (.inl HO.out) (HF.out _) hlv.out).mono ?_
              rintro r w1 ⟨rfl, ht1, hi1⟩
              have HFIN := hide (fin_step (HB0.out _) HOW.out HW.out.size ht1 hi1)
              clear ht1 hi1
              go_wp2_with fail
              go_ret
              exact ⟨rfl, HFIN.out.1, HFIN.out.2⟩
            · have hq3 : (kind == 3) = false := by simpa using hk3
              by_cases hk4 : kind = 4
              · subst hk4
                clear hq1 hq5 hq2 hq3
                obtain ⟨lb, es, put, hpl, hlog, hrow⟩ : ∃ lb es put, PlAt w pb lb ∧ LogAt w O db lb { key := x.key, es := es, put := put, live := !x.failed } ∧ w.ownsRow 0 9 1 ev es.length (es.map txv) := by
                  rcases HP.out with h | ⟨pb', lb, es, put, e, -, h3, h4, h5, -⟩
                  · simp at h
                  · obtain rfl : pb = pb' := by simpa using e
                    exact ⟨lb, es, put, h3, h4, h5⟩
                have HPL : Hid (∀ o, PlAt (w.alloc o) pb lb) := fun o => (Turn.of_below (O := O) (T := []) (below_alloc w o)).keep hpl (by simp)
                have HLOG : Hid (∀ o, LogAt (w.alloc o) O db lb { key := x.key, es := es, put := put, live := !x.failed }) := fun o => hlog.stay (Turn.of_below (O := O) (T := []) (below_alloc w o)) (by simp) (by simp) (by simp)
                obtain ⟨ea, ec, rfl⟩ := own_slice hrow
                clear hpl hlog hrow
                go_enter Tryz.func7, Tryz.ntmps7
                go_wp2_with fail
                refine (psize_any O db pb lb _ _ (HPL.out _) (HLOG.out _)).mono ?_
                rintro r w1 ⟨rfl, rfl⟩
                go_wp2_with fail
                go_ret
                exact ⟨by first | rfl | simp, Turn.of_below (HB0.out _), HSAME.out _⟩
              · have hq4 : (kind == 4) = false := by simpa using hk4
                go_enter Tryz.func7, Tryz.ntmps7
                go_wp2_with fail
                go_ret
                exact ⟨rfl, Turn.of_below (HB0.out _), HSAME.out _⟩
end Go.Proofs.YtkjipfnibolboaaGreatDoor

namespace Go.Proofs.YtkjipfnibolboaaGreatDoor
open Go.RowKit
set_option maxRecDepth 100000

/-- A step of a script, as plain data; a script in memory. -/
structure OpR where
  kind : Int
  a : Int
  two : Bool
  s : List UInt8
def Oss (w : World) (v : Value) (ops : List OpR) : Prop :=
  ∃ a cap, v = .slice a ops.length cap ∧ ops.length ≤ cap ∧ (ops = [] ∨ ∃ b off, a = some ⟨b, off, none⟩ ∧ ∀ i (h : i < ops.length), w.cell? ⟨b, off + i * 4, none⟩ = some (.int .i64 ops[i].kind) ∧ w.cell? ⟨b, off + i * 4 + 1, none⟩ = some (.int .i64 ops[i].a) ∧ w.cell? ⟨b, off + i * 4 + 2, none⟩ = some (.bool ops[i].two) ∧ w.cell? ⟨b, off + i * 4 + 3, none⟩ = some (txv ops[i].s))
theorem DiskAt.narrow {w : World} {O : Nat → Prop} {b : Nat} {d : Dk} (h : DiskAt w O b d) : DiskAt w (fun k => O k ∧ k < w.heap.size) b d := by
  obtain ⟨fv, a, hb, hf, hg⟩ := h
  exact ⟨fv, ⟨a, heap_some_lt hb⟩, hb, hf, fun g e => ⟨hg g e, (hf.lt g e).2⟩⟩
theorem inv_new {B b : Nat} {w : World} {O : Nat → Prop} {fs : Fs} {key : List UInt8} (hB : B ≤ b) (hO : ∀ k, O k → b ≤ k) (hOb : O b) (hk : key.length ≤ 1048577) (hn : fs.length ≤ 4096) (hl : ∀ f ∈ fs, f.2.length ≤ 1048576) (hw : WAt w b (b + 1) (.pointer none) (.slice none 0 0) { key := key, published := 0, failed := false, foreign := false }) (hd : DiskAt w O (b + 1) { dk0 with fs := newF [] fs }) :
    Inv B w (fun k => O k ∧ k < w.heap.size) b 0 := by
  refine ⟨⟨hOb, heap_some_lt hw⟩, fun k hk => ⟨Nat.le_trans hB (hO k hk.1), hk.2⟩, .inr ⟨_, _, _, _, _, (newF [] fs).map fun f => ixN f.1, rfl, hw, hd.narrow, ?_, .inl rfl⟩⟩
  have hlen := newF_len fs []
  refine ⟨newF_apart fs [] (by simp [Apart]), fun f hf => ?_, by simp at hlen ⊢; omega, among_start _, by simp at hlen ⊢; omega, hk, rfl⟩
  rcases newF_mem fs [] f hf with h | h
  · simp at h
  · exact hl f h
theorem ext_apart {OA OB : Nat → Prop} {w w' : World} (h : ∀ k, OA k → ¬ OB k) (hA : ∀ k, OA k → k < w.heap.size) : ∀ k, OA k → ¬ Ext OB w w' k := by
  rintro k hk (h' | h')
  · exact h k hk h'
  · have := hA k hk; omega
theorem ext_apart' {OA OB : Nat → Prop} {w w' : World} (h : ∀ k, OA k → ¬ OB k) (hB : ∀ k, OB k → k < w.heap.size) : ∀ k, Ext OA w w' k → ¬ OB k := by
  rintro k (h' | h') hk
  · exact h k h' hk
  · have := hB k hk; omega

set_option maxHeartbeats 2000000 in
theorem publishes_yes (W : World) (at_ : Nat → Addr) (hE : Env W) (hSN : Sents W at_) (hET : ETy W) (v sv : Value) (fs : Fs) (key : List UInt8) (ops : List OpR) (hfl : ∀ f ∈ fs, f.1.length ≤ 9223372036854775807 ∧ f.2.length ≤ 9223372036854775807) (hkl : key.length ≤ 9223372036854775807)
    (hol : ∀ o ∈ ops, -9223372036854775808 ≤ o.a ∧ o.a ≤ 9223372036854775807 ∧ o.s.length ≤ 9223372036854775807) (hf : Fss W v fs) (hs : Oss W sv ops) :
    Calls Tryz.prog 3 #[v, .string ⟨key.toArray⟩, sv] W fun r w' => r = .returned (.bool true) ∧ Below W.heap.size W w' := by
  have HF := hide hf
  have HS := hide hs
  have HEE := hide hE
  have HSN := hide hSN
  have HET := hide hET
  have HFL := hide hfl
  have HOL := hide hol
  obtain ⟨fa, fcap, rfl, -, -⟩ := hf
  obtain ⟨sa, scap, rfl, hsc, -⟩ := hs
  clear hE hSN hET hfl hol
  go_enter Tryz.func3, Tryz.ntmps3
  go_wp2_with fail
  refine (claimed_any _ fs sa ops.length scap W HFL.out HF.out).mono ?_
  rintro r w1 ⟨hb1, bb, rfl, hcl⟩
  have HB1 := hide hb1
  have HCL := hide hcl
  clear hb1 hcl
  cases bb with
  | false =>
    go_wp2_with fail
    go_ret
    exact ⟨rfl, HB1.out⟩
  | true =>
    obtain ⟨hf4, ho4, hfl4⟩ := HCL.out rfl
    have HFL4 := hide hfl4
    clear HCL hfl4
    by_cases hk4 : 1048576 < key.length
    · have hk4' : (1048576 : Int) < (key.length : Int) := by omega
      go_wp2_with fail
      go_ret
      exact ⟨rfl, HB1.out⟩
    · have hk4' : ¬ (1048576 : Int) < (key.length : Int) := by omega
      go_wp2_with fail
      refine (popenNone w1 at_ (sents_below HSN.out HB1.out)).mono ?_
      rintro r wt ⟨rfl, hb2⟩
      have HB2 : Hid (Below W.heap.size W (wt.alloc (.cells #[.int .i64 7, .string ⟨#[]⟩] 26))) := (HB1.out.trans (hb2.mono HB1.out.size)).alloc (Nat.le_trans HB1.out.size hb2.size) _
      clear hb2
      unfold told
      go_wp2_with fail
      generalize wt.alloc (.cells #[.int .i64 7, .string ⟨#[]⟩] 26) = w2 at *
      generalize wt.heap.size = wtb at *
      refine (world_any _ fs key w2 (by omega) (HF.out.below HB2.out)).mono ?_
      rintro r w3 ⟨rfl, hb3, hwa3, hd3⟩
      have HB3 : Hid (Below W.heap.size W w3) := HB2.out.trans (hb3.mono HB2.out.size)
      have HIA3 : Hid (Inv W.heap.size w3 (fun k => w2.heap.size ≤ k ∧ k < w3.heap.size) w2.heap.size 0) := inv_new HB2.out.size (fun _ h => h) (Nat.le_refl _) (by omega) hf4 (fun f hf => (HFL4.out f hf).2) hwa3 hd3
      have hsz23 : Hid (w2.heap.size ≤ w3.heap.size) := hb3.size
      clear hb3 hwa3 hd3
      have hkl2 : ¬ 9223372036854775807 < key.length + 1 := by omega
      go_wp2_with fail
      refine (world_any _ [] (key ++ [50]) w3 (by simp) ⟨none, 0, rfl, Nat.le_refl _, .inl rfl⟩).mono ?_
      rintro r w4 ⟨rfl, hb4, hwa4, hd4⟩
      have HB4 : Hid (Below W.heap.size W w4) := HB3.out.trans (hb4.mono HB3.out.size)
      have HIB4 : Hid (Inv W.heap.size w4 (fun k => w3.heap.size ≤ k ∧ k < w4.heap.size) w3.heap.size 0) := inv_new HB3.out.size (fun _ h => h) (Nat.le_refl _) (by simp; omega) (by simp) (fun f hf => by simp at hf) hwa4 hd4
      have HIA4 : Hid (Inv W.heap.size w4 (fun k => w2.heap.size ≤ k ∧ k < w3.heap.size) w2.heap.size 0) := HIA3.out.out (Turn.of_below (O := fun _ => False) hb4) (fun _ _ h => h)
      clear hb4 hwa4 hd4 HIA3
      generalize w2.heap.size = wa at *
      generalize w3.heap.size = wv at *
      go_wp2_with fail
      go_loopw [7, 12] (fun kv iv wr => ∃ (i : Nat) (OA OB : Nat → Prop), i ≤ ops.length ∧ iv = .int .i64 (i : Int) ∧ Below W.heap.size W wr ∧ Inv W.heap.size wr OA wa i ∧ Inv W.heap.size wr OB wv i ∧ ∀ k, OA k → ¬ OB k) (fun _ iv _ => ops.length - (intOf iv).toNat)
      case atStart => exact ⟨0, _, _, Nat.zero_le _, rfl, HB4.out, HIA4.out, HIB4.out, fun k h1 h2 => by omega⟩
      case round =>
        obtain ⟨i, OA, OB, hi, rfl, hbe, hia, hib, hdj⟩ := hrel
        clear HB4 HIA4 HIB4
        have HBE := hide hbe
        have HIA := hide hia
        have HIB := hide hib
        have HDJ := hide hdj
        have HOA : Hid (∀ k, OA k → W.heap.size ≤ k ∧ k < wr.heap.size) := hia.2.1
        have HOB : Hid (∀ k, OB k → W.heap.size ≤ k ∧ k < wr.heap.size) := hib.2.1
        clear hbe hia hib hdj
        by_cases hlt : i < ops.length
        · obtain ⟨a', cap', he, -, hx'⟩ := HS.out
          simp only [Value.slice.injEq] at he
          obtain ⟨rfl, -, rfl⟩ := he
          obtain ⟨b, off, rfl, hx⟩ : ∃ b off, sa = some ⟨b, off, none⟩ ∧ ∀ i (h : i < ops.length), W.cell? ⟨b, off + i * 4, none⟩ = some (.int .i64 ops[i].kind) ∧ W.cell? ⟨b, off + i * 4 + 1, none⟩ = some (.int .i64 ops[i].a) ∧ W.cell? ⟨b, off + i * 4 + 2, none⟩ = some (.bool ops[i].two) ∧ W.cell? ⟨b, off + i * 4 + 3, none⟩ = some (txv ops[i].s) := by
            rcases hx' with h | h
            · rw [h] at hlt; simp at hlt
            · exact h
          obtain ⟨y0, y1, y2, y3⟩ := hx i hlt
          have hol := HOL.out _ (List.getElem_mem hlt)
          have r0 : wr.cell? ⟨b, off + i * 4, none⟩ = some (.int .i64 ops[i].kind) := by rw [HBE.out.cell (p := ⟨b, _, none⟩) (cell_lt y0)]; exact y0
          have r1 : wr.cell? ⟨b, off + i * 4 + 1, none⟩ = some (.int .i64 ops[i].a) := by rw [HBE.out.cell (p := ⟨b, _, none⟩) (cell_lt y1)]; exact y1
          have r2 : wr.cell? ⟨b, off + i * 4 + 2, none⟩ = some (.bool ops[i].two) := by rw [HBE.out.cell (p := ⟨b, _, none⟩) (cell_lt y2)]; exact y2
          have r3 : wr.cell? ⟨b, off + i * 4 + 3, none⟩ = some (.string ⟨ops[i].s.toArray⟩) := by rw [HBE.out.cell (p := ⟨b, _, none⟩) (cell_lt y3)]; exact y3
          generalize ops[i] = o at *
          obtain ⟨kd, A, two, t⟩ := o
          simp only at r0 r1 r2 r3 hol
          have HHOL := hide hol
          clear hx hx' y0 y1 y2 y3 hol
          cases two with
          | true =>
            go_wp2_with fail
            refine (wstep_any OB W at_ HEE.out HSN.out HET.out wv i wr HBE.out (by omega) HIB.out kd A true t HHOL.out.1 HHOL.out.2.1 HHOL.out.2.2).mono ?_
            rintro r w5 ⟨rfl, ht5, hi5⟩
            have HB5 : Hid (Below W.heap.size W w5) := HBE.out.trans (ht5.below (fun k hk => (HOB.out k hk).1) HBE.out.size)
            have HIB5 := hide hi5
            have HIA5 := hide ((HIA.out.out ht5 HDJ.out).more (show i ≤ i + 1 by omega))
            have HDJ5 : Hid (∀ k, OA k → ¬ Ext OB wr w5 k) := ext_apart HDJ.out (fun k hk => (HOA.out k hk).2)
            clear ht5 hi5
            go_wp2_with fail
            go_roundw
            case rel => exact ⟨i + 1, _, _, by omega, by go_num, HB5.out, HIA5.out, HIB5.out, HDJ5.out⟩
            case measure => simp [intOf]; omega
          | false =>
            go_wp2_with fail
            refine (wstep_any OA W at_ HEE.out HSN.out HET.out wa i wr HBE.out (by omega) HIA.out kd A false t HHOL.out.1 HHOL.out.2.1 HHOL.out.2.2).mono ?_
            rintro r w5 ⟨rfl, ht5, hi5⟩
            have HB5 : Hid (Below W.heap.size W w5) := HBE.out.trans (ht5.below (fun k hk => (HOA.out k hk).1) HBE.out.size)
            have HIA5 := hide hi5
            have HIB5 := hide ((HIB.out.out ht5 (fun k hk hk' => HDJ.out k hk' hk)).more (show i ≤ i + 1 by omega))
            have HDJ5 : Hid (∀ k, Ext OA wr w5 k → ¬ OB k) := ext_apart' HDJ.out (fun k hk => (HOB.out k hk).2)
            clear ht5 hi5
            go_wp2_with fail
            go_roundw
            case rel => exact ⟨i + 1, _, _, by omega, by go_num, HB5.out, HIA5.out, HIB5.out, HDJ5.out⟩
            case measure => simp [intOf]; omega
        · go_wp2_with fail
          refine (wstep_any OB W at_ HEE.out HSN.out HET.out wv i wr HBE.out (by omega) HIB.out 1 0 false [] (by omega) (by omega) (by simp)).mono ?_
          rintro r w5 ⟨rfl, ht5, hi5⟩
          have HB5 : Hid (Below W.heap.size W w5) := HBE.out.trans (ht5.below (fun k hk => (HOB.out k hk).1) HBE.out.size)
          have HIA5 := hide (HIA.out.out ht5 HDJ.out)
          have HOA5 : Hid (∀ k, OA k → W.heap.size ≤ k) := fun k hk => (HOA.out k hk).1
          clear ht5 hi5
          go_wp2_with fail
          refine (wstep_any OA W at_ HEE.out HSN.out HET.out wa i w5 HB5.out (by omega) HIA5.out 1 0 false [] (by omega) (by omega) (by simp)).mono ?_
          rintro r w6 ⟨rfl, ht6, hi6⟩
          have HB6 : Hid (Below W.heap.size W w6) := HB5.out.trans (ht6.below HOA5.out HB5.out.size)
          clear ht6 hi6
          go_wp2_with fail
          go_ret
          exact ⟨rfl, HB6.out⟩
end Go.Proofs.YtkjipfnibolboaaGreatDoor
