import Derived.Test.YtoomnijgdpbphaaGreatDoorG44
import Derived.Test.YtoomnijgdpbphaaGreatDoorG46
import Derived.Test.YtoomnijgdpbphaaGreatDoorG23

namespace Go.Proofs.YtoomnijgdpbphaaGreatDoor
open Go.RowKit
set_option maxRecDepth 100000

theorem Inv.same {B : Nat} {w w' : World} {O : Nat → Prop} {wb n : Nat} (h : Inv B w O wb n) (hb : Below w.heap.size w w') (hB : B ≤ w.heap.size) : Inv B w' (Ext O w w') wb n := by
  obtain ⟨h0, hO, h⟩ := h
  refine ⟨.inl h0, bound_ext hB hO hb.size, ?_⟩
  rcases h with ⟨db, lv, ev, x, hw, hf⟩ | ⟨db, lv, ev, x, d, s, hf⟩
  · exact .inl ⟨db, lv, ev, x, (Turn.of_below (O := O) (T := []) hb).keep hw (by simp), hf⟩
  · exact .inr ⟨db, lv, ev, x, d, s, hf.below hb⟩
def faultD (d : Dk) (m : Int) (half once : Bool) : Dk := { d with failAt := wrap64 (d.calls + m), half := half, once := once, dead := false, hit := false }
theorem Full.fault {w w' : World} {O : Nat → Prop} {wb db : Nat} {lv ev : Value} {x : Wd} {d : Dk} {s : List Nat} {n : Nat} (h : Full w O wb db lv ev x d s n) (ht : Turn O dT1 w w') (m : Int) (half once : Bool) (hd : DiskAt w' O db (faultD d m half once)) : Full w' O wb db lv ev x (faultD d m half once) s n := by
  obtain ⟨h0, h1, -, h3, h4⟩ := h
  refine ⟨h0, ht.keep h1 (by decide), hd, num_same h3 rfl rfl rfl, ?_⟩
  rcases h4 with h | ⟨pb, lb, es, put, g1, g2, g3, g4, g5, g6, g7⟩
  · exact .inl h
  · exact .inr ⟨pb, lb, es, put, g1, g2, ht.keep g3 (by decide), g4.stay ht (by decide) (by decide) (by decide), ownsRow_turn g5 ht (by decide), g6, ⟨g7.short, g7.ins, g7.le, fun hf => ⟨⟨rfl, rfl⟩, (g7.there hf).2⟩⟩⟩
theorem Full.ext {w : World} {O : Nat → Prop} {wb db : Nat} {lv ev : Value} {x : Wd} {d : Dk} {s : List Nat} {n : Nat} (h : Full w O wb db lv ev x d s n) {O' : Nat → Prop} (hO : ∀ k, O k → O' k) : Full w O' wb db lv ev x d s n := by
  obtain ⟨h0, h1, h2, h3, h4⟩ := h
  refine ⟨h0, h1, h2.mono hO, h3, ?_⟩
  rcases h4 with h | ⟨pb, lb, es, put, g1, g2, g3, g4, g5, g6, g7⟩
  · exact .inl h
  · exact .inr ⟨pb, lb, es, put, g1, hO _ g2, g3, g4.mono hO, g5, fun g hg => hO g (g6 g hg), g7⟩
theorem Inv.wide {B : Nat} {w : World} {O O' : Nat → Prop} {wb n : Nat} (h : Inv B w O wb n) (hO : ∀ k, O k → O' k) (hB : ∀ k, O' k → B ≤ k ∧ k < w.heap.size) : Inv B w O' wb n := by
  obtain ⟨h0, -, h⟩ := h
  refine ⟨hO _ h0, hB, ?_⟩
  rcases h with h | ⟨db, lv, ev, x, d, s, hf⟩
  · exact .inl h
  · exact .inr ⟨db, lv, ev, x, d, s, hf.ext hO⟩
theorem fin_step {B : Nat} {w w0 w1 : World} {O : Nat → Prop} {wb n : Nat} (hb : Below w.heap.size w w0) (hO : ∀ k, O k → B ≤ k ∧ k < w.heap.size) (hB : B ≤ w.heap.size) (ht : Turn (Ext O w w0) aT w0 w1) (hi : Inv B w1 (Ext (Ext O w w0) w0 w1) wb n) : Turn O aT w w1 ∧ Inv B w1 (Ext O w w1) wb n :=
  ⟨(Turn.of_below hb).trans ht, hi.wide (Ext.trans hb.size ht.size) (bound_ext hB hO (Nat.le_trans hb.size ht.size))⟩
theorem lv_shape {w : World} {O : Nat → Prop} {db : Nat} {lv ev : Value} {x : Wd} {d : Dk} {s : List Nat} (h : Pub w O db lv ev x d s) : lv = .pointer none ∨ ∃ pb, lv = .pointer (some ⟨pb, 0, none⟩) := by
  rcases h with h | ⟨pb, _, _, _, h, -⟩
  · exact .inl h
  · exact .inr ⟨pb, h⟩

set_option maxHeartbeats 800000 in
theorem wstep_any (O : Nat → Prop) (W : World) (at_ : Nat → Addr) (hE : Env W) (hSN : Sents W at_) (hET : ETy W) (wb n : Nat) (w : World) (hW : Below W.heap.size W w) (hn : n ≤ 4100) (h : Inv W.heap.size w O wb n) (kind A : Int) (two : Bool) (t : List UInt8) (hA1 : -9223372036854775808 ≤ A) (hA2 : A ≤ 9223372036854775807) (ht : t.length ≤ 9223372036854775807) :
    Calls Tryz.prog 7 #[.pointer (some ⟨wb, 0, none⟩), .agg #[.int .i64 kind, .int .i64 A, .bool two, .string ⟨t.toArray⟩]] w fun r w' => r = .returned (.bool true) ∧ Turn O aT w w' ∧ Inv W.heap.size w' (Ext O w w') wb (n + 1) := by
  have HB0 : Hid (∀ o, Below w.heap.size w (w.alloc o)) := fun o => below_alloc w o
  have HSAME : Hid (∀ o, Inv W.heap.size (w.alloc o) (Ext O w (w.alloc o)) wb (n + 1)) := fun o => (h.same (below_alloc w o) hW.size).more (by omega)
  have HW := hide hW
  have HEE := hide hE
  have HSN := hide hSN
  have HET := hide hET
  obtain ⟨h0, hOW, h⟩ := h
  have HO := hide h0
  have HOW := hide hOW
  have HK0 : Hid (∀ o, (∀ k, Ext O w (w.alloc o) k → W.heap.size ≤ k ∧ k < (w.alloc o).heap.size) ∧ Below W.heap.size W (w.alloc o)) := fun o => ⟨bound_ext hW.size hOW (below_alloc w o).size, hW.trans ((below_alloc w o).mono hW.size)⟩
  clear hW hE hSN hET h0 hOW
  rcases h with ⟨db, lv, ev, x, hw, hf⟩ | ⟨db, lv, ev, x, d, s, hf⟩
  · obtain ⟨-, -, -, -, -, -, ⟨c6, -⟩⟩ := wall hw
    rw [hf] at c6
    have a6 : ∀ o, (w.alloc o).cell? ⟨wb, 6, none⟩ = some (.bool true) := fun o => by rw [cell_old _ _ ⟨wb, 6, none⟩ (cell_lt c6)]; exact c6
    clear hw hf c6
    go_enter Tryz.func7, Tryz.ntmps7
    go_wp2_with fail
    go_ret
    exact ⟨rfl, Turn.of_below (HB0.out _), HSAME.out _⟩
  · have HF : Hid (∀ o, Full (w.alloc o) (Ext O w (w.alloc o)) wb db lv ev x d s n) := fun o => hf.below (below_alloc w o)
    obtain ⟨hfg, hw, hd, -, hp⟩ := hf
    obtain ⟨⟨c0, -⟩, -, ⟨c2, -⟩, ⟨c3, -⟩, -, -, ⟨c6, -⟩⟩ := wall hw
    rw [hfg] at c6
    have HLV := hide (lv_shape hp)
    unfold dptr at c0
    have a0 : ∀ o, (w.alloc o).cell? ⟨wb, 0, none⟩ = some (.pointer (some ⟨db, 0, none⟩)) := fun o => by rw [cell_old _ _ ⟨wb, 0, none⟩ (cell_lt c0)]; exact c0
    have a2 : ∀ o, (w.alloc o).cell? ⟨wb, 2, none⟩ = some lv := fun o => by rw [cell_old _ _ ⟨wb, 2, none⟩ (cell_lt c2)]; exact c2
    have a3 : ∀ o, (w.alloc o).cell? ⟨wb, 3, none⟩ = some ev := fun o => by rw [cell_old _ _ ⟨wb, 3, none⟩ (cell_lt c3)]; exact c3
    have a6 : ∀ o, (w.alloc o).cell? ⟨wb, 6, none⟩ = some (.bool false) := fun o => by rw [cell_old _ _ ⟨wb, 6, none⟩ (cell_lt c6)]; exact c6
    have HP := hide hp
    clear hw hfg hd hp c0 c2 c3 c6
    by_cases hk1 : kind = 1
    · subst hk1
      go_enter Tryz.func7, Tryz.ntmps7
      go_wp2_with fail
      refine (wopen_any (Ext O w _) W at_ HEE.out HSN.out HET.out wb db lv ev x d s n _ (HK0.out _).1 (HK0.out _).2 (by omega) (.inl HO.out) (HF.out _)).mono ?_
      rintro r w1 ⟨rfl, ht1, hi1⟩
      have HFIN := hide (fin_step (HB0.out _) HOW.out HW.out.size ht1 (hi1.more (show n ≤ n + 1 by omega)))
      clear ht1 hi1
      go_wp2_with fail
      go_ret
      exact ⟨rfl, HFIN.out.1, HFIN.out.2⟩
    · have hq1 : (kind == 1) = false := by simpa using hk1
      by_cases hk5 : kind = 5
      · subst hk5
        clear hq1
        go_enter Tryz.func7, Tryz.ntmps7
        go_upto_region 7 with fail
        go_cut [] from 18 to 33 (fun wx => ∃ (m : Int) (half once : Bool), Turn (Ext O w (w.alloc (.cells #[.int .i64 5, .int .i64 A, .bool two, .string ⟨t.toArray⟩] 32))) dT1 (w.alloc (.cells #[.int .i64 5, .int .i64 A, .bool two, .string ⟨t.toArray⟩] 32)) wx ∧ DiskAt wx (Ext O w (w.alloc (.cells #[.int .i64 5, .int .i64 A, .bool two, .string ⟨t.toArray⟩] 32))) db (faultD d m half once))
        case first =>
          have HDX : Hid (DiskAt (w.alloc (.cells #[.int .i64 5, .int .i64 A, .bool two, .string ⟨t.toArray⟩] 32)) (Ext O w (w.alloc (.cells #[.int .i64 5, .int .i64 A, .bool two, .string ⟨t.toArray⟩] 32))) db d) := (HF.out _).2.2.1
          have hbx : (w.alloc (.cells #[.int .i64 5, .int .i64 A, .bool two, .string ⟨t.toArray⟩] 32)).heap[w.heap.size]? = some (.cells #[.int .i64 5, .int .i64 A, .bool two, .string ⟨t.toArray⟩] 32 (0, 0)) := heap_alloc_last _ _
          have hwx := (HF.out (.cells #[.int .i64 5, .int .i64 A, .bool two, .string ⟨t.toArray⟩] 32)).2.1
          have HBX := hide hbx
          have HWX := hide hwx
          have e0 := a0 (.cells #[.int .i64 5, .int .i64 A, .bool two, .string ⟨t.toArray⟩] 32)
          have e1 := (dcell hbx 1 _ rfl).1
          have e3 := (dcell hbx 3 _ rfl).1
          have HSX : Hid (∀ w1 T, Turn (Ext O w (w.alloc (.cells #[.int .i64 5, .int .i64 A, .bool two, .string ⟨t.toArray⟩] 32))) T (w.alloc (.cells #[.int .i64 5, .int .i64 A, .bool two, .string ⟨t.toArray⟩] 32)).drew w1 → T = dT1 → w1.cell? ⟨wb, 0, none⟩ = some (.pointer (some ⟨db, 0, none⟩)) ∧ w1.cell? ⟨w.heap.size, 1, none⟩ = some (.int .i64 A) ∧ w1.cell? ⟨w.heap.size, 3, none⟩ = some (.string ⟨t.toArray⟩)) := fun w1 T hT e => by
            subst e
            have h1 := hT.undrew.keep hwx (by decide)
            have h2 := hT.undrew.keep hbx (by decide)
            exact ⟨(dcell h1 0 _ rfl).1, (dcell h2 1 _ rfl).1, (dcell h2 3 _ rfl).1⟩
          clear HSAME HW HEE HSN HET HO HOW HK0 HF HLV HP HB0 a0 a2 a3 a6 hbx hwx HBX HWX
          generalize (w.alloc (.cells #[.int .i64 5, .int .i64 A, .bool two, .string ⟨t.toArray⟩] 32)) = wz at *
          generalize w.heap.size = ob at *
          go_region_held3 (fun X => X.cell? ⟨wb, 0, none⟩ = some (.pointer (some ⟨db, 0, none⟩)) ∧ X.cell? ⟨ob, 1, none⟩ = some (.int .i64 A) ∧ X.cell? ⟨ob, 3, none⟩ = some (.string ⟨t.toArray⟩)) (go_keep) (first
            | (go_at_call 13; refine (pick_any A 30 _ hA1 hA2 (by omega) (by omega)).mono ?_; rintro r w' ⟨⟨m, hm, rfl⟩, rfl⟩)
            | (go_at_call 12; refine (fault_any (Ext O w wz) db d _ (by exact HDX.out) _ _ _).mono ?_; rintro r w1 ⟨rfl, ht1, hd1⟩; obtain ⟨q0, q1, q3⟩ := HSX.out w1 _ ht1 rfl; have HT1 := hide ht1; have HD1 := hide hd1; clear ht1 hd1))
          all_goals go_wp2_with fail
          all_goals go_meet
          all_goals exact ⟨_, _, _, HT1.out.undrew, HD1.out⟩
        case rest =>
          obtain ⟨m, half, once, htc, hdc⟩ := hcut
          have hf1 := (HF.out _).fault htc m half once hdc
          have HF1 := hide hf1
          obtain ⟨-, -, ⟨b2, -⟩, -⟩ := wall hf1.2.1
          have hb0 := HB0.out (.cells #[.int .i64 5, .int .i64 A, .bool two, .string ⟨t.toArray⟩] 32)
          have hsz0 := hb0.size
          have hszc := htc.size
          have HOC : Hid (∀ k, Ext O w (w.alloc (.cells #[.int .i64 5, .int .i64 A, .bool two, .string ⟨t.toArray⟩] 32)) k → W.heap.size ≤ k ∧ k < wc.heap.size) := fun k hk => by
            have := (HK0.out _).1 k hk
            exact ⟨this.1, Nat.lt_of_lt_of_le this.2 hszc⟩
          have HWC : Hid (Below W.heap.size W wc) := (HK0.out _).2.trans (htc.below (fun k hk => ((HK0.out _).1 k hk).1) (HK0.out _).2.size)
          have HTC : Hid (Turn O aT w wc) := (Turn.of_below hb0).trans (htc.mono (fun _ h => h) (by decide))
          have HXC : Hid (∀ k, Ext O w (w.alloc (.cells #[.int .i64 5, .int .i64 A, .bool two, .string ⟨t.toArray⟩] 32)) k → Ext O w wc k) := fun k hk => Ext.more hszc k hk
          have HSC : Hid (w.heap.size ≤ wc.heap.size) := Nat.le_trans hsz0 hszc
          clear htc hdc hf1 hb0 hsz0 hszc a0 a2 a3 a6
          rcases HLV.out with rfl | ⟨pb, rfl⟩
          · go_wp2_with fail
            refine (wopens_any _ W at_ HEE.out HSN.out HET.out wb db ev x _ s n wc HOC.out HWC.out (by omega) (.inl HO.out) HF1.out ⟨rfl, rfl⟩).mono ?_
            rintro r w1 ⟨rfl, ht1, hi1⟩
            have HFT : Hid (Turn O aT w w1) := HTC.out.trans (ht1.mono (fun k hk => HXC.out k hk) (fun _ h => h))
            have HFI : Hid (Inv W.heap.size w1 (Ext O w w1) wb (n + 1)) := by
              refine (hi1.wide (fun k hk => ?_) (bound_ext HW.out.size HOW.out HFT.out.size)).more (by omega)
              rcases hk with hk | hk
              · exact Ext.more ht1.size k (HXC.out k hk)
              · exact .inr ⟨Nat.le_trans HSC.out hk.1, hk.2⟩
            clear ht1 hi1
            go_wp2_with fail
            go_ret
            exact ⟨rfl, HFT.out, HFI.out⟩
          · go_wp2_with fail
            go_ret
            exact ⟨rfl, HTC.out, (Inv.wide (B := W.heap.size) ⟨.inl HO.out, HOC.out, .inr ⟨_, _, _, _, _, _, HF1.out⟩⟩ HXC.out (bound_ext HW.out.size HOW.out HTC.out.size)).more (by omega)⟩
      · have hq5 : (kind == 5) = false := by simpa using hk5
        rcases HLV.out with rfl | ⟨pb, rfl⟩
        · go_enter Tryz.func7, Tryz.ntmps7
          go_wp2_with fail
          go_ret
          exact ⟨rfl, Turn.of_below (HB0.out _), HSAME.out _⟩
        · have hlv : Hid (Value.pointer (some (⟨pb, 0, none⟩ : Addr)) ≠ .pointer none) := fun h => by simp at h
          by_cases hk2 : kind = 2
          · subst hk2
            clear hq1 hq5
            go_enter Tryz.func7, Tryz.ntmps7
            go_wp2_with fail
            refine (wappend_any (Ext O w _) W at_ HSN.out wb db _ ev x d s n t _ (HK0.out _).1 (HK0.out _).2 (by omega) ht (.inl HO.out) (HF.out _) hlv.out).mono ?_
            rintro r w1 ⟨rfl, ht1, hi1⟩
            have HFIN := hide (fin_step (HB0.out _) HOW.out HW.out.size ht1 hi1)
            clear ht1 hi1
            go_wp2_with fail
            go_ret
            exact ⟨rfl, HFIN.out.1, HFIN.out.2⟩
          · have hq2 : (kind == 2) = false := by simpa using hk2
            by_cases hk3 : kind = 3
            · subst hk3
              clear hq1 hq5 hq2
              go_enter Tryz.func7, Tryz.ntmps7
              go_wp2_with fail
              refine (wpublish_any (Ext O w _) W at_ HEE.out HSN.out HET.out wb db _ ev x d s n _ (HK0.out _).1 (HK0.out _).2 hn (.inl HO.out) (HF.out _) hlv.out).mono ?_
              rintro r w1 ⟨rfl, ht1, hi1⟩
              have HFIN := hide (fin_step (HB0.out _) HOW.out HW.out.size ht1 hi1)
              clear ht1 hi1
              go_wp2_with fail
              go_ret
              exact ⟨rfl, HFIN.out.1, HFIN.out.2⟩
            · have hq3 : (kind == 3) = false := by simpa using hk3
              by_cases hk4 : kind = 4
              · subst hk4
                clear hq1 hq5 hq2 hq3
                obtain ⟨lb, es, put, hpl, hlog, hrow⟩ : ∃ lb es put, PlAt w pb lb ∧ LogAt w O db lb { key := x.key, es := es, put := put, live := !x.failed } ∧ w.ownsRow 0 9 1 ev es.length (es.map txv) := by
                  rcases HP.out with h | ⟨pb', lb, es, put, e, -, h3, h4, h5, -⟩
                  · simp at h
                  · obtain rfl : pb = pb' := by simpa using e
                    exact ⟨lb, es, put, h3, h4, h5⟩
                have HPL : Hid (∀ o, PlAt (w.alloc o) pb lb) := fun o => (Turn.of_below (O := O) (T := []) (below_alloc w o)).keep hpl (by simp)
                have HLOG : Hid (∀ o, LogAt (w.alloc o) O db lb { key := x.key, es := es, put := put, live := !x.failed }) := fun o => hlog.stay (Turn.of_below (O := O) (T := []) (below_alloc w o)) (by simp) (by simp) (by simp)
                obtain ⟨ea, ec, rfl⟩ := own_slice hrow
                clear hpl hlog hrow
                go_enter Tryz.func7, Tryz.ntmps7
                go_wp2_with fail
                refine (psize_any O db pb lb _ _ (HPL.out _) (HLOG.out _)).mono ?_
                rintro r w1 ⟨rfl, rfl⟩
                go_wp2_with fail
                go_ret
                exact ⟨by first | rfl | simp, Turn.of_below (HB0.out _), HSAME.out _⟩
              · have hq4 : (kind == 4) = false := by simpa using hk4
                go_enter Tryz.func7, Tryz.ntmps7
                go_wp2_with fail
                go_ret
                exact ⟨rfl, Turn.of_below (HB0.out _), HSAME.out _⟩
end Go.Proofs.YtoomnijgdpbphaaGreatDoor

namespace Go.Proofs.YtoomnijgdpbphaaGreatDoor
open Go.RowKit

/-- A step of a script, as plain data; a script in memory. -/
structure OpR where
  kind : Int
  a : Int
  two : Bool
  s : List UInt8
def Oss (w : World) (v : Value) (ops : List OpR) : Prop :=
  ∃ a cap, v = .slice a ops.length cap ∧ ops.length ≤ cap ∧ (ops = [] ∨ ∃ b off, a = some ⟨b, off, none⟩ ∧ ∀ i (h : i < ops.length), w.cell? ⟨b, off + i * 4, none⟩ = some (.int .i64 ops[i].kind) ∧ w.cell? ⟨b, off + i * 4 + 1, none⟩ = some (.int .i64 ops[i].a) ∧ w.cell? ⟨b, off + i * 4 + 2, none⟩ = some (.bool ops[i].two) ∧ w.cell? ⟨b, off + i * 4 + 3, none⟩ = some (txv ops[i].s))
end Go.Proofs.YtoomnijgdpbphaaGreatDoor
