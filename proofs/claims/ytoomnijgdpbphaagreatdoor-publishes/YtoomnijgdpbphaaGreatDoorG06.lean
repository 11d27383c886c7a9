import Derived.Test.YtoomnijgdpbphaaGreatDoorG04
import Derived.Test.YtoomnijgdpbphaaGreatDoorG05
import Derived.Defers
import Derived.Recover
import Derived.Test.YtoomnijgdpbphaaGreatDoorG01

namespace Go.Proofs.YtoomnijgdpbphaaGreatDoor
open Go.RowKit
set_option maxRecDepth 100000

def errV (g : Nat) : Value := .iface 61 (.pointer (some ⟨g, 0, none⟩))
def ErrAt (w : World) (g : Nat) : Prop := ∃ c, w.heap[g]? = some (.cells #[.int .i64 c] 253 (0, 0))
/-- No error, or one of the store's own. -/
def OwnRes (e : Bool) (B : Nat) (r : Value) (w : World) : Prop := (e = false ∧ r = .nilIface) ∨ (e = true ∧ ∃ g, r = errV g ∧ B ≤ g ∧ ErrAt w g)
theorem bell_drewN (w : World) (n : Nat) : Below w.heap.size w (w.drewN n) := ⟨rfl, rfl, rfl, Nat.le_refl _, fun _ _ => rfl⟩
theorem ext_box {w w' : World} {O : Nat → Prop} {b : Nat} {d : Dk} (h : DiskAt w' (Ext O w w') b d) (o : Obj) : DiskAt (w'.alloc o) (Ext O w (w'.alloc o)) b d :=
  (h.stay (T := []) (O1 := fun _ => False) (.of_below (below_alloc w' o)) (by simp) (by simp)).mono (Ext.more (by simp))
theorem Bq.of_eb {w : World} {B n cap : Nat} {a : Addr} {l : List UInt8} (h : EB w B (.slice (some a) n cap) l) (hc : l.length ≤ cap) : Bq w (.slice (some a) n cap) l := by
  obtain ⟨g, cap', C, fr, e, -, hg, hx, -⟩ := h
  have e' : cap = cap' := by simp at e; exact e.2.2
  exact ⟨g, cap', C, fr, e, by omega, hg, hx⟩
theorem bq_conv (w : World) (y : List UInt8) (cap : Nat) (hcap : y.length ≤ cap) : Bq (w.alloc (.cells (bytesRow ⟨y.toArray⟩ cap) 5 ((bytesRow ⟨y.toArray⟩ cap).size, (bytesRow ⟨y.toArray⟩ cap).size + 1))) (.slice (some ⟨w.heap.size, 0, none⟩) y.length cap) y := by
  have h := EB.conv w ⟨y.toArray⟩ 0 cap (Nat.zero_le _)
  simp only at h
  exact Bq.of_eb h hcap
theorem Turn.dT_of1 {O : Nat → Prop} {w w' : World} (h : Turn O dT1 w w') : Turn O dT w w' := h.mono (fun _ h => h) (fun t ht => by simp at ht; simp [ht])

set_option maxHeartbeats 2000000 in
theorem put_any (O : Nat → Prop) (b : Nat) (d : Dk) (p x : List UInt8) (v : Value) (w : World) (hn : d.fs.length ≤ 1000000000) (h : DiskAt w O b d) (hv : Bq w v x) :
    Calls Tryz.prog 183 #[dptr b, txv p, v] w fun r w' => ∃ e, r = .returned e ∧ OwnRes (putE d p x) w.heap.size e w' ∧ Turn O dT w w' ∧ DiskAt w' (Ext O w w') b (putD d p x) := by
  have HV := hide hv
  have HD := hide h
  clear h hv
  unfold dptr
  have htx : ∀ q, txv q = .string ⟨q.toArray⟩ := fun _ => rfl
  rw [htx]
  go_enter Tryz.func183, Tryz.ntmps183
  go_wp2_with fail
  refine (enter_any O b d w HD.out).mono ?_
  rintro e w1 ⟨rfl, t1, d1⟩
  have hfs := enterD_fs d
  go_wp2_with fail
  refine (find_any O b (enterD d) p w1 (by rw [hfs]; exact hn) d1).mono ?_
  rintro e w2 ⟨rfl, hb2⟩
  rw [hfs]
  have HT : Hid (Turn O dT1 w w2) := t1.then_below hb2
  have HD2 := hide (d1.stay (O1 := fun _ => False) (T := []) (.of_below hb2) (by simp) (by simp))
  have HV2 := hide ((HV.out.turn t1 (by decide)).below hb2)
  have hcv : ∀ n, (convert 89 9 v).run Tryz.prog (w2.drewN n) = .ok (.string ⟨x.toArray⟩) (w2.drewN n) := fun n => Bq.conv (w := w2.drewN n) HV2.out
  have HK := hide (enterK_le d)
  clear t1 d1 hb2 HV HD htx hfs
  cases e : ixF d.fs p with
  | some k =>
    have he : ixI d.fs p = k := by unfold ixI; rw [e]
    rw [he]
    obtain ⟨hk, hkp, hlk, -⟩ := ixF_some e
    obtain ⟨fv, hO, hb, hf, hg⟩ := HD2.out
    obtain ⟨⟨c0, f0⟩, ⟨c1, f1⟩, -, -, -, -, -, ⟨c7, f7⟩⟩ := dall hb
    rcases files_in hf with ⟨a, cap, rfl, h0 | ⟨g, rfl, cur, hgg, hcap, hcs, hx⟩⟩
    · rw [enterD_fs] at h0; omega
    rw [enterD_fs] at c0 hcap
    have y1 : w2.cell? ⟨g, k * 2 + 1, none⟩ = some (.string ⟨d.fs[k].2.toArray⟩) := by
      rw [cell_of_row _ _ _ _ _ _ hgg]
      have := (hx k (by rw [enterD_fs]; exact hk)).2
      simp only [enterD_fs] at this
      exact this
    have HB := hide hb
    have HF := hide hf
    have HG := hide hg
    clear hx hgg hb hf hg e he hkp hcs
    by_cases hxy : d.fs[k].2 = x
    · have hE : Hid (putE d p x = decide (0 < enterK d) ∧ putD d p x = if enterK d < 2 then { enterD d with fs := setF d.fs p x } else enterD d) := by
        unfold putE putD
        rw [hlk]
        simp only [if_pos hxy]
        exact ⟨trivial, trivial⟩
      have q1 : (d.fs[k].2 == x) = true := by simp [hxy]
      clear hxy hlk HB HF HG
      generalize d.fs[k].2 = y at *
      go_wp2_with fail
      go_quiet (fail)
      have HD3 : Hid (DiskAt (w2.drewN nq) O b (enterD d)) := HD2.out.stay (O1 := fun _ => False) (T := []) (.of_below (bell_drewN _ _)) (by simp) (by simp)
      have HV3 : Hid (Bq (w2.drewN nq) v x) := HV2.out.below (bell_drewN _ _)
      have HT3 : Hid (Turn O dT w (w2.drewN nq)) := (HT.out.drewN nq).dT_of1
      clear HD2 HV2 HT hcv c0 f0 c1 f1 c7 f7 y1
      have h012 : enterK d = 0 ∨ enterK d = 1 ∨ enterK d = 2 := by have := HK.out; omega
      generalize w2.drewN nq = w3 at *
      rcases h012 with hK | hK | hK
      · rw [hK]
        have HKK := hide hK
        clear hK
        go_wp2_with fail
        refine (set_any O b (enterD d) p x v w3 (by rw [enterD_fs]; exact hn) HD3.out HV3.out).mono ?_
        rintro e w4 ⟨rfl, t4, d4⟩
        have HT4 := hide (HT3.out.trans (t4.mono (fun _ h => .inl h) (fun _ h => h)))
        have HD4 := hide (d4.mono (O' := Ext O w w4) (fun k hk => by rcases hk with h | h; exact .inl h; exact .inr ⟨by have := HT3.out.size; omega, h.2⟩))
        clear t4 d4
        go_wp2_with fail
        go_ret
        refine ⟨_, rfl, .inl ⟨by rw [hE.out.1, HKK.out]; rfl, rfl⟩, HT4.out, ?_⟩
        rw [hE.out.2, HKK.out, if_pos (by omega)]
        rw [enterD_fs] at HD4
        exact HD4.out
      · rw [hK]
        have HKK := hide hK
        clear hK
        go_wp2_with fail
        refine (set_any O b (enterD d) p x v w3 (by rw [enterD_fs]; exact hn) HD3.out HV3.out).mono ?_
        rintro e w4 ⟨rfl, t4, d4⟩
        have HT4 := hide (HT3.out.trans (t4.mono (fun _ h => .inl h) (fun _ h => h)))
        have HD4 := hide (d4.mono (O' := Ext O w w4) (fun k hk => by rcases hk with h | h; exact .inl h; exact .inr ⟨by have := HT3.out.size; omega, h.2⟩))
        clear t4 d4
        obtain ⟨fv', hO', hb', -, -⟩ := HD4.out
        obtain ⟨-, ⟨z1, z1'⟩, -⟩ := dall hb'
        clear hb'
        go_wp2_with fail
        go_ret
        refine ⟨_, rfl, .inr ⟨by rw [hE.out.1, HKK.out]; rfl, _, rfl, HT4.out.size, _, heap_alloc_last _ _⟩, HT4.out.alloc _, ?_⟩
        rw [hE.out.2, HKK.out, if_pos (by omega)]
        rw [enterD_fs] at HD4
        exact ext_box HD4.out _
      · rw [hK]
        have HKK := hide hK
        clear hK
        have HD4 : Hid (DiskAt w3 (Ext O w w3) b (enterD d)) := HD3.out.mono (fun _ h => .inl h)
        obtain ⟨fv', hO', hb', -, -⟩ := HD4.out
        obtain ⟨-, ⟨z1, z1'⟩, -⟩ := dall hb'
        clear hb'
        go_wp2_with fail
        go_ret
        refine ⟨_, rfl, .inr ⟨by rw [hE.out.1, HKK.out]; rfl, _, rfl, HT3.out.size, _, heap_alloc_last _ _⟩, HT3.out.alloc _, ?_⟩
        rw [hE.out.2, HKK.out, if_neg (by omega)]
        exact ext_box HD4.out _
    · have hE : Hid (putE d p x = true ∧ putD d p x = { enterD d with turned := true }) := by
        unfold putE putD
        rw [hlk]
        simp only [if_neg hxy]
        exact ⟨trivial, trivial⟩
      have q1 : (d.fs[k].2 == x) = false := by simp [hxy]
      clear hxy hlk
      generalize d.fs[k].2 = y at *
      go_wp2_with fail
      go_quiet (fail)
      go_wp2_with fail
      go_ret
      have t2 := ((HT.out.drewN nq).set (o := 7) (.inl hO) (show (w2.drewN nq).heap[b]? = _ from HB.out) (by decide) (.bool true))
      have h2 := dset (show (w2.drewN nq).heap[b]? = _ from HB.out) 7 (.bool true)
      have d2 : DiskAt ((w2.drewN nq).setCell ⟨b, 7, none⟩ (.bool true)) (Ext O w ((w2.drewN nq).setCell ⟨b, 7, none⟩ (.bool true))) b { enterD d with turned := true } :=
        DiskAt.turn (w := w2) (d := enterD d) (fun _ h => .inl h) hO HF.out HG.out ((Turn.refl O dT1 w2).drewN nq |>.set (.inl hO) (show (w2.drewN nq).heap[b]? = _ from HB.out) (by decide) _) h2 rfl
      refine ⟨_, rfl, ?_, (t2.alloc _).dT_of1, ?_⟩
      · rw [hE.out.1]
        refine .inr ⟨rfl, _, rfl, HT.out.size, (enterD d).calls, ?_⟩
        rw [show w2.heap.size = ((w2.drewN nq).setCell ⟨b, 7, none⟩ (.bool true)).heap.size by simp [World.setCell, World.drewN]]
        exact heap_alloc_last _ _
      · rw [hE.out.2]
        exact ext_box d2 _
  | none =>
    have he : ixI d.fs p = -1 := by unfold ixI; rw [e]
    rw [he]
    have hE : Hid (putE d p x = decide (0 < enterK d) ∧ putD d p x = if enterK d < 2 then { enterD d with fs := setF d.fs p x } else enterD d) := by
      unfold putE putD
      rw [(ixF_none e).1]
      exact ⟨rfl, rfl⟩
    clear e he
    go_wp2_with fail
    go_quiet (fail)
    have HD3 : Hid (DiskAt (w2.drewN nq) O b (enterD d)) := HD2.out.stay (O1 := fun _ => False) (T := []) (.of_below (bell_drewN _ _)) (by simp) (by simp)
    have HV3 : Hid (Bq (w2.drewN nq) v x) := HV2.out.below (bell_drewN _ _)
    have HT3 : Hid (Turn O dT w (w2.drewN nq)) := (HT.out.drewN nq).dT_of1
    clear HD2 HV2 HT hcv
    have h012 : enterK d = 0 ∨ enterK d = 1 ∨ enterK d = 2 := by have := HK.out; omega
    generalize w2.drewN nq = w3 at *
    rcases h012 with hK | hK | hK
    · rw [hK]
      have HKK := hide hK
      clear hK
      go_wp2_with fail
      refine (set_any O b (enterD d) p x v w3 (by rw [enterD_fs]; exact hn) HD3.out HV3.out).mono ?_
      rintro e w4 ⟨rfl, t4, d4⟩
      have HT4 := hide (HT3.out.trans (t4.mono (fun _ h => .inl h) (fun _ h => h)))
      have HD4 := hide (d4.mono (O' := Ext O w w4) (fun k hk => by rcases hk with h | h; exact .inl h; exact .inr ⟨by have := HT3.out.size; omega, h.2⟩))
      clear t4 d4
      go_wp2_with fail
      go_ret
      refine ⟨_, rfl, .inl ⟨by rw [hE.out.1, HKK.out]; rfl, rfl⟩, HT4.out, ?_⟩
      rw [hE.out.2, HKK.out, if_pos (by omega)]
      rw [enterD_fs] at HD4
      exact HD4.out
    · rw [hK]
      have HKK := hide hK
      clear hK
      go_wp2_with fail
      refine (set_any O b (enterD d) p x v w3 (by rw [enterD_fs]; exact hn) HD3.out HV3.out).mono ?_
      rintro e w4 ⟨rfl, t4, d4⟩
      have HT4 := hide (HT3.out.trans (t4.mono (fun _ h => .inl h) (fun _ h => h)))
      have HD4 := hide (d4.mono (O' := Ext O w w4) (fun k hk => by rcases hk with h | h; exact .inl h; exact .inr ⟨by have := HT3.out.size; omega, h.2⟩))
      clear t4 d4
      obtain ⟨fv', hO', hb', -, -⟩ := HD4.out
      obtain ⟨-, ⟨z1, z1'⟩, -⟩ := dall hb'
      clear hb'
      go_wp2_with fail
      go_ret
      refine ⟨_, rfl, .inr ⟨by rw [hE.out.1, HKK.out]; rfl, _, rfl, HT4.out.size, _, heap_alloc_last _ _⟩, HT4.out.alloc _, ?_⟩
      rw [hE.out.2, HKK.out, if_pos (by omega)]
      rw [enterD_fs] at HD4
      exact ext_box HD4.out _
    · rw [hK]
      have HKK := hide hK
      clear hK
      have HD4 : Hid (DiskAt w3 (Ext O w w3) b (enterD d)) := HD3.out.mono (fun _ h => .inl h)
      obtain ⟨fv', hO', hb', -, -⟩ := HD4.out
      obtain ⟨-, ⟨z1, z1'⟩, -⟩ := dall hb'
      clear hb'
      go_wp2_with fail
      go_ret
      refine ⟨_, rfl, .inr ⟨by rw [hE.out.1, HKK.out]; rfl, _, rfl, HT3.out.size, _, heap_alloc_last _ _⟩, HT3.out.alloc _, ?_⟩
      rw [hE.out.2, HKK.out, if_neg (by omega)]
      exact ext_box HD4.out _

set_option maxHeartbeats 2000000 in
theorem swap_any (O : Nat → Prop) (b : Nat) (d : Dk) (p x : List UInt8) (v : Value) (w : World) (hn : d.fs.length ≤ 1000000000) (h : DiskAt w O b d) (hv : Bq w v x) :
    Calls Tryz.prog 184 #[dptr b, txv p, v] w fun r w' => ∃ e, r = .returned e ∧ OwnRes (bad d) w.heap.size e w' ∧ Turn O dT w w' ∧ DiskAt w' (Ext O w w') b (swapD d p x) := by
  have HV := hide hv
  have HD := hide h
  clear h hv
  unfold dptr
  have htx : ∀ q, txv q = .string ⟨q.toArray⟩ := fun _ => rfl
  rw [htx]
  go_enter Tryz.func184, Tryz.ntmps184
  go_wp2_with fail
  refine (enter_any O b d w HD.out).mono ?_
  rintro e w3 ⟨rfl, t1, d1⟩
  have HT3 : Hid (Turn O dT w w3) := t1.dT_of1
  have HD3 := hide d1
  have HV3 := hide (HV.out.turn t1 (by decide))
  have HK := hide (enterK_le d)
  have hE : Hid (bad d = decide (0 < enterK d) ∧ swapD d p x = if enterK d < 2 then { enterD d with fs := setF d.fs p x } else enterD d) := ⟨rfl, rfl⟩
  clear t1 d1 HV HD htx
  have h012 : enterK d = 0 ∨ enterK d = 1 ∨ enterK d = 2 := by have := HK.out; omega
  rcases h012 with hK | hK | hK
  · rw [hK]
    have HKK := hide hK
    clear hK
    go_wp2_with fail
    refine (set_any O b (enterD d) p x v w3 (by rw [enterD_fs]; exact hn) HD3.out HV3.out).mono ?_
    rintro e w4 ⟨rfl, t4, d4⟩
    have HT4 := hide (HT3.out.trans (t4.mono (fun _ h => .inl h) (fun _ h => h)))
    have HD4 := hide (d4.mono (O' := Ext O w w4) (fun k hk => by rcases hk with h | h; exact .inl h; exact .inr ⟨by have := HT3.out.size; omega, h.2⟩))
    clear t4 d4
    go_wp2_with fail
    go_ret
    refine ⟨_, rfl, .inl ⟨by rw [hE.out.1, HKK.out]; rfl, rfl⟩, HT4.out, ?_⟩
    rw [hE.out.2, HKK.out, if_pos (by omega)]
    rw [enterD_fs] at HD4
    exact HD4.out
  · rw [hK]
    have HKK := hide hK
    clear hK
    go_wp2_with fail
    refine (set_any O b (enterD d) p x v w3 (by rw [enterD_fs]; exact hn) HD3.out HV3.out).mono ?_
    rintro e w4 ⟨rfl, t4, d4⟩
    have HT4 := hide (HT3.out.trans (t4.mono (fun _ h => .inl h) (fun _ h => h)))
    have HD4 := hide (d4.mono (O' := Ext O w w4) (fun k hk => by rcases hk with h | h; exact .inl h; exact .inr ⟨by have := HT3.out.size; omega, h.2⟩))
    clear t4 d4
    obtain ⟨fv', hO', hb', -, -⟩ := HD4.out
    obtain ⟨-, ⟨z1, z1'⟩, -⟩ := dall hb'
    clear hb'
    go_wp2_with fail
    go_ret
    refine ⟨_, rfl, .inr ⟨by rw [hE.out.1, HKK.out]; rfl, _, rfl, HT4.out.size, _, heap_alloc_last _ _⟩, HT4.out.alloc _, ?_⟩
    rw [hE.out.2, HKK.out, if_pos (by omega)]
    rw [enterD_fs] at HD4
    exact ext_box HD4.out _
  · rw [hK]
    have HKK := hide hK
    clear hK
    have HD4 : Hid (DiskAt w3 (Ext O w w3) b (enterD d)) := HD3.out.mono (fun _ h => .inl h)
    obtain ⟨fv', hO', hb', -, -⟩ := HD4.out
    obtain ⟨-, ⟨z1, z1'⟩, -⟩ := dall hb'
    clear hb'
    go_wp2_with fail
    go_ret
    refine ⟨_, rfl, .inr ⟨by rw [hE.out.1, HKK.out]; rfl, _, rfl, HT3.out.size, _, heap_alloc_last _ _⟩, HT3.out.alloc _, ?_⟩
    rw [hE.out.2, HKK.out, if_neg (by omega)]
    exact ext_box HD4.out _

set_option maxHeartbeats 2000000 in
theorem get_any (O : Nat → Prop) (b : Nat) (d : Dk) (p : List UInt8) (w : World) (hn : d.fs.length ≤ 1000000000) (hl : ∀ f ∈ d.fs, f.2.length ≤ 1000000000) (h : DiskAt w O b d) :
    Calls Tryz.prog 182 #[dptr b, txv p] w fun r w' => ∃ v e, r = .returned (.tuple #[v, e]) ∧ OwnRes (bad d) w.heap.size e w' ∧ Turn O dT1 w w' ∧ DiskAt w' O b (enterD d) ∧
      ((bad d = false ∧ ∃ x, look d.fs p = some x ∧ Bq w' v x) ∨ ((bad d = true ∨ look d.fs p = none) ∧ v = .slice none 0 0)) := by
  have HD := hide h
  have HL := hide hl
  clear h hl
  unfold dptr
  have htx : ∀ q, txv q = .string ⟨q.toArray⟩ := fun _ => rfl
  rw [htx]
  go_enter Tryz.func182, Tryz.ntmps182
  go_wp2_with fail
  refine (enter_any O b d w HD.out).mono ?_
  rintro e w1 ⟨rfl, t1, d1⟩
  have HT := hide t1
  have HD1 := hide d1
  have hKl := enterK_le d
  clear t1 d1 HD htx
  by_cases hK : 0 < enterK d
  · have HB : Hid (bad d = true) := by show decide _ = true; simpa using hK
    obtain ⟨fv', hO', hb', -, -⟩ := HD1.out
    obtain ⟨-, ⟨z1, z1'⟩, -⟩ := dall hb'
    clear hb'
    go_wp2_with fail
    go_region
    all_goals go_wp2
    all_goals go_ret2
    all_goals refine ⟨_, _, rfl, .inr ⟨HB.out, _, rfl, HT.out.size, _, heap_alloc_last _ _⟩, (HT.out.alloc _).drew, HD1.out.stay (O1 := fun _ => False) (T := []) ((Turn.refl _ _ w1).alloc _).drew (by simp) (by simp), .inr ⟨.inl HB.out, rfl⟩⟩
  · have HB : Hid (bad d = false) := by show decide _ = false; simpa using hK
    have hfs := enterD_fs d
    go_wp2_with fail
    refine (find_any O b (enterD d) p w1 (by rw [hfs]; exact hn) HD1.out).mono ?_
    rintro e w2 ⟨rfl, hb2⟩
    rw [hfs]
    have HT2 : Hid (Turn O dT1 w w2) := HT.out.then_below hb2
    have HD2 := hide (HD1.out.stay (O1 := fun _ => False) (T := []) (.of_below hb2) (by simp) (by simp))
    clear hb2 HD1 HT
    cases e : ixF d.fs p with
    | some k =>
      have he : ixI d.fs p = k := by unfold ixI; rw [e]
      rw [he]
      obtain ⟨hk, hkp, hlk, -⟩ := ixF_some e
      obtain ⟨fv, hO, hb, hf, hg⟩ := HD2.out
      obtain ⟨⟨c0, f0⟩, -⟩ := dall hb
      rcases files_in hf with ⟨a, cap, rfl, h0 | ⟨g, rfl, cur, hgg, hcap, hcs, hx⟩⟩
      · rw [enterD_fs] at h0; omega
      rw [enterD_fs] at c0 hcap
      have y1 : w2.cell? ⟨g, k * 2 + 1, none⟩ = some (.string ⟨d.fs[k].2.toArray⟩) := by
        rw [cell_of_row _ _ _ _ _ _ hgg]
        have := (hx k (by rw [enterD_fs]; exact hk)).2
        simp only [enterD_fs] at this
        exact this
      have hyl := HL.out _ (List.getElem_mem hk)
      have HLK := hide hlk
      clear hx hgg hb hf hg e he hkp hcs hlk
      generalize d.fs[k].2 = y at *
      have hcv := fun w0 => run_bytes_of_string (P := Tryz.prog) w0 9 89 5 ⟨y.toArray⟩ Tryz.underlying9 Tryz.underlying89 Tryz.underlying5
      go_wp2_with fail
      go_ret2
      have hq := bq_conv w2 y (grownCap w2 y.length 0 5) (grownCap_ge _ _ _ _)
      exact ⟨_, _, rfl, .inl ⟨HB.out, rfl⟩, (HT2.out.alloc _).drew, HD2.out.stay (O1 := fun _ => False) (T := []) ((Turn.refl _ _ w2).alloc _).drew (by simp) (by simp), .inl ⟨HB.out, y, HLK.out, hq⟩⟩
    | none =>
      have he : ixI d.fs p = -1 := by unfold ixI; rw [e]
      rw [he]
      have HLK := hide (ixF_none e).1
      clear e he
      go_wp2_with fail
      go_ret2
      exact ⟨_, _, rfl, .inl ⟨HB.out, rfl⟩, HT2.out, HD2.out, .inr ⟨.inr HLK.out, rfl⟩⟩
end Go.Proofs.YtoomnijgdpbphaaGreatDoor

namespace Go.Proofs.YtoomnijgdpbphaaGreatDoor
open Go.RowKit
set_option maxRecDepth 100000

theorem catch_idle (p : Addr) (w : World) :
    CallsD Tryz.prog 94 #[.pointer (some p)] .returning w fun e u' w' => e = .returned (.tuple #[]) ∧ u' = .returning ∧ w' = w := by
  refine callsD_of_wpS Tryz.func94 rfl fun c₀ cs hu => ?_
  apply wpS_seq
  apply wpS_region
  simp [wpOpsS, go_sem, recoverD, hu, Tryz.ntmps94, Exit.thenS]
  refine wpS_cond (t := false) (by simp [Act.eval, Array.replicate]) ?_
  simp only [Bool.false_eq_true, if_false]
  refine wpS_of_wp (wp_skip ?_)
  cases c₀
  simp_all [bodyPostS, results, Tryz.results94]

def pathE (g : Nat) : Value := .iface 62 (.pointer (some ⟨g, 0, none⟩))
set_option maxHeartbeats 400000 in
theorem ask_any (path : List UInt8) (g : Nat) (lb : Array Value) (w : World) (Q : Value → World → Prop) (eg : ∀ args w, (callFunc g args).run Tryz.prog w = .ok (.enter g args) w)
    (hcall : Calls Tryz.prog g lb (w.alloc (.cells #[.nilIface] 39)) fun r w' => ∃ e, r = .returned e ∧ Q e w')
    (hQ : ∀ e w', Q e w' → (e = .nilIface ∨ ∃ g, e = errV g) ∧ w'.heap[w.heap.size]? = some (.cells #[.nilIface] 39 (0, 0))) :
    Calls Tryz.prog 69 #[txv path, .func (.func g) #[] lb] w fun r w2 => ∃ e w', Q e w' ∧
      ((e = .nilIface ∧ r = .returned .nilIface ∧ w2 = w'.setCell ⟨w.heap.size, 0, none⟩ .nilIface) ∨
       ((∃ g, e = errV g) ∧ r = .returned (pathE w'.heap.size) ∧ w2 = (w'.alloc (.cells #[txv path, e] 64)).setCell ⟨w.heap.size, 0, none⟩ (pathE w'.heap.size))) := by
  have hmf : ∀ (fn : Fn) (first cap : Array Value) (w : World), (Instr.makeFunc fn first cap).run Tryz.prog w = .ok (.func fn first cap) w := fun _ _ _ _ => rfl
  have HQ := hide hQ
  have HC := hide hcall
  clear hQ hcall
  unfold txv pathE
  go_enter_defers Tryz.func69, Tryz.ntmps69
  go_wp2_with fail
  refine HC.out.mono ?_
  rintro r w1 ⟨e, rfl, hq⟩
  obtain ⟨he, hb⟩ := HQ.out _ _ hq
  obtain ⟨k0, z0⟩ := dcell hb 0 _ rfl
  have k1 : ∀ o, (w1.alloc o).cell? ⟨w.heap.size, 0, none⟩ = some .nilIface := fun o => (dcell (heap_alloc_old (o := o) hb) 0 _ rfl).1
  have z1 : ∀ o, (w1.alloc o).frozen? ⟨w.heap.size, 0, none⟩ = false := fun o => (dcell (heap_alloc_old (o := o) hb) 0 .nilIface rfl).2
  have HBB := hide hb
  have HH := hide hq
  clear hb hq
  rcases he with rfl | ⟨g', rfl⟩
  · go_wp2_with fail
    refine leaves_cons (f := 94) (args := #[.pointer (some ⟨w.heap.size, 0, none⟩)]) (by simp) (by simp [go_sem]) ?_
    refine (catch_idle ⟨w.heap.size, 0, none⟩ _).mono ?_
    rintro e u' w'' ⟨rfl, rfl, rfl⟩
    simp [Leaves, settle, results, Tryz.results69, go_sem]
    have hc : (w1.setCell ⟨w.heap.size, 0, none⟩ .nilIface).cell? ⟨w.heap.size, 0, none⟩ = some .nilIface := (dcell (dset HBB.out 0 .nilIface) 0 _ rfl).1
    rw [hc]
    exact ⟨_, rfl, .nilIface, w1, HH.out, .inl ⟨rfl, rfl, rfl⟩⟩
  · unfold errV
    go_wp2_with fail
    refine leaves_cons (f := 94) (args := #[.pointer (some ⟨w.heap.size, 0, none⟩)]) (by simp) (by simp [go_sem]) ?_
    refine (catch_idle ⟨w.heap.size, 0, none⟩ _).mono ?_
    rintro e u' w'' ⟨rfl, rfl, rfl⟩
    simp [Leaves, settle, results, Tryz.results69, go_sem]
    rw [(dcell (dset (heap_alloc_old HBB.out) 0 _) 0 _ rfl).1]
    exact ⟨_, rfl, errV g', w1, HH.out, .inr ⟨⟨g', rfl⟩, rfl, rfl⟩⟩
end Go.Proofs.YtoomnijgdpbphaaGreatDoor

namespace Go.Proofs.YtoomnijgdpbphaaGreatDoor

/-- One entry in a bundle; some; are they a bundle? -/
def bun1 (l : List UInt8) : List UInt8 := UInt8.ofNat l.length :: l
def bunL (ls : List (List UInt8)) : List UInt8 := (ls.map bun1).flatten
def okB (ls : List (List UInt8)) : Bool := decide (1 ≤ ls.length) && (decide (ls.length ≤ 4) && ls.all fun l => decide (l.length ≤ 20))
/-- Bytes parted as a bundle is, of whatever number and lengths. -/
def unbN : Nat → List UInt8 → Option (List (List UInt8))
  | _, [] => some []
  | 0, _ :: _ => none
  | f + 1, c :: r => if c.toNat ≤ r.length then (unbN f (r.drop c.toNat)).map (r.take c.toNat :: ·) else none
def unb (d : List UInt8) : Option (List (List UInt8)) := unbN d.length d
theorem unbN_enough : ∀ (n f g : Nat) (d : List UInt8), d.length ≤ n → d.length ≤ f → d.length ≤ g → unbN f d = unbN g d := by
  intro n
  induction n with
  | zero =>
    intro f g d hd _ _
    obtain rfl : d = [] := List.length_eq_zero_iff.1 (by omega)
    cases f <;> cases g <;> rfl
  | succ n ih =>
    intro f g d hd hf hg
    cases d with
    | nil => cases f <;> cases g <;> rfl
    | cons c r =>
      simp only [List.length_cons] at hd hf hg
      obtain ⟨f, rfl⟩ : ∃ k, f = k + 1 := ⟨f - 1, by omega⟩
      obtain ⟨g, rfl⟩ : ∃ k, g = k + 1 := ⟨g - 1, by omega⟩
      have hl : (r.drop c.toNat).length ≤ r.length := by simp
      rw [unbN, unbN, ih f g (r.drop c.toNat) (by omega) (by omega) (by omega)]
theorem unb_nil : unb [] = some [] := rfl
theorem unb_fit (c : UInt8) (r : List UInt8) (h : c.toNat ≤ r.length) : unb (c :: r) = (unb (r.drop c.toNat)).map (r.take c.toNat :: ·) := by
  have hl : (r.drop c.toNat).length ≤ r.length := by simp
  show unbN (r.length + 1) (c :: r) = _
  rw [unbN, if_pos h, unbN_enough r.length r.length (r.drop c.toNat).length (r.drop c.toNat) hl hl (Nat.le_refl _)]
  rfl
theorem unb_not (c : UInt8) (r : List UInt8) (h : ¬ c.toNat ≤ r.length) : unb (c :: r) = none := by
  show unbN (r.length + 1) (c :: r) = _
  rw [unbN, if_neg h]
/-- The entries of a bundle. -/
def unbF (d : List UInt8) : Option (List (List UInt8)) := match unb d with
  | some ls => if okB ls then some ls else none
  | none => none

theorem bunL_append (a b : List (List UInt8)) : bunL (a ++ b) = bunL a ++ bunL b := by simp [bunL]
theorem bunL_one (l : List UInt8) : bunL [l] = bun1 l := by simp [bunL]
theorem bunL_len (ls : List (List UInt8)) (h : ∀ l ∈ ls, l.length ≤ 20) : (bunL ls).length ≤ 21 * ls.length := by
  induction ls with
  | nil => simp [bunL]
  | cons a t ih =>
    rw [show a :: t = [a] ++ t from rfl, bunL_append, bunL_one]
    have h1 := h a (by simp)
    have h2 := ih (fun l hl => h l (by simp [hl]))
    simp [bun1]
    omega
theorem unb_whole : ∀ (n : Nat) (d : List UInt8) (ls : List (List UInt8)), d.length ≤ n → unb d = some ls → bunL ls = d := by
  intro n
  induction n with
  | zero =>
    intro d ls hd h
    obtain rfl : d = [] := List.length_eq_zero_iff.1 (by omega)
    rw [unb_nil] at h
    obtain rfl : [] = ls := by simpa using h
    rfl
  | succ n ih =>
    intro d ls hd h
    cases d with
    | nil =>
      rw [unb_nil] at h
      obtain rfl : [] = ls := by simpa using h
      rfl
    | cons c r =>
      by_cases hc : c.toNat ≤ r.length
      · rw [unb_fit c r hc] at h
        obtain ⟨t, ht, rfl⟩ := Option.map_eq_some_iff.1 h
        have := ih (r.drop c.toNat) t (by simp at hd ⊢; omega) ht
        rw [show r.take c.toNat :: t = [r.take c.toNat] ++ t from rfl, bunL_append, bunL_one, this, bun1]
        have e : (r.take c.toNat).length = c.toNat := by simp; omega
        rw [e]
        simp
      · rw [unb_not c r hc] at h
        simp at h

/-- What is parted so far, and what is left. -/
def Un (d : List UInt8) (acc : List (List UInt8)) (r : List UInt8) : Prop := unb d = (unb r).map (acc ++ ·) ∧ acc.length + r.length ≤ d.length
theorem Un.start (d : List UInt8) : Un d [] d := ⟨by cases h : unb d <;> simp, by simp⟩
theorem Un.step {d : List UInt8} {acc : List (List UInt8)} {c : UInt8} {r : List UInt8} (h : Un d acc (c :: r)) (hc : c.toNat ≤ r.length) : Un d (acc ++ [r.take c.toNat]) (r.drop c.toNat) := by
  refine ⟨?_, ?_⟩
  · rw [h.1, unb_fit c r hc]
    cases unb (r.drop c.toNat) <;> simp
  · have := h.2
    simp at this ⊢
    omega
theorem Un.fail {d : List UInt8} {acc : List (List UInt8)} {c : UInt8} {r : List UInt8} (h : Un d acc (c :: r)) (hc : ¬ c.toNat ≤ r.length) : unbF d = none := by
  unfold unbF
  rw [h.1, unb_not c r hc]
  rfl
theorem Un.done {d : List UInt8} {acc : List (List UInt8)} (h : Un d acc []) : unb d = some acc := by
  rw [h.1, unb_nil]
  simp
theorem Un.many {d : List UInt8} {acc : List (List UInt8)} {c : UInt8} {r : List UInt8} (h : Un d acc (c :: r)) (h4 : 4 ≤ acc.length) : unbF d = none := by
  by_cases hc : c.toNat ≤ r.length
  · have := (h.step hc).1
    unfold unbF
    rw [this]
    cases unb (r.drop c.toNat) with
    | none => rfl
    | some t =>
      have : okB (acc ++ [r.take c.toNat] ++ t) = false := by
        unfold okB
        rw [show decide ((acc ++ [r.take c.toNat] ++ t).length ≤ 4) = false by simp; omega]
        simp
      simp only [Option.map_some]
      rw [this]
      rfl
  · exact h.fail hc
theorem Un.long {d : List UInt8} {acc : List (List UInt8)} {c : UInt8} {r : List UInt8} (h : Un d acc (c :: r)) (h20 : 20 < c.toNat) : unbF d = none := by
  by_cases hc : c.toNat ≤ r.length
  · have := (h.step hc).1
    unfold unbF
    rw [this]
    cases unb (r.drop c.toNat) with
    | none => rfl
    | some t =>
      have : okB (acc ++ [r.take c.toNat] ++ t) = false := by
        unfold okB
        have : (acc ++ [r.take c.toNat] ++ t).all (fun l => decide (l.length ≤ 20)) = false := by
          rw [List.all_append, List.all_append]
          have : ([r.take c.toNat]).all (fun l => decide (l.length ≤ 20)) = false := by simp; omega
          rw [this]
          simp
        rw [this]
        simp
      simp only [Option.map_some]
      rw [this]
      rfl
  · exact h.fail hc
theorem Un.end_ok {d : List UInt8} {acc : List (List UInt8)} (h : Un d acc []) (ho : okB acc = true) : unbF d = some acc ∧ bunL acc = d := by
  refine ⟨?_, unb_whole d.length d acc (Nat.le_refl _) h.done⟩
  unfold unbF
  rw [h.done]
  simp [ho]
theorem Un.end_not {d : List UInt8} {acc : List (List UInt8)} (h : Un d acc []) (ho : okB acc = false) : unbF d = none := by
  unfold unbF
  rw [h.done]
  simp [ho]
end Go.Proofs.YtoomnijgdpbphaaGreatDoor
