import Derived.Test.YtkjipfnibolboaaGreatDoorG04
import Derived.Test.YtkjipfnibolboaaGreatDoorG07
import Derived.Laws.IdiomStrings
import Derived.Deep.AppendLies
import Derived.Lib.SliceRun
import Derived.Test.YtkjipfnibolboaaGreatDoorG06

namespace Go.Proofs.YtkjipfnibolboaaGreatDoor
open Go.RowKit

theorem bys_snoc (ss : List ByteArray) (k : Nat) (h : k < ss.length) : (bys ss).take (k + 1) = (bys ss).take k ++ [ss[k].data.toList] := by
  rw [List.take_succ_eq_append_getElem (by rw [bys_length]; exact h)]; simp [bys]
/-- A slice of bytes in a block of the call's own (a row of bytes), which may be written. -/
def EB (w : World) (B : Nat) (x : Value) (l : List UInt8) : Prop :=
  ∃ g cap C fr, x = .slice (some ⟨g, 0, none⟩) l.length cap ∧ B ≤ g ∧ w.heap[g]? = some (.cells C 5 fr) ∧ (∀ i (h : i < l.length), C[i]? = some (bv l[i])) ∧ l.length ≤ fr.1
/-- A slice of such. -/
def EBs (w : World) (B : Nat) (v : Value) (ls : List (List UInt8)) : Prop :=
  ∃ xs : List Value, w.ownsRow B 89 1 v ls.length xs ∧ ∀ j (h : j < ls.length), ∃ x, xs[j]? = some x ∧ EB w B x ls[j]

theorem heap_lt {w : World} {g : Nat} {o : Obj} (h : w.heap[g]? = some o) : g < w.heap.size := by
  rcases Nat.lt_or_ge g w.heap.size with h' | h'
  · exact h'
  · simp [Array.getElem?_eq_none h'] at h
theorem EB.below {w w' : World} {B : Nat} {x : Value} {l : List UInt8} (h : EB w B x l) (hb : Below w.heap.size w w') : EB w' B x l := by
  obtain ⟨g, cap, C, fr, e, hB, hg, hc, hf⟩ := h
  exact ⟨g, cap, C, fr, e, hB, by rw [hb.block g (heap_lt hg)]; exact hg, hc, hf⟩
theorem EB.grown {w w' : World} {B : Nat} {x v : Value} {l : List UInt8} {n : Nat} {xs : List Value} (h : EB w B x l) (ho : w.ownsRow B 89 1 v n xs) (hg' : w.grownBy w' v.ownBlock) : EB w' B x l := by
  obtain ⟨g, cap, C, fr, e, hB, hg, hc, hf⟩ := h
  refine ⟨g, cap, C, fr, e, hB, ?_, hc, hf⟩
  rw [hg'.block g (heap_lt hg) ?_]
  · exact hg
  · intro hq
    rcases ho.2 with ⟨rfl, _⟩ | ⟨g', c', cur, rfl, _, hg2, _⟩
    · simp [Value.ownBlock] at hq
    · simp only [Value.ownBlock, Option.some.injEq] at hq
      subst hq
      rw [hg] at hg2
      simp at hg2
theorem ownsRow_below {w w' : World} {B : Nat} {e : TypeId} {s : Nat} {v : Value} {n : Nat} {xs : List Value} (h : w.ownsRow B e s v n xs) (hb : Below w.heap.size w w') : w'.ownsRow B e s v n xs := by
  refine ⟨h.1, ?_⟩
  rcases h.2 with h | ⟨g, cap, cur, e1, e2, e3, r⟩
  · exact .inl h
  · exact .inr ⟨g, cap, cur, e1, e2, by rw [hb.block g (heap_lt e3)]; exact e3, r⟩
theorem EB.bs {w : World} {B : Nat} {x : Value} {l : List UInt8} (h : EB w B x l) : Bs w x l := by
  obtain ⟨g, cap, C, fr, rfl, hB, hg, hc, hf⟩ := h
  refine ⟨_, _, rfl, .inr ⟨g, 0, rfl, fun i hi => ?_⟩⟩
  rw [Nat.zero_add, cell_of_row _ _ _ _ _ _ hg]
  exact hc i hi
theorem EBs.bss {w : World} {B : Nat} {v : Value} {ls : List (List UInt8)} (h : EBs w B v ls) : Bss w v ls := by
  obtain ⟨xs, ⟨hl, ho⟩, hx⟩ := h
  rcases ho with ⟨rfl, h0⟩ | ⟨g, cap, cur, rfl, hB, hg, hn, hm, hs, ht⟩
  · exact ⟨none, 0, by rw [h0], by rw [h0]; exact Nat.le_refl _, .inl (List.length_eq_zero_iff.1 h0)⟩
  · refine ⟨_, _, rfl, hn, .inr ⟨g, 0, rfl, fun i hi => ?_⟩⟩
    obtain ⟨x, e, hb⟩ := hx i hi
    refine ⟨x, ?_, hb.bs⟩
    rw [Nat.zero_add, cell_of_row _ _ _ _ _ _ hg]
    rw [← ht, Nat.mul_one] at e
    rw [List.getElem?_take, if_pos hi] at e
    simpa using e
/-- What '[]byte(s)' lays. -/
theorem EB.conv (w : World) (s : ByteArray) (B cap : Nat) (hB : B ≤ w.heap.size) :
    EB (w.alloc (.cells (bytesRow s cap) 5 ((bytesRow s cap).size, (bytesRow s cap).size + 1))) B (.slice (some ⟨w.heap.size, 0, none⟩) s.size cap) s.data.toList := by
  refine ⟨w.heap.size, cap, _, _, by simp, hB, heap_alloc_last _ _, fun i hi => ?_, ?_⟩
  · have hi' : i < s.data.size := by simpa using hi
    rw [bytesRow, Array.getElem?_append_left (by simpa using hi')]
    rw [Array.getElem?_map, Array.getElem?_eq_getElem hi']
    rfl
  · simp [bytesRow]

theorem ent_step {wr w1 : World} {B : Nat} {u : Value} {xs : List Value} {ls : List (List UInt8)} {s : ByteArray} {cap g cap' : Nat} {o2 : Obj} (hB : B ≤ wr.heap.size) (ho : wr.ownsRow B 89 1 u ls.length xs)
    (hx : ∀ j (h : j < ls.length), ∃ x, xs[j]? = some x ∧ EB wr B x ls[j])
    (hown : w1.ownsRow B 89 1 (.slice (some ⟨g, 0, none⟩) (ls.length + 1) cap') (ls.length + 1) (xs ++ [.slice (some ⟨wr.heap.size, 0, none⟩) s.size cap]))
    (hgrow : (((wr.alloc (.cells (bytesRow s cap) 5 ((bytesRow s cap).size, (bytesRow s cap).size + 1))).alloc o2).drew).grownBy w1 u.ownBlock) :
    EBs w1 B (.slice (some ⟨g, 0, none⟩) (ls.length + 1) cap') (ls ++ [s.data.toList]) := by
  have hxl : xs.length = ls.length := by rw [ho.1, Nat.mul_one]
  refine ⟨xs ++ [.slice (some ⟨wr.heap.size, 0, none⟩) s.size cap], by simpa using hown, fun j hj => ?_⟩
  have ho2 := ownsRow_below ho (w' := ((wr.alloc (.cells (bytesRow s cap) 5 ((bytesRow s cap).size, (bytesRow s cap).size + 1))).alloc o2).drew) (below_alloc2 _ _ _).drew
  by_cases hjl : j < ls.length
  · obtain ⟨x, e, hb⟩ := hx j hjl
    refine ⟨x, by rw [List.getElem?_append_left (by omega)]; exact e, ?_⟩
    rw [List.getElem_append_left hjl]
    exact (hb.below (below_alloc2 _ _ _).drew).grown ho2 hgrow
  · obtain rfl : j = ls.length := by simp at hj; omega
    refine ⟨.slice (some ⟨wr.heap.size, 0, none⟩) s.size cap, by rw [List.getElem?_append_right (by omega), hxl]; simp, ?_⟩
    rw [List.getElem_append_right (Nat.le_refl _)]
    simp only [Nat.sub_self, List.getElem_cons_zero]
    exact EB.grown (w := ((wr.alloc (.cells (bytesRow s cap) 5 ((bytesRow s cap).size, (bytesRow s cap).size + 1))).alloc o2).drew) ((EB.conv wr s B cap hB).below (below_alloc _ _).drew) ho2 hgrow
theorem own_base {w : World} {B : Nat} {e : TypeId} {s : Nat} {v : Value} {n : Nat} {xs : List Value} (h : w.ownsRow B e s v n xs) : ∀ k, v.ownBlock = some k → B ≤ k := by
  intro k hk
  rcases h.2 with ⟨rfl, _⟩ | ⟨g, cap, cur, rfl, hB, _⟩
  · simp [Value.ownBlock] at hk
  · simp only [Value.ownBlock, Option.some.injEq] at hk
    omega

theorem infoBytes : (Tryz.prog.info? 89).map (fun i => (i.zero, i.size, i.bytes)) = some (some (.slice none 0 0), 1, 24) := by kernel_rfl

end Go.Proofs.YtkjipfnibolboaaGreatDoor

namespace Go.Proofs.YtkjipfnibolboaaGreatDoor
open Go.RowKit
set_option maxRecDepth 100000

def errV (g : Nat) : Value := .iface 61 (.pointer (some ⟨g, 0, none⟩))
def ErrAt (w : World) (g : Nat) : Prop := ∃ c, w.heap[g]? = some (.cells #[.int .i64 c] 253 (0, 0))
/-- No error, or one of the store's own. -/
def OwnRes (e : Bool) (B : Nat) (r : Value) (w : World) : Prop := (e = false ∧ r = .nilIface) ∨ (e = true ∧ ∃ g, r = errV g ∧ B ≤ g ∧ ErrAt w g)
theorem bell_drewN (w : World) (n : Nat) : Below w.heap.size w (w.drewN n) := ⟨rfl, rfl, rfl, Nat.le_refl _, fun _ _ => rfl⟩
theorem ext_box {w w' : World} {O : Nat → Prop} {b : Nat} {d : Dk} (h : DiskAt w' (Ext O w w') b d) (o : Obj) : DiskAt (w'.alloc o) (Ext O w (w'.alloc o)) b d :=
  (h.stay (T := []) (O1 := fun _ => False) (.of_below (below_alloc w' o)) (by simp) (by simp)).mono (Ext.more (by simp))
theorem Bq.of_eb {w : World} {B n cap : Nat} {a : Addr} {l : List UInt8} (h : EB w B (.slice (some a) n cap) l) (hc : l.length ≤ cap) : Bq w (.slice (some a) n cap) l := by
  obtain ⟨g, cap', C, fr, e, -, hg, hx, -⟩ := h
  have e' : cap = cap' := by simp at e; exact e.2.2
  exact ⟨g, cap', C, fr, e, by omega, hg, hx⟩
theorem bq_conv (w : World) (y : List UInt8) (cap : Nat) (hcap : y.length ≤ cap) : Bq (w.alloc (.cells (bytesRow ⟨y.toArray⟩ cap) 5 ((bytesRow ⟨y.toArray⟩ cap).size, (bytesRow ⟨y.toArray⟩ cap).size + 1))) (.slice (some ⟨w.heap.size, 0, none⟩) y.length cap) y := by
  have h := EB.conv w ⟨y.toArray⟩ 0 cap (Nat.zero_le _)
  simp only at h
  exact Bq.of_eb h hcap
theorem Turn.dT_of1 {O : Nat → Prop} {w w' : World} (h : Turn O dT1 w w') : Turn O dT w w' := h.mono (fun _ h => h) (fun t ht => by simp at ht; simp [ht])

set_option maxHeartbeats 2000000 in
theorem put_any (O : Nat → Prop) (b : Nat) (d : Dk) (p x : List UInt8) (v : Value) (w : World) (hn : d.fs.length ≤ 1000000000) (h : DiskAt w O b d) (hv : Bq w v x) :
    Calls Tryz.prog 183 #[dptr b, txv p, v] w fun r w' => ∃ e, r = .returned e ∧ OwnRes (putE d p x) w.heap.size e w' ∧ Turn O dT w w' ∧ DiskAt w' (Ext O w w') b (putD d p x) := by
  have HV := hide hv
  have HD := hide h
  clear h hv
  unfold dptr
  have htx : ∀ q, txv q = .string ⟨q.toArray⟩ := fun _ => rfl
  rw [htx]
  go_enter Tryz.func183, Tryz.ntmps183
  go_wp2_with fail
  refine (enter_any O b d w HD.out).mono ?_
  rintro e w1 ⟨rfl, t1, d1⟩
  have hfs := enterD_fs d
  go_wp2_with fail
  refine (find_any O b (enterD d) p w1 (by rw [hfs]; exact hn) d1).mono ?_
  rintro e w2 ⟨rfl, hb2⟩
  rw [hfs]
  have HT : Hid (Turn O dT1 w w2) := t1.then_below hb2
  have HD2 := hide (d1.stay (O1 := fun _ => False) (T := []) (.of_below hb2) (by simp) (by simp))
  have HV2 := hide ((HV.out.turn t1 (by decide)).below hb2)
  have hcv : ∀ n, (convert 89 9 v).run Tryz.prog (w2.drewN n) = .ok (.string ⟨x.toArray⟩) (w2.drewN n) := fun n => Bq.conv (w := w2.drewN n) HV2.out
  have HK := hide (enterK_le d)
  clear t1 d1 hb2 HV HD htx hfs
  cases e : ixF d.fs p with
  | some k =>
    have he : ixI d.fs p = k := by unfold ixI; rw [e]
    rw [he]
    obtain ⟨hk, hkp, hlk, -⟩ := ixF_some e
    obtain ⟨fv, hO, hb, hf, hg⟩ := HD2.out
    obtain ⟨⟨c0, f0⟩, ⟨c1, f1⟩, -, -, -, -, -, ⟨c7, f7⟩⟩ := dall hb
    rcases files_in hf with ⟨a, cap, rfl, h0 | ⟨g, rfl, cur, hgg, hcap, hcs, hx⟩⟩
    · rw [enterD_fs] at h0; omega
    rw [enterD_fs] at c0 hcap
    have y1 : w2.cell? ⟨g, k * 2 + 1, none⟩ = some (.string ⟨d.fs[k].2.toArray⟩) := by
      rw [cell_of_row _ _ _ _ _ _ hgg]
      have := (hx k (by rw [enterD_fs]; exact hk)).2
      simp only [enterD_fs] at this
      exact this
    have HB := hide hb
    have HF := hide hf
    have HG := hide hg
    clear hx hgg hb hf hg e he hkp hcs
    by_cases hxy : d.fs[k].2 = x
    · have hE : Hid (putE d p x = decide (0 < enterK d) ∧ putD d p x = if enterK d < 2 then { enterD d with fs := setF d.fs p x } else enterD d) := by
        unfold putE putD
        rw [hlk]
        simp only [if_pos hxy]
        exact ⟨trivial, trivial⟩
      have q1 : (d.fs[k].2 == x) = true := by simp [hxy]
      clear hxy hlk HB HF HG
      generalize d.fs[k].2 = y at *
      go_wp2_with fail
      go_quiet (fail)
      have HD3 : Hid (DiskAt (w2.drewN nq) O b (enterD d)) := HD2.out.stay (O1 := fun _ => False) (T := []) (.of_below (bell_drewN _ _)) (by simp) (by simp)
      have HV3 : Hid (Bq (w2.drewN nq) v x) := HV2.out.below (bell_drewN _ _)
      have HT3 : Hid (Turn O dT w (w2.drewN nq)) := (HT.out.drewN nq).dT_of1
      clear HD2 HV2 HT hcv c0 f0 c1 f1 c7 f7 y1
      have h012 : enterK d = 0 ∨ enterK d = 1 ∨ enterK d = 2 := by have := HK.out; omega
      generalize w2.drewN nq = w3 at *
      rcases h012 with hK | hK | hK
      · rw [hK]
        have HKK := hide hK
        clear hK
        go_wp2_with fail
        refine (set_any O b (enterD d) p x v w3 (by rw [enterD_fs]; exact hn) HD3.out HV3.out).mono ?_
        rintro e w4 ⟨rfl, t4, d4⟩
        have HT4 := hide (HT3.out.trans (t4.mono (fun _ h => .inl h) (fun _ h => h)))
        have HD4 := hide (d4.mono (O' := Ext O w w4) (fun k hk => by rcases hk with h | h; exact .inl h; exact .inr ⟨by have := HT3.out.size; omega, h.2⟩))
        clear t4 d4
        go_wp2_with fail
        go_ret
        refine ⟨_, rfl, .inl ⟨by rw [hE.out.1, HKK.out]; rfl, rfl⟩, HT4.out, ?_⟩
        rw [hE.out.2, HKK.out, if_pos (by omega)]
        rw [enterD_fs] at HD4
        exact HD4.out
      · rw [hK]
        have HKK := hide hK
        clear hK
        go_wp2_with fail
        refine (set_any O b (enterD d) p x v w3 (by rw [enterD_fs]; exact hn) HD3.out HV3.out).mono ?_
        rintro e w4 ⟨rfl, t4, d4⟩
        have HT4 := hide (HT3.out.trans (t4.mono (fun _ h => .inl h) (fun _ h => h)))
        have HD4 := hide (d4.mono (O' := Ext O w w4) (fun k hk => by rcases hk with h | h; exact .inl h; exact .inr ⟨by have := HT3.out.size; omega, h.2⟩))
        clear t4 d4
        obtain ⟨fv', hO', hb', -, -⟩ := HD4.out
        obtain ⟨-, ⟨z1, z1'⟩, -⟩ := dall hb'
        clear hb'
        go_wp2_with fail
        go_ret
        refine ⟨_, rfl, .inr ⟨by rw [hE.out.1, HKK.out]; rfl, _, rfl, HT4.out.size, _, heap_alloc_last _ _⟩, HT4.out.alloc _, ?_⟩
        rw [hE.out.2, HKK.out, if_pos (by omega)]
        rw [enterD_fs] at HD4
        exact ext_box HD4.out _
      · rw [hK]
        have HKK := hide hK
        clear hK
        have HD4 : Hid (DiskAt w3 (Ext O w w3) b (enterD d)) := HD3.out.mono (fun _ h => .inl h)
        obtain ⟨fv', hO', hb', -, -⟩ := HD4.out
        obtain ⟨-, ⟨z1, z1'⟩, -⟩ := dall hb'
        clear hb'
        go_wp2_with fail
        go_ret
        refine ⟨_, rfl, .inr ⟨by rw [hE.out.1, HKK.out]; rfl, _, rfl, HT3.out.size, _, heap_alloc_last _ _⟩, HT3.out.alloc _, ?_⟩
        rw [hE.out.2, HKK.out, if_neg (by omega)]
        exact ext_box HD4.out _
    · have hE : Hid (putE d p x = true ∧ putD d p x = { enterD d with turned := true }) := by
        unfold putE putD
        rw [hlk]
        simp only [if_neg hxy]
        exact ⟨trivial, trivial⟩
      have q1 : (d.fs[k].2 == x) = false := by simp [hxy]
      clear hxy hlk
      generalize d.fs[k].2 = y at *
      go_wp2_with fail
      go_quiet (fail)
      go_wp2_with fail
      go_ret
      have t2 := ((HT.out.drewN nq).set (o := 7) (.inl hO) (show (w2.drewN nq).heap[b]? = _ from HB.out) (by decide) (.bool true))
      have h2 := dset (show (w2.drewN nq).heap[b]? = _ from HB.out) 7 (.bool true)
      have d2 : DiskAt ((w2.drewN nq).setCell ⟨b, 7, none⟩ (.bool true)) (Ext O w ((w2.drewN nq).setCell ⟨b, 7, none⟩ (.bool true))) b { enterD d with turned := true } :=
        DiskAt.turn (w := w2) (d := enterD d) (fun _ h => .inl h) hO HF.out HG.out ((Turn.refl O dT1 w2).drewN nq |>.set (.inl hO) (show (w2.drewN nq).heap[b]? = _ from HB.out) (by decide) _) h2 rfl
      refine ⟨_, rfl, ?_, (t2.alloc _).dT_of1, ?_⟩
      · rw [hE.out.1]
        refine .inr ⟨rfl, _, rfl, HT.out.size, (enterD d).calls, ?_⟩
        rw [show w2.heap.size = ((w2.drewN nq).setCell ⟨b, 7, none⟩ (.bool true)).heap.size by simp [World.setCell, World.drewN]]
        exact heap_alloc_last _ _
      · rw [hE.out.2]
        exact ext_box d2 _
  | none =>
    have he : ixI d.fs p = -1 := by unfold ixI; rw [e]
    rw [he]
    have hE : Hid (putE d p x = decide (0 < enterK d) ∧ putD d p x = if enterK d < 2 then { enterD d with fs := setF d.fs p x } else enterD d) := by
      unfold putE putD
      rw [(ixF_none e).1]
      exact ⟨rfl, rfl⟩
    clear e he
    go_wp2_with fail
    go_quiet (fail)
    have HD3 : Hid (DiskAt (w2.drewN nq) O b (enterD d)) := HD2.out.stay (O1 := fun _ => False) (T := []) (.of_below (bell_drewN _ _)) (by simp) (by simp)
    have HV3 : Hid (Bq (w2.drewN nq) v x) := HV2.out.below (bell_drewN _ _)
    have HT3 : Hid (Turn O dT w (w2.drewN nq)) := (HT.out.drewN nq).dT_of1
    clear HD2 HV2 HT hcv
    have h012 : enterK d = 0 ∨ enterK d = 1 ∨ enterK d = 2 := by have := HK.out; omega
    generalize w2.drewN nq = w3 at *
    rcases h012 with hK | hK | hK
    · rw [hK]
      have HKK := hide hK
      clear hK
      go_wp2_with fail
      refine (set_any O b (enterD d) p x v w3 (by rw [enterD_fs]; exact hn) HD3.out HV3.out).mono ?_
      rintro e w4 ⟨rfl, t4, d4⟩
      have HT4 := hide (HT3.out.trans (t4.mono (fun _ h => .inl h) (fun _ h => h)))
      have HD4 := hide (d4.mono (O' := Ext O w w4) (fun k hk => by rcases hk with h | h; exact .inl h; exact .inr ⟨by have := HT3.out.size; omega, h.2⟩))
      clear t4 d4
      go_wp2_with fail
      go_ret
      refine ⟨_, rfl, .inl ⟨by rw [hE.out.1, HKK.out]; rfl, rfl⟩, HT4.out, ?_⟩
      rw [hE.out.2, HKK.out, if_pos (by omega)]
      rw [enterD_fs] at HD4
      exact HD4.out
    · rw [hK]
      have HKK := hide hK
      clear hK
      go_wp2_with fail
      refine (set_any O b (enterD d) p x v w3 (by rw [enterD_fs]; exact hn) HD3.out HV3.out).mono ?_
      rintro e w4 ⟨rfl, t4, d4⟩
      have HT4 := hide (HT3.out.trans (t4.mono (fun _ h => .inl h) (fun _ h => h)))
      have HD4 := hide (d4.mono (O' := Ext O w w4) (fun k hk => by rcases hk with h | h; exact .inl h; exact .inr ⟨by have := HT3.out.size; omega, h.2⟩))
      clear t4 d4
      obtain ⟨fv', hO', hb', -, -⟩ := HD4.out
      obtain ⟨-, ⟨z1, z1'⟩, -⟩ := dall hb'
      clear hb'
      go_wp2_with fail
      go_ret
      refine ⟨_, rfl, .inr ⟨by rw [hE.out.1, HKK.out]; rfl, _, rfl, HT4.out.size, _, heap_alloc_last _ _⟩, HT4.out.alloc _, ?_⟩
      rw [hE.out.2, HKK.out, if_pos (by omega)]
      rw [enterD_fs] at HD4
      exact ext_box HD4.out _
    · rw [hK]
      have HKK := hide hK
      clear hK
      have HD4 : Hid (DiskAt w3 (Ext O w w3) b (enterD d)) := HD3.out.mono (fun _ h => .inl h)
      obtain ⟨fv', hO', hb', -, -⟩ := HD4.out
      obtain ⟨-, ⟨z1, z1'⟩, -⟩ := dall hb'
      clear hb'
      go_wp2_with fail
      go_ret
      refine ⟨_, rfl, .inr ⟨by rw [hE.out.1, HKK.out]; rfl, _, rfl, HT3.out.size, _, heap_alloc_last _ _⟩, HT3.out.alloc _, ?_⟩
      rw [hE.out.2, HKK.out, if_neg (by omega)]
      exact ext_box HD4.out _

set_option maxHeartbeats 2000000 in
theorem swap_any (O : Nat → Prop) (b : Nat) (d : Dk) (p x : List UInt8) (v : Value) (w : World) (hn : d.fs.length ≤ 1000000000) (h : DiskAt w O b d) (hv : Bq w v x) :
    Calls Tryz.prog 184 #[dptr b, txv p, v] w fun r w' => ∃ e, r = .returned e ∧ OwnRes (bad d) w.heap.size e w' ∧ Turn O dT w w' ∧ DiskAt w' (Ext O w w') b (swapD d p x) := by
  have HV := hide hv
  have HD := hide h
  clear h hv
  unfold dptr
  have htx : ∀ q, txv q = .string ⟨q.toArray⟩ := fun _ => rfl
  rw [htx]
  go_enter Tryz.func184, Tryz.ntmps184
  go_wp2_with fail
  refine (enter_any O b d w HD.out).mono ?_
  rintro e w3 ⟨rfl, t1, d1⟩
  have HT3 : Hid (Turn O dT w w3) := t1.dT_of1
  have HD3 := hide d1
  have HV3 := hide (HV.out.turn t1 (by decide))
  have HK := hide (enterK_le d)
  have hE : Hid (bad d = decide (0 < enterK d) ∧ swapD d p x = if enterK d < 2 then { enterD d with fs := setF d.fs p x } else enterD d) := ⟨rfl, rfl⟩
  clear t1 d1 HV HD htx
  have h012 : enterK d = 0 ∨ enterK d = 1 ∨ enterK d = 2 := by have := HK.out; omega
  rcases h012 with hK | hK | hK
  · rw [hK]
    have HKK := hide hK
    clear hK
    go_wp2_with fail
    refine (set_any O b (enterD d) p x v w3 (by rw [enterD_fs]; exact hn) HD3.out HV3.out).mono ?_
    rintro e w4 ⟨rfl, t4, d4⟩
    have HT4 := hide (HT3.out.trans (t4.mono (fun _ h => .inl h) (fun _ h => h)))
    have HD4 := hide (d4.mono (O' := Ext O w w4) (fun k hk => by rcases hk with h | h; exact .inl h; exact .inr ⟨by have := HT3.out.size; omega, h.2⟩))
    clear t4 d4
    go_wp2_with fail
    go_ret
    refine ⟨_, rfl, .inl ⟨by rw [hE.out.1, HKK.out]; rfl, rfl⟩, HT4.out, ?_⟩
    rw [hE.out.2, HKK.out, if_pos (by omega)]
    rw [enterD_fs] at HD4
    exact HD4.out
  · rw [hK]
    have HKK := hide hK
    clear hK
    go_wp2_with fail
    refine (set_any O b (enterD d) p x v w3 (by rw [enterD_fs]; exact hn) HD3.out HV3.out).mono ?_
    rintro e w4 ⟨rfl, t4, d4⟩
    have HT4 := hide (HT3.out.trans (t4.mono (fun _ h => .inl h) (fun _ h => h)))
    have HD4 := hide (d4.mono (O' := Ext O w w4) (fun k hk => by rcases hk with h | h; exact .inl h; exact .inr ⟨by have := HT3.out.size; omega, h.2⟩))
    clear t4 d4
    obtain ⟨fv', hO', hb', -, -⟩ := HD4.out
    obtain ⟨-, ⟨z1, z1'⟩, -⟩ := dall hb'
    clear hb'
    go_wp2_with fail
    go_ret
    refine ⟨_, rfl, .inr ⟨by rw [hE.out.1, HKK.out]; rfl, _, rfl, HT4.out.size, _, heap_alloc_last _ _⟩, HT4.out.alloc _, ?_⟩
    rw [hE.out.2, HKK.out, if_pos (by omega)]
    rw [enterD_fs] at HD4
    exact ext_box HD4.out _
  · rw [hK]
    have HKK := hide hK
    clear hK
    have HD4 : Hid (DiskAt w3 (Ext O w w3) b (enterD d)) := HD3.out.mono (fun _ h => .inl h)
    obtain ⟨fv', hO', hb', -, -⟩ := HD4.out
    obtain ⟨-, ⟨z1, z1'⟩, -⟩ := dall hb'
    clear hb'
    go_wp2_with fail
    go_ret
    refine ⟨_, rfl, .inr ⟨by rw [hE.out.1, HKK.out]; rfl, _, rfl, HT3.out.size, _, heap_alloc_last _ _⟩, HT3.out.alloc _, ?_⟩
    rw [hE.out.2, HKK.out, if_neg (by omega)]
    exact ext_box HD4.out _

set_option maxHeartbeats 2000000 in
theorem get_any (O : Nat → Prop) (b : Nat) (d : Dk) (p : List UInt8) (w : World) (hn : d.fs.length ≤ 1000000000) (hl : ∀ f ∈ d.fs, f.2.length ≤ 1000000000) (h : DiskAt w O b d) :
    Calls Tryz.prog 182 #[dptr b, txv p] w fun r w' => ∃ v e, r = .returned (.tuple #[v, e]) ∧ OwnRes (bad d) w.heap.size e w' ∧ Turn O dT1 w w' ∧ DiskAt w' O b (enterD d) ∧
      ((bad d = false ∧ ∃ x, look d.fs p = some x ∧ Bq w' v x) ∨ ((bad d = true ∨ look d.fs p = none) ∧ v = .slice none 0 0)) := by
  have HD := hide h
  have HL := hide hl
  clear h hl
  unfold dptr
  have htx : ∀ q, txv q = .string ⟨q.toArray⟩ := fun _ => rfl
  rw [htx]
  go_enter Tryz.func182, Tryz.ntmps182
  go_wp2_with fail
  refine (enter_any O b d w HD.out).mono ?_
  rintro e w1 ⟨rfl, t1, d1⟩
  have HT := hide t1
  have HD1 := hide d1
  have hKl := enterK_le d
  clear t1 d1 HD htx
  by_cases hK : 0 < enterK d
  · have HB : Hid (bad d = true) := by show decide _ = true; simpa using hK
    obtain ⟨fv', hO', hb', -, -⟩ := HD1.out
    obtain ⟨-, ⟨z1, z1'⟩, -⟩ := dall hb'
    clear hb'
    go_wp2_with fail
    go_region
    all_goals go_wp2
    all_goals go_ret2
    all_goals refine ⟨_, _, rfl, .inr ⟨HB.out, _, rfl, HT.out.size, _, heap_alloc_last _ _⟩, (HT.out.alloc _).drew, HD1.out.stay (O1 := fun _ => False) (T := []) ((Turn.refl _ _ w1).alloc _).drew (by simp) (by simp), .inr ⟨.inl HB.out, rfl⟩⟩
  · have HB : Hid (bad d = false) := by show decide _ = false; simpa using hK
    have hfs := enterD_fs d
    go_wp2_with fail
    refine (find_any O b (enterD d) p w1 (by rw [hfs]; exact hn) HD1.out).mono ?_
    rintro e w2 ⟨rfl, hb2⟩
    rw [hfs]
    have HT2 : Hid (Turn O dT1 w w2) := HT.out.then_below hb2
    have HD2 := hide (HD1.out.stay (O1 := fun _ => False) (T := []) (.of_below hb2) (by simp) (by simp))
    clear hb2 HD1 HT
    cases e : ixF d.fs p with
    | some k =>
      have he : ixI d.fs p = k := by unfold ixI; rw [e]
      rw [he]
      obtain ⟨hk, hkp, hlk, -⟩ := ixF_some e
      obtain ⟨fv, hO, hb, hf, hg⟩ := HD2.out
      obtain ⟨⟨c0, f0⟩, -⟩ := dall hb
      rcases files_in hf with ⟨a, cap, rfl, h0 | ⟨g, rfl, cur, hgg, hcap, hcs, hx⟩⟩
      · rw [enterD_fs] at h0; omega
      rw [enterD_fs] at c0 hcap
      have y1 : w2.cell? ⟨g, k * 2 + 1, none⟩ = some (.string ⟨d.fs[k].2.toArray⟩) := by
        rw [cell_of_row _ _ _ _ _ _ hgg]
        have := (hx k (by rw [enterD_fs]; exact hk)).2
        simp only [enterD_fs] at this
        exact this
      have hyl := HL.out _ (List.getElem_mem hk)
      have HLK := hide hlk
      clear hx hgg hb hf hg e he hkp hcs hlk
      generalize d.fs[k].2 = y at *
      have hcv := fun w0 => run_bytes_of_string (P := Tryz.prog) w0 9 89 5 ⟨y.toArray⟩ Tryz.underlying9 Tryz.underlying89 Tryz.underlying5
      go_wp2_with fail
      go_ret2
      have hq := bq_conv w2 y (grownCap w2 y.length 0 5) (grownCap_ge _ _ _ _)
      exact ⟨_, _, rfl, .inl ⟨HB.out, rfl⟩, (HT2.out.alloc _).drew, HD2.out.stay (O1 := fun _ => False) (T := []) ((Turn.refl _ _ w2).alloc _).drew (by simp) (by simp), .inl ⟨HB.out, y, HLK.out, hq⟩⟩
    | none =>
      have he : ixI d.fs p = -1 := by unfold ixI; rw [e]
      rw [he]
      have HLK := hide (ixF_none e).1
      clear e he
      go_wp2_with fail
      go_ret2
      exact ⟨_, _, rfl, .inl ⟨HB.out, rfl⟩, HT2.out, HD2.out, .inr ⟨.inr HLK.out, rfl⟩⟩
end Go.Proofs.YtkjipfnibolboaaGreatDoor
