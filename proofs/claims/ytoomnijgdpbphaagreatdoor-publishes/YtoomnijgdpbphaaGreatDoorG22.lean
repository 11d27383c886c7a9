import Derived.Test.YtoomnijgdpbphaaGreatDoorG21
import Derived.Test.YtoomnijgdpbphaaGreatDoorG07
import Derived.Test.YtoomnijgdpbphaaGreatDoorG19
import Derived.Test.YtoomnijgdpbphaaGreatDoorG04
import Derived.Test.YtoomnijgdpbphaaGreatDoorG15
import Derived.Deep.CutRange

namespace Go.Proofs.YtoomnijgdpbphaaGreatDoor
open Go.RowKit
set_option maxRecDepth 100000

theorem lines_eq (d h : List UInt8) : (⟨#[116, 105, 108, 101, 115, 10]⟩ ++ ⟨d.toArray⟩ ++ ⟨#[10]⟩ ++ ⟨h.toArray⟩ ++ ⟨#[10]⟩ : ByteArray) = ⟨(tilesL ++ d ++ [10] ++ h ++ [10]).toArray⟩ := by
  apply ByteArray.ext
  simp [tilesL]

set_option maxHeartbeats 1000000 in
theorem refSign_any (n : Int) (h0 : 0 ≤ n) (h1 : n ≤ 9223372036854775807) (root key : List UInt8) (hr : root.length = 8) (hk : key.length ≤ 2097152) (w : World) :
    Calls Tryz.prog 33 #[.int .i64 n, .string ⟨root.toArray⟩, .string ⟨key.toArray⟩] w fun r w' => r = .returned (.string ⟨(signF n.toNat root key).toArray⟩) ∧ Below w.heap.size w w' := by
  have HS : Hid (signF n.toNat root key = (tilesL ++ dec n.toNat ++ [10] ++ hexF root ++ [10]) ++ hexF (hash (key ++ [0] ++ (tilesL ++ dec n.toNat ++ [10] ++ hexF root ++ [10]))) ++ [10]) := rfl
  have hd := dec_length_le n h0 h1
  have hx := hexF_len root
  rw [hr] at hx
  go_enter Tryz.func33, Tryz.ntmps33
  go_wp2_with fail
  refine (digits_any n h0 h1 w).mono ?_
  rintro r w1 ⟨rfl, hb1⟩
  have HB1 := hide hb1
  clear hb1
  generalize dec n.toNat = d at *
  go_wp2_with fail
  refine (refHex_any root (by omega) w1).mono ?_
  rintro r w2 ⟨rfl, hb2⟩
  have HB2 : Hid (Below w.heap.size w w2) := HB1.out.trans (hb2.mono HB1.out.size)
  clear hb2
  generalize hexF root = h at *
  have a1 : ¬ 9223372036854775807 < 6 + d.length := by omega
  have a2 : ¬ 9223372036854775807 < 6 + d.length + 1 := by omega
  have a3 : ¬ 9223372036854775807 < 6 + d.length + 1 + h.length := by omega
  have a4 : ¬ 9223372036854775807 < 6 + d.length + 1 + h.length + 1 := by omega
  have a5 : ¬ 9223372036854775807 < key.length + 1 := by omega
  have hle := lines_eq d h
  have hll : (tilesL ++ d ++ [10] ++ h ++ [10]).length ≤ 60 := by simp [tilesL]; omega
  generalize tilesL ++ d ++ [10] ++ h ++ [10] = L at *
  have a6 : ¬ 9223372036854775807 < key.length + 1 + L.length := by omega
  go_wp2_with fail
  refine (refHash_any _ w2 (by rw [size_append, size_append]; show key.toArray.size + 1 + L.toArray.size ≤ maxLen; simp [maxLen]; omega)).mono ?_
  rintro r w3 ⟨hr3, hb3⟩
  have HB3 : Hid (Below w.heap.size w w3) := HB2.out.trans (hb3.mono HB2.out.size)
  rw [bytes_append, bytes_append] at hr3
  have hr3' : r = .returned (txt (hash (key ++ [0] ++ L))) := hr3
  subst hr3'
  clear hr3 hb3
  unfold txt
  have hhl := hash_length (key ++ [0] ++ L)
  generalize hash (key ++ [0] ++ L) = H at *
  go_wp2_with fail
  refine (refHex_any H (by omega) w3).mono ?_
  rintro r w4 ⟨rfl, hb4⟩
  have HB4 : Hid (Below w.heap.size w w4) := HB3.out.trans (hb4.mono HB3.out.size)
  clear hb4
  have hHl := hexF_len H
  rw [hhl] at hHl
  generalize hexF H = M at *
  have a7 : ¬ 9223372036854775807 < L.length + M.length := by omega
  have a8 : ¬ 9223372036854775807 < L.length + M.length + 1 := by omega
  go_wp2_with fail
  go_ret
  refine ⟨?_, HB4.out⟩
  rw [HS.out]
  exact ret_txt (by apply ByteArray.ext; simp)

/-- A size and a hash. -/
def tv (n : Int) (b0 b1 b2 b3 b4 b5 b6 b7 : UInt8) : Array Value := #[.int .i64 n, .int .u8 b0.toNat, .int .u8 b1.toNat, .int .u8 b2.toNat, .int .u8 b3.toNat, .int .u8 b4.toNat, .int .u8 b5.toNat, .int .u8 b6.toNat, .int .u8 b7.toNat]
theorem cells9 {w : World} {g : Nat} {x0 x1 x2 x3 x4 x5 x6 x7 x8 : Value} {t : TypeId} {fr : Nat × Nat} (h : w.heap[g]? = some (.cells #[x0, x1, x2, x3, x4, x5, x6, x7, x8] t fr)) :
    w.cell? ⟨g, 0, none⟩ = some x0 ∧ w.cell? ⟨g, 1, none⟩ = some x1 ∧ w.cell? ⟨g, 2, none⟩ = some x2 ∧ w.cell? ⟨g, 3, none⟩ = some x3 ∧ w.cell? ⟨g, 4, none⟩ = some x4 ∧ w.cell? ⟨g, 5, none⟩ = some x5 ∧ w.cell? ⟨g, 6, none⟩ = some x6 ∧ w.cell? ⟨g, 7, none⟩ = some x7 ∧ w.cell? ⟨g, 8, none⟩ = some x8 := by
  refine ⟨?_, ?_, ?_, ?_, ?_, ?_, ?_, ?_, ?_⟩ <;> rw [cell_of_row _ _ _ _ _ _ h] <;> rfl

theorem conv_bs (w : World) (k : List UInt8) (c : Nat) : Bs (w.alloc (.cells (bytesRow ⟨k.toArray⟩ c) 5 ((bytesRow ⟨k.toArray⟩ c).size, (bytesRow ⟨k.toArray⟩ c).size + 1))) (.slice (some ⟨w.heap.size, 0, none⟩) k.length c) k :=
  ⟨_, _, rfl, .inr ⟨w.heap.size, 0, rfl, fun i hi => by
    rw [Nat.zero_add, conv_cells w ⟨k.toArray⟩ c i hi]
    rfl⟩⟩
theorem sign_parts (w : World) (k l : List UInt8) (c1 c2 : Nat) :
    Bss ((((w.alloc (.cells (bytesRow ⟨k.toArray⟩ c1) 5 ((bytesRow ⟨k.toArray⟩ c1).size, (bytesRow ⟨k.toArray⟩ c1).size + 1))).alloc (.cells #[.int .u8 0] 5)).alloc (.cells (bytesRow ⟨l.toArray⟩ c2) 5 ((bytesRow ⟨l.toArray⟩ c2).size, (bytesRow ⟨l.toArray⟩ c2).size + 1))).alloc
      (.cells #[.slice (some ⟨w.heap.size, 0, none⟩) k.length c1, .slice (some ⟨w.heap.size + 1, 0, none⟩) 1 1, .slice (some ⟨w.heap.size + 1 + 1, 0, none⟩) l.length c2] 89)) (.slice (some ⟨w.heap.size + 1 + 1 + 1, 0, none⟩) 3 3) [k, [0], l] := by
  have h1 := conv_bs w k c1
  have s1 : (w.alloc (.cells (bytesRow ⟨k.toArray⟩ c1) 5 ((bytesRow ⟨k.toArray⟩ c1).size, (bytesRow ⟨k.toArray⟩ c1).size + 1))).heap.size = w.heap.size + 1 := by simp
  generalize w.alloc (.cells (bytesRow ⟨k.toArray⟩ c1) 5 ((bytesRow ⟨k.toArray⟩ c1).size, (bytesRow ⟨k.toArray⟩ c1).size + 1)) = w1 at *
  have h2 : Bs (w1.alloc (.cells #[.int .u8 0] 5)) (.slice (some ⟨w.heap.size + 1, 0, none⟩) 1 1) [0] := Bs.fresh w1 [0] 5 (w.heap.size + 1) s1.symm 1
  have h1 := h1.below (below_alloc w1 (.cells #[.int .u8 0] 5))
  have s2 : (w1.alloc (.cells #[.int .u8 0] 5)).heap.size = w.heap.size + 1 + 1 := by simp [s1]
  generalize w1.alloc (.cells #[.int .u8 0] 5) = w2 at *
  have h3 := conv_bs w2 l c2
  rw [s2] at h3
  have h1 := h1.below (below_alloc w2 (.cells (bytesRow ⟨l.toArray⟩ c2) 5 ((bytesRow ⟨l.toArray⟩ c2).size, (bytesRow ⟨l.toArray⟩ c2).size + 1)))
  have h2 := h2.below (below_alloc w2 (.cells (bytesRow ⟨l.toArray⟩ c2) 5 ((bytesRow ⟨l.toArray⟩ c2).size, (bytesRow ⟨l.toArray⟩ c2).size + 1)))
  have s3 : (w2.alloc (.cells (bytesRow ⟨l.toArray⟩ c2) 5 ((bytesRow ⟨l.toArray⟩ c2).size, (bytesRow ⟨l.toArray⟩ c2).size + 1))).heap.size = w.heap.size + 1 + 1 + 1 := by simp [s2]
  generalize w2.alloc (.cells (bytesRow ⟨l.toArray⟩ c2) 5 ((bytesRow ⟨l.toArray⟩ c2).size, (bytesRow ⟨l.toArray⟩ c2).size + 1)) = w3 at *
  refine ⟨_, 3, rfl, Nat.le_refl _, .inr ⟨w.heap.size + 1 + 1 + 1, 0, rfl, fun i hi => ?_⟩⟩
  have hb := below_alloc w3 (.cells #[.slice (some ⟨w.heap.size, 0, none⟩) k.length c1, .slice (some ⟨w.heap.size + 1, 0, none⟩) 1 1, .slice (some ⟨w.heap.size + 1 + 1, 0, none⟩) l.length c2] 89)
  rw [Nat.zero_add]
  match i, hi with
  | 0, _ => exact ⟨_, cell_new w3 _ _ 0 _ s3.symm, h1.below hb⟩
  | 1, _ => exact ⟨_, cell_new w3 _ _ 1 _ s3.symm, h2.below hb⟩
  | 2, _ => exact ⟨_, cell_new w3 _ _ 2 _ s3.symm, h3.below hb⟩

set_option maxHeartbeats 4000000 in
theorem sign_any (n : Int) (h0 : 0 ≤ n) (h1 : n ≤ 9223372036854775807) (b0 b1 b2 b3 b4 b5 b6 b7 : UInt8) (key : List UInt8) (hk : key.length ≤ 9223372036854775807) (w : World) (E : Env w) :
    Calls Tryz.prog 75 #[.agg (tv n b0 b1 b2 b3 b4 b5 b6 b7), .string ⟨key.toArray⟩] w fun r w' => r = .returned (.string ⟨(signF n.toNat [b0, b1, b2, b3, b4, b5, b6, b7] key).toArray⟩) ∧ Below w.heap.size w w' := by
  unfold tv
  have HE := hide E
  clear E
  have HS : Hid (signF n.toNat [b0, b1, b2, b3, b4, b5, b6, b7] key = (tilesL ++ dec n.toNat ++ [10] ++ hexF [b0, b1, b2, b3, b4, b5, b6, b7] ++ [10]) ++ hexF (hash (key ++ [0] ++ (tilesL ++ dec n.toNat ++ [10] ++ hexF [b0, b1, b2, b3, b4, b5, b6, b7] ++ [10]))) ++ [10]) := rfl
  have hd := dec_length_le n h0 h1
  have hx := hexF_len [b0, b1, b2, b3, b4, b5, b6, b7]
  simp only [List.length_cons, List.length_nil] at hx
  have HX := hide (hexadecimal_any [b0, b1, b2, b3, b4, b5, b6, b7] rfl)
  have HI := hide (itoa_call n h0 h1)
  generalize dec n.toNat = d at *
  generalize hexF [b0, b1, b2, b3, b4, b5, b6, b7] = h at *
  have a1 : ¬ 9223372036854775807 < 6 + d.length := by omega
  have a2 : ¬ 9223372036854775807 < 6 + d.length + 1 := by omega
  have a3 : ¬ 9223372036854775807 < 6 + d.length + 1 + h.length := by omega
  have a4 : ¬ 9223372036854775807 < 6 + d.length + 1 + h.length + 1 := by omega
  have hle := lines_eq d h
  have hll : (tilesL ++ d ++ [10] ++ h ++ [10]).length ≤ 60 := by simp [tilesL]; omega
  generalize tilesL ++ d ++ [10] ++ h ++ [10] = L at *
  have hcv : ∀ (w0 : World) (s : ByteArray), (convert 9 89 (.string s)).run Tryz.prog w0 = _ := fun w0 s => run_bytes_of_string (P := Tryz.prog) w0 9 89 5 s Tryz.underlying9 Tryz.underlying89 Tryz.underlying5
  go_enter Tryz.func75, Tryz.ntmps75
  go_wp2_with fail
  go_region_with (first
    | (go_at_call 76; refine (HI.out _ (HE.out.below (below_alloc w _).drew)).mono ?_; rintro r w1 ⟨rfl, hb1⟩; have HB1 : Hid (Below w.heap.size w w1) := (below_alloc w _).drew.trans (hb1.mono (by simp)); obtain ⟨c0, c1, c2, c3, c4, c5, c6, c7, c8⟩ := cells9 ((hb1.block w.heap.size (by simp)).trans (heap_alloc_last _ _)); clear hb1)
    | (go_at_call 99; refine (HX.out _).mono ?_; rintro r w2 ⟨rfl, hb2⟩; have HB2 : Hid (Below w.heap.size w w2) := HB1.out.trans (hb2.mono HB1.out.size); clear hb2))
  all_goals clear c0 c1 c2 c3 c4 c5 c6 c7 c8 HB1 w1
  all_goals
    have hb4 := fun (o1 o2 o3 o4 : Obj) => (below_alloc3 w2 o1 o2 o3).trans ((below_alloc _ o4).mono (by simp; omega))
    have HB4 : Hid (∀ o1 o2 o3 o4, Below w.heap.size w ((((w2.alloc o1).alloc o2).alloc o3).alloc o4)) := fun o1 o2 o3 o4 => HB2.out.trans ((hb4 o1 o2 o3 o4).mono HB2.out.size)
    clear hb4
    go_wp2_with fail
    refine (hashOf_any _ [key, [0], L] _ (by simp [maxLen]) (fun x hx => by simp at hx; rcases hx with rfl | rfl | rfl <;> (unfold maxLen; simp; try omega)) (by exact (sign_parts w2 key L _ _).below ((Below.refl _ _).drew.drew))).mono ?_
    rintro r w5 ⟨hr5, hb5⟩
    have HB5 : Hid (Below w.heap.size w w5) := ((HB4.out _ _ _ _).drew.drew).trans (hb5.mono (HB4.out _ _ _ _).size)
    rw [show hash [key, [0], L].flatten = hash (key ++ [0] ++ L) by simp] at hr5
    subst hr5
    clear hb5 HB4 hcv
    have hhl := hash_length (key ++ [0] ++ L)
    generalize hash (key ++ [0] ++ L) = H at *
    go_wp2_with fail
    refine (hexadecimal_any H hhl w5).mono ?_
    rintro r w6 ⟨rfl, hb6⟩
    have HB6 : Hid (Below w.heap.size w w6) := HB5.out.trans (hb6.mono HB5.out.size)
    clear hb6
    have hHl := hexF_len H
    rw [hhl] at hHl
    generalize hexF H = M at *
    have a7 : ¬ 9223372036854775807 < L.length + M.length := by omega
    have a8 : ¬ 9223372036854775807 < L.length + M.length + 1 := by omega
    go_wp2_with fail
    go_ret
    refine ⟨?_, HB6.out⟩
    rw [HS.out]
    exact ret_txt (by apply ByteArray.ext; simp)

end Go.Proofs.YtoomnijgdpbphaaGreatDoor

namespace Go.Proofs.YtoomnijgdpbphaaGreatDoor
open Go.RowKit
set_option maxRecDepth 100000

theorem own_mono {e : Bool} {B B' : Nat} {r : Value} {w : World} (h : OwnRes e B r w) (hB : B' ≤ B) : OwnRes e B' r w := by
  rcases h with h | ⟨h, g, h1, h2, h3⟩
  · exact .inl h
  · exact .inr ⟨h, g, h1, Nat.le_trans hB h2, h3⟩
set_option maxHeartbeats 400000 in
theorem swap1_any (O : Nat → Prop) (db lb B1 B2 : Nat) (d : Dk) (x : List UInt8) (w : World) (hn : d.fs.length ≤ 1000000000) (h : DiskAt w O db d)
    (h1 : w.cell? ⟨B1, 0, none⟩ = some (.pointer (some ⟨lb, 0, none⟩))) (h2 : w.cell? ⟨B2, 0, none⟩ = some (txv x)) (hst : w.cell? ⟨lb, 0, none⟩ = some (stV db true)) :
    Calls Tryz.prog 131 #[.pointer (some ⟨B1, 0, none⟩), .pointer (some ⟨B2, 0, none⟩)] w fun r w' => ∃ e, r = .returned e ∧ OwnRes (bad d) w.heap.size e w' ∧ Turn O dT w w' ∧ DiskAt w' (Ext O w w') db (swapD d cpF x) := by
  have l1 := cell_lt h1
  have l2 := cell_lt h2
  have l3 := cell_lt hst
  unfold stV dptr at hst
  simp only [if_true] at hst
  unfold txv at h2
  have h1' : ∀ o, (w.alloc o).cell? ⟨B1, 0, none⟩ = some (.pointer (some ⟨lb, 0, none⟩)) := fun o => by rw [cell_old _ _ ⟨_, 0, none⟩ l1]; exact h1
  have h3' : ∀ o, (w.alloc o).cell? ⟨lb, 0, none⟩ = some (.iface 43 (.pointer (some ⟨db, 0, none⟩))) := fun o => by rw [cell_old _ _ ⟨_, 0, none⟩ l3]; exact hst
  have HD := hide h
  clear h
  have hm := meth_swap
  have hcv := fun w0 => run_bytes_of_string (P := Tryz.prog) w0 9 89 5 ⟨x.toArray⟩ Tryz.underlying9 Tryz.underlying89 Tryz.underlying5
  go_enter Tryz.func131, Tryz.ntmps131
  go_wp2_with fail
  go_region_with (go_at_call 184; refine (swap_any O db d cpF x _ _ hn (by exact HD.out.stay (O1 := fun _ => False) (T := []) ((Turn.refl _ _ w).alloc _).drew.drew (by simp) (by simp)) (by exact bq_conv w x _ (grownCap_ge _ _ _ _))).mono ?_; rintro r w1 ⟨e, rfl, ho, ht, hd⟩; have HO := hide ho; have HT := hide ht; have HDD := hide hd; clear ho ht hd)
  all_goals go_wp2
  all_goals go_ret
  all_goals refine ⟨_, rfl, own_mono HO.out (by show w.heap.size ≤ (w.heap.push _).size; simp), ((Turn.refl O dT w).alloc _).drew.drew.trans (HT.out.mono (fun _ h => .inl h) (fun _ h => h)), HDD.out.mono (fun k hk => ?_)⟩
  all_goals rcases hk with h | ⟨h, h'⟩
  all_goals first | exact .inl h | exact .inr ⟨Nat.le_trans (by show w.heap.size ≤ (w.heap.push _).size; simp) h, h'⟩
/-- The publisher's entries, as a list to be read. -/
theorem OBs.bss' {w : World} {B : Nat} {v : Value} {ls : List (List UInt8)} (h : OBs w B v ls) : Bss w v ls := by
  obtain ⟨xs, ⟨hl, ho⟩, hx⟩ := h
  rcases ho with ⟨rfl, h0⟩ | ⟨g, cap, cur, rfl, hB, hg, hn, hm, hs, ht⟩
  · exact ⟨none, 0, by rw [h0], by rw [h0]; exact Nat.le_refl _, .inl (List.length_eq_zero_iff.1 h0)⟩
  · refine ⟨_, _, rfl, hn, .inr ⟨g, 0, rfl, fun i hi => ?_⟩⟩
    obtain ⟨x, e, hb⟩ := hx i hi
    refine ⟨x, ?_, ?_⟩
    · rw [Nat.zero_add, cell_of_row _ _ _ _ _ _ hg]
      rw [← ht, Nat.mul_one] at e
      rw [List.getElem?_take, if_pos hi] at e
      simpa using e
    · obtain ⟨g', cap', rfl, -, -, hc⟩ := hb.form
      exact ⟨_, _, rfl, .inr ⟨g', 0, rfl, fun j hj => by rw [Nat.zero_add]; exact hc j hj⟩⟩
theorem lall {w : World} {b db : Nat} {ev : Value} {l : Lg} (h : w.heap[b]? = some (.cells (lcells db ev l) 58 (0, 0))) : (w.cell? ⟨b, 0, none⟩ = some (stV db l.live) ∧ w.frozen? ⟨b, 0, none⟩ = false) ∧ (w.cell? ⟨b, 1, none⟩ = some (txv l.key) ∧ w.frozen? ⟨b, 1, none⟩ = false) ∧ (w.cell? ⟨b, 2, none⟩ = some ev ∧ w.frozen? ⟨b, 2, none⟩ = false) ∧ (w.cell? ⟨b, 3, none⟩ = some (.int .i64 l.put) ∧ w.frozen? ⟨b, 3, none⟩ = false) :=
  ⟨dcell h 0 _ rfl, dcell h 1 _ rfl, dcell h 2 _ rfl, dcell h 3 _ rfl⟩

abbrev z9v : Array Value := #[.int .i64 0, .int .u8 0, .int .u8 0, .int .u8 0, .int .u8 0, .int .u8 0, .int .u8 0, .int .u8 0, .int .u8 0]
theorem frozen9 {w : World} {g : Nat} {cs : Array Value} {t : TypeId} (h : w.heap[g]? = some (.cells cs t (0, 0))) : ∀ i, w.frozen? ⟨g, i, none⟩ = false := fun i => by simp [World.frozen?, h]
theorem new_at (w : World) (o1 o2 : Obj) {w1 : World} (hb : Below ((w.alloc o1).alloc o2).drew.heap.size ((w.alloc o1).alloc o2).drew w1) : w1.heap[w.heap.size + 1]? = some o2 := by
  have e : ((w.alloc o1).alloc o2).drew.heap[w.heap.size + 1]? = some o2 := by
    show ((w.alloc o1).alloc o2).heap[w.heap.size + 1]? = some o2
    rw [show w.heap.size + 1 = (w.alloc o1).heap.size by simp]
    exact heap_alloc_last _ _
  rw [hb.block _ (heap_some_lt e)]
  exact e

end Go.Proofs.YtoomnijgdpbphaaGreatDoor
