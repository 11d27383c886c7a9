import Derived.Test.YtoomnijgdpbphaaGreatDoorG09
import Derived.Test.YtoomnijgdpbphaaGreatDoorG15
import Derived.Test.YtoomnijgdpbphaaGreatDoorG11
import Derived.Laws.IdiomStrings
import Derived.Laws.AppendOwn
import Derived.Laws.Closers25
import Derived.Laws.Closers25b
import Derived.BigCall
import Derived.BigGuard

namespace Go.Proofs.YtoomnijgdpbphaaGreatDoor
open Go.RowKit
set_option maxRecDepth 100000

theorem bq_shape {w : World} {v : Value} {l : List UInt8} (h : Bq w v l) : ∃ a n c, v = .slice a n c := by
  obtain ⟨g, cap, C, fr, rfl, -⟩ := h
  exact ⟨_, _, _, rfl⟩
theorem Turn.undrewN {O : Nat → Prop} {T : List Nat} {a w : World} {n : Nat} (h : Turn O T (a.drewN n) w) : Turn O T a w := ⟨h.os, h.tape, h.output, h.size, h.block⟩
theorem Ext.undrew {O : Nat → Prop} {w w' : World} : ∀ k, Ext O w.drew w' k → Ext O w w' k := fun _ h => h

set_option maxHeartbeats 400000 in
theorem put1_any (O : Nat → Prop) (db lb B1 B2 B3 : Nat) (d : Dk) (p x : List UInt8) (v : Value) (w : World) (hn : d.fs.length ≤ 1000000000) (h : DiskAt w O db d) (hv : Bq w v x)
    (h1 : w.cell? ⟨B1, 0, none⟩ = some (.pointer (some ⟨lb, 0, none⟩))) (h2 : w.cell? ⟨B2, 0, none⟩ = some (txv p)) (h3 : w.cell? ⟨B3, 0, none⟩ = some v) (hst : w.cell? ⟨lb, 0, none⟩ = some (stV db true)) :
    Calls Tryz.prog 148 #[.pointer (some ⟨B1, 0, none⟩), .pointer (some ⟨B2, 0, none⟩), .pointer (some ⟨B3, 0, none⟩)] w fun r w' => ∃ e, r = .returned e ∧ OwnRes (putE d p x) w.heap.size e w' ∧ Turn O dT w w' ∧ DiskAt w' (Ext O w w') db (putD d p x) := by
  unfold stV dptr at hst
  simp only [if_true] at hst
  unfold txv at h2
  have HD := hide h
  have HV := hide hv
  clear h hv
  have hm := meth_put
  go_enter Tryz.func148, Tryz.ntmps148
  go_wp2_with fail
  go_region_with (go_at_call 183; refine (put_any O db d p x v _ hn (by exact HD.out) (by exact HV.out)).mono ?_; rintro r w1 ⟨e, rfl, ho, ht, hd⟩; have HO := hide ho; have HT := hide ht; have HDD := hide hd; clear ho ht hd)
  all_goals go_wp2
  all_goals go_ret
  all_goals exact ⟨_, rfl, HO.out, HT.out.undrew, HDD.out.mono Ext.undrew⟩

/-- Behind askStore, where the call writes. -/
theorem ask_end {O : Nat → Prop} {w W3 W4 w' w5 : World} {db : Nat} {d' : Dk} {b : Bool} {p : List UInt8} {e : Value} {r : Ending} (hbl : Below w.heap.size w W4) (h3 : w.heap.size ≤ W3.heap.size) (h0 : W4.heap[W3.heap.size]? = some (.cells #[.nilIface] 39 (0, 0)))
    (ho : OwnRes b W4.heap.size e w') (ht : Turn O dT W4 w') (hd : DiskAt w' (Ext O W4 w') db d')
    (h : (e = .nilIface ∧ r = .returned .nilIface ∧ w5 = w'.setCell ⟨W3.heap.size, 0, none⟩ .nilIface) ∨ ((∃ g, e = errV g) ∧ r = .returned (pathE w'.heap.size) ∧ w5 = (w'.alloc (.cells #[txv p, e] 64)).setCell ⟨W3.heap.size, 0, none⟩ (pathE w'.heap.size))) :
    ∃ e', r = .returned e' ∧ GotErr b p w.heap.size e' w5 ∧ Turn O dT w w5 ∧ DiskAt w5 (Ext O w w5) db d' := by
  have tw : Turn O dT w w' := (Turn.of_below hbl).trans (ht.mono (fun _ h => .inl h) (fun _ h => h))
  have q0 := ht.keep h0 (by decide)
  have hw4 : w.heap.size ≤ W4.heap.size := hbl.size
  have hx : ∀ k, Ext O W4 w' k → Ext O w w' k := by
    rintro k (h | h)
    · exact .inl h
    · exact .inr (by omega)
  rcases h with ⟨rfl, rfl, rfl⟩ | ⟨⟨g', rfl⟩, rfl, rfl⟩
  · have hb : b = false := by
      rcases ho with ⟨h, -⟩ | ⟨-, g, h, -⟩
      · exact h
      · simp [errV] at h
    have tB := set_cell_turn q0 (by decide) .nilIface
    exact ⟨_, rfl, .inl ⟨hb, rfl⟩, tw.setNew h3 _ _, ((hd.mono hx).stay tB (by decide) (by decide)).mono (Ext.more (by simp [World.setCell]))⟩
  · have hb : b = true ∧ ErrAt w' g' := by
      rcases ho with ⟨-, h⟩ | ⟨h, g, h', -, h2⟩
      · simp [errV] at h
      · simp [errV] at h'
        exact ⟨h, h' ▸ h2⟩
    have tP : Turn (fun _ => True) cT w' (w'.alloc (.cells #[txv p, errV g'] 64)) := (Turn.refl _ _ _).alloc _
    have tB := set_cell_turn (heap_alloc_old (o := .cells #[txv p, errV g'] 64) q0) (by decide) (pathE w'.heap.size)
    refine ⟨_, rfl, .inr ⟨hb.1, _, rfl, tw.size, g', tB.keep (heap_alloc_last _ _) (by decide), (hb.2.turn tP (by decide)).turn tB (by decide)⟩, (tw.alloc _).setNew h3 _ _, (((hd.mono hx).stay tP (by decide) (by decide)).stay tB (by decide) (by decide)).mono (Ext.more (by simp [World.setCell]))⟩

set_option maxHeartbeats 1000000 in
theorem lput_any (O : Nat → Prop) (db lb : Nat) (d : Dk) (p x : List UInt8) (v : Value) (w : World) (hn : d.fs.length ≤ 1000000000) (h : DiskAt w O db d) (hv : Bq w v x) (hst : w.cell? ⟨lb, 0, none⟩ = some (stV db true)) :
    Calls Tryz.prog 129 #[.pointer (some ⟨lb, 0, none⟩), txv p, v] w fun r w' => ∃ e, r = .returned e ∧ GotErr (putE d p x) p w.heap.size e w' ∧ Turn O dT w w' ∧ DiskAt w' (Ext O w w') db (putD d p x) := by
  have hmf : ∀ (fn : Fn) (first cap : Array Value) (w : World), (Instr.makeFunc fn first cap).run Tryz.prog w = .ok (.func fn first cap) w := fun _ _ _ _ => rfl
  have eg : ∀ args w, (callFunc 148 args).run Tryz.prog w = .ok (.enter 148 args) w := enters_of Tryz.func148 (by kernel_rfl) rfl
  obtain ⟨a, n, c, rfl⟩ := bq_shape hv
  have HD := hide h
  have HV := hide hv
  have HS := hide hst
  clear h hv hst
  have htx : txv p = .string ⟨p.toArray⟩ := rfl
  rw [htx]
  go_enter Tryz.func129, Tryz.ntmps129
  go_wp2_with fail
  obtain ⟨s3, p1, p2, p3, hb3⟩ := alloc3 w (.cells #[.pointer (some ⟨lb, 0, none⟩)] 37) (.cells #[.string ⟨p.toArray⟩] 9) (.cells #[.slice a n c] 89)
  generalize (((w.alloc (.cells #[.pointer (some ⟨lb, 0, none⟩)] 37)).alloc (.cells #[.string ⟨p.toArray⟩] 9)).alloc (.cells #[.slice a n c] 89)) = W3 at *
  have S3 := hide s3
  have hcall := put1_any O db lb w.heap.size (w.heap.size + 1) (w.heap.size + 1 + 1) d p x (.slice a n c) (W3.alloc (.cells #[.nilIface] 39)) hn
    (HD.out.stay (O1 := fun _ => False) (T := []) ((Turn.of_below hb3).alloc _) (by simp) (by simp)) ((HV.out.below hb3).below (below_alloc _ _))
    (dcell (heap_alloc_old p1) 0 _ rfl).1 (dcell (heap_alloc_old p2) 0 _ rfl).1 (dcell (heap_alloc_old p3) 0 _ rfl).1 (by rw [cell_old _ _ ⟨_, 0, none⟩ (Nat.lt_of_lt_of_le (cell_lt HS.out) hb3.size), hb3.cell (p := ⟨lb, 0, none⟩) (cell_lt HS.out)]; exact HS.out)
  have H0 : Hid ((W3.alloc (.cells #[.nilIface] 39)).heap[W3.heap.size]? = some (.cells #[.nilIface] 39 (0, 0))) := heap_alloc_last _ _
  have hbl : Hid (Below w.heap.size w (W3.alloc (.cells #[.nilIface] 39))) := hb3.alloc (by omega) _
  refine (ask_any p 148 _ W3 (fun e w' => OwnRes (putE d p x) (W3.alloc (.cells #[.nilIface] 39)).heap.size e w' ∧ Turn O dT (W3.alloc (.cells #[.nilIface] 39)) w' ∧ DiskAt w' (Ext O (W3.alloc (.cells #[.nilIface] 39)) w') db (putD d p x)) eg hcall ?_).mono ?_
  · rintro e w' ⟨ho, ht, -⟩
    exact ⟨own_shape ho, ht.keep H0.out (by decide)⟩
  clear hcall p1 p2 p3 hb3 s3
  generalize W3.alloc (.cells #[.nilIface] 39) = W4 at *
  have h34 : w.heap.size ≤ W3.heap.size := by have := S3.out; omega
  rintro r w5 ⟨e, w', ⟨ho, ht, hd⟩, h⟩
  have HE := hide (ask_end hbl.out h34 H0.out ho ht hd h)
  clear ho ht hd h
  obtain ⟨e', he'⟩ := HE.out
  obtain rfl := he'.1
  have HX := hide he'.2
  clear he' HE
  go_wp2_with fail
  go_ret
  exact ⟨_, rfl, HX.out⟩
end Go.Proofs.YtoomnijgdpbphaaGreatDoor

namespace Go.Proofs.YtoomnijgdpbphaaGreatDoor
open Go.RowKit
set_option maxRecDepth 100000

theorem or32 : ∀ c : Fin 256, 97 ≤ c.val → c.val ≤ 102 → bits BinOp.or IntKind.u8 (c.val : Int) 32 = (c.val : Int) := by decide +kernel
theorem or32_hex (c : UInt8) (h1 : 97 ≤ c.toNat) (h2 : c.toNat ≤ 102) : bits BinOp.or IntKind.u8 (c.toNat : Int) 32 = (c.toNat : Int) := or32 ⟨c.toNat, by have := c.toNat_lt; omega⟩ h1 h2
/-- The bytes of a text, converted. -/
theorem conv_cells (w : World) (s : ByteArray) (cap : Nat) (k : Nat) (hk : k < s.size) : (w.alloc (.cells (bytesRow s cap) 5 ((bytesRow s cap).size, (bytesRow s cap).size + 1))).cell? ⟨w.heap.size, k, none⟩ = some (bv s[k]) := by
  have hk' : k < s.data.size := hk
  rw [cell_of_row _ _ _ _ _ _ (heap_alloc_last _ _), bytesRow, Array.getElem?_append_left (by simpa using hk'), Array.getElem?_map, Array.getElem?_eq_getElem hk']
  rfl

set_option maxHeartbeats 2000000 in
theorem parse16_good (l : List UInt8) (h1 : 1 ≤ l.length) (h2 : l.length ≤ 16) (hg : ∀ c ∈ l, isHex c) (w : World) :
    Calls Tryz.prog 96 #[.string ⟨l.toArray⟩, .int .i64 16, .int .i64 64] w fun r w' => r = .returned (.tuple #[.int .u64 (hexN 0 l : Nat), .nilIface]) ∧ Below w.heap.size w w' := by
  have HG := hide hg
  obtain ⟨c0, r0, hl0⟩ : ∃ c r, l = c :: r := by
    cases l with
    | nil => simp at h1
    | cons c r => exact ⟨c, r, rfl⟩
  have hne : (l == []) = false := by rw [hl0]; rfl
  have hemp : l.isEmpty = false := by rw [hl0]; rfl
  clear hl0 hg
  have hcv := run_bytes_of_string (P := Tryz.prog) w 9 89 5 ⟨l.toArray⟩ Tryz.underlying9 Tryz.underlying89 Tryz.underlying5
  have HC : Hid (∀ k (hk : k < l.length), (w.alloc (.cells (bytesRow ⟨l.toArray⟩ (grownCap w l.length 0 5)) 5 ((bytesRow ⟨l.toArray⟩ (grownCap w l.length 0 5)).size, (bytesRow ⟨l.toArray⟩ (grownCap w l.length 0 5)).size + 1))).cell? ⟨w.heap.size, k, none⟩ = some (.int .u8 (l[k].toNat : Int))) := fun k hk => by
    rw [conv_cells w ⟨l.toArray⟩ _ k hk]
    rfl
  have HB := hide (below_alloc w (.cells (bytesRow ⟨l.toArray⟩ (grownCap w l.length 0 5)) 5 ((bytesRow ⟨l.toArray⟩ (grownCap w l.length 0 5)).size, (bytesRow ⟨l.toArray⟩ (grownCap w l.length 0 5)).size + 1)))
  have hmx : IntKind.u64.wrap (IntKind.u64.wrap 18446744073709551616 - 1) = 18446744073709551615 := by decide
  go_enter Tryz.func96, Tryz.ntmps96
  go_wp2_with fail
  generalize w.alloc (.cells (bytesRow ⟨l.toArray⟩ (grownCap w l.length 0 5)) 5 ((bytesRow ⟨l.toArray⟩ (grownCap w l.length 0 5)).size, (bytesRow ⟨l.toArray⟩ (grownCap w l.length 0 5)).size + 1)) = W0 at *
  generalize grownCap w l.length 0 5 = cp at *
  clear hcv
  go_loopw [12, 13, 101] (fun t12 t13 i wr => ∃ (k : Nat) (a : Int), k ≤ l.length ∧ i = .int .i64 k ∧ t12 = .bool false ∧ t13 = .int .u64 a ∧ Hid (a = (hexN 0 (l.take k) : Nat)) ∧ wr = W0.drew) (fun _ _ i _ => l.length - (intOf i).toNat)
  case atStart => exact ⟨0, 0, Nat.zero_le _, rfl, rfl, rfl, rfl, rfl⟩
  case round =>
    obtain ⟨k, a, hk, rfl, rfl, rfl, ha, rfl⟩ := hrel
    by_cases hlt : k < l.length
    · have hx := HC.out k hlt
      have hh := HG.out l[k] (List.getElem_mem hlt)
      have hn60 : hexN 0 (l.take k) < 1152921504606846976 := by
        have := hexN_lt (l.take k) (fun c hc => HG.out c (List.mem_of_mem_take hc)) 0 0 (by decide)
        have e : (l.take k).length ≤ 15 := by simp; omega
        have := Nat.lt_of_lt_of_le this (Nat.pow_le_pow_right (n := 16) (by decide) (show 0 + (l.take k).length ≤ 15 by omega))
        exact this
      have hS : hexN 0 (l.take (k + 1)) = hexN 0 (l.take k) * 16 + nv l[k] := by
        rw [List.take_succ_eq_append_getElem hlt, hexN_append]
        rfl
      have ha' := ha.out
      have i0 : 0 ≤ a := by omega
      have i1 : a < 1152921504606846976 := by omega
      generalize l[k] = c at *
      unfold isHex at hh
      rcases hh with ⟨d1, d2⟩ | ⟨d1, d2⟩
      · have HV : Hid (a * 16 + ((c.toNat : Int) - 48) = (hexN 0 (l.take (k + 1)) : Nat)) := by
          show _ = _
          rw [hS]
          unfold nv
          rw [if_pos d2]
          omega
        have e1 : ((c.toNat : Int) == 95) = false := by rw [beq_eq_false_iff_ne]; omega
        clear hn60 hS ha' ha
        go_wp2
        refine ⟨⟨k + 1, a * 16 + ((c.toNat : Int) - 48), by omega, (by first | rfl | go_num), rfl, (by first | rfl | (congr 1; omega)), HV, trivial⟩, by simp [intOf]; omega⟩
      · have HV : Hid (a * 16 + ((c.toNat : Int) - 97 + 10) = (hexN 0 (l.take (k + 1)) : Nat)) := by
          show _ = _
          rw [hS]
          unfold nv
          rw [if_neg (by omega)]
          omega
        have e1 : ((c.toNat : Int) == 95) = false := by rw [beq_eq_false_iff_ne]; omega
        have ho := or32_hex c d1 d2
        clear hn60 hS ha' ha
        go_wp2
        refine ⟨⟨k + 1, a * 16 + ((c.toNat : Int) - 97 + 10), by omega, (by first | rfl | go_num), rfl, (by first | rfl | (congr 1; omega)), HV, trivial⟩, by simp [intOf]; omega⟩
    · have ha' := ha.out
      rw [List.take_of_length_le (by omega)] at ha'
      have HA := hide ha'
      clear ha' ha
      go_wp2_with fail
      go_ret2
      exact ⟨by rw [HA.out]; rfl, HB.out.drew⟩

set_option maxHeartbeats 4000000 in
theorem parse16_any (l : List UInt8) (h2 : l.length ≤ 1000000000) (w : World) :
    Calls Tryz.prog 96 #[.string ⟨l.toArray⟩, .int .i64 16, .int .i64 64] w fun r w' => ∃ v e, r = .returned (.tuple #[.int .u64 v, e]) ∧ 0 ≤ v ∧ v ≤ 18446744073709551615 ∧ (e = .nilIface ∨ e = .iface 182 (.int .i64 1) ∨ e = .iface 182 (.int .i64 2)) ∧ Below w.heap.size w w' := by
  cases l with
  | nil =>
    go_enter Tryz.func96, Tryz.ntmps96
    go_wp2_with fail
    go_ret2
    exact ⟨_, _, rfl, by decide, by decide, .inr (.inr rfl), Below.refl _ _⟩
  | cons c0 r0 =>
    have hcv := run_bytes_of_string (P := Tryz.prog) w 9 89 5 ⟨(c0 :: r0).toArray⟩ Tryz.underlying9 Tryz.underlying89 Tryz.underlying5
    have hne : (c0 :: r0 == []) = false := rfl
    have hemp : (c0 :: r0).isEmpty = false := rfl
    generalize c0 :: r0 = l at *
    have HC : Hid (∀ k (hk : k < l.length), (w.alloc (.cells (bytesRow ⟨l.toArray⟩ (grownCap w l.length 0 5)) 5 ((bytesRow ⟨l.toArray⟩ (grownCap w l.length 0 5)).size, (bytesRow ⟨l.toArray⟩ (grownCap w l.length 0 5)).size + 1))).cell? ⟨w.heap.size, k, none⟩ = some (.int .u8 (l[k].toNat : Int))) := fun k hk => by
      rw [conv_cells w ⟨l.toArray⟩ _ k hk]
      rfl
    have HB := hide (below_alloc w (.cells (bytesRow ⟨l.toArray⟩ (grownCap w l.length 0 5)) 5 ((bytesRow ⟨l.toArray⟩ (grownCap w l.length 0 5)).size, (bytesRow ⟨l.toArray⟩ (grownCap w l.length 0 5)).size + 1)))
    have hmx : IntKind.u64.wrap (IntKind.u64.wrap 18446744073709551616 - 1) = 18446744073709551615 := by decide
    go_enter Tryz.func96, Tryz.ntmps96
    go_wp2_with fail
    generalize w.alloc (.cells (bytesRow ⟨l.toArray⟩ (grownCap w l.length 0 5)) 5 ((bytesRow ⟨l.toArray⟩ (grownCap w l.length 0 5)).size, (bytesRow ⟨l.toArray⟩ (grownCap w l.length 0 5)).size + 1)) = W0 at *
    generalize grownCap w l.length 0 5 = cp at *
    clear hcv
    go_loopw [12, 13, 101] (fun t12 t13 i wr => ∃ (k : Nat) (a : Int), k ≤ l.length ∧ i = .int .i64 k ∧ t12 = .bool false ∧ t13 = .int .u64 a ∧ 0 ≤ a ∧ a ≤ 18446744073709551615 ∧ wr = W0.drew) (fun _ _ i _ => l.length - (intOf i).toNat)
    case atStart => exact ⟨0, 0, Nat.zero_le _, rfl, rfl, rfl, by decide, by decide, rfl⟩
    case round =>
      obtain ⟨k, a, hk, rfl, rfl, rfl, i0, i1, rfl⟩ := hrel
      by_cases hlt : k < l.length
      · have hx := HC.out k hlt
        have hc := (l[k]).toNat_lt
        generalize l[k] = c at *
        have hv0 := bits_lo_u8 .or (c.toNat : Int) 32
        have hv1 := bits_hi_u8 .or (c.toNat : Int) 32
        have hu0 := bits_lo_u8 .or 95 32
        have hu1 := bits_hi_u8 .or 95 32
        go_wp2
        all_goals first
          | (go_ret2; exact ⟨_, _, rfl, by decide, by decide, .inr (.inr rfl), HB.out.drew⟩)
          | (go_ret2; exact ⟨_, _, rfl, by decide, by decide, .inr (.inl rfl), HB.out.drew⟩)
          | (refine ⟨⟨k + 1, _, by omega, (by first | rfl | go_num), rfl, rfl, by omega, by omega, trivial⟩, by simp [intOf]; omega⟩)
      · go_wp2_with fail
        go_ret2
        exact ⟨_, _, rfl, i0, i1, .inl rfl, HB.out.drew⟩
end Go.Proofs.YtoomnijgdpbphaaGreatDoor
