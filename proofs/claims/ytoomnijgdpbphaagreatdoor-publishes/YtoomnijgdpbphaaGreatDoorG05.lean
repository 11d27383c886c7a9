import Derived.Test.YtoomnijgdpbphaaGreatDoorG03
import Derived.Laws.IdiomStrings
import Derived.Test.YtoomnijgdpbphaaGreatDoorG04
import Derived.Deep.AppendLies
import Derived.Lib.SliceRun

namespace Go.Proofs.YtoomnijgdpbphaaGreatDoor
open Go.RowKit

/-- A text out of a list of bytes. -/
def txt (l : List UInt8) : Value := .string ⟨l.toArray⟩

/-- 'string(b)' of a row that is known. -/
theorem conv_row (w : World) (g : Nat) (cap n : Nat) (l : List UInt8) (t : TypeId) (fr : Nat × Nat) (hn : l.length = n) (hg : w.heap[g]? = some (.cells (hv l) t fr)) :
    (convert 89 9 (.slice (some ⟨g, 0, none⟩) n cap)).run Tryz.prog w = .ok (txt l) w := by
  subst hn
  refine run_convert_bytes_back w _ _ 5 ⟨g, 0, none⟩ cap l Tryz.underlying89 Tryz.underlying5 Tryz.underlying9 (fun j hj => ?_)
  rw [Addr.add_mid, Nat.zero_add, cell_of_row _ _ _ _ _ _ hg]
  simp [hv, bv, hj]

theorem hv_ref (m : Int) (r0 : 0 ≤ m) (r1 : m ≤ 18446744073709551615) : (#[Value.int IntKind.u8 (m / 256 / 256 / 256 / 256 / 256 / 256 / 256),
                Value.int IntKind.u8 (m / 256 / 256 / 256 / 256 / 256 / 256 % 256),
                Value.int IntKind.u8 (m / 256 / 256 / 256 / 256 / 256 % 256),
                Value.int IntKind.u8 (m / 256 / 256 / 256 / 256 % 256),
                Value.int IntKind.u8 (m / 256 / 256 / 256 % 256), Value.int IntKind.u8 (m / 256 / 256 % 256),
                Value.int IntKind.u8 (m / 256 % 256), Value.int IntKind.u8 (m % 256)] : Array Value) = hv (out8 m) := by
  rw [hv_out8 m r0 r1]
  rw [show m / 256 / 256 / 256 / 256 / 256 / 256 / 256 = m / 72057594037927936 by omega, show m / 256 / 256 / 256 / 256 / 256 / 256 = m / 281474976710656 by omega, show m / 256 / 256 / 256 / 256 / 256 = m / 1099511627776 by omega, show m / 256 / 256 / 256 / 256 = m / 4294967296 by omega, show m / 256 / 256 / 256 = m / 16777216 by omega, show m / 256 / 256 = m / 65536 by omega]

set_option maxRecDepth 100000 in
set_option maxHeartbeats 1000000 in
theorem refHash_any (s : ByteArray) (w : World) (hs : s.size ≤ maxLen) :
    Calls Tryz.prog 55 #[.string s] w fun e w' => e = .returned (txt (hash s.data.toList)) ∧ Below w.heap.size w w' := by
  unfold maxLen at hs
  have hmk : ∀ w, (Instr.makeSlice 89 (.int .i64 8) (.int .i64 8)).run Tryz.prog w = .ok (.slice (some ⟨w.heap.size, 0, none⟩) 8 8) (w.alloc (.cells #[Value.int IntKind.u8 0, Value.int IntKind.u8 0, Value.int IntKind.u8 0, Value.int IntKind.u8 0, Value.int IntKind.u8 0, Value.int IntKind.u8 0, Value.int IntKind.u8 0, Value.int IntKind.u8 0] 5)) := fun _ => by kernel_rfl
  go_enter Tryz.func55, Tryz.ntmps55
  go_wp2_with fail
  go_loop [3, 4] (fun t i => ∃ k : Nat, k ≤ s.size ∧ i = .int .i64 k ∧ t = .int .u64 (fnv fnvStart (s.data.toList.take k))) (fun _ i => s.size - (intOf i).toNat)
  case atStart => exact ⟨0, Nat.zero_le _, rfl, rfl⟩
  case round =>
    obtain ⟨k, hk, rfl, rfl⟩ := hrel
    obtain ⟨r0, r1⟩ := fnv_range fnvStart (s.data.toList.take k) fnvStart_range.1 fnvStart_range.2
    by_cases hlt : k < s.size
    · have HS : Hid (fnv fnvStart (s.data.toList.take (k + 1)) = st (fnv fnvStart (s.data.toList.take k)) (s[k]).toNat) := fnv_take fnvStart s.data.toList k (by simpa using hlt)
      have hb : ((s[k]).toNat : Int) ≤ 255 := by have := (s[k]).toNat_lt; omega
      generalize fnv fnvStart (s.data.toList.take k) = m at *
      go_wp2
      go_round
      case rel => exact ⟨k + 1, by omega, by go_num, by rw [HS.out]; unfold st; rfl⟩
      case measure => simp [intOf]; omega
    · have hkl : s.data.toList.take k = s.data.toList := List.take_of_length_le (by simp; show s.size ≤ k; omega)
      rw [hkl] at r0 r1 ⊢
      have Hh : Hid (hash s.data.toList = out8 (fnv fnvStart s.data.toList)) := rfl
      clear hkl
      generalize fnv fnvStart s.data.toList = m at *
      go_wp2_with fail
      refine wp_loop_rounds 9 ?_
      rw [rounds_succ]
      go_wp2
      rw [rounds_succ]
      go_wp2
      rw [rounds_succ]
      go_wp2
      rw [rounds_succ]
      go_wp2
      rw [rounds_succ]
      go_wp2
      rw [rounds_succ]
      go_wp2
      rw [rounds_succ]
      go_wp2
      rw [rounds_succ]
      go_wp2
      rw [rounds_succ]
      go_wp2
      rw [hv_ref m r0 r1, conv_row _ w.heap.size 8 8 (out8 m) 5 (0, 0) rfl (heap_alloc_last _ _)]
      go_wp2
      go_ret
      exact ⟨by rw [Hh.out]; rfl, (Below.refl _ _).alloc (Nat.le_refl _) _⟩

theorem bytes_append (a b : ByteArray) : (a ++ b).data.toList = a.data.toList ++ b.data.toList := by simp
theorem size_append (a b : ByteArray) : (a ++ b).size = a.size + b.size := by simp

set_option maxRecDepth 100000 in
set_option maxHeartbeats 400000 in
theorem refLeaf_any (s : ByteArray) (w : World) (hs : s.size < maxLen) :
    Calls Tryz.prog 64 #[.string s] w fun e w' => e = .returned (txt (leafH s.data.toList)) ∧ Below w.heap.size w w' := by
  have Hs := hide hs
  have h1 : ¬ 9223372036854775807 < 1 + s.size := by unfold maxLen at hs; omega
  clear hs
  go_enter Tryz.func64, Tryz.ntmps64
  go_wp2_with fail
  refine (refHash_any _ w (by rw [size_append]; have := Hs.out; show 1 + s.size ≤ maxLen; omega)).mono ?_
  rintro e w' ⟨hr, hb⟩
  rw [bytes_append] at hr
  have hr' : e = .returned (txt (leafH s.data.toList)) := hr
  subst hr'
  clear hr
  go_wp2_with fail
  go_ret
  exact ⟨rfl, hb⟩

set_option maxRecDepth 100000 in
set_option maxHeartbeats 400000 in
theorem refNode_le (a b : List UInt8) (w : World) (ha : a.length ≤ 8) (hb : b.length ≤ 8) :
    Calls Tryz.prog 66 #[txt a, txt b] w fun e w' => e = .returned (txt (nodeH a b)) ∧ Below w.heap.size w w' := by
  unfold txt
  have H : Hid (∀ l, Value.string ⟨l.toArray⟩ = txt l) := fun _ => rfl
  go_enter Tryz.func66, Tryz.ntmps66
  go_wp2_with fail
  refine (refHash_any _ w (by rw [size_append, size_append]; show 1 + a.toArray.size + b.toArray.size ≤ maxLen; simp [maxLen]; omega)).mono ?_
  rintro e w' ⟨hr, hbe⟩
  rw [bytes_append, bytes_append] at hr
  have hr' : e = .returned (txt (nodeH a b)) := by rw [hr]; simp [nodeH]
  subst hr'
  clear hr
  go_wp2_with fail
  go_ret
  exact ⟨rfl, hbe⟩
theorem refNode_any (a b : List UInt8) (w : World) (ha : a.length = 8) (hb : b.length = 8) :
    Calls Tryz.prog 66 #[txt a, txt b] w fun e w' => e = .returned (txt (nodeH a b)) ∧ Below w.heap.size w w' :=
  refNode_le a b w (by omega) (by omega)
end Go.Proofs.YtoomnijgdpbphaaGreatDoor

namespace Go.Proofs.YtoomnijgdpbphaaGreatDoor
open Go.RowKit

/-- The bytes of texts. -/
def bys (ss : List ByteArray) : List (List UInt8) := ss.map fun s => s.data.toList
theorem bys_length (ss : List ByteArray) : (bys ss).length = ss.length := by simp [bys]
theorem bys_take (ss : List ByteArray) (k : Nat) : bys (ss.take k) = (bys ss).take k := by simp [bys]
theorem bys_drop (ss : List ByteArray) (k : Nat) : bys (ss.drop k) = (bys ss).drop k := by simp [bys]

set_option maxHeartbeats 1000000 in
theorem refRoot_none (f : Nat) (v : Value) (ss : List ByteArray) (w : World) (h0 : ss.length = 0) (h : Sss w v ss) :
    Calls Tryz.prog 32 #[v] w fun r w' => r = .returned (txt (rootF f (bys ss))) ∧ Below w.heap.size w w' := by
  obtain ⟨a, cap, rfl, hcap, -⟩ := h
  rw [rootF_nil f (bys ss) (by rw [bys_length]; exact h0), h0]
  clear hcap
  go_enter Tryz.func32, Tryz.ntmps32
  go_wp2_with fail
  refine (refHash_any _ _ (by decide)).mono ?_
  rintro r w' ⟨hr, hb⟩
  have hr' : r = .returned (txt (hash [])) := hr
  clear hr
  subst hr'
  go_wp2_with fail
  go_ret
  exact ⟨rfl, hb⟩

set_option maxHeartbeats 1000000 in
theorem refRoot_one (f : Nat) (v : Value) (ss : List ByteArray) (w : World) (h1 : ss.length = 1) (hl : ∀ s ∈ ss, s.size < maxLen) (h : Sss w v ss) :
    Calls Tryz.prog 32 #[v] w fun r w' => r = .returned (txt (rootF (f + 1) (bys ss))) ∧ Below w.heap.size w w' := by
  rw [rootF_one f (bys ss) (by rw [bys_length]; exact h1)]
  obtain ⟨s, rfl⟩ := List.length_eq_one_iff.1 h1
  obtain ⟨a, cap, rfl, hcap, h⟩ := h
  rcases h with h | ⟨b, off, rfl, hc⟩
  · simp at h
  have hx : w.cell? ⟨b, off, none⟩ = some (.string s) := hc 0 (by simp)
  have He := hide (hl s (by simp))
  clear hcap hc hl
  have eb : bys [s] = [s.data.toList] := rfl
  rw [eb]
  clear eb
  simp only [List.length_singleton, List.headD_cons] at *
  go_enter Tryz.func32, Tryz.ntmps32
  go_wp2_with fail
  refine (refLeaf_any s _ He.out).mono ?_
  rintro r w' ⟨rfl, hb⟩
  go_wp2_with fail
  go_ret
  exact ⟨rfl, hb⟩

set_option maxHeartbeats 1000000 in
theorem refRoot_more (f : Nat) (b off cap : Nat) (ss : List ByteArray) (w : World) (h2 : 2 ≤ ss.length) (hn : ss.length ≤ 1000000) (hcap : ss.length ≤ cap) (hl : ∀ s ∈ ss, s.size < maxLen) (h : Sss w (.slice (some ⟨b, off, none⟩) ss.length cap) ss)
    (ih : ∀ (v : Value) (ss : List ByteArray) (w : World), ss.length ≤ f → ss.length ≤ 1000000 → (∀ s ∈ ss, s.size < maxLen) → Sss w v ss → Calls Tryz.prog 32 #[v] w fun r w' => r = .returned (txt (rootF f (bys ss))) ∧ Below w.heap.size w w') (hf : ss.length ≤ f + 1) :
    Calls Tryz.prog 32 #[.slice (some ⟨b, off, none⟩) ss.length cap] w fun r w' => r = .returned (txt (rootF (f + 1) (bys ss))) ∧ Below w.heap.size w w' := by
  obtain ⟨k1, k2, k3⟩ := kOf_spec ss.length h2
  rw [rootF_more f (bys ss) (by rw [bys_length]; exact h2), bys_length, ← bys_take, ← bys_drop]
  have hk : kOf ss.length ≤ ss.length := by omega
  have Hl := hide hl
  have H := hide h
  have IH := hide ih
  have f1 : (ss.take (kOf ss.length)).length ≤ f := by simp; omega
  have f2 : (ss.drop (kOf ss.length)).length ≤ f := by simp; omega
  have f3 : (ss.take (kOf ss.length)).length ≤ 1000000 := by simp; omega
  have f4 : (ss.drop (kOf ss.length)).length ≤ 1000000 := by simp; omega
  have F := hide (And.intro f1 (And.intro f2 (And.intro f3 f4)))
  clear f1 f2 f3 f4
  have n1 : ((ss.length : Int) == 0) = false := beq_eq_false_iff_ne.2 (by omega)
  have n2 : ((ss.length : Int) == 1) = false := beq_eq_false_iff_ne.2 (by omega)
  clear hl h ih
  go_enter Tryz.func32, Tryz.ntmps32
  go_wp2_with fail
  refine (below_any ss.length _ h2 (Nat.le_trans hn (by decide))).mono ?_
  rintro e w' ⟨rfl, rfl⟩
  have c1 : (kOf ss.length : Int) ≤ (cap : Int) := by omega
  have c2 : (kOf ss.length : Int) ≤ (ss.length : Int) := by omega
  have c3 : (0 : Int) ≤ (kOf ss.length : Int) := by omega
  go_wp2_with fail
  refine (IH.out _ (ss.take (kOf ss.length)) _ F.out.1 F.out.2.2.1 (fun l hl => Hl.out l (List.mem_of_mem_take hl)) (by exact H.out.take _ hk)).mono ?_
  rintro e w1 ⟨rfl, hb1⟩
  have HB1 := hide hb1
  clear hb1
  go_wp2_with fail
  refine (IH.out _ (ss.drop (kOf ss.length)) _ F.out.2.1 F.out.2.2.2 (fun l hl => Hl.out l (List.mem_of_mem_drop hl)) (by exact (H.out.drop _ hk).below HB1.out)).mono ?_
  rintro e w2 ⟨rfl, hb2⟩
  have HB2 := hide (HB1.out.trans (hb2.mono HB1.out.size))
  clear hb2
  go_wp2_with fail
  refine (refNode_any _ _ _ (rootF_length _ _) (rootF_length _ _)).mono ?_
  rintro e w3 ⟨rfl, hb3⟩
  have HB3 := hide (HB2.out.trans (hb3.mono HB2.out.size))
  clear hb3
  go_wp2_with fail
  go_ret
  exact ⟨rfl, HB3.out⟩

theorem refRoot_any (f : Nat) : ∀ (v : Value) (ss : List ByteArray) (w : World), ss.length ≤ f → ss.length ≤ 1000000 → (∀ s ∈ ss, s.size < maxLen) → Sss w v ss →
    Calls Tryz.prog 32 #[v] w fun r w' => r = .returned (txt (rootF f (bys ss))) ∧ Below w.heap.size w w' := by
  induction f with
  | zero => exact fun v ss w hf _ _ h => refRoot_none 0 v ss w (by omega) h
  | succ f ih =>
    intro v ss w hf hn hl h
    by_cases h0 : ss.length = 0
    · exact refRoot_none _ v ss w h0 h
    by_cases h1 : ss.length = 1
    · exact refRoot_one f v ss w h1 hl h
    · have h' := h
      obtain ⟨a, cap, rfl, hcap, h⟩ := h
      rcases h with h | ⟨b, off, rfl, -⟩
      · exact absurd (by simp [h]) h0
      · exact refRoot_more f b off cap ss w (by omega) hn hcap hl h' ih hf
end Go.Proofs.YtoomnijgdpbphaaGreatDoor

namespace Go.Proofs.YtoomnijgdpbphaaGreatDoor
open Go.RowKit

theorem bys_snoc (ss : List ByteArray) (k : Nat) (h : k < ss.length) : (bys ss).take (k + 1) = (bys ss).take k ++ [ss[k].data.toList] := by
  rw [List.take_succ_eq_append_getElem (by rw [bys_length]; exact h)]; simp [bys]
/-- A slice of bytes in a block of the call's own (a row of bytes), which may be written. -/
def EB (w : World) (B : Nat) (x : Value) (l : List UInt8) : Prop :=
  ∃ g cap C fr, x = .slice (some ⟨g, 0, none⟩) l.length cap ∧ B ≤ g ∧ w.heap[g]? = some (.cells C 5 fr) ∧ (∀ i (h : i < l.length), C[i]? = some (bv l[i])) ∧ l.length ≤ fr.1
/-- A slice of such. -/
def EBs (w : World) (B : Nat) (v : Value) (ls : List (List UInt8)) : Prop :=
  ∃ xs : List Value, w.ownsRow B 89 1 v ls.length xs ∧ ∀ j (h : j < ls.length), ∃ x, xs[j]? = some x ∧ EB w B x ls[j]

theorem heap_lt {w : World} {g : Nat} {o : Obj} (h : w.heap[g]? = some o) : g < w.heap.size := by
  rcases Nat.lt_or_ge g w.heap.size with h' | h'
  · exact h'
  · simp [Array.getElem?_eq_none h'] at h
theorem EB.below {w w' : World} {B : Nat} {x : Value} {l : List UInt8} (h : EB w B x l) (hb : Below w.heap.size w w') : EB w' B x l := by
  obtain ⟨g, cap, C, fr, e, hB, hg, hc, hf⟩ := h
  exact ⟨g, cap, C, fr, e, hB, by rw [hb.block g (heap_lt hg)]; exact hg, hc, hf⟩
theorem EB.grown {w w' : World} {B : Nat} {x v : Value} {l : List UInt8} {n : Nat} {xs : List Value} (h : EB w B x l) (ho : w.ownsRow B 89 1 v n xs) (hg' : w.grownBy w' v.ownBlock) : EB w' B x l := by
  obtain ⟨g, cap, C, fr, e, hB, hg, hc, hf⟩ := h
  refine ⟨g, cap, C, fr, e, hB, ?_, hc, hf⟩
  rw [hg'.block g (heap_lt hg) ?_]
  · exact hg
  · intro hq
    rcases ho.2 with ⟨rfl, _⟩ | ⟨g', c', cur, rfl, _, hg2, _⟩
    · simp [Value.ownBlock] at hq
    · simp only [Value.ownBlock, Option.some.injEq] at hq
      subst hq
      rw [hg] at hg2
      simp at hg2
theorem ownsRow_below {w w' : World} {B : Nat} {e : TypeId} {s : Nat} {v : Value} {n : Nat} {xs : List Value} (h : w.ownsRow B e s v n xs) (hb : Below w.heap.size w w') : w'.ownsRow B e s v n xs := by
  refine ⟨h.1, ?_⟩
  rcases h.2 with h | ⟨g, cap, cur, e1, e2, e3, r⟩
  · exact .inl h
  · exact .inr ⟨g, cap, cur, e1, e2, by rw [hb.block g (heap_lt e3)]; exact e3, r⟩
theorem EB.bs {w : World} {B : Nat} {x : Value} {l : List UInt8} (h : EB w B x l) : Bs w x l := by
  obtain ⟨g, cap, C, fr, rfl, hB, hg, hc, hf⟩ := h
  refine ⟨_, _, rfl, .inr ⟨g, 0, rfl, fun i hi => ?_⟩⟩
  rw [Nat.zero_add, cell_of_row _ _ _ _ _ _ hg]
  exact hc i hi
theorem EBs.bss {w : World} {B : Nat} {v : Value} {ls : List (List UInt8)} (h : EBs w B v ls) : Bss w v ls := by
  obtain ⟨xs, ⟨hl, ho⟩, hx⟩ := h
  rcases ho with ⟨rfl, h0⟩ | ⟨g, cap, cur, rfl, hB, hg, hn, hm, hs, ht⟩
  · exact ⟨none, 0, by rw [h0], by rw [h0]; exact Nat.le_refl _, .inl (List.length_eq_zero_iff.1 h0)⟩
  · refine ⟨_, _, rfl, hn, .inr ⟨g, 0, rfl, fun i hi => ?_⟩⟩
    obtain ⟨x, e, hb⟩ := hx i hi
    refine ⟨x, ?_, hb.bs⟩
    rw [Nat.zero_add, cell_of_row _ _ _ _ _ _ hg]
    rw [← ht, Nat.mul_one] at e
    rw [List.getElem?_take, if_pos hi] at e
    simpa using e
/-- What '[]byte(s)' lays. -/
theorem EB.conv (w : World) (s : ByteArray) (B cap : Nat) (hB : B ≤ w.heap.size) :
    EB (w.alloc (.cells (bytesRow s cap) 5 ((bytesRow s cap).size, (bytesRow s cap).size + 1))) B (.slice (some ⟨w.heap.size, 0, none⟩) s.size cap) s.data.toList := by
  refine ⟨w.heap.size, cap, _, _, by simp, hB, heap_alloc_last _ _, fun i hi => ?_, ?_⟩
  · have hi' : i < s.data.size := by simpa using hi
    rw [bytesRow, Array.getElem?_append_left (by simpa using hi')]
    rw [Array.getElem?_map, Array.getElem?_eq_getElem hi']
    rfl
  · simp [bytesRow]

theorem ent_step {wr w1 : World} {B : Nat} {u : Value} {xs : List Value} {ls : List (List UInt8)} {s : ByteArray} {cap g cap' : Nat} {o2 : Obj} (hB : B ≤ wr.heap.size) (ho : wr.ownsRow B 89 1 u ls.length xs)
    (hx : ∀ j (h : j < ls.length), ∃ x, xs[j]? = some x ∧ EB wr B x ls[j])
    (hown : w1.ownsRow B 89 1 (.slice (some ⟨g, 0, none⟩) (ls.length + 1) cap') (ls.length + 1) (xs ++ [.slice (some ⟨wr.heap.size, 0, none⟩) s.size cap]))
    (hgrow : (((wr.alloc (.cells (bytesRow s cap) 5 ((bytesRow s cap).size, (bytesRow s cap).size + 1))).alloc o2).drew).grownBy w1 u.ownBlock) :
    EBs w1 B (.slice (some ⟨g, 0, none⟩) (ls.length + 1) cap') (ls ++ [s.data.toList]) := by
  have hxl : xs.length = ls.length := by rw [ho.1, Nat.mul_one]
  refine ⟨xs ++ [.slice (some ⟨wr.heap.size, 0, none⟩) s.size cap], by simpa using hown, fun j hj => ?_⟩
  have ho2 := ownsRow_below ho (w' := ((wr.alloc (.cells (bytesRow s cap) 5 ((bytesRow s cap).size, (bytesRow s cap).size + 1))).alloc o2).drew) (below_alloc2 _ _ _).drew
  by_cases hjl : j < ls.length
  · obtain ⟨x, e, hb⟩ := hx j hjl
    refine ⟨x, by rw [List.getElem?_append_left (by omega)]; exact e, ?_⟩
    rw [List.getElem_append_left hjl]
    exact (hb.below (below_alloc2 _ _ _).drew).grown ho2 hgrow
  · obtain rfl : j = ls.length := by simp at hj; omega
    refine ⟨.slice (some ⟨wr.heap.size, 0, none⟩) s.size cap, by rw [List.getElem?_append_right (by omega), hxl]; simp, ?_⟩
    rw [List.getElem_append_right (Nat.le_refl _)]
    simp only [Nat.sub_self, List.getElem_cons_zero]
    exact EB.grown (w := ((wr.alloc (.cells (bytesRow s cap) 5 ((bytesRow s cap).size, (bytesRow s cap).size + 1))).alloc o2).drew) ((EB.conv wr s B cap hB).below (below_alloc _ _).drew) ho2 hgrow
theorem own_base {w : World} {B : Nat} {e : TypeId} {s : Nat} {v : Value} {n : Nat} {xs : List Value} (h : w.ownsRow B e s v n xs) : ∀ k, v.ownBlock = some k → B ≤ k := by
  intro k hk
  rcases h.2 with ⟨rfl, _⟩ | ⟨g, cap, cur, rfl, hB, _⟩
  · simp [Value.ownBlock] at hk
  · simp only [Value.ownBlock, Option.some.injEq] at hk
    omega

theorem infoBytes : (Tryz.prog.info? 89).map (fun i => (i.zero, i.size, i.bytes)) = some (some (.slice none 0 0), 1, 24) := by kernel_rfl

end Go.Proofs.YtoomnijgdpbphaaGreatDoor
