
import Derived.Test.YtbjpjidliggdhaaDoorPathMath
import Derived.Test.YtbjpjidliggdhaaDoorRefRoot
import Derived.Test.YtbjpjidliggdhaaDoorEightsWalks
import Derived.Deep.RegionLaw
namespace Go.Proofs.YtbjpjidliggdhaaDoor
open Go.RowKit
set_option maxRecDepth 100000

/-- A list of texts of its own. -/
def OwnS (w w' : World) (x : Value) (ps : List (List UInt8)) : Prop := w'.ownsRow w.heap.size 9 1 x ps.length (ps.map txt)
theorem ownsS_none (w w' : World) (z : List (List UInt8)) (hz : z = []) : OwnS w w' (.slice none 0 0) z := by
  subst hz; exact ⟨rfl, .inl ⟨rfl, rfl⟩⟩
theorem ownsS_one (w w2 : World) (p : List UInt8) (hs : w.heap.size ≤ w2.heap.size) : OwnS w (w2.alloc (.cells #[txt p] 9)) (.slice (some ⟨w2.heap.size, 0, none⟩) 1 1) [p] := by
  refine ⟨by simp, .inr ⟨w2.heap.size, 1, #[txt p], rfl, hs, heap_alloc_last _ _, by simp, by unfold maxLen; simp, by simp, by simp⟩⟩

set_option maxHeartbeats 1000000 in
theorem rpath_left (f : Nat) (b off cap i : Nat) (ss : List ByteArray) (w : World) (h2 : 2 ≤ ss.length) (hn : ss.length ≤ 1000000) (hik : i < kOf ss.length) (hcap : ss.length ≤ cap) (hl : ∀ s ∈ ss, s.size < maxLen) (h : Sss w (.slice (some ⟨b, off, none⟩) ss.length cap) ss) (hf : ss.length ≤ f + 1) (hf6 : f ≤ 1000000)
    (ih : ∀ (v : Value) (ss : List ByteArray) (i : Int) (w : World), 1 ≤ ss.length → ss.length ≤ f → 0 ≤ i → i < ss.length → (∀ s ∈ ss, s.size < maxLen) → Sss w v ss → Calls Tryd.prog 9 #[v, .int .i64 i] w fun r w' => ∃ x, r = .returned x ∧ Below w.heap.size w w' ∧ OwnS w w' x (pathF f (bys ss) i.toNat)) :
    Calls Tryd.prog 9 #[.slice (some ⟨b, off, none⟩) ss.length cap, .int .i64 i] w fun r w' => ∃ x, r = .returned x ∧ Below w.heap.size w w' ∧ OwnS w w' x (pathF (f + 1) (bys ss) i) := by
  obtain ⟨t, hi, hi'⟩ := Option.map_eq_some_iff.1 infoStr
  obtain ⟨hz0, hz1, hz2⟩ : t.zero = some (.string ⟨#[]⟩) ∧ t.size = 1 ∧ t.bytes = 16 := by simpa using hi'
  clear hi'
  have HI := hide hi
  have HZ := hide (And.intro hz0 (And.intro hz1 hz2))
  clear hi hz0 hz1 hz2
  obtain ⟨k1, k2, k3⟩ := kOf_spec ss.length h2
  unfold OwnS
  have eb := bys_length ss
  rw [pathF_left f (bys ss) i (by omega) (by rw [eb]; exact hik), List.map_append, List.length_append, List.length_singleton, eb]
  clear eb
  have hk : kOf ss.length ≤ ss.length := by omega
  have Hl := hide hl
  have H := hide h
  have IH := hide (ih (.slice (some ⟨b, off, none⟩) (kOf ss.length) cap) (ss.take (kOf ss.length)) (i : Int))
  have RT := hide (refRoot_any f)
  have f1 : (ss.take (kOf ss.length)).length ≤ f := by simp; omega
  have f2 : (ss.drop (kOf ss.length)).length ≤ f := by simp; omega
  have f3 : 1 ≤ (ss.take (kOf ss.length)).length := by simp; omega
  have f4 : (ss.drop (kOf ss.length)).length ≤ 1000000 := by simp; omega
  have f5 : 0 ≤ ((i : Int) : Int) := by omega
  have f6 : (i : Int) < ((ss.take (kOf ss.length)).length : Int) := by simp; omega
  have F := hide (And.intro f1 (And.intro f2 (And.intro f3 (And.intro f4 (And.intro f5 f6)))))
  clear f1 f2 f3 f4 f5 f6
  have HE : Hid (((i : Int) : Int).toNat = i) := (by omega : ((i : Int) : Int).toNat = i)
  rw [HE.out, bys_take] at IH
  have HC := hide (Nat.le_trans (pathF_count f ((bys ss).take (kOf ss.length)) (i)) hf6)
  have HRB := hide (bys_drop ss (kOf ss.length))
  generalize hR : rootF f ((bys ss).drop (kOf ss.length)) = R at *
  have HR := hide hR
  generalize pathF f ((bys ss).take (kOf ss.length)) (i) = P at *
  have n2 : ((ss.length : Int) == 1) = false := beq_eq_false_iff_ne.2 (by omega)
  clear hl h ih hR
  have c1 : (kOf ss.length : Int) ≤ (cap : Int) := by omega
  have c2 : (kOf ss.length : Int) ≤ (ss.length : Int) := by omega
  have c3 : (0 : Int) ≤ (kOf ss.length : Int) := by omega
  have c6 : IntKind.i64.wrap ((i : Int)) = (i : Int) := by rw [IntKind.wrap_i64]; omega
  have c5 : ¬ cap = kOf ss.length := by omega
  have c4 : (i : Int) < (kOf ss.length : Int) := by omega
  go_enter Tryd.func9, Tryd.ntmps9
  go_wp2_with fail
  refine (below_any ss.length _ h2 (Nat.le_trans hn (by decide))).mono ?_
  rintro e w' ⟨rfl, hw⟩
  rw [hw]
  clear hw w'
  go_wp2_with fail
  refine (IH.out _ F.out.2.2.1 F.out.1 F.out.2.2.2.2.1 F.out.2.2.2.2.2 (fun l hl => Hl.out l (List.mem_of_mem_take hl)) (by exact H.out.take _ hk)).mono ?_
  rintro e w1 ⟨y, rfl, hb1, ho1⟩
  have HB1 := hide hb1
  have HO1 : Hid (w1.ownsRow w.heap.size 9 1 y P.length (P.map txt)) := ho1
  clear hb1 ho1
  go_wp2_with fail
  refine (RT.out _ (ss.drop (kOf ss.length)) _ F.out.2.1 F.out.2.2.2.1 (fun l hl => Hl.out l (List.mem_of_mem_drop hl)) (by exact (H.out.drop _ hk).below HB1.out)).mono ?_
  rintro e w2 ⟨hr, hb2⟩
  rw [HRB.out, HR.out] at hr
  subst hr
  have HB2 := hide (HB1.out.trans (hb2.mono HB1.out.size))
  have HO2 : Hid (∀ o, (w2.alloc o).ownsRow w.heap.size 9 1 y P.length (P.map txt)) := fun o => ownsRow_below HO1.out (hb2.trans ((below_alloc w2 o).mono hb2.size))
  have hsz : Hid (w.heap.size ≤ w2.heap.size) := HB2.out.size
  clear hb2
  unfold txt
  go_wp2_with (at_builtin; refine wpList_append_lies _ rfl _ _ _ rfl w.heap.size 9 t (.string ⟨#[]⟩) 1 16 Tryd.underlying22 HI.out HZ.out.1 HZ.out.2.1 HZ.out.2.2 rfl (by omega) y P.length _ rfl (HO2.out _) ⟨w2.heap.size, 0, none⟩ 1 1 [.string ⟨R.toArray⟩] rfl rfl (World.news_of_block (heap_alloc_last _ _)) (by simp [Value.oneCell']) (by omega) (by have := HC.out; unfold maxLen; omega) (by have := HC.out; omega) (by have := hsz.out; simp; omega) (w2.heap.size + 1) (by simp) ?_; intro g cap' w3 hown hgrow hat hltg)
  have HB3 : Hid (Below w.heap.size w w3) := ((HB2.out.trans ((below_alloc w2 _).mono HB2.out.size)).grown hgrow (by have := HB2.out.size; simp; omega) (own_base HO1.out))
  have HO3 := hide hown
  clear hgrow hat hltg hown
  go_wp2_with fail
  go_ret
  exact ⟨_, rfl, HB3.out, HO3.out⟩

set_option maxHeartbeats 1000000 in
theorem rpath_right (f : Nat) (b off cap i : Nat) (ss : List ByteArray) (w : World) (h2 : 2 ≤ ss.length) (hn : ss.length ≤ 1000000) (hik : ¬ i < kOf ss.length) (hin : i < ss.length) (hcap : ss.length ≤ cap) (hl : ∀ s ∈ ss, s.size < maxLen) (h : Sss w (.slice (some ⟨b, off, none⟩) ss.length cap) ss) (hf : ss.length ≤ f + 1) (hf6 : f ≤ 1000000)
    (ih : ∀ (v : Value) (ss : List ByteArray) (i : Int) (w : World), 1 ≤ ss.length → ss.length ≤ f → 0 ≤ i → i < ss.length → (∀ s ∈ ss, s.size < maxLen) → Sss w v ss → Calls Tryd.prog 9 #[v, .int .i64 i] w fun r w' => ∃ x, r = .returned x ∧ Below w.heap.size w w' ∧ OwnS w w' x (pathF f (bys ss) i.toNat)) :
    Calls Tryd.prog 9 #[.slice (some ⟨b, off, none⟩) ss.length cap, .int .i64 i] w fun r w' => ∃ x, r = .returned x ∧ Below w.heap.size w w' ∧ OwnS w w' x (pathF (f + 1) (bys ss) i) := by
  obtain ⟨t, hi, hi'⟩ := Option.map_eq_some_iff.1 infoStr
  obtain ⟨hz0, hz1, hz2⟩ : t.zero = some (.string ⟨#[]⟩) ∧ t.size = 1 ∧ t.bytes = 16 := by simpa using hi'
  clear hi'
  have HI := hide hi
  have HZ := hide (And.intro hz0 (And.intro hz1 hz2))
  clear hi hz0 hz1 hz2
  obtain ⟨k1, k2, k3⟩ := kOf_spec ss.length h2
  unfold OwnS
  have eb := bys_length ss
  rw [pathF_right f (bys ss) i (by omega) (by rw [eb]; exact hik), List.map_append, List.length_append, List.length_singleton, eb]
  clear eb
  have hk : kOf ss.length ≤ ss.length := by omega
  have Hl := hide hl
  have H := hide h
  have IH := hide (ih (.slice (some ⟨b, off + kOf ss.length, none⟩) (ss.length - kOf ss.length) (cap - kOf ss.length)) (ss.drop (kOf ss.length)) ((i : Int) - (kOf ss.length : Int)))
  have RT := hide (refRoot_any f)
  have f1 : (ss.drop (kOf ss.length)).length ≤ f := by simp; omega
  have f2 : (ss.take (kOf ss.length)).length ≤ f := by simp; omega
  have f3 : 1 ≤ (ss.drop (kOf ss.length)).length := by simp; omega
  have f4 : (ss.take (kOf ss.length)).length ≤ 1000000 := by simp; omega
  have f5 : 0 ≤ ((i : Int) - (kOf ss.length : Int) : Int) := by omega
  have f6 : (i : Int) - (kOf ss.length : Int) < ((ss.drop (kOf ss.length)).length : Int) := by simp; omega
  have F := hide (And.intro f1 (And.intro f2 (And.intro f3 (And.intro f4 (And.intro f5 f6)))))
  clear f1 f2 f3 f4 f5 f6
  have HE : Hid (((i : Int) - (kOf ss.length : Int) : Int).toNat = i - kOf ss.length) := (by omega : ((i : Int) - (kOf ss.length : Int) : Int).toNat = i - kOf ss.length)
  rw [HE.out, bys_drop] at IH
  have HC := hide (Nat.le_trans (pathF_count f ((bys ss).drop (kOf ss.length)) (i - kOf ss.length)) hf6)
  have HRB := hide (bys_take ss (kOf ss.length))
  generalize hR : rootF f ((bys ss).take (kOf ss.length)) = R at *
  have HR := hide hR
  generalize pathF f ((bys ss).drop (kOf ss.length)) (i - kOf ss.length) = P at *
  have n2 : ((ss.length : Int) == 1) = false := beq_eq_false_iff_ne.2 (by omega)
  clear hl h ih hR
  have c1 : (kOf ss.length : Int) ≤ (cap : Int) := by omega
  have c2 : (kOf ss.length : Int) ≤ (ss.length : Int) := by omega
  have c3 : (0 : Int) ≤ (kOf ss.length : Int) := by omega
  have c6 : IntKind.i64.wrap ((i : Int) - (kOf ss.length : Int)) = (i : Int) - (kOf ss.length : Int) := by rw [IntKind.wrap_i64]; omega
  have c5 : ¬ cap = kOf ss.length := by omega
  have c4 : ¬ (i : Int) < (kOf ss.length : Int) := by omega
  go_enter Tryd.func9, Tryd.ntmps9
  go_wp2_with fail
  refine (below_any ss.length _ h2 (Nat.le_trans hn (by decide))).mono ?_
  rintro e w' ⟨rfl, hw⟩
  rw [hw]
  clear hw w'
  go_wp2_with fail
  refine (IH.out _ F.out.2.2.1 F.out.1 F.out.2.2.2.2.1 F.out.2.2.2.2.2 (fun l hl => Hl.out l (List.mem_of_mem_drop hl)) (by exact H.out.drop _ hk)).mono ?_
  rintro e w1 ⟨y, rfl, hb1, ho1⟩
  have HB1 := hide hb1
  have HO1 : Hid (w1.ownsRow w.heap.size 9 1 y P.length (P.map txt)) := ho1
  clear hb1 ho1
  go_wp2_with fail
  refine (RT.out _ (ss.take (kOf ss.length)) _ F.out.2.1 F.out.2.2.2.1 (fun l hl => Hl.out l (List.mem_of_mem_take hl)) (by exact (H.out.take _ hk).below HB1.out)).mono ?_
  rintro e w2 ⟨hr, hb2⟩
  rw [HRB.out, HR.out] at hr
  subst hr
  have HB2 := hide (HB1.out.trans (hb2.mono HB1.out.size))
  have HO2 : Hid (∀ o, (w2.alloc o).ownsRow w.heap.size 9 1 y P.length (P.map txt)) := fun o => ownsRow_below HO1.out (hb2.trans ((below_alloc w2 o).mono hb2.size))
  have hsz : Hid (w.heap.size ≤ w2.heap.size) := HB2.out.size
  clear hb2
  unfold txt
  go_wp2_with (at_builtin; refine wpList_append_lies _ rfl _ _ _ rfl w.heap.size 9 t (.string ⟨#[]⟩) 1 16 Tryd.underlying22 HI.out HZ.out.1 HZ.out.2.1 HZ.out.2.2 rfl (by omega) y P.length _ rfl (HO2.out _) ⟨w2.heap.size, 0, none⟩ 1 1 [.string ⟨R.toArray⟩] rfl rfl (World.news_of_block (heap_alloc_last _ _)) (by simp [Value.oneCell']) (by omega) (by have := HC.out; unfold maxLen; omega) (by have := HC.out; omega) (by have := hsz.out; simp; omega) (w2.heap.size + 1) (by simp) ?_; intro g cap' w3 hown hgrow hat hltg)
  have HB3 : Hid (Below w.heap.size w w3) := ((HB2.out.trans ((below_alloc w2 _).mono HB2.out.size)).grown hgrow (by have := HB2.out.size; simp; omega) (own_base HO1.out))
  have HO3 := hide hown
  clear hgrow hat hltg hown
  go_wp2_with fail
  go_ret
  exact ⟨_, rfl, HB3.out, HO3.out⟩

set_option maxHeartbeats 1000000 in
theorem rpart_left (f : Nat) (b off cap m : Nat) (whole : Bool) (ss : List ByteArray) (w : World) (h2 : 2 ≤ ss.length) (hn : ss.length ≤ 1000000) (hm1 : 1 ≤ m) (_hml : m ≠ ss.length) (hmk : m ≤ kOf ss.length) (hcap : ss.length ≤ cap) (hl : ∀ s ∈ ss, s.size < maxLen) (h : Sss w (.slice (some ⟨b, off, none⟩) ss.length cap) ss) (hf : ss.length ≤ f + 1) (hf6 : f ≤ 1000000)
    (ih : ∀ (v : Value) (ss : List ByteArray) (m : Int) (whole : Bool) (w : World), 1 ≤ ss.length → ss.length ≤ f → 0 ≤ m → (1 ≤ m ∧ m ≤ ss.length) → (∀ s ∈ ss, s.size < maxLen) → Sss w v ss → Calls Tryd.prog 11 #[.int .i64 m, v, .bool whole] w fun r w' => ∃ x, r = .returned x ∧ Below w.heap.size w w' ∧ OwnS w w' x (prtF f m.toNat (bys ss) whole)) :
    Calls Tryd.prog 11 #[.int .i64 m, .slice (some ⟨b, off, none⟩) ss.length cap, .bool whole] w fun r w' => ∃ x, r = .returned x ∧ Below w.heap.size w w' ∧ OwnS w w' x (prtF (f + 1) m (bys ss) whole) := by
  obtain ⟨t, hi, hi'⟩ := Option.map_eq_some_iff.1 infoStr
  obtain ⟨hz0, hz1, hz2⟩ : t.zero = some (.string ⟨#[]⟩) ∧ t.size = 1 ∧ t.bytes = 16 := by simpa using hi'
  clear hi'
  have HI := hide hi
  have HZ := hide (And.intro hz0 (And.intro hz1 hz2))
  clear hi hz0 hz1 hz2
  obtain ⟨k1, k2, k3⟩ := kOf_spec ss.length h2
  unfold OwnS
  have eb := bys_length ss
  rw [prtF_left f m (bys ss) whole (by omega) (by rw [eb]; exact hmk), List.map_append, List.length_append, List.length_singleton, eb]
  clear eb
  have hk : kOf ss.length ≤ ss.length := by omega
  have Hl := hide hl
  have H := hide h
  have IH := hide (ih (.slice (some ⟨b, off, none⟩) (kOf ss.length) cap) (ss.take (kOf ss.length)) (m : Int) whole)
  have RT := hide (refRoot_any f)
  have f1 : (ss.take (kOf ss.length)).length ≤ f := by simp; omega
  have f2 : (ss.drop (kOf ss.length)).length ≤ f := by simp; omega
  have f3 : 1 ≤ (ss.take (kOf ss.length)).length := by simp; omega
  have f4 : (ss.drop (kOf ss.length)).length ≤ 1000000 := by simp; omega
  have f5 : 0 ≤ ((m : Int) : Int) := by omega
  have f6 : 1 ≤ (m : Int) ∧ (m : Int) ≤ ((ss.take (kOf ss.length)).length : Int) := by simp; omega
  have F := hide (And.intro f1 (And.intro f2 (And.intro f3 (And.intro f4 (And.intro f5 f6)))))
  clear f1 f2 f3 f4 f5 f6
  have HE : Hid (((m : Int) : Int).toNat = m) := (by omega : ((m : Int) : Int).toNat = m)
  rw [HE.out, bys_take] at IH
  have HC := hide (Nat.le_trans (prtF_count f (m) ((bys ss).take (kOf ss.length)) whole) hf6)
  have HRB := hide (bys_drop ss (kOf ss.length))
  generalize hR : rootF f ((bys ss).drop (kOf ss.length)) = R at *
  have HR := hide hR
  generalize prtF f (m) ((bys ss).take (kOf ss.length)) whole = P at *
  have n2 : ((m : Int) == (ss.length : Int)) = false := beq_eq_false_iff_ne.2 (by omega)
  clear hl h ih hR
  have c1 : (kOf ss.length : Int) ≤ (cap : Int) := by omega
  have c2 : (kOf ss.length : Int) ≤ (ss.length : Int) := by omega
  have c3 : (0 : Int) ≤ (kOf ss.length : Int) := by omega
  have c6 : IntKind.i64.wrap ((m : Int)) = (m : Int) := by rw [IntKind.wrap_i64]; omega
  have c5 : ¬ cap = kOf ss.length := by omega
  have c4 : (m : Int) ≤ (kOf ss.length : Int) := by omega
  go_enter Tryd.func11, Tryd.ntmps11
  go_wp2_with fail
  refine (below_any ss.length _ h2 (Nat.le_trans hn (by decide))).mono ?_
  rintro e w' ⟨rfl, hw⟩
  rw [hw]
  clear hw w'
  go_wp2_with fail
  refine (IH.out _ F.out.2.2.1 F.out.1 F.out.2.2.2.2.1 F.out.2.2.2.2.2 (fun l hl => Hl.out l (List.mem_of_mem_take hl)) (by exact H.out.take _ hk)).mono ?_
  rintro e w1 ⟨y, rfl, hb1, ho1⟩
  have HB1 := hide hb1
  have HO1 : Hid (w1.ownsRow w.heap.size 9 1 y P.length (P.map txt)) := ho1
  clear hb1 ho1
  go_wp2_with fail
  refine (RT.out _ (ss.drop (kOf ss.length)) _ F.out.2.1 F.out.2.2.2.1 (fun l hl => Hl.out l (List.mem_of_mem_drop hl)) (by exact (H.out.drop _ hk).below HB1.out)).mono ?_
  rintro e w2 ⟨hr, hb2⟩
  rw [HRB.out, HR.out] at hr
  subst hr
  have HB2 := hide (HB1.out.trans (hb2.mono HB1.out.size))
  have HO2 : Hid (∀ o, (w2.alloc o).ownsRow w.heap.size 9 1 y P.length (P.map txt)) := fun o => ownsRow_below HO1.out (hb2.trans ((below_alloc w2 o).mono hb2.size))
  have hsz : Hid (w.heap.size ≤ w2.heap.size) := HB2.out.size
  clear hb2
  unfold txt
  go_wp2_with (at_builtin; refine wpList_append_lies _ rfl _ _ _ rfl w.heap.size 9 t (.string ⟨#[]⟩) 1 16 Tryd.underlying22 HI.out HZ.out.1 HZ.out.2.1 HZ.out.2.2 rfl (by omega) y P.length _ rfl (HO2.out _) ⟨w2.heap.size, 0, none⟩ 1 1 [.string ⟨R.toArray⟩] rfl rfl (World.news_of_block (heap_alloc_last _ _)) (by simp [Value.oneCell']) (by omega) (by have := HC.out; unfold maxLen; omega) (by have := HC.out; omega) (by have := hsz.out; simp; omega) (w2.heap.size + 1) (by simp) ?_; intro g cap' w3 hown hgrow hat hltg)
  have HB3 : Hid (Below w.heap.size w w3) := ((HB2.out.trans ((below_alloc w2 _).mono HB2.out.size)).grown hgrow (by have := HB2.out.size; simp; omega) (own_base HO1.out))
  have HO3 := hide hown
  clear hgrow hat hltg hown
  go_wp2_with fail
  go_ret
  exact ⟨_, rfl, HB3.out, HO3.out⟩

set_option maxHeartbeats 1000000 in
theorem rpart_right (f : Nat) (b off cap m : Nat) (whole : Bool) (ss : List ByteArray) (w : World) (h2 : 2 ≤ ss.length) (hn : ss.length ≤ 1000000) (hm1 : m < ss.length) (_hml : m ≠ ss.length) (hmk : ¬ m ≤ kOf ss.length) (hcap : ss.length ≤ cap) (hl : ∀ s ∈ ss, s.size < maxLen) (h : Sss w (.slice (some ⟨b, off, none⟩) ss.length cap) ss) (hf : ss.length ≤ f + 1) (hf6 : f ≤ 1000000)
    (ih : ∀ (v : Value) (ss : List ByteArray) (m : Int) (whole : Bool) (w : World), 1 ≤ ss.length → ss.length ≤ f → 0 ≤ m → (1 ≤ m ∧ m ≤ ss.length) → (∀ s ∈ ss, s.size < maxLen) → Sss w v ss → Calls Tryd.prog 11 #[.int .i64 m, v, .bool whole] w fun r w' => ∃ x, r = .returned x ∧ Below w.heap.size w w' ∧ OwnS w w' x (prtF f m.toNat (bys ss) whole)) :
    Calls Tryd.prog 11 #[.int .i64 m, .slice (some ⟨b, off, none⟩) ss.length cap, .bool whole] w fun r w' => ∃ x, r = .returned x ∧ Below w.heap.size w w' ∧ OwnS w w' x (prtF (f + 1) m (bys ss) whole) := by
  obtain ⟨t, hi, hi'⟩ := Option.map_eq_some_iff.1 infoStr
  obtain ⟨hz0, hz1, hz2⟩ : t.zero = some (.string ⟨#[]⟩) ∧ t.size = 1 ∧ t.bytes = 16 := by simpa using hi'
  clear hi'
  have HI := hide hi
  have HZ := hide (And.intro hz0 (And.intro hz1 hz2))
  clear hi hz0 hz1 hz2
  obtain ⟨k1, k2, k3⟩ := kOf_spec ss.length h2
  unfold OwnS
  have eb := bys_length ss
  rw [prtF_right f m (bys ss) whole (by omega) (by rw [eb]; exact hmk), List.map_append, List.length_append, List.length_singleton, eb]
  clear eb
  have hk : kOf ss.length ≤ ss.length := by omega
  have Hl := hide hl
  have H := hide h
  have IH := hide (ih (.slice (some ⟨b, off + kOf ss.length, none⟩) (ss.length - kOf ss.length) (cap - kOf ss.length)) (ss.drop (kOf ss.length)) ((m : Int) - (kOf ss.length : Int)) false)
  have RT := hide (refRoot_any f)
  have f1 : (ss.drop (kOf ss.length)).length ≤ f := by simp; omega
  have f2 : (ss.take (kOf ss.length)).length ≤ f := by simp; omega
  have f3 : 1 ≤ (ss.drop (kOf ss.length)).length := by simp; omega
  have f4 : (ss.take (kOf ss.length)).length ≤ 1000000 := by simp; omega
  have f5 : 0 ≤ ((m : Int) - (kOf ss.length : Int) : Int) := by omega
  have f6 : 1 ≤ (m : Int) - (kOf ss.length : Int) ∧ (m : Int) - (kOf ss.length : Int) ≤ ((ss.drop (kOf ss.length)).length : Int) := by simp; omega
  have F := hide (And.intro f1 (And.intro f2 (And.intro f3 (And.intro f4 (And.intro f5 f6)))))
  clear f1 f2 f3 f4 f5 f6
  have HE : Hid (((m : Int) - (kOf ss.length : Int) : Int).toNat = m - kOf ss.length) := (by omega : ((m : Int) - (kOf ss.length : Int) : Int).toNat = m - kOf ss.length)
  rw [HE.out, bys_drop] at IH
  have HC := hide (Nat.le_trans (prtF_count f (m - kOf ss.length) ((bys ss).drop (kOf ss.length)) false) hf6)
  have HRB := hide (bys_take ss (kOf ss.length))
  generalize hR : rootF f ((bys ss).take (kOf ss.length)) = R at *
  have HR := hide hR
  generalize prtF f (m - kOf ss.length) ((bys ss).drop (kOf ss.length)) false = P at *
  have n2 : ((m : Int) == (ss.length : Int)) = false := beq_eq_false_iff_ne.2 (by omega)
  clear hl h ih hR
  have c1 : (kOf ss.length : Int) ≤ (cap : Int) := by omega
  have c2 : (kOf ss.length : Int) ≤ (ss.length : Int) := by omega
  have c3 : (0 : Int) ≤ (kOf ss.length : Int) := by omega
  have c6 : IntKind.i64.wrap ((m : Int) - (kOf ss.length : Int)) = (m : Int) - (kOf ss.length : Int) := by rw [IntKind.wrap_i64]; omega
  have c5 : ¬ cap = kOf ss.length := by omega
  have c4 : ¬ (m : Int) ≤ (kOf ss.length : Int) := by omega
  go_enter Tryd.func11, Tryd.ntmps11
  go_wp2_with fail
  refine (below_any ss.length _ h2 (Nat.le_trans hn (by decide))).mono ?_
  rintro e w' ⟨rfl, hw⟩
  rw [hw]
  clear hw w'
  go_wp2_with fail
  refine (IH.out _ F.out.2.2.1 F.out.1 F.out.2.2.2.2.1 F.out.2.2.2.2.2 (fun l hl => Hl.out l (List.mem_of_mem_drop hl)) (by exact H.out.drop _ hk)).mono ?_
  rintro e w1 ⟨y, rfl, hb1, ho1⟩
  have HB1 := hide hb1
  have HO1 : Hid (w1.ownsRow w.heap.size 9 1 y P.length (P.map txt)) := ho1
  clear hb1 ho1
  go_wp2_with fail
  refine (RT.out _ (ss.take (kOf ss.length)) _ F.out.2.1 F.out.2.2.2.1 (fun l hl => Hl.out l (List.mem_of_mem_take hl)) (by exact (H.out.take _ hk).below HB1.out)).mono ?_
  rintro e w2 ⟨hr, hb2⟩
  rw [HRB.out, HR.out] at hr
  subst hr
  have HB2 := hide (HB1.out.trans (hb2.mono HB1.out.size))
  have HO2 : Hid (∀ o, (w2.alloc o).ownsRow w.heap.size 9 1 y P.length (P.map txt)) := fun o => ownsRow_below HO1.out (hb2.trans ((below_alloc w2 o).mono hb2.size))
  have hsz : Hid (w.heap.size ≤ w2.heap.size) := HB2.out.size
  clear hb2
  unfold txt
  go_wp2_with (at_builtin; refine wpList_append_lies _ rfl _ _ _ rfl w.heap.size 9 t (.string ⟨#[]⟩) 1 16 Tryd.underlying22 HI.out HZ.out.1 HZ.out.2.1 HZ.out.2.2 rfl (by omega) y P.length _ rfl (HO2.out _) ⟨w2.heap.size, 0, none⟩ 1 1 [.string ⟨R.toArray⟩] rfl rfl (World.news_of_block (heap_alloc_last _ _)) (by simp [Value.oneCell']) (by omega) (by have := HC.out; unfold maxLen; omega) (by have := HC.out; omega) (by have := hsz.out; simp; omega) (w2.heap.size + 1) (by simp) ?_; intro g cap' w3 hown hgrow hat hltg)
  have HB3 : Hid (Below w.heap.size w w3) := ((HB2.out.trans ((below_alloc w2 _).mono HB2.out.size)).grown hgrow (by have := HB2.out.size; simp; omega) (own_base HO1.out))
  have HO3 := hide hown
  clear hgrow hat hltg hown
  go_wp2_with fail
  go_ret
  exact ⟨_, rfl, HB3.out, HO3.out⟩

set_option maxHeartbeats 1000000 in
theorem rpath_one (i : Nat) (v : Value) (ss : List ByteArray) (w : World) (h1 : ss.length = 1) (h : Sss w v ss) :
    Calls Tryd.prog 9 #[v, .int .i64 i] w fun r w' => r = .returned (.slice none 0 0) ∧ Below w.heap.size w w' := by
  obtain ⟨a, cap, rfl, hcap, -⟩ := h
  rw [h1]
  clear hcap
  go_enter Tryd.func9, Tryd.ntmps9
  go_wp2
  go_ret
  exact ⟨rfl, Below.refl _ _⟩
theorem rpath_any (f : Nat) (hf6 : f ≤ 1000000) : ∀ (v : Value) (ss : List ByteArray) (i : Int) (w : World), 1 ≤ ss.length → ss.length ≤ f → 0 ≤ i → i < ss.length → (∀ s ∈ ss, s.size < maxLen) → Sss w v ss → Calls Tryd.prog 9 #[v, .int .i64 i] w fun r w' => ∃ x, r = .returned x ∧ Below w.heap.size w w' ∧ OwnS w w' x (pathF f (bys ss) i.toNat) := by
  induction f with
  | zero => intro v ss i w h1 h2; omega
  | succ f ih =>
    intro v ss i w h1 hf hi0 hi hl h
    obtain ⟨n, rfl⟩ := Int.eq_ofNat_of_zero_le hi0
    by_cases h2 : ss.length = 1
    · refine (rpath_one n v ss w h2 h).mono ?_
      rintro r w' ⟨rfl, hb⟩
      exact ⟨_, rfl, hb, ownsS_none _ _ _ (pathF_one _ _ _ (by rw [bys_length]; omega))⟩
    have h' := h
    obtain ⟨a, cap, rfl, hcap, h⟩ := h
    rcases h with h | ⟨b, off, rfl, -⟩
    · simp [h] at h1
    by_cases hk : n < kOf ss.length
    · exact rpath_left f b off cap n ss w (by omega) (by omega) hk hcap hl h' hf (by omega) (ih (by omega))
    · exact rpath_right f b off cap n ss w (by omega) (by omega) hk (by omega) hcap hl h' hf (by omega) (ih (by omega))
set_option maxHeartbeats 1000000 in
theorem rpart_whole (v : Value) (ss : List ByteArray) (w : World) (h : Sss w v ss) :
    Calls Tryd.prog 11 #[.int .i64 ss.length, v, .bool true] w fun r w' => r = .returned (.slice none 0 0) ∧ Below w.heap.size w w' := by
  obtain ⟨a, cap, rfl, hcap, -⟩ := h
  clear hcap
  go_enter Tryd.func11, Tryd.ntmps11
  go_wp2
  go_ret
  exact ⟨rfl, Below.refl _ _⟩
set_option maxHeartbeats 1000000 in
theorem rpart_not (f : Nat) (v : Value) (ss : List ByteArray) (w : World) (hf : ss.length ≤ f) (hn : ss.length ≤ 1000000) (hl : ∀ s ∈ ss, s.size < maxLen) (h : Sss w v ss) :
    Calls Tryd.prog 11 #[.int .i64 ss.length, v, .bool false] w fun r w' => ∃ x, r = .returned x ∧ Below w.heap.size w w' ∧ OwnS w w' x [rootF f (bys ss)] := by
  have H := hide h
  have Hl := hide hl
  have Hf := hide (And.intro hf hn)
  obtain ⟨a, cap, rfl, hcap, -⟩ := h
  clear hcap hl hf hn
  go_enter Tryd.func11, Tryd.ntmps11
  go_wp2_with fail
  refine (refRoot_any f _ ss _ Hf.out.1 Hf.out.2 Hl.out H.out).mono ?_
  rintro e w2 ⟨rfl, hb⟩
  have HB := hide hb
  clear hb
  have HO := hide (ownsS_one w w2 (rootF f (bys ss)) HB.out.size)
  unfold txt at *
  go_wp2_with fail
  go_ret
  exact ⟨_, rfl, HB.out.trans ((below_alloc w2 _).mono HB.out.size), HO.out⟩
theorem rpart_any (f : Nat) (hf6 : f ≤ 1000000) : ∀ (v : Value) (ss : List ByteArray) (m : Int) (whole : Bool) (w : World), 1 ≤ ss.length → ss.length ≤ f → 0 ≤ m → (1 ≤ m ∧ m ≤ ss.length) → (∀ s ∈ ss, s.size < maxLen) → Sss w v ss → Calls Tryd.prog 11 #[.int .i64 m, v, .bool whole] w fun r w' => ∃ x, r = .returned x ∧ Below w.heap.size w w' ∧ OwnS w w' x (prtF f m.toNat (bys ss) whole) := by
  induction f with
  | zero => intro v ss m whole w h1 h2; omega
  | succ f ih =>
    intro v ss m whole w h1 hf hm0 hm hl h
    obtain ⟨n, rfl⟩ := Int.eq_ofNat_of_zero_le hm0
    by_cases hmn : n = ss.length
    · subst hmn
      have eb := bys_length ss
      cases whole with
      | true =>
        refine (rpart_whole v ss w h).mono ?_
        rintro r w' ⟨rfl, hb⟩
        exact ⟨_, rfl, hb, ownsS_none _ _ _ (by show prtF (f + 1) ss.length (bys ss) true = []; rw [← eb]; exact prtF_whole _ _)⟩
      | false =>
        refine (rpart_not (f + 1) v ss w hf (by omega) hl h).mono ?_
        rintro r w' ⟨x, rfl, hb, ho⟩
        exact ⟨_, rfl, hb, by show OwnS w w' x (prtF (f + 1) ss.length (bys ss) false); rw [← eb, prtF_not]; exact ho⟩
    have h' := h
    obtain ⟨a, cap, rfl, hcap, h⟩ := h
    rcases h with h | ⟨b, off, rfl, -⟩
    · simp [h] at h1
    by_cases hk : n ≤ kOf ss.length
    · exact rpart_left f b off cap n whole ss w (by omega) (by omega) (by omega) hmn hk hcap hl h' hf (by omega) (ih (by omega))
    · exact rpart_right f b off cap n whole ss w (by omega) (by omega) (by omega) hmn hk hcap hl h' hf (by omega) (ih (by omega))
end Go.Proofs.YtbjpjidliggdhaaDoor
