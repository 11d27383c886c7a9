
import Derived.Test.YtkagncncilngdaaDoorPathMath
import Derived.Test.YtkagncncilngdaaDoorRootWalks
import Derived.Test.YtkagncncilngdaaDoorEightsWalks
import Derived.Deep.RegionLaw
namespace Go.Proofs.YtkagncncilngdaaDoor
open Go.RowKit
set_option maxRecDepth 100000

theorem flat_snoc (ps : List (List UInt8)) (p : List UInt8) : flat (ps ++ [p]) = flat ps ++ (hv p).toList := by simp [flat]
/-- A list of hashes of its own. -/
def OwnH (w w' : World) (x : Value) (ps : List (List UInt8)) : Prop := w'.ownsRow w.heap.size 68 8 x ps.length (flat ps)

set_option maxHeartbeats 4000000 in
theorem pathTo_left (f : Nat) (b off cap i : Nat) (ls : List (List UInt8)) (w : World) (h2 : 2 ≤ ls.length) (hn : ls.length ≤ 1000000) (hik : i < kOf ls.length) (hcap : ls.length ≤ cap) (hl : ∀ l ∈ ls, l.length ≤ maxLen) (h : Bss w (.slice (some ⟨b, off, none⟩) ls.length cap) ls) (hf : ls.length ≤ f + 1) (hf6 : f ≤ 1000000)
    (ih : ∀ (v : Value) (ls : List (List UInt8)) (i : Int) (w : World), 1 ≤ ls.length → ls.length ≤ f → 0 ≤ i → i < ls.length → (∀ l ∈ ls, l.length ≤ maxLen) → Bss w v ls → Calls Tryd.prog 55 #[v, .int .i64 i] w fun r w' => ∃ x, r = .returned x ∧ Below w.heap.size w w' ∧ OwnH w w' x (pathF f ls i.toNat)) :
    Calls Tryd.prog 55 #[.slice (some ⟨b, off, none⟩) ls.length cap, .int .i64 i] w fun r w' => ∃ x, r = .returned x ∧ Below w.heap.size w w' ∧ OwnH w w' x (pathF (f + 1) ls i) := by
  obtain ⟨t, hi, hi'⟩ := Option.map_eq_some_iff.1 infoHash
  obtain ⟨hz0, hz1, hz2⟩ : t.zero = some (.agg (hv zero8)) ∧ t.size = 8 ∧ t.bytes = 8 := by simpa using hi'
  clear hi'
  have HI := hide hi
  have HZ := hide (And.intro hz0 (And.intro hz1 hz2))
  clear hi hz0 hz1 hz2
  obtain ⟨k1, k2, k3⟩ := kOf_spec ls.length h2
  unfold OwnH
  rw [pathF_left f ls i h2 hik, flat_snoc, List.length_append, List.length_singleton]
  have hk : kOf ls.length ≤ ls.length := by omega
  have Hl := hide hl
  have H := hide h
  have IH := hide (ih (.slice (some ⟨b, off, none⟩) (kOf ls.length) cap) (ls.take (kOf ls.length)) (i : Int))
  have RT := hide (root_any f)
  have f1 : (ls.take (kOf ls.length)).length ≤ f := by simp; omega
  have f2 : (ls.drop (kOf ls.length)).length ≤ f := by simp; omega
  have f3 : 1 ≤ (ls.take (kOf ls.length)).length := by simp; omega
  have f4 : (ls.drop (kOf ls.length)).length ≤ 1000000 := by simp; omega
  have f5 : 0 ≤ ((i : Int) : Int) := by omega
  have f6 : (i : Int) < ((ls.take (kOf ls.length)).length : Int) := by simp; omega
  have F := hide (And.intro f1 (And.intro f2 (And.intro f3 (And.intro f4 (And.intro f5 f6)))))
  clear f1 f2 f3 f4 f5 f6
  have HE : Hid (((i : Int) : Int).toNat = i) := (by omega : ((i : Int) : Int).toNat = i)
  rw [HE.out] at IH
  have HC := hide (Nat.le_trans (pathF_count f (ls.take (kOf ls.length)) (i)) hf6)
  obtain ⟨x0, x1, x2, x3, x4, x5, x6, x7, hx⟩ := agg8 (rootF f (ls.drop (kOf ls.length))) (rootF_length _ _)
  have HX := hide hx
  generalize hR : rootF f (ls.drop (kOf ls.length)) = R at *
  have HR := hide hR
  generalize pathF f (ls.take (kOf ls.length)) (i) = P at *
  have n2 : ((ls.length : Int) == 1) = false := beq_eq_false_iff_ne.2 (by omega)
  clear hx hl h ih hR
  go_enter Tryd.func55, Tryd.ntmps55
  go_wp2_with fail
  refine (split_any ls.length _ h2 (Nat.le_trans hn (by decide))).mono ?_
  rintro e w' ⟨rfl, hw⟩
  rw [hw]
  clear hw w'
  have c1 : (kOf ls.length : Int) ≤ (cap : Int) := by omega
  have c2 : (kOf ls.length : Int) ≤ (ls.length : Int) := by omega
  have c3 : (0 : Int) ≤ (kOf ls.length : Int) := by omega
  have c6 : IntKind.i64.wrap ((i : Int)) = (i : Int) := by rw [IntKind.wrap_i64]; omega
  have c5 : ¬ cap = kOf ls.length := by omega
  have c4 : (i : Int) < (kOf ls.length : Int) := by omega
  go_wp2_with fail
  go_region_law (first
    | (go_simp; go_at_call 55; (refine (IH.out _ F.out.2.2.1 F.out.1 F.out.2.2.2.2.1 F.out.2.2.2.2.2 (fun l hl => Hl.out l (List.mem_of_mem_take hl)) (by exact (H.out.take _ hk).below (Below.refl _ _).drew)).mono ?_; rintro e w1 ⟨y, rfl, hb1, ho1⟩; have HB1 : Hid (Below w.heap.size w w1) := (show Below w.heap.size w w.drew from (Below.refl _ _).drew).trans hb1; have HO1 : Hid (w1.ownsRow w.heap.size 68 8 y P.length (flat P)) := ho1; clear hb1 ho1))
    | (go_simp; go_at_call 48; (refine (RT.out _ (ls.drop (kOf ls.length)) _ F.out.2.1 F.out.2.2.2.1 (fun l hl => Hl.out l (List.mem_of_mem_drop hl)) (by exact (H.out.drop _ hk).below HB1.out)).mono ?_; rintro e w2 ⟨hr, hb2⟩; rw [HR.out, HX.out] at hr; subst hr; have HB2 := hide (HB1.out.trans (hb2.mono HB1.out.size)); have HO2 : Hid (∀ o, (w2.alloc o).ownsRow w.heap.size 68 8 y P.length (flat P)) := fun o => ownsRow_below HO1.out (hb2.trans ((below_alloc w2 o).mono hb2.size)); have hsz : Hid (w.heap.size ≤ w2.heap.size) := HB2.out.size; clear hb2))
    | (refine step_append_lies _ (by rfl) _ _ _ (by rfl) w.heap.size 68 t (.agg (hv zero8)) 8 8 Tryd.underlying53 HI.out HZ.out.1 HZ.out.2.1 HZ.out.2.2 rfl (by omega) y P.length (flat P) (by rfl) (HO2.out _) ⟨w2.heap.size, 0, none⟩ 1 1 [.int .u8 x0, .int .u8 x1, .int .u8 x2, .int .u8 x3, .int .u8 x4, .int .u8 x5, .int .u8 x6, .int .u8 x7] (by rfl) rfl (World.news_of_block (heap_alloc_last _ _)) (by simp [Value.oneCell']) (by omega) (by have := HC.out; unfold maxLen; omega) (by have := HC.out; omega) (by have := hsz.out; simp; omega) (w2.heap.size + 1) (by simp) ?_; intro g cap' w3 hown hgrow hat hltg))
  all_goals
    have HB3 : Hid (Below w.heap.size w w3) := ((HB2.out.trans ((below_alloc w2 _).mono HB2.out.size)).grown hgrow (by have := HB2.out.size; simp; omega) (own_base HO1.out))
    have HO3 := hide hown
    clear hgrow hat hltg hown
    go_wp2_with fail
    go_ret
    exact ⟨_, rfl, HB3.out, by rw [HX.out]; exact HO3.out⟩

set_option maxHeartbeats 4000000 in
theorem pathTo_right (f : Nat) (b off cap i : Nat) (ls : List (List UInt8)) (w : World) (h2 : 2 ≤ ls.length) (hn : ls.length ≤ 1000000) (hik : ¬ i < kOf ls.length) (hin : i < ls.length) (hcap : ls.length ≤ cap) (hl : ∀ l ∈ ls, l.length ≤ maxLen) (h : Bss w (.slice (some ⟨b, off, none⟩) ls.length cap) ls) (hf : ls.length ≤ f + 1) (hf6 : f ≤ 1000000)
    (ih : ∀ (v : Value) (ls : List (List UInt8)) (i : Int) (w : World), 1 ≤ ls.length → ls.length ≤ f → 0 ≤ i → i < ls.length → (∀ l ∈ ls, l.length ≤ maxLen) → Bss w v ls → Calls Tryd.prog 55 #[v, .int .i64 i] w fun r w' => ∃ x, r = .returned x ∧ Below w.heap.size w w' ∧ OwnH w w' x (pathF f ls i.toNat)) :
    Calls Tryd.prog 55 #[.slice (some ⟨b, off, none⟩) ls.length cap, .int .i64 i] w fun r w' => ∃ x, r = .returned x ∧ Below w.heap.size w w' ∧ OwnH w w' x (pathF (f + 1) ls i) := by
  obtain ⟨t, hi, hi'⟩ := Option.map_eq_some_iff.1 infoHash
  obtain ⟨hz0, hz1, hz2⟩ : t.zero = some (.agg (hv zero8)) ∧ t.size = 8 ∧ t.bytes = 8 := by simpa using hi'
  clear hi'
  have HI := hide hi
  have HZ := hide (And.intro hz0 (And.intro hz1 hz2))
  clear hi hz0 hz1 hz2
  obtain ⟨k1, k2, k3⟩ := kOf_spec ls.length h2
  unfold OwnH
  rw [pathF_right f ls i h2 hik, flat_snoc, List.length_append, List.length_singleton]
  have hk : kOf ls.length ≤ ls.length := by omega
  have Hl := hide hl
  have H := hide h
  have IH := hide (ih (.slice (some ⟨b, off + kOf ls.length, none⟩) (ls.length - kOf ls.length) (cap - kOf ls.length)) (ls.drop (kOf ls.length)) ((i : Int) - (kOf ls.length : Int)))
  have RT := hide (root_any f)
  have f1 : (ls.drop (kOf ls.length)).length ≤ f := by simp; omega
  have f2 : (ls.take (kOf ls.length)).length ≤ f := by simp; omega
  have f3 : 1 ≤ (ls.drop (kOf ls.length)).length := by simp; omega
  have f4 : (ls.take (kOf ls.length)).length ≤ 1000000 := by simp; omega
  have f5 : 0 ≤ ((i : Int) - (kOf ls.length : Int) : Int) := by omega
  have f6 : (i : Int) - (kOf ls.length : Int) < ((ls.drop (kOf ls.length)).length : Int) := by simp; omega
  have F := hide (And.intro f1 (And.intro f2 (And.intro f3 (And.intro f4 (And.intro f5 f6)))))
  clear f1 f2 f3 f4 f5 f6
  have HE : Hid (((i : Int) - (kOf ls.length : Int) : Int).toNat = i - kOf ls.length) := (by omega : ((i : Int) - (kOf ls.length : Int) : Int).toNat = i - kOf ls.length)
  rw [HE.out] at IH
  have HC := hide (Nat.le_trans (pathF_count f (ls.drop (kOf ls.length)) (i - kOf ls.length)) hf6)
  obtain ⟨x0, x1, x2, x3, x4, x5, x6, x7, hx⟩ := agg8 (rootF f (ls.take (kOf ls.length))) (rootF_length _ _)
  have HX := hide hx
  generalize hR : rootF f (ls.take (kOf ls.length)) = R at *
  have HR := hide hR
  generalize pathF f (ls.drop (kOf ls.length)) (i - kOf ls.length) = P at *
  have n2 : ((ls.length : Int) == 1) = false := beq_eq_false_iff_ne.2 (by omega)
  clear hx hl h ih hR
  go_enter Tryd.func55, Tryd.ntmps55
  go_wp2_with fail
  refine (split_any ls.length _ h2 (Nat.le_trans hn (by decide))).mono ?_
  rintro e w' ⟨rfl, hw⟩
  rw [hw]
  clear hw w'
  have c1 : (kOf ls.length : Int) ≤ (cap : Int) := by omega
  have c2 : (kOf ls.length : Int) ≤ (ls.length : Int) := by omega
  have c3 : (0 : Int) ≤ (kOf ls.length : Int) := by omega
  have c6 : IntKind.i64.wrap ((i : Int) - (kOf ls.length : Int)) = (i : Int) - (kOf ls.length : Int) := by rw [IntKind.wrap_i64]; omega
  have c5 : ¬ cap = kOf ls.length := by omega
  have c4 : ¬ (i : Int) < (kOf ls.length : Int) := by omega
  go_wp2_with fail
  go_region_law (first
    | (go_simp; go_at_call 55; (refine (IH.out _ F.out.2.2.1 F.out.1 F.out.2.2.2.2.1 F.out.2.2.2.2.2 (fun l hl => Hl.out l (List.mem_of_mem_drop hl)) (by exact (H.out.drop _ hk).below (Below.refl _ _).drew)).mono ?_; rintro e w1 ⟨y, rfl, hb1, ho1⟩; have HB1 : Hid (Below w.heap.size w w1) := (show Below w.heap.size w w.drew from (Below.refl _ _).drew).trans hb1; have HO1 : Hid (w1.ownsRow w.heap.size 68 8 y P.length (flat P)) := ho1; clear hb1 ho1))
    | (go_simp; go_at_call 48; (refine (RT.out _ (ls.take (kOf ls.length)) _ F.out.2.1 F.out.2.2.2.1 (fun l hl => Hl.out l (List.mem_of_mem_take hl)) (by exact (H.out.take _ hk).below HB1.out)).mono ?_; rintro e w2 ⟨hr, hb2⟩; rw [HR.out, HX.out] at hr; subst hr; have HB2 := hide (HB1.out.trans (hb2.mono HB1.out.size)); have HO2 : Hid (∀ o, (w2.alloc o).ownsRow w.heap.size 68 8 y P.length (flat P)) := fun o => ownsRow_below HO1.out (hb2.trans ((below_alloc w2 o).mono hb2.size)); have hsz : Hid (w.heap.size ≤ w2.heap.size) := HB2.out.size; clear hb2))
    | (refine step_append_lies _ (by rfl) _ _ _ (by rfl) w.heap.size 68 t (.agg (hv zero8)) 8 8 Tryd.underlying53 HI.out HZ.out.1 HZ.out.2.1 HZ.out.2.2 rfl (by omega) y P.length (flat P) (by rfl) (HO2.out _) ⟨w2.heap.size, 0, none⟩ 1 1 [.int .u8 x0, .int .u8 x1, .int .u8 x2, .int .u8 x3, .int .u8 x4, .int .u8 x5, .int .u8 x6, .int .u8 x7] (by rfl) rfl (World.news_of_block (heap_alloc_last _ _)) (by simp [Value.oneCell']) (by omega) (by have := HC.out; unfold maxLen; omega) (by have := HC.out; omega) (by have := hsz.out; simp; omega) (w2.heap.size + 1) (by simp) ?_; intro g cap' w3 hown hgrow hat hltg))
  all_goals
    have HB3 : Hid (Below w.heap.size w w3) := ((HB2.out.trans ((below_alloc w2 _).mono HB2.out.size)).grown hgrow (by have := HB2.out.size; simp; omega) (own_base HO1.out))
    have HO3 := hide hown
    clear hgrow hat hltg hown
    go_wp2_with fail
    go_ret
    exact ⟨_, rfl, HB3.out, by rw [HX.out]; exact HO3.out⟩

set_option maxHeartbeats 4000000 in
theorem part_left (f : Nat) (b off cap m : Nat) (whole : Bool) (ls : List (List UInt8)) (w : World) (h2 : 2 ≤ ls.length) (hn : ls.length ≤ 1000000) (hm1 : 1 ≤ m) (hml : m ≠ ls.length) (hmk : m ≤ kOf ls.length) (hcap : ls.length ≤ cap) (hl : ∀ l ∈ ls, l.length ≤ maxLen) (h : Bss w (.slice (some ⟨b, off, none⟩) ls.length cap) ls) (hf : ls.length ≤ f + 1) (hf6 : f ≤ 1000000)
    (ih : ∀ (v : Value) (ls : List (List UInt8)) (m : Int) (whole : Bool) (w : World), 1 ≤ ls.length → ls.length ≤ f → 0 ≤ m → (1 ≤ m ∧ m ≤ ls.length) → (∀ l ∈ ls, l.length ≤ maxLen) → Bss w v ls → Calls Tryd.prog 58 #[.int .i64 m, v, .bool whole] w fun r w' => ∃ x, r = .returned x ∧ Below w.heap.size w w' ∧ OwnH w w' x (partF f m.toNat ls whole)) :
    Calls Tryd.prog 58 #[.int .i64 m, .slice (some ⟨b, off, none⟩) ls.length cap, .bool whole] w fun r w' => ∃ x, r = .returned x ∧ Below w.heap.size w w' ∧ OwnH w w' x (partF (f + 1) m ls whole) := by
  obtain ⟨t, hi, hi'⟩ := Option.map_eq_some_iff.1 infoHash
  obtain ⟨hz0, hz1, hz2⟩ : t.zero = some (.agg (hv zero8)) ∧ t.size = 8 ∧ t.bytes = 8 := by simpa using hi'
  clear hi'
  have HI := hide hi
  have HZ := hide (And.intro hz0 (And.intro hz1 hz2))
  clear hi hz0 hz1 hz2
  obtain ⟨k1, k2, k3⟩ := kOf_spec ls.length h2
  unfold OwnH
  rw [partF_left f m ls whole hml hmk, flat_snoc, List.length_append, List.length_singleton]
  have hk : kOf ls.length ≤ ls.length := by omega
  have Hl := hide hl
  have H := hide h
  have IH := hide (ih (.slice (some ⟨b, off, none⟩) (kOf ls.length) cap) (ls.take (kOf ls.length)) (m : Int) whole)
  have RT := hide (root_any f)
  have f1 : (ls.take (kOf ls.length)).length ≤ f := by simp; omega
  have f2 : (ls.drop (kOf ls.length)).length ≤ f := by simp; omega
  have f3 : 1 ≤ (ls.take (kOf ls.length)).length := by simp; omega
  have f4 : (ls.drop (kOf ls.length)).length ≤ 1000000 := by simp; omega
  have f5 : 0 ≤ ((m : Int) : Int) := by omega
  have f6 : 1 ≤ (m : Int) ∧ (m : Int) ≤ ((ls.take (kOf ls.length)).length : Int) := by simp; omega
  have F := hide (And.intro f1 (And.intro f2 (And.intro f3 (And.intro f4 (And.intro f5 f6)))))
  clear f1 f2 f3 f4 f5 f6
  have HE : Hid (((m : Int) : Int).toNat = m) := (by omega : ((m : Int) : Int).toNat = m)
  rw [HE.out] at IH
  have HC := hide (Nat.le_trans (partF_count f (m) (ls.take (kOf ls.length)) whole) hf6)
  obtain ⟨x0, x1, x2, x3, x4, x5, x6, x7, hx⟩ := agg8 (rootF f (ls.drop (kOf ls.length))) (rootF_length _ _)
  have HX := hide hx
  generalize hR : rootF f (ls.drop (kOf ls.length)) = R at *
  have HR := hide hR
  generalize partF f (m) (ls.take (kOf ls.length)) whole = P at *
  have n2 : ((m : Int) == (ls.length : Int)) = false := beq_eq_false_iff_ne.2 (by omega)
  clear hx hl h ih hR
  go_enter Tryd.func58, Tryd.ntmps58
  go_wp2_with fail
  refine (split_any ls.length _ h2 (Nat.le_trans hn (by decide))).mono ?_
  rintro e w' ⟨rfl, hw⟩
  rw [hw]
  clear hw w'
  have c1 : (kOf ls.length : Int) ≤ (cap : Int) := by omega
  have c2 : (kOf ls.length : Int) ≤ (ls.length : Int) := by omega
  have c3 : (0 : Int) ≤ (kOf ls.length : Int) := by omega
  have c6 : IntKind.i64.wrap ((m : Int)) = (m : Int) := by rw [IntKind.wrap_i64]; omega
  have c5 : ¬ cap = kOf ls.length := by omega
  have c4 : (m : Int) ≤ (kOf ls.length : Int) := by omega
  go_wp2_with fail
  go_region_law (first
    | (go_simp; go_at_call 58; (refine (IH.out _ F.out.2.2.1 F.out.1 F.out.2.2.2.2.1 F.out.2.2.2.2.2 (fun l hl => Hl.out l (List.mem_of_mem_take hl)) (by exact (H.out.take _ hk).below (Below.refl _ _).drew)).mono ?_; rintro e w1 ⟨y, rfl, hb1, ho1⟩; have HB1 : Hid (Below w.heap.size w w1) := (show Below w.heap.size w w.drew from (Below.refl _ _).drew).trans hb1; have HO1 : Hid (w1.ownsRow w.heap.size 68 8 y P.length (flat P)) := ho1; clear hb1 ho1))
    | (go_simp; go_at_call 48; (refine (RT.out _ (ls.drop (kOf ls.length)) _ F.out.2.1 F.out.2.2.2.1 (fun l hl => Hl.out l (List.mem_of_mem_drop hl)) (by exact (H.out.drop _ hk).below HB1.out)).mono ?_; rintro e w2 ⟨hr, hb2⟩; rw [HR.out, HX.out] at hr; subst hr; have HB2 := hide (HB1.out.trans (hb2.mono HB1.out.size)); have HO2 : Hid (∀ o, (w2.alloc o).ownsRow w.heap.size 68 8 y P.length (flat P)) := fun o => ownsRow_below HO1.out (hb2.trans ((below_alloc w2 o).mono hb2.size)); have hsz : Hid (w.heap.size ≤ w2.heap.size) := HB2.out.size; clear hb2))
    | (refine step_append_lies _ (by rfl) _ _ _ (by rfl) w.heap.size 68 t (.agg (hv zero8)) 8 8 Tryd.underlying53 HI.out HZ.out.1 HZ.out.2.1 HZ.out.2.2 rfl (by omega) y P.length (flat P) (by rfl) (HO2.out _) ⟨w2.heap.size, 0, none⟩ 1 1 [.int .u8 x0, .int .u8 x1, .int .u8 x2, .int .u8 x3, .int .u8 x4, .int .u8 x5, .int .u8 x6, .int .u8 x7] (by rfl) rfl (World.news_of_block (heap_alloc_last _ _)) (by simp [Value.oneCell']) (by omega) (by have := HC.out; unfold maxLen; omega) (by have := HC.out; omega) (by have := hsz.out; simp; omega) (w2.heap.size + 1) (by simp) ?_; intro g cap' w3 hown hgrow hat hltg))
  all_goals
    have HB3 : Hid (Below w.heap.size w w3) := ((HB2.out.trans ((below_alloc w2 _).mono HB2.out.size)).grown hgrow (by have := HB2.out.size; simp; omega) (own_base HO1.out))
    have HO3 := hide hown
    clear hgrow hat hltg hown
    go_wp2_with fail
    go_ret
    exact ⟨_, rfl, HB3.out, by rw [HX.out]; exact HO3.out⟩

set_option maxHeartbeats 4000000 in
theorem part_right (f : Nat) (b off cap m : Nat) (whole : Bool) (ls : List (List UInt8)) (w : World) (h2 : 2 ≤ ls.length) (hn : ls.length ≤ 1000000) (hm1 : m < ls.length) (hml : m ≠ ls.length) (hmk : ¬ m ≤ kOf ls.length) (hcap : ls.length ≤ cap) (hl : ∀ l ∈ ls, l.length ≤ maxLen) (h : Bss w (.slice (some ⟨b, off, none⟩) ls.length cap) ls) (hf : ls.length ≤ f + 1) (hf6 : f ≤ 1000000)
    (ih : ∀ (v : Value) (ls : List (List UInt8)) (m : Int) (whole : Bool) (w : World), 1 ≤ ls.length → ls.length ≤ f → 0 ≤ m → (1 ≤ m ∧ m ≤ ls.length) → (∀ l ∈ ls, l.length ≤ maxLen) → Bss w v ls → Calls Tryd.prog 58 #[.int .i64 m, v, .bool whole] w fun r w' => ∃ x, r = .returned x ∧ Below w.heap.size w w' ∧ OwnH w w' x (partF f m.toNat ls whole)) :
    Calls Tryd.prog 58 #[.int .i64 m, .slice (some ⟨b, off, none⟩) ls.length cap, .bool whole] w fun r w' => ∃ x, r = .returned x ∧ Below w.heap.size w w' ∧ OwnH w w' x (partF (f + 1) m ls whole) := by
  obtain ⟨t, hi, hi'⟩ := Option.map_eq_some_iff.1 infoHash
  obtain ⟨hz0, hz1, hz2⟩ : t.zero = some (.agg (hv zero8)) ∧ t.size = 8 ∧ t.bytes = 8 := by simpa using hi'
  clear hi'
  have HI := hide hi
  have HZ := hide (And.intro hz0 (And.intro hz1 hz2))
  clear hi hz0 hz1 hz2
  obtain ⟨k1, k2, k3⟩ := kOf_spec ls.length h2
  unfold OwnH
  rw [partF_right f m ls whole hml hmk, flat_snoc, List.length_append, List.length_singleton]
  have hk : kOf ls.length ≤ ls.length := by omega
  have Hl := hide hl
  have H := hide h
  have IH := hide (ih (.slice (some ⟨b, off + kOf ls.length, none⟩) (ls.length - kOf ls.length) (cap - kOf ls.length)) (ls.drop (kOf ls.length)) ((m : Int) - (kOf ls.length : Int)) false)
  have RT := hide (root_any f)
  have f1 : (ls.drop (kOf ls.length)).length ≤ f := by simp; omega
  have f2 : (ls.take (kOf ls.length)).length ≤ f := by simp; omega
  have f3 : 1 ≤ (ls.drop (kOf ls.length)).length := by simp; omega
  have f4 : (ls.take (kOf ls.length)).length ≤ 1000000 := by simp; omega
  have f5 : 0 ≤ ((m : Int) - (kOf ls.length : Int) : Int) := by omega
  have f6 : 1 ≤ (m : Int) - (kOf ls.length : Int) ∧ (m : Int) - (kOf ls.length : Int) ≤ ((ls.drop (kOf ls.length)).length : Int) := by simp; omega
  have F := hide (And.intro f1 (And.intro f2 (And.intro f3 (And.intro f4 (And.intro f5 f6)))))
  clear f1 f2 f3 f4 f5 f6
  have HE : Hid (((m : Int) - (kOf ls.length : Int) : Int).toNat = m - kOf ls.length) := (by omega : ((m : Int) - (kOf ls.length : Int) : Int).toNat = m - kOf ls.length)
  rw [HE.out] at IH
  have HC := hide (Nat.le_trans (partF_count f (m - kOf ls.length) (ls.drop (kOf ls.length)) false) hf6)
  obtain ⟨x0, x1, x2, x3, x4, x5, x6, x7, hx⟩ := agg8 (rootF f (ls.take (kOf ls.length))) (rootF_length _ _)
  have HX := hide hx
  generalize hR : rootF f (ls.take (kOf ls.length)) = R at *
  have HR := hide hR
  generalize partF f (m - kOf ls.length) (ls.drop (kOf ls.length)) false = P at *
  have n2 : ((m : Int) == (ls.length : Int)) = false := beq_eq_false_iff_ne.2 (by omega)
  clear hx hl h ih hR
  go_enter Tryd.func58, Tryd.ntmps58
  go_wp2_with fail
  refine (split_any ls.length _ h2 (Nat.le_trans hn (by decide))).mono ?_
  rintro e w' ⟨rfl, hw⟩
  rw [hw]
  clear hw w'
  have c1 : (kOf ls.length : Int) ≤ (cap : Int) := by omega
  have c2 : (kOf ls.length : Int) ≤ (ls.length : Int) := by omega
  have c3 : (0 : Int) ≤ (kOf ls.length : Int) := by omega
  have c6 : IntKind.i64.wrap ((m : Int) - (kOf ls.length : Int)) = (m : Int) - (kOf ls.length : Int) := by rw [IntKind.wrap_i64]; omega
  have c5 : ¬ cap = kOf ls.length := by omega
  have c4 : ¬ (m : Int) ≤ (kOf ls.length : Int) := by omega
  go_wp2_with fail
  go_region_law (first
    | (go_simp; go_at_call 58; (refine (IH.out _ F.out.2.2.1 F.out.1 F.out.2.2.2.2.1 F.out.2.2.2.2.2 (fun l hl => Hl.out l (List.mem_of_mem_drop hl)) (by exact (H.out.drop _ hk).below (Below.refl _ _).drew)).mono ?_; rintro e w1 ⟨y, rfl, hb1, ho1⟩; have HB1 : Hid (Below w.heap.size w w1) := (show Below w.heap.size w w.drew from (Below.refl _ _).drew).trans hb1; have HO1 : Hid (w1.ownsRow w.heap.size 68 8 y P.length (flat P)) := ho1; clear hb1 ho1))
    | (go_simp; go_at_call 48; (refine (RT.out _ (ls.take (kOf ls.length)) _ F.out.2.1 F.out.2.2.2.1 (fun l hl => Hl.out l (List.mem_of_mem_take hl)) (by exact (H.out.take _ hk).below HB1.out)).mono ?_; rintro e w2 ⟨hr, hb2⟩; rw [HR.out, HX.out] at hr; subst hr; have HB2 := hide (HB1.out.trans (hb2.mono HB1.out.size)); have HO2 : Hid (∀ o, (w2.alloc o).ownsRow w.heap.size 68 8 y P.length (flat P)) := fun o => ownsRow_below HO1.out (hb2.trans ((below_alloc w2 o).mono hb2.size)); have hsz : Hid (w.heap.size ≤ w2.heap.size) := HB2.out.size; clear hb2))
    | (refine step_append_lies _ (by rfl) _ _ _ (by rfl) w.heap.size 68 t (.agg (hv zero8)) 8 8 Tryd.underlying53 HI.out HZ.out.1 HZ.out.2.1 HZ.out.2.2 rfl (by omega) y P.length (flat P) (by rfl) (HO2.out _) ⟨w2.heap.size, 0, none⟩ 1 1 [.int .u8 x0, .int .u8 x1, .int .u8 x2, .int .u8 x3, .int .u8 x4, .int .u8 x5, .int .u8 x6, .int .u8 x7] (by rfl) rfl (World.news_of_block (heap_alloc_last _ _)) (by simp [Value.oneCell']) (by omega) (by have := HC.out; unfold maxLen; omega) (by have := HC.out; omega) (by have := hsz.out; simp; omega) (w2.heap.size + 1) (by simp) ?_; intro g cap' w3 hown hgrow hat hltg))
  all_goals
    have HB3 : Hid (Below w.heap.size w w3) := ((HB2.out.trans ((below_alloc w2 _).mono HB2.out.size)).grown hgrow (by have := HB2.out.size; simp; omega) (own_base HO1.out))
    have HO3 := hide hown
    clear hgrow hat hltg hown
    go_wp2_with fail
    go_ret
    exact ⟨_, rfl, HB3.out, by rw [HX.out]; exact HO3.out⟩

theorem owns_none (w w' : World) (z : List (List UInt8)) (hz : z = []) : OwnH w w' (.slice none 0 0) z := by
  subst hz; exact ⟨rfl, .inl ⟨rfl, rfl⟩⟩
theorem owns_one (w w2 : World) (p : List UInt8) (hp : p.length = 8) (hs : w.heap.size ≤ w2.heap.size) : OwnH w (w2.alloc (.cells (hv p) 68)) (.slice (some ⟨w2.heap.size, 0, none⟩) 1 1) [p] := by
  refine ⟨by simp [flat, hv_size, hp], .inr ⟨w2.heap.size, 1, hv p, rfl, hs, heap_alloc_last _ _, by simp, by unfold maxLen; simp, by simp [hv_size, hp], ?_⟩⟩
  have e : (hv p).toList.length = 8 := by rw [Array.length_toList, hv_size, hp]
  rw [List.take_of_length_le (by simp [e])]; simp [flat]
set_option maxHeartbeats 1000000 in
theorem pathTo_one (i : Nat) (v : Value) (ls : List (List UInt8)) (w : World) (h1 : ls.length = 1) (h : Bss w v ls) :
    Calls Tryd.prog 55 #[v, .int .i64 i] w fun r w' => r = .returned (.slice none 0 0) ∧ Below w.heap.size w w' := by
  obtain ⟨a, cap, rfl, hcap, -⟩ := h
  rw [h1]
  clear hcap
  go_enter Tryd.func55, Tryd.ntmps55
  go_wp2
  go_ret
  exact ⟨rfl, Below.refl _ _⟩
theorem pathTo_any (f : Nat) (hf6 : f ≤ 1000000) : ∀ (v : Value) (ls : List (List UInt8)) (i : Int) (w : World), 1 ≤ ls.length → ls.length ≤ f → 0 ≤ i → i < ls.length → (∀ l ∈ ls, l.length ≤ maxLen) → Bss w v ls → Calls Tryd.prog 55 #[v, .int .i64 i] w fun r w' => ∃ x, r = .returned x ∧ Below w.heap.size w w' ∧ OwnH w w' x (pathF f ls i.toNat) := by
  induction f with
  | zero => intro v ls i w h1 h2; omega
  | succ f ih =>
    intro v ls i w h1 hf hi0 hi hl h
    obtain ⟨n, rfl⟩ := Int.eq_ofNat_of_zero_le hi0
    by_cases h2 : ls.length = 1
    · refine (pathTo_one n v ls w h2 h).mono ?_
      rintro r w' ⟨rfl, hb⟩
      exact ⟨_, rfl, hb, owns_none _ _ _ (pathF_one _ _ _ (by omega))⟩
    have h' := h
    obtain ⟨a, cap, rfl, hcap, h⟩ := h
    rcases h with h | ⟨b, off, rfl, -⟩
    · simp [h] at h1
    by_cases hk : n < kOf ls.length
    · exact pathTo_left f b off cap n ls w (by omega) (by omega) hk hcap hl h' hf (by omega) (ih (by omega))
    · exact pathTo_right f b off cap n ls w (by omega) (by omega) hk (by omega) hcap hl h' hf (by omega) (ih (by omega))
set_option maxHeartbeats 1000000 in
theorem part_whole (v : Value) (ls : List (List UInt8)) (w : World) (h : Bss w v ls) :
    Calls Tryd.prog 58 #[.int .i64 ls.length, v, .bool true] w fun r w' => r = .returned (.slice none 0 0) ∧ Below w.heap.size w w' := by
  obtain ⟨a, cap, rfl, hcap, -⟩ := h
  clear hcap
  go_enter Tryd.func58, Tryd.ntmps58
  go_wp2
  go_ret
  exact ⟨rfl, Below.refl _ _⟩
set_option maxHeartbeats 1000000 in
theorem part_not (f : Nat) (v : Value) (ls : List (List UInt8)) (w : World) (hf : ls.length ≤ f) (hn : ls.length ≤ 1000000) (hl : ∀ l ∈ ls, l.length ≤ maxLen) (h : Bss w v ls) :
    Calls Tryd.prog 58 #[.int .i64 ls.length, v, .bool false] w fun r w' => ∃ x, r = .returned x ∧ Below w.heap.size w w' ∧ OwnH w w' x [rootF f ls] := by
  have H := hide h
  have Hl := hide hl
  have Hf := hide (And.intro hf hn)
  obtain ⟨a, cap, rfl, hcap, -⟩ := h
  clear hcap hl hf hn
  obtain ⟨x0, x1, x2, x3, x4, x5, x6, x7, hx⟩ := agg8 (rootF f ls) (rootF_length _ _)
  have HX := hide hx
  clear hx
  go_enter Tryd.func58, Tryd.ntmps58
  go_wp2_with fail
  refine (root_any f _ ls _ Hf.out.1 Hf.out.2 Hl.out H.out).mono ?_
  rintro e w2 ⟨hr, hb⟩
  rw [HX.out] at hr
  subst hr
  have HB := hide hb
  clear hb
  go_wp2_with fail
  go_ret
  have := owns_one w w2 (rootF f ls) (rootF_length _ _) HB.out.size
  rw [HX.out] at this
  exact ⟨_, rfl, HB.out.trans ((below_alloc w2 _).mono HB.out.size), this⟩
theorem part_any (f : Nat) (hf6 : f ≤ 1000000) : ∀ (v : Value) (ls : List (List UInt8)) (m : Int) (whole : Bool) (w : World), 1 ≤ ls.length → ls.length ≤ f → 0 ≤ m → (1 ≤ m ∧ m ≤ ls.length) → (∀ l ∈ ls, l.length ≤ maxLen) → Bss w v ls → Calls Tryd.prog 58 #[.int .i64 m, v, .bool whole] w fun r w' => ∃ x, r = .returned x ∧ Below w.heap.size w w' ∧ OwnH w w' x (partF f m.toNat ls whole) := by
  induction f with
  | zero => intro v ls m whole w h1 h2; omega
  | succ f ih =>
    intro v ls m whole w h1 hf hm0 hm hl h
    obtain ⟨n, rfl⟩ := Int.eq_ofNat_of_zero_le hm0
    by_cases hmn : n = ls.length
    · subst hmn
      cases whole with
      | true =>
        refine (part_whole v ls w h).mono ?_
        rintro r w' ⟨rfl, hb⟩
        exact ⟨_, rfl, hb, owns_none _ _ _ (partF_whole _ _)⟩
      | false =>
        refine (part_not (f + 1) v ls w hf (by omega) hl h).mono ?_
        rintro r w' ⟨x, rfl, hb, ho⟩
        exact ⟨_, rfl, hb, by show OwnH w w' x (partF (f + 1) ls.length ls false); rw [partF_not]; exact ho⟩
    have h' := h
    obtain ⟨a, cap, rfl, hcap, h⟩ := h
    rcases h with h | ⟨b, off, rfl, -⟩
    · simp [h] at h1
    by_cases hk : n ≤ kOf ls.length
    · exact part_left f b off cap n whole ls w (by omega) (by omega) (by omega) hmn hk hcap hl h' hf (by omega) (ih (by omega))
    · exact part_right f b off cap n whole ls w (by omega) (by omega) (by omega) hmn hk hcap hl h' hf (by omega) (ih (by omega))
end Go.Proofs.YtkagncncilngdaaDoor
