
import Derived.Test.YtbjpjidliggdhaaDoorTextsWalks
import Derived.Test.YtbjpjidliggdhaaDoorOfWalks
import Derived.Test.YtbjpjidliggdhaaDoorRebWalks
import Derived.Test.YtbjpjidliggdhaaDoorRefRoot
import Derived.Test.YtbjpjidliggdhaaDoorSpanIn
namespace Go.Proofs.YtbjpjidliggdhaaDoor
open Go.RowKit
set_option maxRecDepth 100000

theorem results_tmp_cell_run {P : Program} {fn : Func} {p u : Tmp} {ty : TypeId} (h : fn.results = #[.tmp u, .cell p ty]) (tmps : Array Value) (w : World) (g : Nat) (t : TypeId) (cs : Array Value) (fr : Nat × Nat) (d : TypeDesc)
    (hp : tmps.getD p undef = .pointer (some ⟨g, 0, none⟩)) (hg : w.heap[g]? = some (.cells cs t fr))
    (hu : P.underlying ty = some d) (hd : (match d with | .struct _ | .array _ _ => true | _ => false) = true) (hi : (P.info? ty).map (·.size) = some cs.size) (x : Value) (hx : tmps.getD u undef = x) :
    (results fn tmps).run P w = .ok (.tuple #[x, .agg cs]) w := by
  have hl := run_loadVar_row (P := P) w g t ty cs fr d hg hu hd hi
  simp only [Array.getD_eq_getD_getElem?] at hp hx
  simp [results, h, hp, hx, asAddr, hl]
theorem results_tmps2 {P : Program} {fn : Func} {u v : Tmp} (h : fn.results = #[.tmp u, .tmp v]) (tmps : Array Value) (w : World) (x y : Value) (hx : tmps.getD u undef = x) (hy : tmps.getD v undef = y) :
    (results fn tmps).run P w = .ok (.tuple #[x, y]) w := by
  simp only [Array.getD_eq_getD_getElem?] at hx hy
  simp [results, h, hx, hy]
/-- The cells of a told error. -/
def toldC (n : Int) : Array Value := #[.int .i64 n, .string ⟨#[]⟩]
theorem toldC_size (n : Int) : (Tryd.prog.info? 25).map (·.size) = some (toldC n).size := by
  show _ = some 2
  kernel_rfl
theorem toldC_one (n : Int) : (toldC n).all (·.oneCell') = true := by simp [toldC, Value.oneCell']
/-- A call's own cell for what an error is told as, untouched. -/
def OwnT (w w1 : World) : Prop := Below w.heap.size w w1 ∧ w1.heap[w.heap.size]? = some (.cells (toldC 0) 25 (0, 0))
theorem OwnT.start (w : World) : OwnT w (w.alloc (.cells (toldC 0) 25)) := ⟨below_alloc _ _, heap_alloc_last _ _⟩
theorem OwnT.lt {w w1 : World} (h : OwnT w w1) : w.heap.size < w1.heap.size := heap_lt h.2
theorem OwnT.next {w w1 w2 : World} {B : Nat} (h : OwnT w w1) (hB : w.heap.size < B) (hb : Below B w1 w2) : OwnT w w2 :=
  ⟨h.1.trans (hb.mono (by omega)), by rw [hb.block _ hB]; exact h.2⟩
theorem owns_setRow {w : World} {B B' g : Nat} {e : TypeId} {s : Nat} {v : Value} {n : Nat} {xs : List Value} (h : w.ownsRow B e s v n xs) (hg : g < B') (h' : w.ownsRow B' e s v n xs) (cs : Array Value) : (w.setRow g cs).ownsRow B e s v n xs := by
  refine ⟨h.1, ?_⟩
  rcases h.2 with h0 | ⟨k, cap, cur, e1, e2, e3, r⟩
  · exact .inl h0
  · refine .inr ⟨k, cap, cur, e1, e2, ?_, r⟩
    have hk : B' ≤ k := own_base h' k (by rw [e1]; rfl)
    rw [setRow_other _ _ _ _ (by omega)]; exact e3

set_option maxHeartbeats 1000000 in
theorem tpath_out (at_ : Nat → Addr) (v : Value) (ls : List (List UInt8)) (i : Int) (w : World) (hs : Sents w at_) (h : Bss w v ls) (hi : i < 0 ∨ (ls.length : Int) ≤ i) :
    Calls Tryd.prog 16 #[v, .int .i64 i] w fun r w' => r = .returned (.tuple #[.slice none 0 0, .iface 122 (.pointer (some (at_ 1)))]) ∧ Below w.heap.size w w' := by
  have h1 := hs.range
  obtain ⟨a, cap, rfl, hcap, -⟩ := h
  clear hcap hs
  by_cases hi0 : i < 0
  · clear hi
    go_enter Tryd.func16, Tryd.ntmps16
    go_wp2_with fail
    go_quiet (fail)
    go_wp2_with fail
    exact bodyPost_ret (results_tmps2 Tryd.results16 _ _ _ _ rfl rfl) rfl ⟨rfl, below_drewN (Below.refl _ _) _⟩
  · have hi1 : (ls.length : Int) ≤ i := by omega
    clear hi
    go_enter Tryd.func16, Tryd.ntmps16
    go_wp2_with fail
    go_quiet (fail)
    go_wp2_with fail
    exact bodyPost_ret (results_tmps2 Tryd.results16 _ _ _ _ rfl rfl) rfl ⟨rfl, below_drewN (Below.refl _ _) _⟩
set_option maxHeartbeats 1000000 in
theorem tpath_in (f : Nat) (hf6 : f ≤ 1000000) (v : Value) (ls : List (List UInt8)) (i : Int) (w : World) (hf : ls.length ≤ f) (hl : ∀ l ∈ ls, l.length ≤ maxLen) (h : Bss w v ls) (hi0 : 0 ≤ i) (hi1 : i < (ls.length : Int)) :
    Calls Tryd.prog 16 #[v, .int .i64 i] w fun r w' => ∃ x, r = .returned (.tuple #[x, .nilIface]) ∧ Below w.heap.size w w' ∧ OwnH w w' x (pathF f ls i.toNat) := by
  obtain ⟨i, rfl⟩ := Int.eq_ofNat_of_zero_le (show 0 ≤ i by omega)
  have HRS : Hid (pathF f ls ((i : Nat) : Int).toNat = (pathS 63 0 ls.length i).map fun s => rootT (run ls s)) := by
    show _ = _
    rw [Int.toNat_natCast, show pathF f ls i = pathF f (run ls (0, ls.length)) (i - 0) by rw [run_all]; rfl, pathS_roots ls 63 f 0 ls.length i (by omega) hf (by omega) (Nat.zero_le _) (by omega)]
  have HIN : Hid (∀ s ∈ pathS 63 0 ls.length i, s.1 + s.2 ≤ ls.length ∧ 1 ≤ s.2) := fun s hs => by
    have := pathS_in 63 0 ls.length i (by omega) s hs
    omega
  have HCN := hide (pathS_count 63 0 ls.length i)
  have H := hide h
  have Hl := hide hl
  have pt : ∀ w, _ := fun w => pathTo_any 63 (by omega) 0 ls.length i w (by omega) (by omega) (by omega) (Nat.zero_le _) (by omega)
  rw [show (((0 : Nat)) : Int) = 0 from rfl] at pt
  have PT := hide pt
  clear pt
  obtain ⟨a, cap, rfl, hcap, h'⟩ := h
  obtain ⟨b, off, rfl⟩ : ∃ b off, a = some ⟨b, off, none⟩ := by
    rcases h' with h' | ⟨b, off, rfl, -⟩
    · simp [h'] at hi1; omega
    · exact ⟨b, off, rfl⟩
  clear hl h'
  generalize pathS 63 0 ls.length i = SS at *
  rw [HRS.out]
  go_enter Tryd.func16, Tryd.ntmps16
  go_wp2_with fail
  refine (PT.out _).mono ?_
  rintro r w1 ⟨x, rfl, hb, ho⟩
  have HB := hide hb
  have HO := hide ho
  obtain ⟨xa, xc, rfl⟩ : ∃ a c, x = .slice a SS.length c := by
    obtain ⟨a, c, e, -⟩ := sps_of_own ho
    exact ⟨a, c, e⟩
  clear hb ho
  go_wp2_with fail
  refine (rootsOf_some b off cap ls _ SS w1 hcap (by omega) Hl.out (by exact H.out.below HB.out) (sps_of_own HO.out) (by have := HCN.out; omega) HIN.out).mono ?_
  rintro r w2 ⟨y, rfl, hb2, ho2⟩
  have HB2 : Hid (Below w.heap.size w w2) := HB.out.trans (hb2.mono HB.out.size)
  have HO2 : Hid (OwnH w w2 y (SS.map fun s => rootT (run ls s))) := ownsRow_from ho2 HB.out.size
  clear hb2 ho2
  go_wp2_with fail
  exact bodyPost_ret (results_tmps2 Tryd.results16 _ _ _ _ rfl rfl) rfl ⟨y, rfl, HB2.out, HO2.out⟩
set_option maxHeartbeats 1000000 in
theorem ppath_out (at_ : Nat → Addr) (v : Value) (ss : List ByteArray) (i : Int) (w : World) (hs : Sents w at_) (hn : ss.length ≤ 1000000) (h : Sss w v ss) (hi : i < 0 ∨ (ss.length : Int) ≤ i) :
    Calls Tryd.prog 7 #[v, .int .i64 i] w fun r w' => ∃ a cap, r = .returned (.tuple #[.slice a 0 cap, .agg (toldC 2)]) ∧ Below w.heap.size w w' := by
  have H := hide h
  have HS := hide hs
  have Hi : Hid (i < 0 ∨ ((bys ss).length : Int) ≤ i) := by rw [bys_length]; exact hi
  have H0 := hide (OwnT.start w)
  obtain ⟨a, cap, rfl, hcap, -⟩ := h
  clear hcap hs hi
  go_enter Tryd.func7, Tryd.ntmps7
  go_wp2_with fail
  refine (entries_any _ ss _ hn (by exact H.out.below H0.out.1)).mono ?_
  rintro r w1 ⟨x, rfl, hb1, he⟩
  have H1 : Hid (OwnT w w1) := H0.out.next H0.out.lt hb1
  have HE := hide he
  clear hb1 he
  go_wp2_with fail
  refine (tpath_out at_ x (bys ss) i w1 (by exact HS.out.below H1.out.1) HE.out.bss Hi.out).mono ?_
  rintro r w2 ⟨rfl, hb2⟩
  have H2 : Hid (OwnT w w2) := H1.out.next H1.out.lt hb2
  clear hb2
  go_wp2_with fail
  refine (texts_any w2.heap.size _ [] w2 (by simp) (Nat.le_refl _) (by simp) ⟨rfl, .inl ⟨rfl, rfl⟩⟩).mono ?_
  rintro r w3 ⟨y, rfl, hb3, ho⟩
  obtain ⟨a', c', rfl⟩ : ∃ a c, y = .slice a 0 c := by
    rcases ho.2 with ⟨e, _⟩ | ⟨g, cap, cur, e, _⟩
    · exact ⟨_, _, e⟩
    · exact ⟨_, _, e⟩
  have H3 : Hid (OwnT w w3) := H2.out.next H2.out.lt hb3
  clear hb3 ho
  go_wp2_with fail
  refine (of_range at_ w3 (by exact HS.out.below H3.out.1)).mono ?_
  rintro r w4 ⟨hr, hb4⟩
  have hr' : r = .returned (.agg (toldC 2)) := hr
  clear hr
  subst hr'
  have H4 : Hid (OwnT w w4) := H3.out.next H3.out.lt hb4
  clear hb4
  go_wp2_with (refine wpList_store_row rfl 25 _ _ rfl w.heap.size (toldC 2) rfl rfl 25 _ H4.out.2 (toldC_size 2) rfl (toldC_one 2) ?_)
  refine bodyPost_ret (v := .tuple #[.slice a' 0 c', .agg (toldC 2)]) (results_tmp_cell_run Tryd.results7 _ _ w.heap.size 25 _ (0, 0) _ rfl (setRow_heap _ _ _ _ _ _ H4.out.2) Tryd.underlying25 rfl (toldC_size 2) _ rfl) rfl ⟨a', c', rfl, ?_⟩
  exact below_setRow H4.out.1 (Nat.le_refl _) _
set_option maxHeartbeats 1000000 in
theorem ppath_in (f : Nat) (hf6 : f ≤ 1000000) (at_ : Nat → Addr) (v : Value) (ss : List ByteArray) (i : Int) (w : World) (hs : Sents w at_) (hf : ss.length ≤ f) (hl : ∀ s ∈ ss, s.size ≤ maxLen) (h : Sss w v ss) (hi0 : 0 ≤ i) (hi1 : i < (ss.length : Int)) :
    Calls Tryd.prog 7 #[v, .int .i64 i] w fun r w' => ∃ x, r = .returned (.tuple #[x, .agg (toldC 0)]) ∧ Below w.heap.size w w' ∧ w'.ownsRow w.heap.size 9 1 x (pathF f (bys ss) i.toNat).length ((pathF f (bys ss) i.toNat).map txt) := by
  have H := hide h
  have HS := hide hs
  have Hl : Hid (∀ l ∈ bys ss, l.length ≤ maxLen) := by
    intro l hl'
    obtain ⟨s, hs, rfl⟩ := List.mem_map.1 hl'
    simpa using hl s hs
  have Hi := hide (And.intro hi0 hi1)
  have H0 := hide (OwnT.start w)
  obtain ⟨a, cap, rfl, hcap, -⟩ := h
  have HQ8 := hide (pathF_len8 f (bys ss) i.toNat)
  have HQc := hide (Nat.le_trans (pathF_count f (bys ss) i.toNat) hf6)
  have TI := hide (tpath_in f hf6)
  generalize hQ : pathF f (bys ss) i.toNat = Q at *
  have HQ := hide hQ
  clear hcap hs hi0 hi1 hl hQ
  go_enter Tryd.func7, Tryd.ntmps7
  go_wp2_with fail
  refine (entries_any _ ss _ (Nat.le_trans hf hf6) (by exact H.out.below H0.out.1)).mono ?_
  rintro r w1 ⟨x, rfl, hb1, he⟩
  have H1 : Hid (OwnT w w1) := H0.out.next H0.out.lt hb1
  have HE := hide he
  clear hb1 he
  go_wp2_with fail
  refine (TI.out x (bys ss) i w1 (by rw [bys_length]; exact hf) Hl.out HE.out.bss Hi.out.1 (by rw [bys_length]; exact Hi.out.2)).mono ?_
  rintro r w2 ⟨y, rfl, hb2, ho2⟩
  rw [HQ.out] at ho2
  have H2 : Hid (OwnT w w2) := H1.out.next H1.out.lt hb2
  have HO2 : Hid (w2.ownsRow w1.heap.size 48 8 y Q.length (flat Q)) := ho2
  have HS2 : Hid (w1.heap.size ≤ w2.heap.size) := hb2.size
  clear hb2 ho2
  go_wp2_with fail
  refine (texts_any w1.heap.size y Q w2 HQc.out HS2.out HQ8.out HO2.out).mono ?_
  rintro r w3 ⟨z, rfl, hb3, ho3⟩
  have H3 : Hid (OwnT w w3) := H2.out.next H1.out.lt hb3
  have HO3 := hide ho3
  clear hb3 ho3
  go_wp2_with fail
  refine (of_nil at_ w3 (by exact HS.out.below H3.out.1)).mono ?_
  rintro r w4 ⟨hr, hb4⟩
  have hr' : r = .returned (.agg (toldC 0)) := hr
  clear hr
  subst hr'
  have H4 : Hid (OwnT w w4) := H3.out.next H3.out.lt hb4
  have HO4 := hide (ownsRow_below HO3.out hb4)
  clear hb4
  go_wp2_with (refine wpList_store_row rfl 25 _ _ rfl w.heap.size (toldC 0) rfl rfl 25 _ H4.out.2 (toldC_size 0) rfl (toldC_one 0) ?_)
  refine bodyPost_ret (v := .tuple #[z, .agg (toldC 0)]) (results_tmp_cell_run Tryd.results7 _ _ w.heap.size 25 _ (0, 0) _ rfl (setRow_heap _ _ _ _ _ _ H4.out.2) Tryd.underlying25 rfl (toldC_size 0) _ rfl) rfl ⟨z, rfl, ?_, ?_⟩
  · exact below_setRow H4.out.1 (Nat.le_refl _) _
  · exact owns_setRow (owns_weaken HO4.out H1.out.1.size) H1.out.lt HO4.out _

set_option maxHeartbeats 1000000 in
theorem tpart_out (at_ : Nat → Addr) (v : Value) (ls : List (List UInt8)) (i : Int) (w : World) (hs : Sents w at_) (h : Bss w v ls) (hi : i < 1 ∨ (ls.length : Int) < i) :
    Calls Tryd.prog 20 #[v, .int .i64 i] w fun r w' => r = .returned (.tuple #[.slice none 0 0, .iface 122 (.pointer (some (at_ 1)))]) ∧ Below w.heap.size w w' := by
  have h1 := hs.range
  obtain ⟨a, cap, rfl, hcap, -⟩ := h
  clear hcap hs
  by_cases hi0 : i < 1
  · clear hi
    go_enter Tryd.func20, Tryd.ntmps20
    go_wp2_with fail
    go_quiet (fail)
    go_wp2_with fail
    exact bodyPost_ret (results_tmps2 Tryd.results20 _ _ _ _ rfl rfl) rfl ⟨rfl, below_drewN (Below.refl _ _) _⟩
  · have hi1 : (ls.length : Int) < i := by omega
    clear hi
    go_enter Tryd.func20, Tryd.ntmps20
    go_wp2_with fail
    go_quiet (fail)
    go_wp2_with fail
    exact bodyPost_ret (results_tmps2 Tryd.results20 _ _ _ _ rfl rfl) rfl ⟨rfl, below_drewN (Below.refl _ _) _⟩
set_option maxHeartbeats 1000000 in
theorem tpart_in (f : Nat) (hf6 : f ≤ 1000000) (v : Value) (ls : List (List UInt8)) (i : Int) (w : World) (hf : ls.length ≤ f) (hl : ∀ l ∈ ls, l.length ≤ maxLen) (h : Bss w v ls) (hi0 : 1 ≤ i) (hi1 : i ≤ (ls.length : Int)) :
    Calls Tryd.prog 20 #[v, .int .i64 i] w fun r w' => ∃ x, r = .returned (.tuple #[x, .nilIface]) ∧ Below w.heap.size w w' ∧ OwnH w w' x (prtF f i.toNat ls true) := by
  obtain ⟨i, rfl⟩ := Int.eq_ofNat_of_zero_le (show 0 ≤ i by omega)
  have HRS : Hid (prtF f ((i : Nat) : Int).toNat ls true = (partS 63 i 0 ls.length true).map fun s => rootT (run ls s)) := by
    show _ = _
    rw [Int.toNat_natCast, show prtF f i ls true = prtF f (i - 0) (run ls (0, ls.length)) true by rw [run_all]; rfl, partS_roots ls 63 f i 0 ls.length true (by omega) hf (by omega) (by omega) (by omega)]
  have HIN : Hid (∀ s ∈ partS 63 i 0 ls.length true, s.1 + s.2 ≤ ls.length ∧ 1 ≤ s.2) := fun s hs => by
    have := partS_in 63 i 0 ls.length true (by omega) (by omega) (by omega) (by omega) s hs
    omega
  have HCN := hide (partS_count 63 i 0 ls.length true)
  have H := hide h
  have Hl := hide hl
  have pt : ∀ w, _ := fun w => part_any 63 (by omega) i 0 ls.length true w (by omega) (by omega) (by omega) (by omega) (by omega)
  rw [show (((0 : Nat)) : Int) = 0 from rfl] at pt
  have PT := hide pt
  clear pt
  obtain ⟨a, cap, rfl, hcap, h'⟩ := h
  obtain ⟨b, off, rfl⟩ : ∃ b off, a = some ⟨b, off, none⟩ := by
    rcases h' with h' | ⟨b, off, rfl, -⟩
    · simp [h'] at hi1; omega
    · exact ⟨b, off, rfl⟩
  clear hl h'
  generalize partS 63 i 0 ls.length true = SS at *
  rw [HRS.out]
  go_enter Tryd.func20, Tryd.ntmps20
  go_wp2_with fail
  refine (PT.out _).mono ?_
  rintro r w1 ⟨x, rfl, hb, ho⟩
  have HB := hide hb
  have HO := hide ho
  obtain ⟨xa, xc, rfl⟩ : ∃ a c, x = .slice a SS.length c := by
    obtain ⟨a, c, e, -⟩ := sps_of_own ho
    exact ⟨a, c, e⟩
  clear hb ho
  go_wp2_with fail
  refine (rootsOf_some b off cap ls _ SS w1 hcap (by omega) Hl.out (by exact H.out.below HB.out) (sps_of_own HO.out) (by have := HCN.out; omega) HIN.out).mono ?_
  rintro r w2 ⟨y, rfl, hb2, ho2⟩
  have HB2 : Hid (Below w.heap.size w w2) := HB.out.trans (hb2.mono HB.out.size)
  have HO2 : Hid (OwnH w w2 y (SS.map fun s => rootT (run ls s))) := ownsRow_from ho2 HB.out.size
  clear hb2 ho2
  go_wp2_with fail
  exact bodyPost_ret (results_tmps2 Tryd.results20 _ _ _ _ rfl rfl) rfl ⟨y, rfl, HB2.out, HO2.out⟩
set_option maxHeartbeats 1000000 in
theorem ppart_out (at_ : Nat → Addr) (v : Value) (ss : List ByteArray) (i : Int) (w : World) (hs : Sents w at_) (hn : ss.length ≤ 1000000) (h : Sss w v ss) (hi : i < 1 ∨ (ss.length : Int) < i) :
    Calls Tryd.prog 8 #[v, .int .i64 i] w fun r w' => ∃ a cap, r = .returned (.tuple #[.slice a 0 cap, .agg (toldC 2)]) ∧ Below w.heap.size w w' := by
  have H := hide h
  have HS := hide hs
  have Hi : Hid (i < 1 ∨ ((bys ss).length : Int) < i) := by rw [bys_length]; exact hi
  have H0 := hide (OwnT.start w)
  obtain ⟨a, cap, rfl, hcap, -⟩ := h
  clear hcap hs hi
  go_enter Tryd.func8, Tryd.ntmps8
  go_wp2_with fail
  refine (entries_any _ ss _ hn (by exact H.out.below H0.out.1)).mono ?_
  rintro r w1 ⟨x, rfl, hb1, he⟩
  have H1 : Hid (OwnT w w1) := H0.out.next H0.out.lt hb1
  have HE := hide he
  clear hb1 he
  go_wp2_with fail
  refine (tpart_out at_ x (bys ss) i w1 (by exact HS.out.below H1.out.1) HE.out.bss Hi.out).mono ?_
  rintro r w2 ⟨rfl, hb2⟩
  have H2 : Hid (OwnT w w2) := H1.out.next H1.out.lt hb2
  clear hb2
  go_wp2_with fail
  refine (texts_any w2.heap.size _ [] w2 (by simp) (Nat.le_refl _) (by simp) ⟨rfl, .inl ⟨rfl, rfl⟩⟩).mono ?_
  rintro r w3 ⟨y, rfl, hb3, ho⟩
  obtain ⟨a', c', rfl⟩ : ∃ a c, y = .slice a 0 c := by
    rcases ho.2 with ⟨e, _⟩ | ⟨g, cap, cur, e, _⟩
    · exact ⟨_, _, e⟩
    · exact ⟨_, _, e⟩
  have H3 : Hid (OwnT w w3) := H2.out.next H2.out.lt hb3
  clear hb3 ho
  go_wp2_with fail
  refine (of_range at_ w3 (by exact HS.out.below H3.out.1)).mono ?_
  rintro r w4 ⟨hr, hb4⟩
  have hr' : r = .returned (.agg (toldC 2)) := hr
  clear hr
  subst hr'
  have H4 : Hid (OwnT w w4) := H3.out.next H3.out.lt hb4
  clear hb4
  go_wp2_with (refine wpList_store_row rfl 25 _ _ rfl w.heap.size (toldC 2) rfl rfl 25 _ H4.out.2 (toldC_size 2) rfl (toldC_one 2) ?_)
  refine bodyPost_ret (v := .tuple #[.slice a' 0 c', .agg (toldC 2)]) (results_tmp_cell_run Tryd.results8 _ _ w.heap.size 25 _ (0, 0) _ rfl (setRow_heap _ _ _ _ _ _ H4.out.2) Tryd.underlying25 rfl (toldC_size 2) _ rfl) rfl ⟨a', c', rfl, ?_⟩
  exact below_setRow H4.out.1 (Nat.le_refl _) _
set_option maxHeartbeats 1000000 in
theorem ppart_in (f : Nat) (hf6 : f ≤ 1000000) (at_ : Nat → Addr) (v : Value) (ss : List ByteArray) (i : Int) (w : World) (hs : Sents w at_) (hf : ss.length ≤ f) (hl : ∀ s ∈ ss, s.size ≤ maxLen) (h : Sss w v ss) (hi0 : 1 ≤ i) (hi1 : i ≤ (ss.length : Int)) :
    Calls Tryd.prog 8 #[v, .int .i64 i] w fun r w' => ∃ x, r = .returned (.tuple #[x, .agg (toldC 0)]) ∧ Below w.heap.size w w' ∧ w'.ownsRow w.heap.size 9 1 x (prtF f i.toNat (bys ss) true).length ((prtF f i.toNat (bys ss) true).map txt) := by
  have H := hide h
  have HS := hide hs
  have Hl : Hid (∀ l ∈ bys ss, l.length ≤ maxLen) := by
    intro l hl'
    obtain ⟨s, hs, rfl⟩ := List.mem_map.1 hl'
    simpa using hl s hs
  have Hi := hide (And.intro hi0 hi1)
  have H0 := hide (OwnT.start w)
  obtain ⟨a, cap, rfl, hcap, -⟩ := h
  have HQ8 := hide (prtF_len8 f i.toNat (bys ss) true)
  have HQc := hide (Nat.le_trans (prtF_count f i.toNat (bys ss) true) hf6)
  have TI := hide (tpart_in f hf6)
  generalize hQ : prtF f i.toNat (bys ss) true = Q at *
  have HQ := hide hQ
  clear hcap hs hi0 hi1 hl hQ
  go_enter Tryd.func8, Tryd.ntmps8
  go_wp2_with fail
  refine (entries_any _ ss _ (Nat.le_trans hf hf6) (by exact H.out.below H0.out.1)).mono ?_
  rintro r w1 ⟨x, rfl, hb1, he⟩
  have H1 : Hid (OwnT w w1) := H0.out.next H0.out.lt hb1
  have HE := hide he
  clear hb1 he
  go_wp2_with fail
  refine (TI.out x (bys ss) i w1 (by rw [bys_length]; exact hf) Hl.out HE.out.bss Hi.out.1 (by rw [bys_length]; exact Hi.out.2)).mono ?_
  rintro r w2 ⟨y, rfl, hb2, ho2⟩
  rw [HQ.out] at ho2
  have H2 : Hid (OwnT w w2) := H1.out.next H1.out.lt hb2
  have HO2 : Hid (w2.ownsRow w1.heap.size 48 8 y Q.length (flat Q)) := ho2
  have HS2 : Hid (w1.heap.size ≤ w2.heap.size) := hb2.size
  clear hb2 ho2
  go_wp2_with fail
  refine (texts_any w1.heap.size y Q w2 HQc.out HS2.out HQ8.out HO2.out).mono ?_
  rintro r w3 ⟨z, rfl, hb3, ho3⟩
  have H3 : Hid (OwnT w w3) := H2.out.next H1.out.lt hb3
  have HO3 := hide ho3
  clear hb3 ho3
  go_wp2_with fail
  refine (of_nil at_ w3 (by exact HS.out.below H3.out.1)).mono ?_
  rintro r w4 ⟨hr, hb4⟩
  have hr' : r = .returned (.agg (toldC 0)) := hr
  clear hr
  subst hr'
  have H4 : Hid (OwnT w w4) := H3.out.next H3.out.lt hb4
  have HO4 := hide (ownsRow_below HO3.out hb4)
  clear hb4
  go_wp2_with (refine wpList_store_row rfl 25 _ _ rfl w.heap.size (toldC 0) rfl rfl 25 _ H4.out.2 (toldC_size 0) rfl (toldC_one 0) ?_)
  refine bodyPost_ret (v := .tuple #[z, .agg (toldC 0)]) (results_tmp_cell_run Tryd.results8 _ _ w.heap.size 25 _ (0, 0) _ rfl (setRow_heap _ _ _ _ _ _ H4.out.2) Tryd.underlying25 rfl (toldC_size 0) _ rfl) rfl ⟨z, rfl, ?_, ?_⟩
  · exact below_setRow H4.out.1 (Nat.le_refl _) _
  · exact owns_setRow (owns_weaken HO4.out H1.out.1.size) H1.out.lt HO4.out _
end Go.Proofs.YtbjpjidliggdhaaDoor
