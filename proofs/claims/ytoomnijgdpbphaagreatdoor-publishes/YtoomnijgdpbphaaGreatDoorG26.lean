import Derived.Test.YtoomnijgdpbphaaGreatDoorG25
import Derived.Lib.OwnBridge
import Derived.Test.YtoomnijgdpbphaaGreatDoorG24

namespace Go.Proofs.YtoomnijgdpbphaaGreatDoor
open Go.RowKit Go.Lib Go.Sort
set_option maxRecDepth 100000

theorem fcells_one (fs : Fs) : ∀ u ∈ fcells fs, u.oneCell' = true := by
  intro u hu
  unfold fcells at hu
  obtain ⟨f, -, h⟩ := List.mem_flatMap.1 hu
  simp only [List.mem_cons, List.not_mem_nil, or_false] at h
  rcases h with rfl | rfl <;> rfl
theorem cloneF_any (fv : Value) (fs : Fs) (w : World) (hn : fs.length ≤ 1000000000) (hf : w.ownsRow 0 36 2 fv fs.length (fcells fs)) :
    Calls Tryz.prog 84 #[fv] w fun e w' => ∃ v', e = .returned v' ∧ Below w.heap.size w w' ∧ w'.ownsRow w.heap.size 36 2 v' fs.length (fcells fs) := by
  rcases hf.2 with ⟨rfl, h0⟩ | ⟨g, cap, cur, rfl, -, hgg, hn', hm, hs, ht⟩
  · refine (AnyE.slices_Clone_nil Tryz.cloneFile 0 0 w).mono ?_
    rintro e w' ⟨rfl, rfl⟩
    exact ⟨_, rfl, Below.refl _ _, hf.1, .inl ⟨rfl, h0⟩⟩
  · obtain ⟨i, hi, hi'⟩ := Option.map_eq_some_iff.1 infoFile
    obtain ⟨hz0, hz1, hz2⟩ : i.zero = some (.agg #[.string ⟨#[]⟩, .string ⟨#[]⟩]) ∧ i.size = 2 ∧ i.bytes = 32 := by simpa using hi'
    refine (AnyE.slices_Clone Tryz.cloneFile i (.agg #[.string ⟨#[]⟩, .string ⟨#[]⟩]) 2 32 hi hz0 hz1 hz2 rfl (by omega) Tryz.sizeOf36 g 0 fs.length cap (fcells fs) w hf.1 (by unfold maxLen; omega) (by omega) ?_ (fcells_one fs)).mono ?_
    · intro j u hj
      rw [Nat.zero_add, cell_of_row _ _ _ _ _ _ hgg, ← Array.getElem?_toList]
      rw [← ht] at hj
      rw [List.getElem?_take] at hj
      split at hj
      · exact hj
      · simp at hj
    · rintro e w' ⟨v', rfl, ho, -, hb⟩
      exact ⟨v', rfl, hb, ho⟩
theorem below_grow {B : Nat} {a w : World} (h : Below B a w) (hB : B ≤ a.heap.size) (os : Array Obj) : Below B a (Go.Sort.grow w os) :=
  ⟨h.os, h.tape, h.output, by simp only [Go.Sort.grow, Array.size_append]; have := h.size; omega, fun k hk => by
    rw [← h.block k hk]
    have := h.size
    simp only [Go.Sort.grow]
    exact Array.getElem?_append_left (by omega)⟩
theorem fflat_at (fs : Fs) (j : Nat) (h : j < fs.length * 2) : (fcells fs)[j]? = some (flatK encF 2 fs.toArray)[j]! := by
  rw [get_flatK _ _ _ _ (by simpa using h)]
  have h2 : j / 2 < fs.length := by omega
  obtain ⟨e0, e1⟩ := fcells_at fs (j / 2) h2
  have hg : fs.toArray[j / 2]! = fs[j / 2] := by
    rw [getElem!_pos _ _ (by simpa using h2)]
    simp
  rw [hg]
  rcases Nat.mod_two_eq_zero_or_one j with hm | hm
  · rw [hm]
    have hj : j / 2 * 2 = j := by omega
    rw [hj] at e0
    rw [e0]
    rfl
  · rw [hm]
    have hj : j / 2 * 2 + 1 = j := by omega
    rw [hj] at e1
    rw [e1]
    rfl
theorem sortF_any (v : Value) (fs : Fs) (w0 w : World) (hn : fs.length ≤ 1000000000) (hw : Below w0.heap.size w0 w) (ho : w.ownsRow w0.heap.size 36 2 v fs.length (fcells fs)) :
    Calls Tryz.prog 85 #[v, .func (.func 86) #[] #[]] w fun e w' => e = .returned (.tuple #[]) ∧ ∃ fs' : Fs, fs'.Perm fs ∧ Fss w' v fs' ∧ Below w0.heap.size w0 w' := by
  rcases ho.2 with ⟨rfl, h0⟩ | ⟨g, cap, cur, rfl, hB, hgg, hn', hm, hs, ht⟩
  · obtain rfl : fs = [] := List.eq_nil_of_length_eq_zero h0
    refine (AnyF.slices_SortFunc_none Tryz.sortFile none 0 _ w).mono ?_
    rintro e w' ⟨rfl, rfl⟩
    exact ⟨rfl, [], List.Perm.refl _, ⟨none, 0, rfl, Nat.le_refl _, .inl rfl⟩, hw⟩
  · have eg : ∀ args w, (callFunc 86 args).run Tryz.prog w = .ok (.enter 86 args) w := enters_of Tryz.func86 (by kernel_rfl) rfl
    have hH : HoldsK encF 2 w g 0 fs.toArray := by
      intro j hj
      rw [size_flatK] at hj
      have hj' : j < fs.length * 2 := by simpa using hj
      rw [Nat.zero_add]
      refine ⟨?_, by simp [World.frozen?, hgg]⟩
      have e := fflat_at fs j hj'
      rw [← ht, List.getElem?_take, if_pos (by omega), Array.getElem?_toList] at e
      rw [cell_of_row _ _ _ _ _ _ hgg]
      exact e
    have hcmp : CmpLays Tryz.prog 86 #[] encF 2 cfF g 0 fs.toArray.size w := by
      intro m os dk hdk x y
      exact cmp_any x y _
    have hsz : fs.toArray.size = fs.length := by simp
    have hcall := AnyQ.slices_SortFunc Tryz.sortFile 2 Tryz.isAgg36 Tryz.sizeOf36 encF (fun _ => rfl) (fun x v hv => by
      simp only [encF, List.mem_cons, List.not_mem_nil, or_false] at hv
      rcases hv with rfl | rfl <;> rfl) cfF cfF_swo 86 #[] g 0 cap fs.toArray w eg hcmp hH (heap_some_lt hgg) (by rw [hsz]; omega)
    rw [hsz] at hcall
    refine hcall.mono ?_
    rintro e w' ⟨rfl, d', n, os, hp, -, rfl⟩
    have hd : d'.size = fs.length := by rw [hp.1, hsz]
    have hperm : d'.toList.Perm fs := by
      have h := hp.2.2
      rw [Array.extract_eq_self_of_le (by omega), Array.extract_eq_self_of_le (by omega)] at h
      simpa using h
    have hlen : d'.toList.length = fs.length := by simp [hd]
    have hHH := holdsK_sortWorldK_c encF 2 w g 0 fs.toArray d' n os hH (heap_some_lt hgg) (by rw [hd, hsz])
    refine ⟨rfl, d'.toList, hperm, ⟨some ⟨g, 0, none⟩, cap, by rw [hlen], by rw [hlen]; exact hn', .inr ⟨g, 0, rfl, fun i hi => ?_⟩⟩, below_grow (below_putRow hw hB) (Nat.le_refl _) _⟩
    rw [hlen] at hi
    have k0 := (hHH (i * 2) (by rw [size_flatK]; omega)).1
    have k1 := (hHH (i * 2 + 1) (by rw [size_flatK]; omega)).1
    rw [get_flatK _ _ _ _ (by omega)] at k0 k1
    rw [show i * 2 / 2 = i by omega, show i * 2 % 2 = 0 by omega] at k0
    rw [show (i * 2 + 1) / 2 = i by omega, show (i * 2 + 1) % 2 = 1 by omega] at k1
    rw [getElem!_pos d' i (by omega)] at k0 k1
    exact ⟨k0, k1⟩

set_option maxHeartbeats 400000 in
theorem files_any (O : Nat → Prop) (b : Nat) (d : Dk) (w : World) (hn : d.fs.length ≤ 1000000000) (h : DiskAt w O b d) :
    Calls Tryz.prog 54 #[dptr b] w fun r w' => ∃ v, ∃ fs' : Fs, r = .returned v ∧ fs'.Perm d.fs ∧ Fss w' v fs' ∧ Below w.heap.size w w' := by
  obtain ⟨fv, hO, hb, hf, hg⟩ := h
  obtain ⟨c0, f0⟩ := (dall hb).1
  have HF := hide hf
  have hfi := files_in hf
  clear hb hf hg hO f0
  obtain ⟨a, cap, rfl, -⟩ := hfi
  have hmf : ∀ (fn : Fn) (first cap : Array Value) (w : World), (Instr.makeFunc fn first cap).run Tryz.prog w = .ok (.func fn first cap) w := fun _ _ _ _ => rfl
  unfold dptr
  go_enter Tryz.func54, Tryz.ntmps54
  go_wp2_with fail
  refine (cloneF_any _ d.fs w hn HF.out).mono ?_
  rintro r w1 ⟨v', rfl, hb1, ho⟩
  have HB1 := hide hb1
  have HO := hide ho
  have hfi := files_in ho
  clear hb1 ho c0
  obtain ⟨a', cap', rfl, -⟩ := hfi
  go_wp2_with fail
  refine (sortF_any _ d.fs w w1 hn HB1.out HO.out).mono ?_
  rintro r w2 ⟨rfl, fs', hp, hfs, hb2⟩
  have HP := hide (And.intro hp (And.intro hfs hb2))
  clear hp hfs hb2
  go_wp2_with fail
  go_ret
  exact ⟨_, fs', rfl, HP.out.1, HP.out.2.1, HP.out.2.2⟩
end Go.Proofs.YtoomnijgdpbphaaGreatDoor

namespace Go.Proofs.YtoomnijgdpbphaaGreatDoor
open Go.RowKit
set_option maxRecDepth 100000

theorem infoRFile : (Tryz.prog.info? 86).map (fun i => (i.zero, i.size, i.bytes)) = some (some (.agg #[.string ⟨#[]⟩, .string ⟨#[]⟩]), 2, 32) := by kernel_rfl
theorem owns_lower {w : World} {B B' : Nat} {e : TypeId} {k : Nat} {v : Value} {n : Nat} {xs : List Value} (h : w.ownsRow B e k v n xs) (hB : B' ≤ B) : w.ownsRow B' e k v n xs := by
  refine ⟨h.1, ?_⟩
  rcases h.2 with h | ⟨g, cap, cur, e1, e2, r⟩
  · exact .inl h
  · exact .inr ⟨g, cap, cur, e1, Nat.le_trans hB e2, r⟩
theorem fss_owns {w : World} {B : Nat} {t : TypeId} {v : Value} {fs : Fs} (h : w.ownsRow B t 2 v fs.length (fcells fs)) : Fss w v fs := by
  obtain ⟨a, cap, rfl, h0 | ⟨g, rfl, cur, hg, hn, -, hx⟩⟩ := files_in h
  · obtain rfl : fs = [] := List.eq_nil_of_length_eq_zero h0
    exact ⟨a, cap, rfl, Nat.zero_le _, .inl rfl⟩
  · refine ⟨_, cap, rfl, hn, .inr ⟨g, 0, rfl, fun i hi => ?_⟩⟩
    rw [Nat.zero_add, cell_of_row _ _ _ _ _ _ hg, cell_of_row _ _ _ _ _ _ hg]
    exact hx i hi

set_option maxHeartbeats 1000000 in
theorem lfiles_any (O : Nat → Prop) (b wb : Nat) (d : Dk) (w : World) (hn : d.fs.length ≤ 1000000000) (h : DiskAt w O b d) (hc : w.cell? ⟨wb, 0, none⟩ = some (dptr b)) :
    Calls Tryz.prog 24 #[.pointer (some ⟨wb, 0, none⟩)] w fun r w' => ∃ v, ∃ fs' : Fs, r = .returned v ∧ fs'.Perm d.fs ∧ Fss w' v fs' ∧ Below w.heap.size w w' ∧ w'.ownsRow 0 86 2 v fs'.length (fcells fs') := by
  have HD := hide h
  unfold dptr at hc
  clear h
  go_enter Tryz.func24, Tryz.ntmps24
  go_wp2_with fail
  refine (files_any O b d w hn HD.out).mono ?_
  rintro r w1 ⟨v, fs, rfl, hp, hf, hb1⟩
  have HP := hide hp
  have HF := hide hf
  have HB1 := hide hb1
  have hln : fs.length ≤ 1000000000 := by rw [hp.length_eq]; exact hn
  obtain ⟨a, cap, rfl, hcap, -⟩ := hf
  clear hp hb1 hc hcap
  obtain ⟨i, hi, hi'⟩ := Option.map_eq_some_iff.1 infoRFile
  obtain ⟨hz0, hz1, hz2⟩ : i.zero = some (.agg #[.string ⟨#[]⟩, .string ⟨#[]⟩]) ∧ i.size = 2 ∧ i.bytes = 32 := by simpa using hi'
  clear hi'
  have HI := hide hi
  have HZ := hide (And.intro hz0 (And.intro hz1 hz2))
  clear hi hz0 hz1 hz2
  go_wp2_with fail
  go_loopw [3, 5] (fun o j wr => ∃ k : Nat, k ≤ fs.length ∧ j = .int .i64 k ∧ Below w1.heap.size w1 wr ∧ wr.ownsRow w1.heap.size 86 2 o k (fcells (fs.take k))) (fun _ j _ => fs.length - (intOf j).toNat)
  case atStart => exact ⟨0, Nat.zero_le _, rfl, Below.refl _ _, ⟨rfl, .inl ⟨rfl, rfl⟩⟩⟩
  case round =>
    obtain ⟨k, hk, rfl, hbe, hown⟩ := hrel
    have HB := hide hbe
    have HO := hide hown
    clear hbe hown
    by_cases hlt : k < fs.length
    · obtain ⟨-, -, hx'⟩ := HF.out.at
      obtain ⟨fb, fo, rfl, hx⟩ := hx' (by omega)
      obtain ⟨y0, y1⟩ := hx k hlt
      have HST : Hid (fcells (fs.take (k + 1)) = fcells (fs.take k) ++ [.string ⟨fs[k].1.toArray⟩, .string ⟨fs[k].2.toArray⟩]) := by
        show _ = _
        rw [take_snoc fs k hlt, fcells_append]
        rfl
      generalize fs[k].1 = p at *
      generalize fs[k].2 = x at *
      unfold txv at y0 y1
      have r0 : wr.cell? ⟨fb, fo + k * 2, none⟩ = some (.string ⟨p.toArray⟩) := by rw [HB.out.cell (p := ⟨fb, _, none⟩) (cell_lt y0)]; exact y0
      have r1 : wr.cell? ⟨fb, fo + k * 2 + 1, none⟩ = some (.string ⟨x.toArray⟩) := by rw [HB.out.cell (p := ⟨fb, _, none⟩) (cell_lt y1)]; exact y1
      have HF1 := hide (fun o => World.ownsRow.alloc (w := wr) HO.out o)
      have HSZ : Hid (∀ o, w1.heap.size ≤ (wr.alloc o).drew.heap.size) := fun o => by
        have := HB.out.size
        show w1.heap.size ≤ (wr.alloc o).heap.size
        simp
        omega
      clear y0 y1 hx hx'
      go_wp2_with fail
      go_region_law (refine step_append_lies _ (by rfl) _ _ _ (by rfl) w1.heap.size 86 i (.agg #[.string ⟨#[]⟩, .string ⟨#[]⟩]) 2 32 Tryz.underlying71 HI.out HZ.out.1 HZ.out.2.1 HZ.out.2.2 rfl (by omega) _ k (fcells (fs.take k)) (by rfl) (by exact HF1.out _) ⟨wr.heap.size, 0, none⟩ 1 1 [.string ⟨p.toArray⟩, .string ⟨x.toArray⟩] (by rfl) rfl (World.news_of_block (heap_alloc_last _ _)) (by simp [Value.oneCell']) (by omega) (by unfold maxLen; omega) (by omega) (by exact HSZ.out _) (wr.heap.size + 1) (by simp) ?_; intro g cap' w3 hown hgrow hat hltg; have HOW := hide hown; have HGR := hide hgrow; have HAT := hide hat; clear hown hgrow hat)
      all_goals
        have hbx : ∀ o, Below w1.heap.size w1 (wr.alloc o).drew := fun o => (HB.out.trans ((below_alloc wr o).mono HB.out.size)).drew
        have HBZ := hide ((hbx _).grown HGR.out (HSZ.out _) (own_base HO.out))
        clear hbx
        go_wp2_with fail
        go_roundw
        case rel => exact ⟨k + 1, by omega, by go_num, HBZ.out, by rw [HST.out]; exact HOW.out⟩
        case measure => simp [intOf]; omega
    · obtain rfl : k = fs.length := by omega
      have hof := HO.out
      rw [List.take_length] at hof
      have HFF := hide (fss_owns hof)
      have HOO := hide (owns_lower hof (Nat.zero_le _))
      obtain ⟨oa, oc, he, -⟩ := id HFF.out
      subst he
      clear hof
      go_wp2_with fail
      go_ret
      exact ⟨_, fs, rfl, HP.out, HFF.out, HB1.out.trans (HB.out.mono HB1.out.size), HOO.out⟩
end Go.Proofs.YtoomnijgdpbphaaGreatDoor
