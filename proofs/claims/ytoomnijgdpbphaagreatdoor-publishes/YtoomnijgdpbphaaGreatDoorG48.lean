import Derived.Test.YtoomnijgdpbphaaGreatDoorG47
import Derived.ProofKit
import Derived.OpenShut
import Derived.ShutString
import Derived.ChangeOld
import Derived.Below
import Derived.Deep.SlicePairs

namespace Go.Proofs.YtoomnijgdpbphaaGreatDoor
open Go.RowKit
set_option maxRecDepth 100000

theorem DiskAt.narrow {w : World} {O : Nat → Prop} {b : Nat} {d : Dk} (h : DiskAt w O b d) : DiskAt w (fun k => O k ∧ k < w.heap.size) b d := by
  obtain ⟨fv, a, hb, hf, hg⟩ := h
  exact ⟨fv, ⟨a, heap_some_lt hb⟩, hb, hf, fun g e => ⟨hg g e, (hf.lt g e).2⟩⟩
theorem inv_new {B b : Nat} {w : World} {O : Nat → Prop} {fs : Fs} {key : List UInt8} (hB : B ≤ b) (hO : ∀ k, O k → b ≤ k) (hOb : O b) (hk : key.length ≤ 1048577) (hn : fs.length ≤ 4096) (hl : ∀ f ∈ fs, f.2.length ≤ 1048576) (hw : WAt w b (b + 1) (.pointer none) (.slice none 0 0) { key := key, published := 0, failed := false, foreign := false }) (hd : DiskAt w O (b + 1) { dk0 with fs := newF [] fs }) :
    Inv B w (fun k => O k ∧ k < w.heap.size) b 0 := by
  refine ⟨⟨hOb, heap_some_lt hw⟩, fun k hk => ⟨Nat.le_trans hB (hO k hk.1), hk.2⟩, .inr ⟨_, _, _, _, _, (newF [] fs).map fun f => ixN f.1, rfl, hw, hd.narrow, ?_, .inl rfl⟩⟩
  have hlen := newF_len fs []
  refine ⟨newF_apart fs [] (by simp [Apart]), fun f hf => ?_, by simp at hlen ⊢; omega, among_start _, by simp at hlen ⊢; omega, hk, rfl⟩
  rcases newF_mem fs [] f hf with h | h
  · simp at h
  · exact hl f h
theorem ext_apart {OA OB : Nat → Prop} {w w' : World} (h : ∀ k, OA k → ¬ OB k) (hA : ∀ k, OA k → k < w.heap.size) : ∀ k, OA k → ¬ Ext OB w w' k := by
  rintro k hk (h' | h')
  · exact h k hk h'
  · have := hA k hk; omega
theorem ext_apart' {OA OB : Nat → Prop} {w w' : World} (h : ∀ k, OA k → ¬ OB k) (hB : ∀ k, OB k → k < w.heap.size) : ∀ k, Ext OA w w' k → ¬ OB k := by
  rintro k (h' | h') hk
  · exact h k h' hk
  · have := hB k hk; omega

set_option maxHeartbeats 2000000 in
theorem publishes_yes (W : World) (at_ : Nat → Addr) (hE : Env W) (hSN : Sents W at_) (hET : ETy W) (v sv : Value) (fs : Fs) (key : List UInt8) (ops : List OpR) (hfl : ∀ f ∈ fs, f.1.length ≤ 9223372036854775807 ∧ f.2.length ≤ 9223372036854775807) (hkl : key.length ≤ 9223372036854775807)
    (hol : ∀ o ∈ ops, -9223372036854775808 ≤ o.a ∧ o.a ≤ 9223372036854775807 ∧ o.s.length ≤ 9223372036854775807) (hf : Fss W v fs) (hs : Oss W sv ops) :
    Calls Tryz.prog 3 #[v, .string ⟨key.toArray⟩, sv] W fun r w' => r = .returned (.bool true) ∧ Below W.heap.size W w' := by
  have HF := hide hf
  have HS := hide hs
  have HEE := hide hE
  have HSN := hide hSN
  have HET := hide hET
  have HFL := hide hfl
  have HOL := hide hol
  obtain ⟨fa, fcap, rfl, -, -⟩ := hf
  obtain ⟨sa, scap, rfl, hsc, -⟩ := hs
  clear hE hSN hET hfl hol
  go_enter Tryz.func3, Tryz.ntmps3
  go_wp2_with fail
  refine (claimed_any _ fs sa ops.length scap W HFL.out HF.out).mono ?_
  rintro r w1 ⟨hb1, bb, rfl, hcl⟩
  have HB1 := hide hb1
  have HCL := hide hcl
  clear hb1 hcl
  cases bb with
  | false =>
    go_wp2_with fail
    go_ret
    exact ⟨rfl, HB1.out⟩
  | true =>
    obtain ⟨hf4, ho4, hfl4⟩ := HCL.out rfl
    have HFL4 := hide hfl4
    clear HCL hfl4
    by_cases hk4 : 1048576 < key.length
    · have hk4' : (1048576 : Int) < (key.length : Int) := by omega
      go_wp2_with fail
      go_ret
      exact ⟨rfl, HB1.out⟩
    · have hk4' : ¬ (1048576 : Int) < (key.length : Int) := by omega
      go_wp2_with fail
      refine (popenNone w1 at_ (sents_below HSN.out HB1.out)).mono ?_
      rintro r wt ⟨rfl, hb2⟩
      have HB2 : Hid (Below W.heap.size W (wt.alloc (.cells #[.int .i64 7, .string ⟨#[]⟩] 26))) := (HB1.out.trans (hb2.mono HB1.out.size)).alloc (Nat.le_trans HB1.out.size hb2.size) _
      clear hb2
      unfold told
      go_wp2_with fail
      generalize wt.alloc (.cells #[.int .i64 7, .string ⟨#[]⟩] 26) = w2 at *
      generalize wt.heap.size = wtb at *
      refine (world_any _ fs key w2 (by omega) (HF.out.below HB2.out)).mono ?_
      rintro r w3 ⟨rfl, hb3, hwa3, hd3⟩
      have HB3 : Hid (Below W.heap.size W w3) := HB2.out.trans (hb3.mono HB2.out.size)
      have HIA3 : Hid (Inv W.heap.size w3 (fun k => w2.heap.size ≤ k ∧ k < w3.heap.size) w2.heap.size 0) := inv_new HB2.out.size (fun _ h => h) (Nat.le_refl _) (by omega) hf4 (fun f hf => (HFL4.out f hf).2) hwa3 hd3
      have hsz23 : Hid (w2.heap.size ≤ w3.heap.size) := hb3.size
      clear hb3 hwa3 hd3
      have hkl2 : ¬ 9223372036854775807 < key.length + 1 := by omega
      go_wp2_with fail
      refine (world_any _ [] (key ++ [50]) w3 (by simp) ⟨none, 0, rfl, Nat.le_refl _, .inl rfl⟩).mono ?_
      rintro r w4 ⟨rfl, hb4, hwa4, hd4⟩
      have HB4 : Hid (Below W.heap.size W w4) := HB3.out.trans (hb4.mono HB3.out.size)
      have HIB4 : Hid (Inv W.heap.size w4 (fun k => w3.heap.size ≤ k ∧ k < w4.heap.size) w3.heap.size 0) := inv_new HB3.out.size (fun _ h => h) (Nat.le_refl _) (by simp; omega) (by simp) (fun f hf => by simp at hf) hwa4 hd4
      have HIA4 : Hid (Inv W.heap.size w4 (fun k => w2.heap.size ≤ k ∧ k < w3.heap.size) w2.heap.size 0) := HIA3.out.out (Turn.of_below (O := fun _ => False) hb4) (fun _ _ h => h)
      clear hb4 hwa4 hd4 HIA3
      generalize w2.heap.size = wa at *
      generalize w3.heap.size = wv at *
      go_wp2_with fail
      go_loopw [7, 12] (fun kv iv wr => ∃ (i : Nat) (OA OB : Nat → Prop), i ≤ ops.length ∧ iv = .int .i64 (i : Int) ∧ Below W.heap.size W wr ∧ Inv W.heap.size wr OA wa i ∧ Inv W.heap.size wr OB wv i ∧ ∀ k, OA k → ¬ OB k) (fun _ iv _ => ops.length - (intOf iv).toNat)
      case atStart => exact ⟨0, _, _, Nat.zero_le _, rfl, HB4.out, HIA4.out, HIB4.out, fun k h1 h2 => by omega⟩
      case round =>
        obtain ⟨i, OA, OB, hi, rfl, hbe, hia, hib, hdj⟩ := hrel
        clear HB4 HIA4 HIB4
        have HBE := hide hbe
        have HIA := hide hia
        have HIB := hide hib
        have HDJ := hide hdj
        have HOA : Hid (∀ k, OA k → W.heap.size ≤ k ∧ k < wr.heap.size) := hia.2.1
        have HOB : Hid (∀ k, OB k → W.heap.size ≤ k ∧ k < wr.heap.size) := hib.2.1
        clear hbe hia hib hdj
        by_cases hlt : i < ops.length
        · obtain ⟨a', cap', he, -, hx'⟩ := HS.out
          simp only [Value.slice.injEq] at he
          obtain ⟨rfl, -, rfl⟩ := he
          obtain ⟨b, off, rfl, hx⟩ : ∃ b off, sa = some ⟨b, off, none⟩ ∧ ∀ i (h : i < ops.length), W.cell? ⟨b, off + i * 4, none⟩ = some (.int .i64 ops[i].kind) ∧ W.cell? ⟨b, off + i * 4 + 1, none⟩ = some (.int .i64 ops[i].a) ∧ W.cell? ⟨b, off + i * 4 + 2, none⟩ = some (.bool ops[i].two) ∧ W.cell? ⟨b, off + i * 4 + 3, none⟩ = some (txv ops[i].s) := by
            rcases hx' with h | h
            · rw [h] at hlt; simp at hlt
            · exact h
          obtain ⟨y0, y1, y2, y3⟩ := hx i hlt
          have hol := HOL.out _ (List.getElem_mem hlt)
          have r0 : wr.cell? ⟨b, off + i * 4, none⟩ = some (.int .i64 ops[i].kind) := by rw [HBE.out.cell (p := ⟨b, _, none⟩) (cell_lt y0)]; exact y0
          have r1 : wr.cell? ⟨b, off + i * 4 + 1, none⟩ = some (.int .i64 ops[i].a) := by rw [HBE.out.cell (p := ⟨b, _, none⟩) (cell_lt y1)]; exact y1
          have r2 : wr.cell? ⟨b, off + i * 4 + 2, none⟩ = some (.bool ops[i].two) := by rw [HBE.out.cell (p := ⟨b, _, none⟩) (cell_lt y2)]; exact y2
          have r3 : wr.cell? ⟨b, off + i * 4 + 3, none⟩ = some (.string ⟨ops[i].s.toArray⟩) := by rw [HBE.out.cell (p := ⟨b, _, none⟩) (cell_lt y3)]; exact y3
          generalize ops[i] = o at *
          obtain ⟨kd, A, two, t⟩ := o
          simp only at r0 r1 r2 r3 hol
          have HHOL := hide hol
          clear hx hx' y0 y1 y2 y3 hol
          cases two with
          | true =>
            go_wp2_with fail
            refine (wstep_any OB W at_ HEE.out HSN.out HET.out wv i wr HBE.out (by omega) HIB.out kd A true t HHOL.out.1 HHOL.out.2.1 HHOL.out.2.2).mono ?_
            rintro r w5 ⟨rfl, ht5, hi5⟩
            have HB5 : Hid (Below W.heap.size W w5) := HBE.out.trans (ht5.below (fun k hk => (HOB.out k hk).1) HBE.out.size)
            have HIB5 := hide hi5
            have HIA5 := hide ((HIA.out.out ht5 HDJ.out).more (show i ≤ i + 1 by omega))
            have HDJ5 : Hid (∀ k, OA k → ¬ Ext OB wr w5 k) := ext_apart HDJ.out (fun k hk => (HOA.out k hk).2)
            clear ht5 hi5
            go_wp2_with fail
            go_roundw
            case rel => exact ⟨i + 1, _, _, by omega, by go_num, HB5.out, HIA5.out, HIB5.out, HDJ5.out⟩
            case measure => simp [intOf]; omega
          | false =>
            go_wp2_with fail
            refine (wstep_any OA W at_ HEE.out HSN.out HET.out wa i wr HBE.out (by omega) HIA.out kd A false t HHOL.out.1 HHOL.out.2.1 HHOL.out.2.2).mono ?_
            rintro r w5 ⟨rfl, ht5, hi5⟩
            have HB5 : Hid (Below W.heap.size W w5) := HBE.out.trans (ht5.below (fun k hk => (HOA.out k hk).1) HBE.out.size)
            have HIA5 := hide hi5
            have HIB5 := hide ((HIB.out.out ht5 (fun k hk hk' => HDJ.out k hk' hk)).more (show i ≤ i + 1 by omega))
            have HDJ5 : Hid (∀ k, Ext OA wr w5 k → ¬ OB k) := ext_apart' HDJ.out (fun k hk => (HOB.out k hk).2)
            clear ht5 hi5
            go_wp2_with fail
            go_roundw
            case rel => exact ⟨i + 1, _, _, by omega, by go_num, HB5.out, HIA5.out, HIB5.out, HDJ5.out⟩
            case measure => simp [intOf]; omega
        · go_wp2_with fail
          refine (wstep_any OB W at_ HEE.out HSN.out HET.out wv i wr HBE.out (by omega) HIB.out 1 0 false [] (by omega) (by omega) (by simp)).mono ?_
          rintro r w5 ⟨rfl, ht5, hi5⟩
          have HB5 : Hid (Below W.heap.size W w5) := HBE.out.trans (ht5.below (fun k hk => (HOB.out k hk).1) HBE.out.size)
          have HIA5 := hide (HIA.out.out ht5 HDJ.out)
          have HOA5 : Hid (∀ k, OA k → W.heap.size ≤ k) := fun k hk => (HOA.out k hk).1
          clear ht5 hi5
          go_wp2_with fail
          refine (wstep_any OA W at_ HEE.out HSN.out HET.out wa i w5 HB5.out (by omega) HIA5.out 1 0 false [] (by omega) (by omega) (by simp)).mono ?_
          rintro r w6 ⟨rfl, ht6, hi6⟩
          have HB6 : Hid (Below W.heap.size W w6) := HB5.out.trans (ht6.below HOA5.out HB5.out.size)
          clear ht6 hi6
          go_wp2_with fail
          go_ret
          exact ⟨rfl, HB6.out⟩
end Go.Proofs.YtoomnijgdpbphaaGreatDoor

namespace Go.Proofs.YtoomnijgdpbphaaGreatDoor
open Go.ChangeShapes Go.WideShapes Go.ChangeAt Go.RowKit
set_option maxRecDepth 100000

theorem txv_of (s : ByteArray) : Value.string s = txv s.data.toList := by
  unfold txv
  congr 1
/-- A script that came in. -/
theorem open_ops {H : Type} {enc : TypeId × Value → H} {w : World} {base : Nat} {spare : Nat → Bool} {held : Bool} {fuel : Nat} {x : DataW H × List MemPlace} {a : Option Addr} {len cap : Nat}
    (h : DataW.trod enc Tryz.prog w base spare held fuel 23 [.slice a len cap] = some x) :
    ∃ ops : List OpR, ops.length = len ∧ (∀ o ∈ ops, -9223372036854775808 ≤ o.a ∧ o.a ≤ 9223372036854775807 ∧ o.s.length ≤ maxLen) ∧ Oss w (.slice a len cap) ops := by
  have ce : Tryz.prog.cellsOf 32 = 4 := by kernel_rfl
  have c3 : Tryz.prog.cellsOf 3 = 1 := by kernel_rfl
  have c4 : Tryz.prog.cellsOf 4 = 1 := by kernel_rfl
  have c9 : Tryz.prog.cellsOf 9 = 1 := by kernel_rfl
  rcases Go.Deep.open_slice Tryz.underlying23 h with ⟨hcs, _⟩ | ⟨ad, l, c, m, n, D, Pl, hcs, hb, hl, hm, hmm, _, hx⟩
  · simp at hcs
    obtain ⟨rfl, rfl, rfl⟩ := hcs
    exact ⟨[], rfl, by simp, ⟨none, 0, rfl, Nat.le_refl _, .inl rfl⟩⟩
  · simp at hcs
    obtain ⟨rfl, rfl, rfl⟩ := hcs
    have hle : len ≤ m := by rw [hmm]; split <;> omega
    have each : ∀ i, i < len → ∃ o : Int × Int × Bool × List UInt8, w.cell? (ad.add (i * 4)) = some (.int .i64 o.1) ∧ w.cell? (ad.add (i * 4 + 1)) = some (.int .i64 o.2.1) ∧ w.cell? (ad.add (i * 4 + 2)) = some (.bool o.2.2.1) ∧ w.cell? (ad.add (i * 4 + 3)) = some (txv o.2.2.2) ∧ -9223372036854775808 ≤ o.2.1 ∧ o.2.1 ≤ 9223372036854775807 ∧ o.2.2.2.length ≤ maxLen := by
      intro i hi
      obtain ⟨cs', h1, h2⟩ := hx i (by omega)
      rw [ce] at h1
      obtain ⟨_, hlen, hcell⟩ := World.cells?_some h1
      obtain ⟨xs, k, hk, hxy, _, hxl, hf⟩ := DataW.trod_struct Tryz.underlying32 h2
      match xs, hxl, cs', hlen with
      | [y0, y1, y2, y3], _, [v0, v1, v2, v3], _ =>
        have g0 : DataW.trod enc Tryz.prog w base spare held k 3 [v0] = some y0 := by have := hf 0 _ rfl; simpa [c3] using this
        have g1 : DataW.trod enc Tryz.prog w base spare held k 3 [v1] = some y1 := by have := hf 1 _ rfl; simpa [c3] using this
        have g2 : DataW.trod enc Tryz.prog w base spare held k 4 [v2] = some y2 := by have := hf 2 _ rfl; simpa [c4] using this
        have g3 : DataW.trod enc Tryz.prog w base spare held k 9 [v3] = some y3 := by have := hf 3 _ rfl; simpa [c9] using this
        obtain ⟨n0, e0, -, -⟩ := DataW.trod_int Tryz.underlying3 g0
        obtain ⟨n1, e1, -, wf1⟩ := DataW.trod_int Tryz.underlying3 g1
        obtain ⟨n2, e2, -⟩ := DataW.trod_bool Tryz.underlying4 g2
        obtain ⟨n3, e3, -, z3⟩ := DataW.trod_string Tryz.underlying9 g3
        simp only [List.cons.injEq, and_true] at e0 e1 e2 e3
        have d0 := hcell 0 (by omega)
        have d1 := hcell 1 (by omega)
        have d2 := hcell 2 (by omega)
        have d3 := hcell 3 (by omega)
        rw [Go.Deep.add_add] at d0 d1 d2 d3
        have b1 := bounds_i64 wf1
        exact ⟨(n0, n1, n2, n3.data.toList), by simpa [e0] using d0, by simpa [e1] using d1, by simpa [e2] using d2, by simpa [e3, txv_of] using d3, b1.1, b1.2, z3⟩
    obtain ⟨g, hg⟩ := Go.Deep.choose_lt each
    have hlen : ((List.range len).map fun i => (⟨(g i).1, (g i).2.1, (g i).2.2.1, (g i).2.2.2⟩ : OpR)).length = len := by simp
    refine ⟨(List.range len).map fun i => (⟨(g i).1, (g i).2.1, (g i).2.2.1, (g i).2.2.2⟩ : OpR), hlen, fun o ho => ?_, ⟨some ad, cap, by rw [hlen], by rw [hlen]; exact hl, ?_⟩⟩
    · obtain ⟨i, hi, rfl⟩ := List.mem_map.1 ho
      exact (hg i (List.mem_range.1 hi)).2.2.2.2
    · by_cases h0 : len = 0
      · left; simp [h0]
      · right
        obtain ⟨b, off, spot⟩ := ad
        have hspot : spot = none := by simpa [Addr.add] using World.cell?_spot (hg 0 (by omega)).1
        subst hspot
        refine ⟨b, off, rfl, fun i hi => ?_⟩
        rw [hlen] at hi
        have := hg i hi
        rw [Addr.add_mid, Addr.add_mid, Addr.add_mid, Addr.add_mid] at this
        rw [List.getElem_map, List.getElem_range]
        exact ⟨this.1, by rw [Nat.add_assoc]; exact this.2.1, by rw [Nat.add_assoc]; exact this.2.2.1, by rw [Nat.add_assoc]; exact this.2.2.2.1⟩
end Go.Proofs.YtoomnijgdpbphaaGreatDoor
