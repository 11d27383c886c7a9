import Derived.Test.YtoomnijgdpbphaaGreatDoorG23
import Derived.Shelf.SlSortCmp.WholeK
import Derived.Test.YtoomnijgdpbphaaGreatDoorProg

namespace Go.Proofs.YtoomnijgdpbphaaGreatDoor
open Go.RowKit
set_option maxRecDepth 100000

theorem Fss.at {w : World} {a : Option Addr} {n cap : Nat} {fs : Fs} (h : Fss w (.slice a n cap) fs) : n = fs.length ∧ fs.length ≤ cap ∧ (0 < fs.length → ∃ b off, a = some ⟨b, off, none⟩ ∧ ∀ i (h : i < fs.length), w.cell? ⟨b, off + i * 2, none⟩ = some (txv fs[i].1) ∧ w.cell? ⟨b, off + i * 2 + 1, none⟩ = some (txv fs[i].2)) := by
  obtain ⟨a', cap', e, hc, hx⟩ := h
  simp only [Value.slice.injEq] at e
  obtain ⟨rfl, rfl, rfl⟩ := e
  refine ⟨rfl, hc, fun h0 => ?_⟩
  rcases hx with h | h
  · rw [h] at h0; simp at h0
  · exact h
def clash1 (b : Fs) (f : List UInt8 × List UInt8) : Bool := match look b f.1 with
  | some y => decide (y ≠ f.2)
  | none => false
theorem clash_snoc (b wt : Fs) (k : Nat) (h : k < wt.length) : clashB b (wt.take (k + 1)) = (clashB b (wt.take k) || clash1 b wt[k]) := by
  unfold clashB
  rw [take_snoc wt k h, List.any_append]
  congr 1
  rw [List.any_cons, List.any_nil, Bool.or_false]
  rfl
theorem clash_hit {b wt : Fs} {k : Nat} (h : k < wt.length) (hc : clash1 b wt[k] = true) : clashB b wt = true := by
  unfold clashB
  rw [List.any_eq_true]
  exact ⟨wt[k], List.getElem_mem h, hc⟩

set_option maxHeartbeats 1000000 in
theorem clash_any (v1 v2 : Value) (b wt : Fs) (w : World) (hb : b.length ≤ 1000000000) (hw : wt.length ≤ 1000000000) (h1 : Fss w v1 b) (h2 : Fss w v2 wt) :
    Calls Tryz.prog 31 #[v1, v2] w fun r w' => r = .returned (.bool (clashB b wt)) ∧ Below w.heap.size w w' := by
  have H1 := hide h1
  have H2 := hide h2
  obtain ⟨a1, c1, rfl, hc1, -⟩ := h1
  obtain ⟨a2, c2, rfl, hc2, -⟩ := h2
  clear hc1 hc2
  go_enter Tryz.func31, Tryz.ntmps31
  go_wp2_with fail
  go_loopw [5] (fun i wr => ∃ k : Nat, k ≤ wt.length ∧ i = .int .i64 k ∧ Below w.heap.size w wr ∧ clashB b (wt.take k) = false) (fun i _ => wt.length - (intOf i).toNat)
  case atStart => exact ⟨0, Nat.zero_le _, rfl, Below.refl _ _, rfl⟩
  case round =>
    obtain ⟨k, hk, rfl, hbe, hno⟩ := hrel
    have HB := hide hbe
    have HN := hide hno
    clear hbe hno
    by_cases hlt : k < wt.length
    · have HSN := hide (clash_snoc b wt k hlt)
      have HHT : Hid (clash1 b wt[k] = true → clashB b wt = true) := clash_hit hlt
      obtain ⟨-, -, hx2'⟩ := H2.out.at
      obtain ⟨b2, o2, rfl, hx2⟩ := hx2' (by omega)
      obtain ⟨y0, y1⟩ := hx2 k hlt
      obtain ⟨⟨p, x⟩, hpx⟩ : ∃ f, wt[k] = f := ⟨_, rfl⟩
      rw [hpx] at y0 y1 HSN HHT
      unfold txv at y0 y1
      have r0 : wr.cell? ⟨b2, o2 + k * 2, none⟩ = some (.string ⟨p.toArray⟩) := by rw [HB.out.cell (p := ⟨b2, _, none⟩) (cell_lt y0)]; exact y0
      have r1 : wr.cell? ⟨b2, o2 + k * 2 + 1, none⟩ = some (.string ⟨x.toArray⟩) := by rw [HB.out.cell (p := ⟨b2, _, none⟩) (cell_lt y1)]; exact y1
      clear y0 y1 hpx hx2 hx2'
      go_wp2_with fail
      refine (refFind_any _ b p wr hb (H1.out.below HB.out)).mono ?_
      rintro r w1 ⟨rfl, rfl⟩
      have HC1 : Hid (clash1 b (p, x) = match look b p with | some y => decide (y ≠ x) | none => false) := rfl
      cases e : ixF b p with
      | none =>
        have he : ixI b p = -1 := by unfold ixI; rw [e]
        rw [he]
        have HN' : Hid (clashB b (wt.take (k + 1)) = false) := by
          show _ = _
          rw [HSN.out, HN.out, HC1.out, (ixF_none e).1]
          rfl
        clear e he
        go_wp2_with fail
        go_region
        all_goals
          go_wp2_with fail
          go_round
          case rel => exact ⟨k + 1, by omega, by go_num, HB.out.drew, HN'.out⟩
          case measure => simp [intOf]; omega
      | some j =>
        have he : ixI b p = j := by unfold ixI; rw [e]
        rw [he]
        obtain ⟨hj, -, hlk, -⟩ := ixF_some e
        obtain ⟨-, -, hx1'⟩ := H1.out.at
        obtain ⟨b1, o1, rfl, hx1⟩ := hx1' (by omega)
        obtain ⟨-, z1⟩ := hx1 j hj
        obtain ⟨y, hy⟩ : ∃ y, b[j].2 = y := ⟨_, rfl⟩
        rw [hy] at z1 hlk
        unfold txv at z1
        have r2 : w1.cell? ⟨b1, o1 + j * 2 + 1, none⟩ = some (.string ⟨y.toArray⟩) := by rw [HB.out.cell (p := ⟨b1, _, none⟩) (cell_lt z1)]; exact z1
        have HC2 : Hid (clash1 b (p, x) = decide (y ≠ x)) := by
          show _ = _
          rw [HC1.out, hlk]
        clear e he hx1 hx1' z1 hy hlk
        go_wp2_with fail
        go_region
        all_goals
          by_cases hyx : y = x
          · have HN' : Hid (clashB b (wt.take (k + 1)) = false) := by
              show _ = _
              rw [HSN.out, HN.out, HC2.out, hyx]
              simp
            rw [show (y == x) = true by simpa using hyx]
            clear hyx r0 r1 r2
            go_wp2_with fail
            go_round
            case rel => exact ⟨k + 1, by omega, by go_num, HB.out.drew, HN'.out⟩
            case measure => simp [intOf]; omega
          · have HY : Hid (clashB b wt = true) := HHT.out (by rw [HC2.out]; simpa using hyx)
            rw [show (y == x) = false by simpa using hyx]
            clear hyx r0 r1 r2
            go_wp2_with fail
            go_ret
            exact ⟨by rw [HY.out]; rfl, HB.out.drew⟩
    · obtain rfl : k = wt.length := by omega
      have HNE := HN.out
      rw [List.take_length] at HNE
      have HNE' := hide HNE
      clear HNE
      go_wp2_with fail
      go_ret
      exact ⟨by rw [HNE'.out]; rfl, HB.out⟩
end Go.Proofs.YtoomnijgdpbphaaGreatDoor

namespace Go.Proofs
open Go.Shelf
def Tryz.sortFile_ren : Go.Shelf.Ren := ⟨fun | 6 => 85 | 15 => 102 | 14 => 103 | 28 => 118 | 29 => 119 | 20 => 120 | 21 => 121 | 22 => 122 | 23 => 123 | 24 => 124 | 25 => 125 | 26 => 126 | 27 => 127 | 46 => 143 | 47 => 144 | 48 => 145 | 49 => 146 | 50 => 147 | 57 => 160 | n => n, fun | 22 => 22 | 24 => 36 | 25 => 165 | 3 => 3 | 39 => 166 | 0 => 0 | 53 => 189 | 55 => 140 | 4 => 4 | 46 => 193 | 45 => 192 | 50 => 197 | 5 => 5 | 9 => 9 | 66 => 213 | 70 => 217 | 76 => 228 | 77 => 229 | n => n, fun | n => n⟩
theorem Tryz.sortFile : Go.Proofs.SlLaysF0.n6 Tryz.prog Tryz.sortFile_ren := {
  mixed := by kernel_rfl
  f6 := ⟨Tryz.f85.name, by decide, Tryz.func85.trans (congrArg some (by kernel_rfl))⟩
  f14 := ⟨Tryz.f103.name, by decide, Tryz.func103.trans (congrArg some (by kernel_rfl))⟩
  f15 := Tryz.func102.trans (congrArg some (by kernel_rfl))
  f20 := ⟨Tryz.f120.name, by decide, Tryz.func120.trans (congrArg some (by kernel_rfl))⟩
  f21 := ⟨Tryz.f121.name, by decide, Tryz.func121.trans (congrArg some (by kernel_rfl))⟩
  f22 := ⟨Tryz.f122.name, by decide, Tryz.func122.trans (congrArg some (by kernel_rfl))⟩
  f23 := ⟨Tryz.f123.name, by decide, Tryz.func123.trans (congrArg some (by kernel_rfl))⟩
  f24 := ⟨Tryz.f124.name, by decide, Tryz.func124.trans (congrArg some (by kernel_rfl))⟩
  f25 := ⟨Tryz.f125.name, by decide, Tryz.func125.trans (congrArg some (by kernel_rfl))⟩
  f26 := ⟨Tryz.f126.name, by decide, Tryz.func126.trans (congrArg some (by kernel_rfl))⟩
  f27 := ⟨Tryz.f127.name, by decide, Tryz.func127.trans (congrArg some (by kernel_rfl))⟩
  f28 := Tryz.func118.trans (congrArg some (by kernel_rfl))
  f29 := Tryz.func119.trans (congrArg some (by kernel_rfl))
  f46 := ⟨Tryz.f143.name, by decide, Tryz.func143.trans (congrArg some (by kernel_rfl))⟩
  f47 := Tryz.func144.trans (congrArg some (by kernel_rfl))
  f48 := Tryz.func145.trans (congrArg some (by kernel_rfl))
  f49 := ⟨Tryz.f146.name, by decide, Tryz.func146.trans (congrArg some (by kernel_rfl))⟩
  f50 := ⟨Tryz.f147.name, by decide, Tryz.func147.trans (congrArg some (by kernel_rfl))⟩
  f57 := ⟨Tryz.f160.name, by decide, Tryz.func160.trans (congrArg some (by kernel_rfl))⟩
  t0 := Tryz.underlying0
  a0 := Tryz.isAgg0
  z0 := Tryz.sizeOf0
  v0 := Tryz.zeroValue0
  t3 := Tryz.underlying3
  a3 := Tryz.isAgg3
  z3 := Tryz.sizeOf3
  v3 := Tryz.zeroValue3
  t4 := Tryz.underlying4
  a4 := Tryz.isAgg4
  z4 := Tryz.sizeOf4
  v4 := Tryz.zeroValue4
  t5 := Tryz.underlying5
  a5 := Tryz.isAgg5
  z5 := Tryz.sizeOf5
  v5 := Tryz.zeroValue5
  t9 := Tryz.underlying9
  a9 := Tryz.isAgg9
  z9 := Tryz.sizeOf9
  v9 := Tryz.zeroValue9
  t22 := Tryz.underlying22
  a22 := Tryz.isAgg22
  z22 := Tryz.sizeOf22
  v22 := Tryz.zeroValue22
  t25 := Tryz.underlying165
  a25 := Tryz.isAgg165
  z25 := Tryz.sizeOf165
  v25 := Tryz.zeroValue165
  t39 := Tryz.underlying166
  a39 := Tryz.isAgg166
  z39 := Tryz.sizeOf166
  v39 := Tryz.zeroValue166
  t45 := Tryz.underlying192
  a45 := Tryz.isAgg192
  z45 := Tryz.sizeOf192
  v45 := Tryz.zeroValue192
  t46 := Tryz.underlying193
  a46 := Tryz.isAgg193
  z46 := Tryz.sizeOf193
  v46 := Tryz.zeroValue193
  t50 := Tryz.underlying197
  a50 := Tryz.isAgg197
  z50 := Tryz.sizeOf197
  v50 := Tryz.zeroValue197
  t53 := Tryz.underlying189
  a53 := Tryz.isAgg189
  z53 := Tryz.sizeOf189
  v53 := Tryz.zeroValue189
  t55 := Tryz.underlying140
  a55 := Tryz.isAgg140
  z55 := Tryz.sizeOf140
  v55 := Tryz.zeroValue140
  t66 := Tryz.underlying213
  a66 := Tryz.isAgg213
  z66 := Tryz.sizeOf213
  v66 := Tryz.zeroValue213
  t70 := Tryz.underlying217
  a70 := Tryz.isAgg217
  z70 := Tryz.sizeOf217
  v70 := Tryz.zeroValue217
  t76 := Tryz.underlying228
  a76 := Tryz.isAgg228
  z76 := Tryz.sizeOf228
  v76 := Tryz.zeroValue228
  t77 := Tryz.underlying229
  a77 := Tryz.isAgg229
  z77 := Tryz.sizeOf229
  v77 := Tryz.zeroValue229 }
end Go.Proofs
