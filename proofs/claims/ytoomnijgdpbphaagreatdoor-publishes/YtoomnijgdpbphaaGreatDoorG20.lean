import Derived.Shelf.Strconv.ToError
import Derived.Shelf.LaysC
import Derived.Shelf.LaysM
import Derived.Shelf.Strconv.ToErrorRange
import Derived.Test.YtoomnijgdpbphaaGreatDoorProg
import Derived.Test.YtoomnijgdpbphaaGreatDoorG19

namespace Go.Proofs
open Go.Shelf
def Tryz.laysC245_ren : Go.Shelf.Ren := ⟨fun | 245 => 97 | 279 => 112 | 280 => 113 | 281 => 114 | 282 => 115 | 316 => 136 | 171 => 76 | 205 => 137 | 243 => 100 | 246 => 117 | 283 => 139 | 284 => 140 | 285 => 141 | 286 => 142 | 129 => 119 | 317 => 156 | 318 => 157 | 319 => 158 | 320 => 159 | 337 => 163 | 338 => 164 | n => n, fun | 9 => 9 | 3 => 3 | 75 => 39 | 167 => 182 | 4 => 4 | 168 => 184 | 210 => 205 | 37 => 89 | 0 => 0 | 127 => 220 | 145 => 223 | 143 => 221 | 2 => 2 | 171 => 209 | 53 => 140 | 5 => 5 | 173 => 211 | 212 => 225 | 51 => 189 | 20 => 20 | 213 => 226 | 46 => 166 | 232 => 237 | 233 => 238 | 80 => 239 | n => n, fun | 15 => 8 | 16 => 9 | 17 => 11 | 18 => 14 | 19 => 15 | n => n⟩
theorem Tryz.laysC245 : Go.Proofs.LaysC.n245 Tryz.prog Tryz.laysC245_ren := {
  mixed := by kernel_rfl
  f129 := Tryz.func119.trans (congrArg some (by kernel_rfl))
  f171 := Tryz.func76.trans (congrArg some (by kernel_rfl))
  f205 := Tryz.func137.trans (congrArg some (by kernel_rfl))
  f243 := Tryz.func100.trans (congrArg some (by kernel_rfl))
  f245 := Tryz.func97.trans (congrArg some (by kernel_rfl))
  f246 := Tryz.func117.trans (congrArg some (by kernel_rfl))
  f279 := Tryz.func112.trans (congrArg some (by kernel_rfl))
  f280 := Tryz.func113.trans (congrArg some (by kernel_rfl))
  f281 := Tryz.func114.trans (congrArg some (by kernel_rfl))
  f282 := Tryz.func115.trans (congrArg some (by kernel_rfl))
  f283 := Tryz.func139.trans (congrArg some (by kernel_rfl))
  f284 := Tryz.func140.trans (congrArg some (by kernel_rfl))
  f285 := Tryz.func141.trans (congrArg some (by kernel_rfl))
  f286 := Tryz.func142.trans (congrArg some (by kernel_rfl))
  f316 := Tryz.func136.trans (congrArg some (by kernel_rfl))
  f317 := Tryz.func156.trans (congrArg some (by kernel_rfl))
  f318 := Tryz.func157.trans (congrArg some (by kernel_rfl))
  f319 := Tryz.func158.trans (congrArg some (by kernel_rfl))
  f320 := Tryz.func159.trans (congrArg some (by kernel_rfl))
  f337 := Tryz.func163.trans (congrArg some (by kernel_rfl))
  f338 := Tryz.func164.trans (congrArg some (by kernel_rfl))
  t0 := Tryz.underlying0
  a0 := Tryz.isAgg0
  z0 := Tryz.sizeOf0
  v0 := Tryz.zeroValue0
  t2 := Tryz.underlying2
  a2 := Tryz.isAgg2
  z2 := Tryz.sizeOf2
  v2 := Tryz.zeroValue2
  t3 := Tryz.underlying3
  a3 := Tryz.isAgg3
  z3 := Tryz.sizeOf3
  v3 := Tryz.zeroValue3
  t4 := Tryz.underlying4
  a4 := Tryz.isAgg4
  z4 := Tryz.sizeOf4
  v4 := Tryz.zeroValue4
  t5 := Tryz.underlying5
  a5 := Tryz.isAgg5
  z5 := Tryz.sizeOf5
  v5 := Tryz.zeroValue5
  t9 := Tryz.underlying9
  a9 := Tryz.isAgg9
  z9 := Tryz.sizeOf9
  v9 := Tryz.zeroValue9
  t20 := Tryz.underlying20
  a20 := Tryz.isAgg20
  z20 := Tryz.sizeOf20
  v20 := Tryz.zeroValue20
  t37 := Tryz.underlying89
  a37 := Tryz.isAgg89
  z37 := Tryz.sizeOf89
  v37 := Tryz.zeroValue89
  t46 := Tryz.underlying166
  a46 := Tryz.isAgg166
  z46 := Tryz.sizeOf166
  v46 := Tryz.zeroValue166
  t51 := Tryz.underlying189
  a51 := Tryz.isAgg189
  z51 := Tryz.sizeOf189
  v51 := Tryz.zeroValue189
  t53 := Tryz.underlying140
  a53 := Tryz.isAgg140
  z53 := Tryz.sizeOf140
  v53 := Tryz.zeroValue140
  t75 := Tryz.underlying39
  a75 := Tryz.isAgg39
  z75 := Tryz.sizeOf39
  v75 := Tryz.zeroValue39
  t127 := Tryz.underlying220
  a127 := Tryz.isAgg220
  z127 := Tryz.sizeOf220
  v127 := Tryz.zeroValue220
  t143 := Tryz.underlying221
  a143 := Tryz.isAgg221
  z143 := Tryz.sizeOf221
  v143 := Tryz.zeroValue221
  t145 := Tryz.underlying223
  a145 := Tryz.isAgg223
  z145 := Tryz.sizeOf223
  v145 := Tryz.zeroValue223
  t167 := Tryz.underlying182
  a167 := Tryz.isAgg182
  z167 := Tryz.sizeOf182
  v167 := Tryz.zeroValue182
  t168 := Tryz.underlying184
  a168 := Tryz.isAgg184
  z168 := Tryz.sizeOf184
  v168 := Tryz.zeroValue184
  t171 := Tryz.underlying209
  a171 := Tryz.isAgg209
  z171 := Tryz.sizeOf209
  v171 := Tryz.zeroValue209
  t173 := Tryz.underlying211
  a173 := Tryz.isAgg211
  z173 := Tryz.sizeOf211
  v173 := Tryz.zeroValue211
  t210 := Tryz.underlying205
  a210 := Tryz.isAgg205
  z210 := Tryz.sizeOf205
  v210 := Tryz.zeroValue205
  t212 := Tryz.underlying225
  a212 := Tryz.isAgg225
  z212 := Tryz.sizeOf225
  v212 := Tryz.zeroValue225
  t213 := Tryz.underlying226
  a213 := Tryz.isAgg226
  z213 := Tryz.sizeOf226
  t232 := Tryz.underlying237
  a232 := Tryz.isAgg237
  z232 := Tryz.sizeOf237
  v232 := Tryz.zeroValue237
  t233 := Tryz.underlying238
  a233 := Tryz.isAgg238
  z233 := Tryz.sizeOf238
  v233 := Tryz.zeroValue238
  g15 := by kernel_rfl
  g16 := by kernel_rfl
  g17 := by kernel_rfl
  g18 := by kernel_rfl
  g19 := by kernel_rfl
  t80 := Tryz.underlying239
  a80 := Tryz.isAgg239
  z80 := Tryz.sizeOf239
  v80 := Tryz.zeroValue239
  i0 := by kernel_rfl
  i2 := by kernel_rfl
  i3 := by kernel_rfl
  i4 := by kernel_rfl
  i5 := by kernel_rfl
  i9 := by kernel_rfl
  i20 := by kernel_rfl
  i37 := by kernel_rfl
  i46 := by kernel_rfl
  i51 := by kernel_rfl
  i53 := by kernel_rfl
  i75 := by kernel_rfl
  i80 := by kernel_rfl
  i127 := by kernel_rfl
  i143 := by kernel_rfl
  i145 := by kernel_rfl
  i167 := by kernel_rfl
  i168 := by kernel_rfl
  i171 := by kernel_rfl
  i173 := by kernel_rfl
  i210 := by kernel_rfl
  i212 := by kernel_rfl
  i232 := by kernel_rfl
  i233 := by kernel_rfl
  m15 := by kernel_rfl
  m16 := by kernel_rfl
  m17 := by kernel_rfl
  m18 := by kernel_rfl
  m19 := by kernel_rfl
  c0 := by kernel_rfl
  c2 := by kernel_rfl
  c3 := by kernel_rfl
  c4 := by kernel_rfl
  c5 := by kernel_rfl
  c9 := by kernel_rfl
  c20 := by kernel_rfl
  c37 := by kernel_rfl
  c46 := by kernel_rfl
  c51 := by kernel_rfl
  c53 := by kernel_rfl
  c75 := by kernel_rfl
  c80 := by kernel_rfl
  c127 := by kernel_rfl
  c143 := by kernel_rfl
  c145 := by kernel_rfl
  c167 := by kernel_rfl
  c168 := by kernel_rfl
  c171 := by kernel_rfl
  c173 := by kernel_rfl
  c210 := by kernel_rfl
  c212 := by kernel_rfl
  c213 := by kernel_rfl
  c232 := by kernel_rfl
  c233 := by kernel_rfl }
end Go.Proofs

namespace Go.Proofs.YtoomnijgdpbphaaGreatDoor
open Go.RowKit
set_option maxRecDepth 100000

theorem toError_call (fn l : List UInt8) (hl : l.length ≤ 1000000000) (e : Int) (he : e = 1 ∨ e = 2) (w : World) (E : Env w) :
    Calls Tryz.prog 97 #[.string ⟨fn.toArray⟩, .string ⟨l.toArray⟩, .int .i64 16, .int .i64 64, .iface 182 (.int .i64 e)] w fun r w' => ∃ t p, r = .returned (.iface t p) ∧ Below w.heap.size w w' := by
  have hsz : (⟨l.toArray⟩ : ByteArray).size = l.length := rfl
  rcases he with rfl | rfl
  · obtain ⟨tp, p, hs⟩ := E.rng
    refine (show Calls Tryz.prog 97 #[.string ⟨fn.toArray⟩, .string ⟨l.toArray⟩, .int .i64 16, .int .i64 64, .iface 182 (.int .i64 1)] w _ from Any.strconv_toError_range Tryz.laysC245 ⟨fn.toArray⟩ ⟨l.toArray⟩ 16 64 (.iface tp p) w (by omega) hs (.inr ⟨tp, p, rfl⟩)).mono ?_
    rintro r w' ⟨N, rfl, -, -, hb⟩
    exact ⟨_, _, rfl, hb⟩
  · obtain ⟨tp, p, hs⟩ := E.syn
    refine (show Calls Tryz.prog 97 #[.string ⟨fn.toArray⟩, .string ⟨l.toArray⟩, .int .i64 16, .int .i64 64, .iface 182 (.int .i64 2)] w _ from Any.strconv_toError_syntax Tryz.laysC245 ⟨fn.toArray⟩ ⟨l.toArray⟩ 16 64 (.iface tp p) w (by omega) hs (.inr ⟨tp, p, rfl⟩)).mono ?_
    rintro r w' ⟨N, rfl, -, -, hb⟩
    exact ⟨_, _, rfl, hb⟩

set_option maxHeartbeats 1000000 in
theorem parseUint_good (root : List UInt8) (hr : root.length = 8) (w : World) :
    Calls Tryz.prog 72 #[.string ⟨(hexF root).toArray⟩, .int .i64 16, .int .i64 64] w fun r w' => r = .returned (.tuple #[.int .u64 (hexN 0 (hexF root) : Nat), .nilIface]) ∧ Below w.heap.size w w' := by
  have HL := hide (hexF_len root)
  have HX := hide (hexF_hex root)
  generalize hexF root = l at *
  go_enter Tryz.func72, Tryz.ntmps72
  go_wp2_with fail
  refine (parse16_good l (by rw [HL.out]; omega) (by rw [HL.out]; omega) HX.out w).mono ?_
  rintro r w1 ⟨rfl, hb⟩
  have HB := hide hb
  clear hb
  generalize hv : ((hexN 0 l : Nat) : Int) = v
  have HV := hide hv
  clear hv
  go_wp2_with fail
  go_ret2
  exact ⟨by rw [HV.out]; rfl, HB.out⟩

set_option maxHeartbeats 1000000 in
theorem parseUint_any (l : List UInt8) (hl : l.length ≤ 1000000000) (w : World) (E : Env w) :
    Calls Tryz.prog 72 #[.string ⟨l.toArray⟩, .int .i64 16, .int .i64 64] w fun r w' => ∃ v e, r = .returned (.tuple #[.int .u64 v, e]) ∧ 0 ≤ v ∧ v ≤ 18446744073709551615 ∧ (e = .nilIface ∨ ∃ t p, e = .iface t p) ∧ Below w.heap.size w w' := by
  have HE := hide E
  clear E
  go_enter Tryz.func72, Tryz.ntmps72
  go_wp2_with fail
  refine (parse16_any l hl w).mono ?_
  rintro r w1 ⟨v, e, rfl, v0, v1, he, hb⟩
  have HB := hide hb
  have HV := hide (And.intro v0 v1)
  clear hb v0 v1
  rcases he with rfl | rfl | rfl
  · go_wp2_with fail
    go_ret2
    exact ⟨_, _, rfl, HV.out.1, HV.out.2, .inl rfl, HB.out⟩
  · go_wp2_with fail
    refine (toError_call [80, 97, 114, 115, 101, 85, 105, 110, 116] l hl 1 (.inl rfl) w1 (HE.out.below HB.out)).mono ?_
    rintro r w2 ⟨t, p, rfl, hb2⟩
    have HB2 : Hid (Below w.heap.size w w2) := HB.out.trans (hb2.mono HB.out.size)
    clear hb2
    go_wp2_with fail
    go_ret2
    exact ⟨_, _, rfl, HV.out.1, HV.out.2, .inr ⟨_, _, rfl⟩, HB2.out⟩
  · go_wp2_with fail
    refine (toError_call [80, 97, 114, 115, 101, 85, 105, 110, 116] l hl 2 (.inr rfl) w1 (HE.out.below HB.out)).mono ?_
    rintro r w2 ⟨t, p, rfl, hb2⟩
    have HB2 : Hid (Below w.heap.size w w2) := HB.out.trans (hb2.mono HB.out.size)
    clear hb2
    go_wp2_with fail
    go_ret2
    exact ⟨_, _, rfl, HV.out.1, HV.out.2, .inr ⟨_, _, rfl⟩, HB2.out⟩

theorem splitN_call (l : List UInt8) (hl : l.length ≤ 1000000000) (w : World) (E : Env w) :
    Calls Tryz.prog 71 #[.string ⟨l.toArray⟩, .string ⟨#[10]⟩, .int .i64 4] w fun r w' => ∃ ps : List ByteArray, ps.map (·.data.toList) = Lib.splitK [10] 0 (min 4 (l.length + 1) - 1) l ∧
      r = .returned (.slice (some ⟨w.heap.size, 0, none⟩) ps.length (min 4 (l.length + 1))) ∧ w' = w.alloc (.cells (Lib.cellsOf ps (min 4 (l.length + 1))) 9) := by
  obtain ⟨m, hm⟩ := E.max
  have hsz : (⟨l.toArray⟩ : ByteArray).size = l.length := rfl
  refine (show Calls Tryz.prog 71 #[.string ⟨l.toArray⟩, .string ⟨#[10]⟩, .int .i64 4] w _ from Any.strings_SplitN Tryz.lays147 (by kernel_rfl) ⟨l.toArray⟩ ⟨#[10]⟩ 4 m w (by omega) hm (by decide) (by decide) (by decide)).mono ?_
  rintro r w' ⟨rfl, rfl⟩
  exact ⟨_, Lib.splitB_data _ _ _ _, rfl, rfl⟩
end Go.Proofs.YtoomnijgdpbphaaGreatDoor
