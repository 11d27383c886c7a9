
import Derived.Test.YtfgbghmefomolaaDoorParse16
import Derived.Test.YtfgbghmefomolaaDoorShelf2
namespace Go.Proofs.YtfgbghmefomolaaDoor
open Go.RowKit
set_option maxRecDepth 100000

theorem toError_call (fn l : List UInt8) (hl : l.length ≤ 1000000000) (e : Int) (he : e = 1 ∨ e = 2) (w : World) (E : Env w) :
    Calls Tryd.prog 45 #[.string ⟨fn.toArray⟩, .string ⟨l.toArray⟩, .int .i64 16, .int .i64 64, .iface 75 (.int .i64 e)] w fun r w' => ∃ t p, r = .returned (.iface t p) ∧ Below w.heap.size w w' := by
  have hsz : (⟨l.toArray⟩ : ByteArray).size = l.length := rfl
  rcases he with rfl | rfl
  · obtain ⟨tp, p, hs⟩ := E.rng
    refine (show Calls Tryd.prog 45 #[.string ⟨fn.toArray⟩, .string ⟨l.toArray⟩, .int .i64 16, .int .i64 64, .iface 75 (.int .i64 1)] w _ from Any.strconv_toError_range Tryd.laysC245 ⟨fn.toArray⟩ ⟨l.toArray⟩ 16 64 (.iface tp p) w (by omega) hs (.inr ⟨tp, p, rfl⟩)).mono ?_
    rintro r w' ⟨N, rfl, -, -, hb⟩
    exact ⟨_, _, rfl, hb⟩
  · obtain ⟨tp, p, hs⟩ := E.syn
    refine (show Calls Tryd.prog 45 #[.string ⟨fn.toArray⟩, .string ⟨l.toArray⟩, .int .i64 16, .int .i64 64, .iface 75 (.int .i64 2)] w _ from Any.strconv_toError_syntax Tryd.laysC245 ⟨fn.toArray⟩ ⟨l.toArray⟩ 16 64 (.iface tp p) w (by omega) hs (.inr ⟨tp, p, rfl⟩)).mono ?_
    rintro r w' ⟨N, rfl, -, -, hb⟩
    exact ⟨_, _, rfl, hb⟩

set_option maxHeartbeats 1000000 in
theorem parseUint_good (root : List UInt8) (hr : root.length = 8) (w : World) :
    Calls Tryd.prog 36 #[.string ⟨(hexF root).toArray⟩, .int .i64 16, .int .i64 64] w fun r w' => r = .returned (.tuple #[.int .u64 (hexN 0 (hexF root) : Nat), .nilIface]) ∧ Below w.heap.size w w' := by
  have HL := hide (hexF_len root)
  have HX := hide (hexF_hex root)
  generalize hexF root = l at *
  go_enter Tryd.func36, Tryd.ntmps36
  go_wp2_with fail
  refine (parse16_good l (by rw [HL.out]; omega) (by rw [HL.out]; omega) HX.out w).mono ?_
  rintro r w1 ⟨rfl, hb⟩
  have HB := hide hb
  clear hb
  generalize hv : ((hexN 0 l : Nat) : Int) = v
  have HV := hide hv
  clear hv
  go_wp2_with fail
  go_ret2
  exact ⟨by rw [HV.out]; rfl, HB.out⟩

set_option maxHeartbeats 1000000 in
theorem parseUint_any (l : List UInt8) (hl : l.length ≤ 1000000000) (w : World) (E : Env w) :
    Calls Tryd.prog 36 #[.string ⟨l.toArray⟩, .int .i64 16, .int .i64 64] w fun r w' => ∃ v e, r = .returned (.tuple #[.int .u64 v, e]) ∧ 0 ≤ v ∧ v ≤ 18446744073709551615 ∧ (e = .nilIface ∨ ∃ t p, e = .iface t p) ∧ Below w.heap.size w w' := by
  have HE := hide E
  clear E
  go_enter Tryd.func36, Tryd.ntmps36
  go_wp2_with fail
  refine (parse16_any l hl w).mono ?_
  rintro r w1 ⟨v, e, rfl, v0, v1, he, hb⟩
  have HB := hide hb
  have HV := hide (And.intro v0 v1)
  clear hb v0 v1
  rcases he with rfl | rfl | rfl
  · go_wp2_with fail
    go_ret2
    exact ⟨_, _, rfl, HV.out.1, HV.out.2, .inl rfl, HB.out⟩
  · go_wp2_with fail
    refine (toError_call [80, 97, 114, 115, 101, 85, 105, 110, 116] l hl 1 (.inl rfl) w1 (HE.out.below HB.out)).mono ?_
    rintro r w2 ⟨t, p, rfl, hb2⟩
    have HB2 : Hid (Below w.heap.size w w2) := HB.out.trans (hb2.mono HB.out.size)
    clear hb2
    go_wp2_with fail
    go_ret2
    exact ⟨_, _, rfl, HV.out.1, HV.out.2, .inr ⟨_, _, rfl⟩, HB2.out⟩
  · go_wp2_with fail
    refine (toError_call [80, 97, 114, 115, 101, 85, 105, 110, 116] l hl 2 (.inr rfl) w1 (HE.out.below HB.out)).mono ?_
    rintro r w2 ⟨t, p, rfl, hb2⟩
    have HB2 : Hid (Below w.heap.size w w2) := HB.out.trans (hb2.mono HB.out.size)
    clear hb2
    go_wp2_with fail
    go_ret2
    exact ⟨_, _, rfl, HV.out.1, HV.out.2, .inr ⟨_, _, rfl⟩, HB2.out⟩

theorem splitN_call (l : List UInt8) (hl : l.length ≤ 1000000000) (w : World) (E : Env w) :
    Calls Tryd.prog 35 #[.string ⟨l.toArray⟩, .string ⟨#[10]⟩, .int .i64 4] w fun r w' => ∃ ps : List ByteArray, ps.map (·.data.toList) = Lib.splitK [10] 0 (min 4 (l.length + 1) - 1) l ∧
      r = .returned (.slice (some ⟨w.heap.size, 0, none⟩) ps.length (min 4 (l.length + 1))) ∧ w' = w.alloc (.cells (Lib.cellsOf ps (min 4 (l.length + 1))) 9) := by
  obtain ⟨m, hm⟩ := E.max
  have hsz : (⟨l.toArray⟩ : ByteArray).size = l.length := rfl
  refine (show Calls Tryd.prog 35 #[.string ⟨l.toArray⟩, .string ⟨#[10]⟩, .int .i64 4] w _ from Any.strings_SplitN Tryd.lays147 (by kernel_rfl) ⟨l.toArray⟩ ⟨#[10]⟩ 4 m w (by omega) hm (by decide) (by decide) (by decide)).mono ?_
  rintro r w' ⟨rfl, rfl⟩
  exact ⟨_, Lib.splitB_data _ _ _ _, rfl, rfl⟩
end Go.Proofs.YtfgbghmefomolaaDoor
