
import Derived.Test.YtfgbghmefomolaaDoorShelf
import Derived.Test.YtfgbghmefomolaaDoorNameMath
import Derived.Test.YtfgbghmefomolaaDoorRefHash
import Derived.Test.YtfgbghmefomolaaDoorLeafWalks
import Derived.WalkSmall
namespace Go.Proofs.YtfgbghmefomolaaDoor
open Go.RowKit
set_option maxRecDepth 100000

theorem globPow : Tryd.prog.globalNamed "internal/strconv.uint64pow10" = some 10 := by kernel_rfl
/-- What the library's variables hold. -/
structure Env (w : World) : Prop where
  tab : Lib.TabIs Tryd.prog w "internal/strconv.uint64pow10" .u64 Lib.pow10Tab
  syn : ∃ tp p, w.cell? ⟨8, 0, none⟩ = some (.iface tp p)
  rng : ∃ tp p, w.cell? ⟨9, 0, none⟩ = some (.iface tp p)
  max : ∃ m, w.cell? ⟨7, 0, none⟩ = some (.int .i64 m)
theorem var_lt {w : World} {n : String} {g : Nat} {cs : Array Value} (hg : Tryd.prog.globalNamed n = some g) (h : w.var? Tryd.prog n = some cs) : g < w.heap.size := by
  unfold World.var? at h
  rw [hg] at h
  simp only [Option.bind_some] at h
  rcases Nat.lt_or_ge g w.heap.size with h' | h'
  · exact h'
  · simp [Array.getElem?_eq_none h'] at h
theorem Env.below {w w' : World} (h : Env w) (hb : Below w.heap.size w w') : Env w' := by
  obtain ⟨tp, p, hs⟩ := h.syn
  obtain ⟨tp', p', hr⟩ := h.rng
  obtain ⟨m, hm⟩ := h.max
  exact ⟨var?_below hb globPow (var_lt globPow h.tab) h.tab, ⟨tp, p, by rw [hb.cell (cell_lt hs)]; exact hs⟩, ⟨tp', p', by rw [hb.cell (cell_lt hr)]; exact hr⟩, ⟨m, by rw [hb.cell (cell_lt hm)]; exact hm⟩⟩
theorem below_grew (w : World) (k : Nat) (os : Array Obj) : Below w.heap.size w (Sort.grow (w.drewN k) os) :=
  ⟨rfl, rfl, rfl, by simp [Sort.grow, World.drewN], fun j hj => by
    show (w.heap ++ os)[j]? = w.heap[j]?
    rw [Array.getElem?_append_left hj]⟩
theorem below_bytes (w : World) (e : TypeId) (s : ByteArray) : Below w.heap.size w (Lib.bytesWorld w e s) :=
  ⟨rfl, rfl, rfl, by rw [Lib.bytesWorld_size]; omega, fun j hj => Lib.bytesWorld_at_old w e s j hj⟩

theorem itoa_call (n : Int) (h0 : 0 ≤ n) (h1 : n ≤ 9223372036854775807) (w : World) (E : Env w) :
    Calls Tryd.prog 29 #[.int .i64 n] w fun r w' => r = .returned (.string ⟨(dec n.toNat).toArray⟩) ∧ Below w.heap.size w w' := by
  refine (show Calls Tryd.prog 29 #[.int .i64 n] w _ from Any.strconv_Itoa Tryd.laysM171 n (by omega) h1 w E.tab).mono ?_
  rintro r w' ⟨rfl, k, os, rfl⟩
  refine ⟨?_, below_grew w k os⟩
  rw [Lib.itoa, if_neg (by omega)]
  rfl
theorem atoi_call (l : List UInt8) (hl : l.length ≤ 1000000000) (w : World) (E : Env w) :
    Calls Tryd.prog 41 #[.string ⟨l.toArray⟩] w fun r w' => ∃ v e, r = .returned (.tuple #[.int .i64 v, e]) ∧ ((e = .nilIface ∧ v = numP l) ∨ ((∃ t p, e = .iface t p) ∧ numP l = -1)) ∧ Below w.heap.size w w' := by
  have hsz : (⟨l.toArray⟩ : ByteArray).size = l.length := rfl
  cases h : Lib.atoiAll l
  · rename_i v
    refine (show Calls Tryd.prog 41 #[.string ⟨l.toArray⟩] w _ from Any.strconv_Atoi_ok Tryd.laysC172 ⟨l.toArray⟩ (by omega) v h w).mono ?_
    rintro r w' ⟨rfl, hw⟩
    refine ⟨v, .nilIface, rfl, .inl ⟨rfl, by unfold numP; rw [h]⟩, ?_⟩
    rcases hw with rfl | ⟨t, rfl⟩
    · exact Below.refl _ _
    · exact below_bytes w _ t
  · obtain ⟨tp, p, hs⟩ := E.syn
    refine (show Calls Tryd.prog 41 #[.string ⟨l.toArray⟩] w _ from Any.strconv_Atoi_syntax Tryd.laysC172 ⟨l.toArray⟩ (by omega) h (.iface tp p) w hs (.inr ⟨tp, p, rfl⟩)).mono ?_
    rintro r w' ⟨N, rfl, -, -, hb⟩
    exact ⟨_, _, rfl, .inr ⟨⟨_, _, rfl⟩, by unfold numP; rw [h]⟩, hb⟩
  · obtain ⟨tp, p, hs⟩ := E.rng
    refine (show Calls Tryd.prog 41 #[.string ⟨l.toArray⟩] w _ from Any.strconv_Atoi_range Tryd.laysC172 ⟨l.toArray⟩ (by omega) h (.iface tp p) w hs (.inr ⟨tp, p, rfl⟩)).mono ?_
    rintro r w' ⟨N, rfl, -, -, hb⟩
    exact ⟨_, _, rfl, .inr ⟨⟨_, _, rfl⟩, by unfold numP; rw [h]⟩, hb⟩
theorem cutPrefix_call (l p : List UInt8) (w : World) :
    Calls Tryd.prog 39 #[.string ⟨l.toArray⟩, .string ⟨p.toArray⟩] w fun r w' => r = .returned (.tuple #[.string ⟨(Lib.trimPrefix l p).toArray⟩, .bool (Lib.hasPrefix l p)]) ∧ w' = w :=
  (show Calls Tryd.prog 39 #[.string ⟨l.toArray⟩, .string ⟨p.toArray⟩] w _ from Any.strings_CutPrefix Tryd.lays103 ⟨l.toArray⟩ ⟨p.toArray⟩ w)
theorem cut_call (l p : List UInt8) (hl : l.length ≤ 1000000000) (w : World) (E : Env w) :
    Calls Tryd.prog 31 #[.string ⟨l.toArray⟩, .string ⟨p.toArray⟩] w fun r w' => r = .returned (.tuple #[.string ⟨(Lib.cut l p).1.toArray⟩, .string ⟨(Lib.cut l p).2.1.toArray⟩, .bool (Lib.cut l p).2.2]) ∧ Below w.heap.size w w' := by
  obtain ⟨m, hm⟩ := E.max
  have hsz : (⟨l.toArray⟩ : ByteArray).size = l.length := rfl
  refine (show Calls Tryd.prog 31 #[.string ⟨l.toArray⟩, .string ⟨p.toArray⟩] w _ from Any.strings_Cut Tryd.lays145 ⟨l.toArray⟩ ⟨p.toArray⟩ m w (by omega) hm).mono ?_
  rintro r w' ⟨rfl, n, rfl⟩
  exact ⟨rfl, ⟨rfl, rfl, rfl, Nat.le_refl _, fun _ _ => rfl⟩⟩
theorem number_call (l : List UInt8) (hl : l.length ≤ 1000000000) (w : World) (E : Env w) :
    Calls Tryd.prog 32 #[.string ⟨l.toArray⟩] w fun r w' => r = .returned (.int .i64 (numP l)) ∧ Below w.heap.size w w' := by
  have HE := hide E
  clear E
  go_enter Tryd.func32, Tryd.ntmps32
  go_wp2_with fail
  refine (atoi_call l hl w HE.out).mono ?_
  rintro r w' ⟨v, e, rfl, he, hb⟩
  have HB := hide hb
  clear hb
  rcases he with ⟨rfl, rfl⟩ | ⟨⟨t, p, rfl⟩, hn⟩
  · go_wp2
    go_ret
    exact ⟨rfl, HB.out⟩
  · have HN := hide hn
    clear hn
    go_wp2
    go_ret
    exact ⟨by rw [HN.out]; rfl, HB.out⟩
end Go.Proofs.YtfgbghmefomolaaDoor
