import Derived.Test.YtoomnijgdpbphaaGreatDoorG10
import Derived.Test.YtoomnijgdpbphaaGreatDoorG24
import Derived.Shelf.SlSortCmp.NoneTotal
import Derived.Shelf.SlicesE.Clone
import Derived.Test.YtoomnijgdpbphaaGreatDoorProg

namespace Go.Proofs.YtoomnijgdpbphaaGreatDoor
open Go.RowKit
set_option maxRecDepth 100000

def cfF (x y : List UInt8 × List UInt8) : Int := if x.1 < y.1 then -1 else if y.1 < x.1 then 1 else 0
def encF (x : List UInt8 × List UInt8) : List Value := [txv x.1, txv x.2]
theorem cfF_lt (x y : List UInt8 × List UInt8) : ltOf cfF x y = decide (x.1 < y.1) := by
  unfold ltOf cfF
  by_cases h : x.1 < y.1
  · simp [h]
  · by_cases h' : y.1 < x.1 <;> simp [h, h']
theorem cfF_swo : Go.Sort.SWO (ltOf cfF) where
  irrefl x := by rw [cfF_lt]; simp
  trans x y z h1 h2 := by
    rw [cfF_lt] at *
    simp only [decide_eq_true_eq] at *
    exact List.lt_trans h1 h2
  ntrans x y z h1 h2 := by
    rw [cfF_lt] at *
    simp only [decide_eq_false_iff_not, List.not_lt] at *
    exact List.le_trans h2 h1

theorem two_grow (w : World) (a b : Obj) : (w.alloc a).alloc b = Go.Sort.grow (w.drewN 0) #[a, b] := by
  show World.alloc (World.alloc w a) b = _
  unfold Go.Sort.grow World.alloc
  simp
  exact ⟨by apply Array.ext'; simp, rfl, rfl, rfl⟩

set_option maxHeartbeats 1000000 in
theorem cmp_any (x y : List UInt8 × List UInt8) (w : World) :
    Calls Tryz.prog 86 #[.agg #[txv x.1, txv x.2], .agg #[txv y.1, txv y.2]] w fun e w' => e = .returned (.int .i64 (cfF x y)) ∧ ∃ q os', w' = Go.Sort.grow (w.drewN q) os' := by
  obtain ⟨p, a⟩ := x
  obtain ⟨q, b⟩ := y
  have hlt : Op.bytesLess p q = decide (p < q) := bytesLess_eq p q
  unfold txv
  simp only
  go_enter Tryz.func86, Tryz.ntmps86
  go_wp2_with fail
  · go_ret
    rename_i h
    exact ⟨congrArg (fun z => Ending.returned (.int .i64 z)) (by unfold cfF; simp [h]), 0, _, two_grow w _ _⟩
  · go_ret
    rename_i h h'
    refine ⟨congrArg (fun z => Ending.returned (.int .i64 z)) ?_, 0, _, two_grow w _ _⟩
    have hne : p ≠ q := by simpa using h'
    have hgt : q < p := by
      rcases List.le_iff_lt_or_eq.1 (List.not_lt.1 h) with h1 | h1
      · exact h1
      · exact absurd h1.symm hne
    unfold cfF
    simp [h, hgt]
  · go_ret
    rename_i h h'
    refine ⟨congrArg (fun z => Ending.returned (.int .i64 z)) ?_, 0, _, two_grow w _ _⟩
    have hne : p = q := by simpa using h'
    subst hne
    unfold cfF
    simp only
    rw [if_neg h, if_neg h]
end Go.Proofs.YtoomnijgdpbphaaGreatDoor

namespace Go.Proofs
open Go.Shelf
def Tryz.cloneFile_ren : Go.Shelf.Ren := ⟨fun | 41 => 84 | n => n, fun | 22 => 22 | 23 => 36 | 4 => 4 | n => n, fun | n => n⟩
theorem Tryz.cloneFile : Go.Proofs.SlLaysE0.n41 Tryz.prog Tryz.cloneFile_ren := {
  mixed := by kernel_rfl
  f41 := ⟨Tryz.f84.name, by decide, Tryz.func84.trans (congrArg some (by kernel_rfl))⟩
  t4 := Tryz.underlying4
  a4 := Tryz.isAgg4
  z4 := Tryz.sizeOf4
  v4 := Tryz.zeroValue4
  t22 := Tryz.underlying22
  a22 := Tryz.isAgg22
  z22 := Tryz.sizeOf22
  v22 := Tryz.zeroValue22 }
end Go.Proofs
