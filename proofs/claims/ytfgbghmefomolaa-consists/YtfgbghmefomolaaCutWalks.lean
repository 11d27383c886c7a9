
import Derived.Test.YtfgbghmefomolaaEightsWalks
namespace Go.Proofs.Ytfgbghmefomolaa
open Go.RowKit
set_option maxRecDepth 100000

theorem range8 {w : World} {b o : Nat} {x0 x1 x2 x3 x4 x5 x6 x7 : Int} (h : w.rangeAt b o [.int .u8 x0, .int .u8 x1, .int .u8 x2, .int .u8 x3, .int .u8 x4, .int .u8 x5, .int .u8 x6, .int .u8 x7]) :
    w.cell? ⟨b, o, none⟩ = some (.int .u8 x0) ∧ w.cell? ⟨b, o + 1, none⟩ = some (.int .u8 x1) ∧ w.cell? ⟨b, o + 2, none⟩ = some (.int .u8 x2) ∧ w.cell? ⟨b, o + 3, none⟩ = some (.int .u8 x3) ∧ w.cell? ⟨b, o + 4, none⟩ = some (.int .u8 x4) ∧ w.cell? ⟨b, o + 5, none⟩ = some (.int .u8 x5) ∧ w.cell? ⟨b, o + 6, none⟩ = some (.int .u8 x6) ∧ w.cell? ⟨b, o + 7, none⟩ = some (.int .u8 x7) :=
  ⟨h 0 _ rfl, h 1 _ rfl, h 2 _ rfl, h 3 _ rfl, h 4 _ rfl, h 5 _ rfl, h 6 _ rfl, h 7 _ rfl⟩

set_option maxHeartbeats 1000000 in
theorem cutLast_any (b off m cap : Nat) (l : List UInt8) (w : World) (hm : m ≤ 1000000) (hcap : m + 1 ≤ cap) (hl : l.length = 8) (hr : w.rangeAt b (off + m * 8) (hv l).toList) :
    Calls Try.prog 47 #[.slice (some ⟨b, off, none⟩) (m + 1) cap] w fun r w' => r = .returned (.tuple #[.slice (some ⟨b, off, none⟩) m cap, .agg (hv l)]) ∧ Below w.heap.size w w' := by
  obtain ⟨x0, x1, x2, x3, x4, x5, x6, x7, hx⟩ := agg8 l hl
  rw [hx] at hr
  have HX := hide hx
  have hr' : ∀ o, (w.alloc o).rangeAt b (off + m * 8) [.int .u8 x0, .int .u8 x1, .int .u8 x2, .int .u8 x3, .int .u8 x4, .int .u8 x5, .int .u8 x6, .int .u8 x7] := fun o => rangeAt_below hr (below_alloc w o)
  obtain ⟨c0, c1, c2, c3, c4, c5, c6, c7⟩ := range8 (hr' (.cells #[Value.int IntKind.u8 0, Value.int IntKind.u8 0, Value.int IntKind.u8 0, Value.int IntKind.u8 0, Value.int IntKind.u8 0, Value.int IntKind.u8 0, Value.int IntKind.u8 0, Value.int IntKind.u8 0] 38))
  have i1 : (m : Int) ≤ (cap : Int) := by omega
  have i2 : (m : Int) < (m : Int) + 1 := by omega
  clear hr hr' hx
  go_enter Try.func47, Try.ntmps47
  go_wp2_with fail
  go_region
  go_wp2
  refine bodyPost_ret (v := .tuple #[.slice (some ⟨b, off, none⟩) m cap, .agg #[.int .u8 x0, .int .u8 x1, .int .u8 x2, .int .u8 x3, .int .u8 x4, .int .u8 x5, .int .u8 x6, .int .u8 x7]]) (by simp [results, Try.results47, go_sem]) rfl ⟨by rw [HX.out], ?_⟩
  exact (below_alloc w _).drew
end Go.Proofs.Ytfgbghmefomolaa
