
import Derived.Test.YtlkeohljplfmfaaRefHash
import Derived.Test.YtlkeohljplfmfaaLeafWalks
import Derived.Lib.BufferWrite
import Derived.Lib.SlBuf
namespace Go.Proofs.Ytlkeohljplfmfaa
open Go.RowKit
set_option maxRecDepth 100000

/-- The first eight bytes, noughts behind. -/
def e8 (l : List UInt8) : List UInt8 := l.take 8 ++ List.replicate (8 - l.length) 0
theorem e8_length (l : List UInt8) : (e8 l).length = 8 := by simp [e8]; omega
def zero8 : List UInt8 := [0, 0, 0, 0, 0, 0, 0, 0]

theorem e8_cells (l : List UInt8) : ((#[Value.int IntKind.u8 0, Value.int IntKind.u8 0, Value.int IntKind.u8 0, Value.int IntKind.u8 0, Value.int IntKind.u8 0, Value.int IntKind.u8 0, Value.int IntKind.u8 0, Value.int IntKind.u8 0] : Array Value).toList.take 0 ++ (l.take (Nat.min l.length 8)).map bv ++ (#[Value.int IntKind.u8 0, Value.int IntKind.u8 0, Value.int IntKind.u8 0, Value.int IntKind.u8 0, Value.int IntKind.u8 0, Value.int IntKind.u8 0, Value.int IntKind.u8 0, Value.int IntKind.u8 0] : Array Value).toList.drop (0 + Nat.min l.length 8)).toArray = hv (e8 l) := by
  have hz : (#[Value.int IntKind.u8 0, Value.int IntKind.u8 0, Value.int IntKind.u8 0, Value.int IntKind.u8 0, Value.int IntKind.u8 0, Value.int IntKind.u8 0, Value.int IntKind.u8 0, Value.int IntKind.u8 0] : Array Value).toList = List.replicate 8 (bv 0) := rfl
  rw [hz]
  have e1 : l.take (Nat.min l.length 8) = l.take 8 := by
    rcases Nat.le_total l.length 8 with h | h
    · rw [show Nat.min l.length 8 = l.length from Nat.min_eq_left h, List.take_length, List.take_of_length_le h]
    · rw [show Nat.min l.length 8 = 8 from Nat.min_eq_right h]
  have e2 : 8 - (0 + Nat.min l.length 8) = 8 - l.length := by
    have : Nat.min l.length 8 = min l.length 8 := rfl
    omega
  rw [e1, List.drop_replicate, e2]
  simp [hv, e8]

theorem copy8 (w : World) (ty : TypeId) (g dCap : Nat) (s : ByteArray) (t : TypeId) (hg : w.heap[g]? = some (.cells #[Value.int IntKind.u8 0, Value.int IntKind.u8 0, Value.int IntKind.u8 0, Value.int IntKind.u8 0, Value.int IntKind.u8 0, Value.int IntKind.u8 0, Value.int IntKind.u8 0, Value.int IntKind.u8 0] t (0, 0))) :
    ∃ v, (Builtin.copy_ #[30, 9] ty #[.slice (some ⟨g, 0, none⟩) 8 dCap, .string s]).run Try.prog w = .ok v (w.setRow g (hv (e8 s.data.toList))) := by
  have hs : (Try.prog.info? 5).map (·.size) = some 1 := by kernel_rfl
  have hu := Try.underlying30
  have hsz : s.size = s.data.toList.length := by simp
  have hlen : ((s.data.toList.take (Nat.min s.data.toList.length 8)).map bv).length = Nat.min s.data.toList.length 8 := by
    simp
  have hst := run_storeCells_at Try.prog g 0 t ((s.data.toList.take (Nat.min s.data.toList.length 8)).map bv) 0 _ w hg (by rw [hlen]; have : Nat.min s.data.toList.length 8 ≤ 8 := Nat.min_le_right _ _; simpa using this) (fun v hv => by simp only [List.mem_map] at hv; obtain ⟨b, _, rfl⟩ := hv; rfl)
  rw [hlen] at hst
  simp only [Nat.add_zero] at hst
  rw [e8_cells] at hst
  have htk : List.take (Nat.min s.data.toList.length 8) (List.map (fun b : UInt8 => Value.int IntKind.u8 (b.toNat : Int)) s.data.toList) = (s.data.toList.take (Nat.min s.data.toList.length 8)).map bv := by
    rw [List.map_take]; rfl
  cases hq : Try.prog.info? 5 with
  | none => simp [hq] at hs
  | some i =>
    refine ⟨goInt (Nat.min s.size 8), ?_⟩
    simp only [Builtin.copy_]
    simp [run_underlying hu, Builtin.lenOf, Builtin.firstCells, sizeOf, typeInfo, hq]
    rw [hsz, htk, hst]
    rfl

end Go.Proofs.Ytlkeohljplfmfaa
