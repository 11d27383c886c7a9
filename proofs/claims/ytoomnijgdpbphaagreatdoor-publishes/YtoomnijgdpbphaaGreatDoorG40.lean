import Derived.Test.YtoomnijgdpbphaaGreatDoorG24
import Derived.Test.YtoomnijgdpbphaaGreatDoorG29

namespace Go.Proofs.YtoomnijgdpbphaaGreatDoor
open Go.RowKit
set_option maxRecDepth 100000

set_option maxHeartbeats 400000 in
theorem pick_any (c : Int) (n : Nat) (w : World) (h1 : -9223372036854775808 ≤ c) (h2 : c ≤ 9223372036854775807) (hn : 0 < n) (hn' : n ≤ 1000000) :
    Calls Tryz.prog 13 #[.int .i64 c, .int .i64 n] w fun r w' => (∃ m : Nat, m < n ∧ r = .returned (.int .i64 m)) ∧ w' = w := by
  by_cases hc : c < 0
  · obtain ⟨d, hd⟩ := Int.eq_ofNat_of_zero_le (show 0 ≤ -(c + 1) by omega)
    have HD := hide hd
    clear hd
    have hm : d % n < n := Nat.mod_lt _ hn
    go_enter Tryz.func13, Tryz.ntmps13
    go_wp2_with fail
    go_ret
    refine ⟨⟨d % n, hm, congrArg (fun z => Ending.returned (.int .i64 z)) ?_⟩, rfl⟩
    show -((c + 1).tmod (n : Int)) = ((d % n : Nat) : Int)
    rw [← Int.neg_tmod, HD.out]
    rfl
  · obtain ⟨d, rfl⟩ := Int.eq_ofNat_of_zero_le (show 0 ≤ c by omega)
    have hm : d % n < n := Nat.mod_lt _ hn
    go_enter Tryz.func13, Tryz.ntmps13
    go_wp2_with fail
    go_ret
    exact ⟨⟨d % n, hm, congrArg (fun z => Ending.returned (.int .i64 z)) (by simp)⟩, rfl⟩
end Go.Proofs.YtoomnijgdpbphaaGreatDoor

namespace Go.Proofs.YtoomnijgdpbphaaGreatDoor
open Go.RowKit
set_option maxRecDepth 100000

/-- 'string(t.Root[:])'. -/
theorem root_text (w : World) (g : Nat) (n : Int) (b0 b1 b2 b3 b4 b5 b6 b7 : UInt8) (t : TypeId) (fr : Nat × Nat) (h : w.heap[g]? = some (.cells (tv n b0 b1 b2 b3 b4 b5 b6 b7) t fr)) :
    (convert 89 9 (.slice (some ⟨g, 1, none⟩) 8 8)).run Tryz.prog w = .ok (.string ⟨#[b0, b1, b2, b3, b4, b5, b6, b7]⟩) w := by
  refine run_convert_bytes_back w _ _ 5 ⟨g, 1, none⟩ 8 [b0, b1, b2, b3, b4, b5, b6, b7] Tryz.underlying89 Tryz.underlying5 Tryz.underlying9 (fun j hj => ?_)
  rw [Addr.add_mid, cell_of_row _ _ _ _ _ _ h]
  have hj' : j < 8 := by simpa using hj
  rcases (by omega : j = 0 ∨ j = 1 ∨ j = 2 ∨ j = 3 ∨ j = 4 ∨ j = 5 ∨ j = 6 ∨ j = 7) with rfl | rfl | rfl | rfl | rfl | rfl | rfl | rfl <;> rfl

def pairs (l : List UInt8) : Nat → List UInt8
  | 0 => []
  | k + 1 => pairs l k ++ [UInt8.ofNat (16 * nv (l.getD (2 * k) 0) + nv (l.getD (2 * k + 1) 0))]
theorem hexF_app (a b : List UInt8) : hexF (a ++ b) = hexF a ++ hexF b := by simp [hexF]
theorem pairs_hex (root r : List UInt8) : ∀ k, k ≤ root.length → pairs (hexF root ++ r) k = root.take k := by
  intro k
  induction k with
  | zero => intro _; rfl
  | succ k ih =>
    intro hk
    rw [pairs, ih (by omega), List.take_succ_eq_append_getElem (by omega)]
    have hl : (hexF (root.take k)).length = 2 * k := by rw [hexF_len, List.length_take]; omega
    have e : hexF root ++ r = hexF (root.take k) ++ (hexD (root[k].toNat / 16) :: hexD (root[k].toNat % 16) :: (hexF (root.drop (k + 1)) ++ r)) := by
      have hroot : root = root.take k ++ root[k] :: root.drop (k + 1) := by rw [← List.drop_eq_getElem_cons (by omega), List.take_append_drop]
      have hh := congrArg hexF hroot
      rw [hexF_app, hexF_cons] at hh
      rw [hh, List.append_assoc, List.append_assoc]
      rfl
    have g0 : (hexF root ++ r).getD (2 * k) 0 = hexD (root[k].toNat / 16) := by
      rw [e, List.getD_eq_getElem?_getD, List.getElem?_append_right (by omega), hl]
      simp
    have g1 : (hexF root ++ r).getD (2 * k + 1) 0 = hexD (root[k].toNat % 16) := by
      rw [e, List.getD_eq_getElem?_getD, List.getElem?_append_right (by omega), hl]
      simp
    have hb := (root[k]).toNat_lt
    rw [g0, g1, nv_hexD _ (by omega), nv_hexD _ (by omega)]
    congr 2
    rw [show 16 * (root[k].toNat / 16) + root[k].toNat % 16 = root[k].toNat by omega]
    simp

end Go.Proofs.YtoomnijgdpbphaaGreatDoor
