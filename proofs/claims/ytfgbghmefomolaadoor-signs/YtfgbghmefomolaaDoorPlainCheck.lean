
import Derived.Test.YtfgbghmefomolaaDoorCheckWalks
namespace Go.Proofs.YtfgbghmefomolaaDoor
open Go.RowKit
set_option maxRecDepth 100000

/-- 'string(t.Root[:])'. -/
theorem root_text (w : World) (g : Nat) (n : Int) (b0 b1 b2 b3 b4 b5 b6 b7 : UInt8) (t : TypeId) (fr : Nat × Nat) (h : w.heap[g]? = some (.cells (tv n b0 b1 b2 b3 b4 b5 b6 b7) t fr)) :
    (convert 43 9 (.slice (some ⟨g, 1, none⟩) 8 8)).run Tryd.prog w = .ok (.string ⟨#[b0, b1, b2, b3, b4, b5, b6, b7]⟩) w := by
  refine run_convert_bytes_back w _ _ 5 ⟨g, 1, none⟩ 8 [b0, b1, b2, b3, b4, b5, b6, b7] Tryd.underlying43 Tryd.underlying5 Tryd.underlying9 (fun j hj => ?_)
  rw [Addr.add_mid, cell_of_row _ _ _ _ _ _ h]
  have hj' : j < 8 := by simpa using hj
  rcases (by omega : j = 0 ∨ j = 1 ∨ j = 2 ∨ j = 3 ∨ j = 4 ∨ j = 5 ∨ j = 6 ∨ j = 7) with rfl | rfl | rfl | rfl | rfl | rfl | rfl | rfl <;> rfl

set_option maxHeartbeats 2000000 in
theorem plainCheck_any (t key : List UInt8) (ht : t.length ≤ 1048576) (hk : key.length ≤ 9223372036854775807) (w : World) (E : Env w) :
    Calls Tryd.prog 14 #[.string ⟨t.toArray⟩, .string ⟨key.toArray⟩] w fun r w' => Below w.heap.size w w' ∧
      ((∃ n root, IsSign t key n root ∧ r = .returned (.tuple #[.int .i64 n, .string ⟨root.toArray⟩, .bool true])) ∨ ((∀ n root, ¬ IsSign t key n root) ∧ r = .returned (.tuple #[.int .i64 0, .string ⟨#[0, 0, 0, 0, 0, 0, 0, 0]⟩, .bool false]))) := by
  have HE := hide E
  clear E
  go_enter Tryd.func14, Tryd.ntmps14
  go_wp2_with fail
  refine (check_any t key ht hk w HE.out).mono ?_
  rintro r w1 ⟨hb1, hr⟩
  have HB1 := hide hb1
  clear hb1
  obtain ⟨n, b0, b1, b2, b3, b4, b5, b6, b7, ok, rfl, hres⟩ : ∃ (n : Int) (b0 b1 b2 b3 b4 b5 b6 b7 : UInt8) (ok : Bool), r = .returned (.tuple #[.agg (tv n b0 b1 b2 b3 b4 b5 b6 b7), .bool ok]) ∧
      ((∃ m : Nat, n = (m : Int) ∧ IsSign t key m [b0, b1, b2, b3, b4, b5, b6, b7] ∧ ok = true) ∨ ((∀ n root, ¬ IsSign t key n root) ∧ n = 0 ∧ [b0, b1, b2, b3, b4, b5, b6, b7] = [0, 0, 0, 0, 0, 0, 0, 0] ∧ ok = false)) := by
    rcases hr with ⟨m, b0, b1, b2, b3, b4, b5, b6, b7, hs, rfl⟩ | ⟨hn, rfl⟩
    · exact ⟨_, _, _, _, _, _, _, _, _, _, rfl, .inl ⟨m, rfl, hs, rfl⟩⟩
    · exact ⟨0, 0, 0, 0, 0, 0, 0, 0, 0, false, rfl, .inr ⟨hn, rfl, rfl, rfl⟩⟩
  have HR := hide hres
  clear hres hr
  have HG := hide (heap_alloc_last w1 (.cells (tv n b0 b1 b2 b3 b4 b5 b6 b7) 49))
  have HB2 : Hid (Below w.heap.size w (w1.alloc (.cells (tv n b0 b1 b2 b3 b4 b5 b6 b7) 49))) := HB1.out.trans ((below_alloc w1 _).mono HB1.out.size)
  go_wp2_with (show wpList _ _ _ ({ dst := none, op := Op.store _ _ _, type := _, pos := _, after := _, guard := _ } :: _) _ _; refine wpList_store_row rfl 49 _ _ rfl w1.heap.size (tv n b0 b1 b2 b3 b4 b5 b6 b7) rfl rfl 49 _ (heap_alloc_last _ _) z9_info rfl (tv_one _ _ _ _ _ _ _ _ _) ?_; rw [World.setRow_alloc_new]; generalize w1.alloc (.cells (tv n b0 b1 b2 b3 b4 b5 b6 b7) 49) = W2 at *; generalize w1.heap.size = g at *)
  obtain ⟨c0, c1, c2, c3, c4, c5, c6, c7, c8⟩ := cells9 HG.out
  have hcv := root_text W2.drew g n b0 b1 b2 b3 b4 b5 b6 b7 _ _ HG.out
  go_region
  all_goals go_wp2_with fail
  all_goals go_ret3
  all_goals
    refine ⟨HB2.out.drew, ?_⟩
    rcases HR.out with ⟨m, rfl, hs, rfl⟩ | ⟨hn, rfl, he, rfl⟩
    · exact .inl ⟨m, _, hs, rfl⟩
    · refine .inr ⟨hn, ?_⟩
      simp only [List.cons.injEq, and_true] at he
      obtain ⟨rfl, rfl, rfl, rfl, rfl, rfl, rfl, rfl⟩ := he
      rfl

/-! The document's own. -/
def pairs (l : List UInt8) : Nat → List UInt8
  | 0 => []
  | k + 1 => pairs l k ++ [UInt8.ofNat (16 * nv (l.getD (2 * k) 0) + nv (l.getD (2 * k + 1) 0))]
theorem hexF_app (a b : List UInt8) : hexF (a ++ b) = hexF a ++ hexF b := by simp [hexF]
theorem pairs_hex (root r : List UInt8) : ∀ k, k ≤ root.length → pairs (hexF root ++ r) k = root.take k := by
  intro k
  induction k with
  | zero => intro _; rfl
  | succ k ih =>
    intro hk
    rw [pairs, ih (by omega), List.take_succ_eq_append_getElem (by omega)]
    have hl : (hexF (root.take k)).length = 2 * k := by rw [hexF_len, List.length_take]; omega
    have e : hexF root ++ r = hexF (root.take k) ++ (hexD (root[k].toNat / 16) :: hexD (root[k].toNat % 16) :: (hexF (root.drop (k + 1)) ++ r)) := by
      have hroot : root = root.take k ++ root[k] :: root.drop (k + 1) := by rw [← List.drop_eq_getElem_cons (by omega), List.take_append_drop]
      have hh := congrArg hexF hroot
      rw [hexF_app, hexF_cons] at hh
      rw [hh, List.append_assoc, List.append_assoc]
      rfl
    have g0 : (hexF root ++ r).getD (2 * k) 0 = hexD (root[k].toNat / 16) := by
      rw [e, List.getD_eq_getElem?_getD, List.getElem?_append_right (by omega), hl]
      simp
    have g1 : (hexF root ++ r).getD (2 * k + 1) 0 = hexD (root[k].toNat % 16) := by
      rw [e, List.getD_eq_getElem?_getD, List.getElem?_append_right (by omega), hl]
      simp
    have hb := (root[k]).toNat_lt
    rw [g0, g1, nv_hexD _ (by omega), nv_hexD _ (by omega)]
    congr 2
    rw [show 16 * (root[k].toNat / 16) + root[k].toNat % 16 = root[k].toNat by omega]
    simp

end Go.Proofs.YtfgbghmefomolaaDoor
