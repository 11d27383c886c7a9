import Derived.Test.YtoomnijgdpbphaaGreatDoorG49
import Derived.Test.YtoomnijgdpbphaaGreatDoorG37
import Derived.LaidLaws
import Derived.ProofKit
import Derived.LaidMore
import Derived.OpenShut
import Derived.Stop.Joined
import Derived.LaidHandle

namespace Go.Proofs.YtoomnijgdpbphaaGreatDoor
open Go.ChangeShapes Go.WideShapes Go.ChangeAt Go.RowKit

theorem nameStr : Tryz.prog.typeName? 3 221 = some "*errors.errorString" := by kernel_rfl
theorem cellsErrStr : Tryz.prog.cellsOf 223 = 1 := by kernel_rfl
theorem cellsStr : Tryz.prog.cellsOf 9 = 1 := by kernel_rfl
theorem starStr : "*" ++ "errors.errorString" = "*errors.errorString" := by decide
theorem rowStr (u : TypeId) (h : Tryz.prog.typeName? 3 u = some "*errors.errorString") : u = 221 :=
  typeName_ptr_named (nm := "errors.errorString") (by rw [starStr]; kernel_rfl) (by kernel_rfl) (by decide) u (by rw [starStr]; exact h)

set_option maxRecDepth 100000 in
/-- One listed sentinel: what its cell holds, and the places of the rest. -/
theorem laid_step {W : World} {n : String} {g : Nat} {text : List UInt8} {r : List (String × DataW Unit)} {ps : List MemPlace}
    (h : DataW.LaidVars Tryz.prog W ((n, .iface "*errors.errorString" (.ptr (.agg [.lit (.string text)]))) :: r) ps)
    (hrows : ∀ b off, MemPlace.cell b off ∈ ps → (∃ c t, W.heap[b]? = some (.cells c t (0, 0))) ∧ ∀ u v, W.cell? ⟨b, off, none⟩ = some (.iface u v) → Value.okWide Tryz.prog W .any 0 u v)
    (hg : Tryz.prog.globalNamed n = some g) (ht : (Tryz.prog.globals[g]?).map (·.type) = some 39) :
    ∃ a q, W.cell? ⟨g, 0, none⟩ = some (.iface 221 (.pointer (some a))) ∧ DataW.LaidVars Tryz.prog W r q ∧ ps = .cell g 0 :: .cell a.block a.off :: q := by
  obtain ⟨g0, t0, cs0, f0, p0, q0, hg0, ht0, hv0, hd0, hq, e0⟩ := h
  obtain rfl := Option.some.inj (hg.symm.trans hg0)
  obtain rfl := Option.some.inj (ht.symm.trans ht0)
  subst e0
  obtain ⟨l0⟩ := cs0
  have ok0 : ∀ u v, l0 = [.iface u v] → Value.okWide Tryz.prog W .any 0 u v := fun u v e => by
    subst e
    exact (hrows g 0 (by simp [MemPlace.row])).2 u v (by simpa using World.var?_cell hg0 hv0 0)
  obtain ⟨a0, s0, rfl, hc0, hs0, hz0, rfl⟩ := errorString_of_trod Tryz.underlying39 rowStr Tryz.underlying221 Tryz.underlying223 rfl rfl Tryz.underlying9 cellsErrStr cellsStr hd0 ok0
  exact ⟨a0, q0, by simpa using World.var?_cell hg0 hv0 0, hq, by simp [MemPlace.row, List.range_succ]⟩

theorem sents_of_tail {W : World} {rest : List (String × DataW Unit)} (h : laidMet Tryz.prog (("tiles/api.ErrEntry", Rows.laid_tiles_api_ErrEntry) :: ("tiles/api.ErrRange", Rows.laid_tiles_api_ErrRange) :: ("tiles/api.ErrCheckpoint", Rows.laid_tiles_api_ErrCheckpoint) :: ("tiles/api.ErrOld", Rows.laid_tiles_api_ErrOld) :: ("tiles/api.ErrProof", Rows.laid_tiles_api_ErrProof) :: ("tiles/api.ErrTile", Rows.laid_tiles_api_ErrTile) :: ("tiles/api.ErrFailed", Rows.laid_tiles_api_ErrFailed) :: rest) W) : ∃ at_, Sents W at_ := by
  obtain ⟨ps, hv, hnd, hrows⟩ := h
  obtain ⟨a0, q0, c0, v0, e0⟩ := laid_step (g := 1) hv hrows (by kernel_rfl) (by kernel_rfl)
  obtain ⟨a1, q1, c1, v1, e1⟩ := laid_step (g := 2) v0 (fun b o hm => hrows b o (by rw [e0]; simp [hm])) (by kernel_rfl) (by kernel_rfl)
  subst e1
  obtain ⟨a2, q2, c2, v2, e2⟩ := laid_step (g := 3) v1 (fun b o hm => hrows b o (by rw [e0]; simp [hm])) (by kernel_rfl) (by kernel_rfl)
  subst e2
  obtain ⟨a3, q3, c3, v3, e3⟩ := laid_step (g := 4) v2 (fun b o hm => hrows b o (by rw [e0]; simp [hm])) (by kernel_rfl) (by kernel_rfl)
  subst e3
  obtain ⟨a4, q4, c4, v4, e4⟩ := laid_step (g := 5) v3 (fun b o hm => hrows b o (by rw [e0]; simp [hm])) (by kernel_rfl) (by kernel_rfl)
  subst e4
  obtain ⟨a5, q5, c5, v5, e5⟩ := laid_step (g := 6) v4 (fun b o hm => hrows b o (by rw [e0]; simp [hm])) (by kernel_rfl) (by kernel_rfl)
  subst e5
  obtain ⟨a6, q6, c6, v6, e6⟩ := laid_step (g := 0) v5 (fun b o hm => hrows b o (by rw [e0]; simp [hm])) (by kernel_rfl) (by kernel_rfl)
  subst e6
  clear v6
  subst e0
  have hsub : ([a0, a1, a2, a3, a4, a5, a6].map fun a => MemPlace.cell a.block a.off).Nodup := by
    refine List.Nodup.sublist ?_ hnd
    repeat (first | exact List.nil_sublist _ | (apply List.Sublist.cons; apply List.Sublist.cons_cons))
  rw [List.Nodup, List.pairwise_map] at hsub
  refine ⟨fun i => [a0, a1, a2, a3, a4, a5, a6].getD i a0, c0, c1, c2, c3, c4, c5, c6, ?_, ?_⟩
  · have key : ∀ i j, i < j → (hj : j < 7) → [a0, a1, a2, a3, a4, a5, a6].getD i a0 ≠ [a0, a1, a2, a3, a4, a5, a6].getD j a0 := by
      intro i j hij hj e
      have := List.pairwise_iff_getElem.1 hsub i j (by simp; omega) (by simpa using hj) hij
      rw [List.getD_eq_getElem?_getD, List.getD_eq_getElem?_getD, List.getElem?_eq_getElem (by simp; omega), List.getElem?_eq_getElem (by simpa using hj), Option.getD_some, Option.getD_some] at e
      exact this (by rw [e])
    intro i j hi hj hij
    rcases Nat.lt_or_gt_of_ne hij with h | h
    · exact key i j h hj
    · exact fun e => key j i h hi e.symm
  · intro i hi
    match i, hi with
    | 0, _ => exact (hrows a0.block a0.off (by simp)).1
    | 1, _ => exact (hrows a1.block a1.off (by simp)).1
    | 2, _ => exact (hrows a2.block a2.off (by simp)).1
    | 3, _ => exact (hrows a3.block a3.off (by simp)).1
    | 4, _ => exact (hrows a4.block a4.off (by simp)).1
    | 5, _ => exact (hrows a5.block a5.off (by simp)).1
    | 6, _ => exact (hrows a6.block a6.off (by simp)).1

/-- The listed variables but for the handle. -/
def pubLaid : List (String × DataW Unit) := [("math/bits.deBruijn32tab", Rows.laid_math_bits_deBruijn32tab), ("math/bits.deBruijn64tab", Rows.laid_math_bits_deBruijn64tab), ("internal/strconv.uint64pow10", Rows.laid_internal_strconv_uint64pow10), ("unicode/utf8.acceptRanges", Rows.laid_unicode_utf8_acceptRanges), ("strconv.ErrRange", Rows.laid_strconv_ErrRange), ("strconv.ErrSyntax", Rows.laid_strconv_ErrSyntax), ("tiles/api.ErrEntry", Rows.laid_tiles_api_ErrEntry), ("tiles/api.ErrRange", Rows.laid_tiles_api_ErrRange), ("tiles/api.ErrCheckpoint", Rows.laid_tiles_api_ErrCheckpoint), ("tiles/api.ErrOld", Rows.laid_tiles_api_ErrOld), ("tiles/api.ErrProof", Rows.laid_tiles_api_ErrProof), ("tiles/api.ErrTile", Rows.laid_tiles_api_ErrTile), ("tiles/api.ErrFailed", Rows.laid_tiles_api_ErrFailed), ("unicode/utf8.first", Rows.laid_unicode_utf8_first)]
theorem etGlob : Tryz.prog.globalNamed "errors.errorType" = some 7 := by kernel_rfl
theorem rtRow : (Tryz.prog.cutTypes.find? (·.1 == "internal/reflectlite.rtype")).map (·.2) = some 150 := by kernel_rfl
theorem errRow : ((List.range Tryz.prog.types.size).filter fun t => Tryz.prog.rowNamed t [101, 114, 114, 111, 114]) = [39] := by kernel_rfl
theorem errHandle : typeHandle Tryz.prog 39 = tyP 39 := by kernel_rfl
theorem ety_of {W : World} (h : handlesMet Tryz.prog [("errors.errorType", Rows.laid_errors_errorType)] W) : ETy W := by
  obtain ⟨name, u, ty, e1, e2, e3, e4, e5⟩ := h _ (List.mem_singleton.2 rfl)
  have en : name = [101, 114, 114, 111, 114] := (Option.some.inj e1).symm
  subst en
  obtain rfl := Option.some.inj (rtRow.symm.trans e2)
  have hm : ty ∈ (List.range Tryz.prog.types.size).filter fun t => Tryz.prog.rowNamed t [101, 114, 114, 111, 114] := List.mem_filter.2 ⟨List.mem_range.2 e3, e4⟩
  rw [errRow] at hm
  obtain rfl := List.mem_singleton.1 hm
  rw [errHandle] at e5
  exact (World.var?_cell etGlob e5 0).trans rfl
theorem pub_parts {W : World} (hL : laidMetH Tryz.prog Rows.publishesRow.laid W) : laidMet Tryz.prog pubLaid W ∧ handlesMet Tryz.prog [("errors.errorType", Rows.laid_errors_errorType)] W := hL
theorem pub_env {W : World} (hL : laidMet Tryz.prog pubLaid W) (hsh : W.ShapedOpen Tryz.prog) : Env W :=
  ⟨pow_head hL.tail.tail, iface_head globSyn synType hL.tail.tail.tail.tail.tail, iface_head globRng rngType hL.tail.tail.tail.tail, max_head hsh⟩
theorem pub_sents {W : World} (hL : laidMet Tryz.prog pubLaid W) : ∃ at_, Sents W at_ := sents_of_tail hL.tail.tail.tail.tail.tail.tail
end Go.Proofs.YtoomnijgdpbphaaGreatDoor

namespace Go.Proofs.YtoomnijgdpbphaaGreatDoor
open Go.ChangeShapes Go.WideShapes Go.ChangeAt Go.RowKit

def pubArgs : Array Value := #[.slice none 0 0, .string ⟨#[]⟩, .slice none 0 0]
theorem laidMet_lay {w0 : World} {laid : List (String × DataW Unit)} (args : Array Value) (hf : w0.layFits Tryz.prog laid [] = true) (hi : w0.layIfaces Tryz.prog laid (w0.layVars Tryz.prog laid) = true) :
    laidMet Tryz.prog laid ((w0.layVars Tryz.prog laid).forCall (fun _ _ => 0) ⟨#[], args, []⟩).memory := by
  have e1 : (laid.filter fun x => (laid.map (·.1)).contains x.1) = laid := List.filter_eq_self.2 fun x hx => List.contains_iff_mem.2 (List.mem_map.2 ⟨x, hx, rfl⟩)
  have e2 : (laid.filter fun x => !(laid.map (·.1)).contains x.1) = [] := List.filter_eq_nil_iff.2 fun x hx => by rw [List.contains_iff_mem.2 (List.mem_map.2 ⟨x, hx, rfl⟩)]; simp
  have h : laidMet Tryz.prog laid (w0.layVars Tryz.prog laid) := laidMet_layVars (w0 := w0) (laid.map (·.1)) [] (by rw [e1]) (by rw [e1]; exact hf) (by rw [e1]; exact hi) (by rw [e2]; exact LaidIn.none)
  exact h.of_heap (by simp [World.memory, World.forCall, Input.heap])
/-- A world in which the error's type lies at its variable. -/
def withType (w : World) : World := { w with heap := w.heap.modify 7 fun
  | .cells _ t frozen => .cells #[tyV 39] t frozen
  | o => o }
theorem pub_met (os : Os) : laidMetH Tryz.prog Rows.publishesRow.laid (((withType (World.holding Tryz.prog os ⟨#[], #[], []⟩)).layVars Tryz.prog pubLaid).forCall (fun _ _ => 0) ⟨#[], pubArgs, []⟩).memory :=
  laidMetH_of_parts (laidMet_lay (laid := pubLaid) pubArgs (by kernel_rfl) (by kernel_rfl)) (by kernel_rfl)
theorem pub_shaped (os : Os) : (((withType (World.holding Tryz.prog os ⟨#[], #[], []⟩)).layVars Tryz.prog pubLaid).forCall (fun _ _ => 0) ⟨#[], pubArgs, []⟩).Shaped Tryz.prog := World.shaped_of_ZipB (by kernel_rfl) (by kernel_rfl)
theorem pub_reads (os : Os) {H : Type} (enc : TypeId × Value → H) : ∃ places, DataW.whole enc Tryz.prog (((withType (World.holding Tryz.prog os ⟨#[], #[], []⟩)).layVars Tryz.prog pubLaid).forCall (fun _ _ => 0) ⟨#[], pubArgs, []⟩).memory Tryz.f3.params.toList Rows.publishesSpec.vars false pubArgs.toList 8 = some ([.nil, .lit (.string []), .nil], [], places) :=
  ⟨[], by kernel_rfl⟩
theorem pub_okB (os : Os) : Input.okWideB Tryz.checked.prog (((withType (World.holding Tryz.prog os ⟨#[], #[], []⟩)).layVars Tryz.prog pubLaid).forCall (fun _ _ => 0) ⟨#[], pubArgs, []⟩) 3 ⟨#[], pubArgs, []⟩ = true := by kernel_rfl
theorem pub_os (os : Os) : ((withType (World.holding Tryz.prog os ⟨#[], #[], []⟩)).layVars Tryz.prog pubLaid).os = os := (World.layVars_os _ _ _).trans rfl
end Go.Proofs.YtoomnijgdpbphaaGreatDoor
