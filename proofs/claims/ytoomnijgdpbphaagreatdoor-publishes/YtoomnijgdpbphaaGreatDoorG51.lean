import Derived.Test.YtoomnijgdpbphaaGreatDoorG49
import Derived.Test.YtoomnijgdpbphaaGreatDoorG50
import Derived.Test.YtoomnijgdpbphaaGreatDoorTie
import Derived.Test.YtoomnijgdpbphaaGreatDoorCards
import Derived.SevenTiedAt

namespace Go.Proofs.YtoomnijgdpbphaaGreatDoor
open Go.ChangeShapes Go.WideShapes Go.ChangeAt Go.RowKit
open Go.ChangeMaps (open_string shut_string)

set_option maxRecDepth 100000 in
theorem publishes_lifted (os : Os) (started : os.Started) (H : Type) (enc : TypeId × Value → H) (F : Stop.Interp) :
    ReturnsInHanded {} Tryz.checked os 3 .any ((OpenSpec.ofChange Rows.publishesSpec).preRow enc Tryz.prog Tryz.f3 Rows.publishesRow.domain false Rows.publishesRow.laid) (((OpenSpec.ofChange Rows.publishesSpec).at F).post enc Tryz.prog Tryz.f3 false true false false) := by
  obtain ⟨places, hx⟩ := pub_reads os enc
  refine returnsInHanded_of_row (C := Tryz.checked) (s := OpenSpec.ofChange Rows.publishesSpec) envOwn started (by kernel_rfl) Tryz.func3
    (witness_laid (enc := enc) ((withType (World.holding Tryz.prog os ⟨#[], #[], []⟩)).layVars Tryz.prog pubLaid) pubArgs (pub_os os) (pub_shaped os) (pub_okB os)
      (OpenSpec.preRow_of_cond 8 hx (by kernel_rfl) (fun k hk => by cases hk) (by kernel_rfl) (pub_met os))) ?_
  intro W base args ds gs before hval0 hW _ _ _ hL hsh _
  have hval : ∀ (j : Nat) t v, Tryz.f3.params[j]? = some t → args[j]? = some v → Value.okWide Tryz.prog W .any base t v := hval0
  have hW' := hW
  obtain ⟨p, q, hA0, hV, rfl, hfz, hnd⟩ := hW
  have hA : DataW.TrodAll enc Tryz.prog W 0 (fun _ => true) true Tryz.f3.params.toList args.toList ds p := hA0
  rw [Tryz.params3] at hA hval
  obtain ⟨v0, vs0, d0, ds0, p0, q0, hargs, rfl, rfl, h0, r0⟩ := trodAll_cons hA
  obtain ⟨v1, vs1, d1, ds1, p1, q1, rfl, rfl, rfl, h1, r1⟩ := trodAll_cons r0
  obtain ⟨v2, vs2, d2, ds2, p2, q2, rfl, rfl, rfl, h2, r2⟩ := trodAll_cons r1
  obtain ⟨rfl, rfl, rfl⟩ := trodAll_nil r2
  obtain rfl : args = #[v0, v1, v2] := by cases args; simp_all
  obtain ⟨rfl, rfl⟩ := trodVars_none hV
  obtain ⟨a0, len0, cap0, rfl⟩ := okWide_slice Tryz.underlying22 (hval 0 22 v0 rfl rfl)
  have k0 := h0
  have lt0 : ∀ x ∈ p0, x.block < W.heap.size := by obtain ⟨m, hm⟩ := k0; exact DataW.trod_lt m _ _ _ hm
  obtain ⟨fs, -, hfl, hfs⟩ : ∃ fs : Fs, fs.length = len0 ∧ (∀ f ∈ fs, f.1.length ≤ maxLen ∧ f.2.length ≤ maxLen) ∧ Fss W (.slice a0 len0 cap0) fs := by
    obtain ⟨fuel, hf⟩ := h0
    exact open_files (by simpa [Value.cells] using hf)
  obtain ⟨s1, rfl, rfl, rfl, w1⟩ := open_string Tryz.underlying9 (hval 1 9 v1 rfl rfl) h1
  obtain ⟨a2, len2, cap2, rfl⟩ := okWide_slice Tryz.underlying23 (hval 2 23 v2 rfl rfl)
  have k2 := h2
  have lt2 : ∀ x ∈ p2, x.block < W.heap.size := by obtain ⟨m, hm⟩ := k2; exact DataW.trod_lt m _ _ _ hm
  obtain ⟨ops, -, hol, hos⟩ : ∃ ops : List OpR, ops.length = len2 ∧ (∀ o ∈ ops, -9223372036854775808 ≤ o.a ∧ o.a ≤ 9223372036854775807 ∧ o.s.length ≤ maxLen) ∧ Oss W (.slice a2 len2 cap2) ops := by
    obtain ⟨fuel, hf⟩ := h2
    exact open_ops (by simpa [Value.cells] using hf)
  obtain ⟨hL1, hL2⟩ := pub_parts hL
  obtain ⟨at_, hs⟩ := pub_sents hL1
  clear hA0 hval0
  refine (publishes_yes W at_ (pub_env hL1 hsh) hs (ety_of hL2) _ _ fs s1.data.toList ops hfl w1 hol hfs hos).mono fun e W' ⟨he, bel⟩ => ?_
  subst he
  exact ⟨_, rfl, _, _, _, [], _, [], hW', trodAll_mk1 (shut_bool Tryz.underlying4 _),
    (trodAll_cons_mk (Below.trod envLaidOut (by kernel_rfl) (of_decide_eq_true (by kernel_rfl)) k0 bel lt0) (trodAll_cons_mk (shut_string Tryz.underlying9 w1) (trodAll_cons_mk (Below.trod envLaidOut (by kernel_rfl) (of_decide_eq_true (by kernel_rfl)) k2 bel lt2) trodAll_mk0))), rfl, bel.frame _, fun h => by cases h⟩

theorem publishes_said : Rows.PublishesSaid :=
  OpenClaim.holds_of_cond 3 Tryz.f3 rfl rfl rfl rfl rfl rfl rfl ⟨rfl, rfl, rfl, rfl, rfl⟩ rfl rfl rfl rfl rfl (by kernel_rfl) Tryz.func3 (by kernel_rfl)
    (of_decide_eq_true (by kernel_rfl)) (by unfold Func.isWrapper; first | (rw [if_pos (by decide +kernel)]; kernel_rfl) | (rw [if_neg (by decide +kernel)]; exact ⟨rfl, rfl⟩))
    (fun os started H enc _ F => by rw [OpenClaim.pre_eq_preRow]; exact publishes_lifted os started H enc F)

theorem noStand3 (t : TypeId) (h : t = 22 ∨ t = 9 ∨ t = 23) : Tryz.prog.wantsStandIn t = false := by
  rcases h with rfl | rfl | rfl
  · kernel_rfl
  · kernel_rfl
  · kernel_rfl

/-- ████ THE CARD ████ -/
theorem publishes_card : Rows.PublishesCardSaid :=
  Claim7.holds_tied_plain_at .later [] _ _ _ _ publishes_said (fun _ h => by cases h) (by kernel_rfl) (fun _ h => by cases h) publishes_row_tie rfl ⟨rfl, rfl⟩ (by kernel_rfl) rfl
    (fun f fn hf hfn => by
      obtain rfl : f = 3 := Option.some.inj ((show Tryz.prog.funcNamed "tiles/tileslaw.Publishes" = some 3 by kernel_rfl).symm.trans hf) |>.symm
      obtain rfl : fn = Tryz.f3 := (Option.some.inj (Tryz.func3.symm.trans hfn)).symm
      exact ⟨by kernel_rfl, fun j t ht => by
        rw [Tryz.params3] at ht
        match j, ht with
        | 0, ht => exact noStand3 t (.inl (Option.some.inj ht).symm)
        | 1, ht => exact noStand3 t (.inr (.inl (Option.some.inj ht).symm))
        | 2, ht => exact noStand3 t (.inr (.inr (Option.some.inj ht).symm))
        | j + 3, ht => simp at ht⟩)
    (by kernel_rfl)
end Go.Proofs.YtoomnijgdpbphaaGreatDoor
