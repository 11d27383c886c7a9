
import Derived.Test.YtfgbghmefomolaaDoorNamedLaw
import Derived.Test.YtfgbghmefomolaaDoorEnvLaid
import Derived.Test.YtfgbghmefomolaaDoorTie
import Derived.Test.YtfgbghmefomolaaDoorCards
import Derived.SevenTiedAt
namespace Go.Proofs.YtfgbghmefomolaaDoor
open Go.ChangeShapes Go.WideShapes Go.ChangeAt Go.RowKit
open Go.ChangeMaps (open_string shut_string)

theorem named_env {W : World} (hL : laidMet Tryd.prog Rows.namedUptoRow.laid W) (hsh : W.ShapedOpen Tryd.prog) : Env W :=
  ⟨pow_head hL.tail.tail, iface_head globSyn synType hL.tail.tail.tail.tail, iface_head globRng rngType hL.tail.tail.tail, max_head hsh⟩

def namedArgs : Array Value := #[.int .i64 0, .int .i64 0, .int .i64 0, .string ⟨#[]⟩]
theorem named_met (os : Os) : laidMetH Tryd.prog Rows.namedUptoRow.laid ((World.laidAll Tryd.prog os Rows.namedUptoRow.laid).forCall (fun _ _ => 0) ⟨#[], namedArgs, []⟩).memory := by
  rw [MakeChecks.laidMetH_plain _ _ _ (by kernel_rfl)]
  exact laidMet_laidAll _ (by kernel_rfl) (by kernel_rfl)
theorem named_shaped (os : Os) : ((World.laidAll Tryd.prog os Rows.namedUptoRow.laid).forCall (fun _ _ => 0) ⟨#[], namedArgs, []⟩).Shaped Tryd.prog := World.shaped_of_ZipB (by kernel_rfl) (by kernel_rfl)
theorem named_reads (os : Os) {H : Type} (enc : TypeId × Value → H) : ∃ places, DataW.whole enc Tryd.prog ((World.laidAll Tryd.prog os Rows.namedUptoRow.laid).forCall (fun _ _ => 0) ⟨#[], namedArgs, []⟩).memory Tryd.f4.params.toList Rows.namedSpec.vars false namedArgs.toList 8 = some ([.lit (.int .i64 0), .lit (.int .i64 0), .lit (.int .i64 0), .lit (.string [])], [], places) :=
  ⟨[], by kernel_rfl⟩

set_option maxRecDepth 100000 in
theorem named_lifted (os : Os) (started : os.Started) (H : Type) (enc : TypeId × Value → H) (F : Stop.Interp) :
    ReturnsInHanded {} Tryd.checked os 4 .any ((Rows.OpenSpec.upto Rows.namedSpec).preRow enc Tryd.prog Tryd.f4 Rows.namedUptoRow.domain false Rows.namedUptoRow.laid) (((Rows.OpenSpec.upto Rows.namedSpec).at F).post enc Tryd.prog Tryd.f4 false true false false) := by
  obtain ⟨places, hx⟩ := named_reads os enc
  refine returnsInHanded_of_row (C := Tryd.checked) (s := Rows.OpenSpec.upto Rows.namedSpec) envOwn started (by kernel_rfl) Tryd.func4
    (witness_laid (enc := enc) (World.laidAll Tryd.prog os Rows.namedUptoRow.laid) namedArgs (World.laidAll_os _ _ _) (named_shaped os) (by kernel_rfl)
      (OpenSpec.preRow_of_cond 8 hx (by kernel_rfl) (fun k hk => by cases hk; kernel_rfl) (by kernel_rfl) (named_met os))) ?_
  intro W base args ds gs before hval0 hW _ hcond _ hL hsh _
  have hval : ∀ (j : Nat) t v, Tryd.f4.params[j]? = some t → args[j]? = some v → Value.okWide Tryd.prog W .any base t v := hval0
  have hW' := hW
  obtain ⟨p, q, hA0, hV, rfl, hfz, hnd⟩ := hW
  have hA : DataW.TrodAll enc Tryd.prog W 0 (fun _ => true) true Tryd.f4.params.toList args.toList ds p := hA0
  rw [Tryd.params4] at hA hval
  obtain ⟨v0, vs0, d0, ds0, p0, q0, hargs, rfl, rfl, h0, r0⟩ := trodAll_cons hA
  obtain ⟨v1, vs1, d1, ds1, p1, q1, rfl, rfl, rfl, h1, r1⟩ := trodAll_cons r0
  obtain ⟨v2, vs2, d2, ds2, p2, q2, rfl, rfl, rfl, h2, r2⟩ := trodAll_cons r1
  obtain ⟨v3, vs3, d3, ds3, p3, q3, rfl, rfl, rfl, h3, r3⟩ := trodAll_cons r2
  obtain ⟨rfl, rfl, rfl⟩ := trodAll_nil r3
  obtain rfl : args = #[v0, v1, v2, v3] := by cases args; simp_all
  obtain ⟨rfl, rfl⟩ := trodVars_none hV
  obtain ⟨i0, rfl, rfl, rfl, w0⟩ := open_int Tryd.underlying3 (hval 0 3 v0 rfl rfl) h0
  obtain ⟨i1, rfl, rfl, rfl, w1⟩ := open_int Tryd.underlying3 (hval 1 3 v1 rfl rfl) h1
  obtain ⟨i2, rfl, rfl, rfl, w2⟩ := open_int Tryd.underlying3 (hval 2 3 v2 rfl rfl) h2
  obtain ⟨s3, rfl, rfl, rfl, w3⟩ := open_string Tryd.underlying9 (hval 3 9 v3 rfl rfl) h3
  have hbulk := of_decide_eq_true (hcond _ rfl)
  simp only [List.append_nil, Rows.uptoBulkAll, Rows.uptoBulk, Array.length_toList] at hbulk
  have hs3 : s3.size ≤ 1000000000 := by
    have e : s3.data.size = s3.size := rfl
    omega
  have hL' : laidMet Tryd.prog Rows.namedUptoRow.laid W := by
    rw [MakeChecks.laidMetH_plain _ _ _ (by kernel_rfl)] at hL
    exact hL
  have hi1 : i1 ≤ 9223372036854775807 := by
    have := bounds_i64 w1
    omega
  clear hA0 hval0
  refine (named_yes i0 i1 i2 s3 hi1 hs3 W (named_env hL' hsh)).mono fun e W' ⟨he, bel⟩ => ?_
  subst he
  exact ⟨_, rfl, _, _, _, [], _, [], hW', trodAll_mk1 (shut_bool Tryd.underlying4 _),
    (trodAll_cons_mk (shut_int Tryd.underlying3 w0) (trodAll_cons_mk (shut_int Tryd.underlying3 w1) (trodAll_cons_mk (shut_int Tryd.underlying3 w2) (trodAll_cons_mk (shut_string Tryd.underlying9 w3) trodAll_mk0)))), rfl, bel.frame _, fun h => by cases h⟩

theorem named_said : Rows.NamedUptoSaid :=
  OpenClaim.holds_of_cond 4 Tryd.f4 rfl rfl rfl rfl rfl rfl rfl ⟨rfl, rfl, rfl, rfl, rfl⟩ rfl rfl rfl rfl rfl (by kernel_rfl) Tryd.func4 (by kernel_rfl)
    (of_decide_eq_true (by kernel_rfl)) (by unfold Func.isWrapper; first | (rw [if_pos (by decide +kernel)]; kernel_rfl) | (rw [if_neg (by decide +kernel)]; exact ⟨rfl, rfl⟩))
    (fun os started H enc _ F => by rw [OpenClaim.pre_eq_preRow]; exact named_lifted os started H enc F)

/-- ████ THE SECOND FORM's CARD ████ -/
theorem named_card : Rows.NamedUptoCardSaid :=
  Claim7.holds_tied_plain_at .later [] _ _ _ _ named_said (fun _ h => by cases h) (by kernel_rfl) (fun _ h => by cases h) namedUpto_row_tie rfl ⟨rfl, rfl⟩ (by kernel_rfl) rfl
    (fun f fn hf hfn => by
      obtain rfl : f = 4 := Option.some.inj ((show Tryd.prog.funcNamed "tiles/tileslaw.Named" = some 4 by kernel_rfl).symm.trans hf) |>.symm
      obtain rfl : fn = Tryd.f4 := (Option.some.inj (Tryd.func4.symm.trans hfn)).symm
      exact ⟨by kernel_rfl, fun j t ht => by
        rw [Tryd.params4] at ht
        match j, ht with
        | 0, ht => exact noStand2 t (.inl (Option.some.inj ht).symm)
        | 1, ht => exact noStand2 t (.inl (Option.some.inj ht).symm)
        | 2, ht => exact noStand2 t (.inl (Option.some.inj ht).symm)
        | 3, ht => exact noStand2 t (.inr (Option.some.inj ht).symm)
        | j + 4, ht => simp at ht⟩)
    (by kernel_rfl)
end Go.Proofs.YtfgbghmefomolaaDoor
