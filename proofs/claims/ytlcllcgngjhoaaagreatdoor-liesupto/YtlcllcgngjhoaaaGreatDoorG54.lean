import Derived.Test.YtlcllcgngjhoaaaGreatDoorG53
import Derived.Test.YtlcllcgngjhoaaaGreatDoorTie
import Derived.Test.YtlcllcgngjhoaaaGreatDoorCards
set_option maxHeartbeats 8000000
set_option maxRecDepth 100000
set_option linter.all false
namespace Go.Proofs.YtlcllcgngjhoaaaGreatDoor
open Go.RowKit Go.Proofs.Tryz
section
open Go.ChangeShapes Go.WideShapes Go.ChangeAt Go.RowKit
theorem zbc:(Rows.liesUptoRow.inPlace==checked.prog.inPlace 3)=true:=by kernel_rfl
theorem zbq:(Rows.liesUptoRow.unfollowed==checked.prog.unfollowed 3)=true:=by kernel_rfl
theorem zc4:(Rows.liesUptoRow.recurses==checked.prog.recurses 3)=true:=by kernel_rfl
theorem zda:(Rows.liesUptoRow.named==checked.prog.varsNamed 3)=true:=by kernel_rfl
theorem za8:joinedFacts checked.prog 3 f3 (Rows.OpenSpec.upto Rows.liesSpec).bare Rows.liesUptoRow=true:=by
 unfold joinedFacts;rw [zbc,zbq,zc4,zda]
 kernel_rfl
theorem yln:Rows.LiesUptoSaid :=
 OpenClaim.holds_of_cond 3 f3 rfl rfl rfl rfl rfl rfl rfl ⟨rfl,rfl,rfl,rfl,rfl⟩ rfl rfl rfl rfl rfl (by kernel_rfl) func3 za8
  (zhs (by kernel_rfl)) (by unfold Func.isWrapper;first | (rw [if_pos (by decide +kernel)];kernel_rfl) | (rw [if_neg (by decide +kernel)];exact⟨rfl,rfl⟩))
  (fun c a H b _ F=>by rw [OpenClaim.pre_eq_preRow];exact ycz c a H b F)
theorem zo6 (t:TypeId)(h:t=22∨t=3∨t=9∨t=23):prog.wantsStandIn t=false:=by
 rcases h with rfl | rfl | rfl | rfl
 ·kernel_rfl
 ·kernel_rfl
 ·kernel_rfl
 ·kernel_rfl
theorem lz_card:Rows.LiesUptoCardSaid :=
 Claim7.holds_tied_plain_at .later [] _ _ _ _ yln (fun _ h=>by cases h) (by kernel_rfl) (fun _ h=>by cases h) liesUpto_row_tie rfl ⟨rfl,rfl⟩ (by kernel_rfl) rfl
  (fun f c d b=>by
   obtain rfl:f=3:=jd ((show prog.funcNamed "tiles/tileslaw.Lies"=some 3 by kernel_rfl).symm.trans d) |>.symm;obtain rfl:c=f3:=(jd (func3.symm.trans b)).symm;exact⟨by kernel_rfl,fun j t a=>by
    rw [params3] at a
    match j,a with
    | 0,a=>exact zo6 t (.inl (jd a).symm)
    | 1,a=>exact zo6 t (.inr (.inl (jd a).symm))
    | 2,a=>exact zo6 t (.inr (.inr (.inl (jd a).symm)))
    | 3,a=>exact zo6 t (.inr (.inr (.inr (jd a).symm)))
    | 4,a=>exact zo6 t (.inr (.inl (jd a).symm))
    | j+5,a=>simp at a⟩)
  (by kernel_rfl)
end
end Go.Proofs.YtlcllcgngjhoaaaGreatDoor
