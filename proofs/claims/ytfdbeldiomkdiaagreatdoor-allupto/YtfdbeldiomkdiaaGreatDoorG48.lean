import Derived.Test.YtfdbeldiomkdiaaGreatDoorG47
import Derived.Test.YtfdbeldiomkdiaaGreatDoorTie
import Derived.Test.YtfdbeldiomkdiaaGreatDoorCards
set_option maxHeartbeats 8000000
set_option maxRecDepth 100000
set_option linter.all false
namespace Go.Proofs.YtfdbeldiomkdiaaGreatDoor
open Go.RowKit Go.Proofs.Tryz
section
open Go.ChangeShapes Go.WideShapes Go.ChangeAt Go.RowKit
def zn5:(Rows.allUptoRow.inPlace==checked.prog.inPlace 3)=true:=by kernel_rfl
def zn6:(Rows.allUptoRow.unfollowed==checked.prog.unfollowed 3)=true:=by kernel_rfl
def zn7:(Rows.allUptoRow.recurses==checked.prog.recurses 3)=true:=by kernel_rfl
def zn8:(Rows.allUptoRow.named==checked.prog.varsNamed 3)=true:=by kernel_rfl
def zau:joinedFacts checked.prog 3 f3 (Rows.OpenSpec.upto Rows.allSpec).bare Rows.allUptoRow=true:=by
 unfold joinedFacts;rw[zn5,zn6,zn7,zn8]
 kernel_rfl
def zjr:Rows.AllUptoSaid:=
 OpenClaim.holds_of_cond 3 f3 rfl rfl rfl rfl rfl rfl rfl ⟨rfl,rfl,rfl,rfl,rfl⟩ rfl rfl rfl rfl rfl (by kernel_rfl) func3 zau
  (Ch (by kernel_rfl)) (by unfold Func.isWrapper;first|(rw[if_pos (by decide +kernel)];kernel_rfl)|(rw[if_neg (by decide +kernel)];exact⟨rfl,rfl⟩))
  (λc a H b _ F=>by rw[OpenClaim.pre_eq_preRow];exact zav c a H b F)
def ER (t:TypeId)(h:t=22\/t=3\/t=9\/t=23\/t=24):prog.wantsStandIn t=false:=by
 rcases h with rfl|rfl|rfl|rfl|rfl
 ·kernel_rfl
 ·kernel_rfl
 ·kernel_rfl
 ·kernel_rfl
 ·kernel_rfl
theorem al_card:Rows.AllUptoCardSaid:=
 Claim7.holds_tied_plain_at .later [] _ _ _ _ zjr (λ_ h=>by cases h) (by kernel_rfl) (λ_ h=>by cases h) allUpto_row_tie rfl ⟨rfl,rfl⟩ (by kernel_rfl) rfl
  (λf c d b=>by
   obtain rfl:f=3:=qj ((show prog.funcNamed "tiles/tileslaw.All"=some 3 by kernel_rfl).symm.trans d) |>.symm;obtain rfl:c=f3:=(qj (func3.symm.trans b)).symm;exact⟨by kernel_rfl,λj t a=>by
    rw[params3]at a
    match j,a with
    |0,a=>exact ER t (.inl (qj a).symm)
    |1,a=>exact ER t (.inr (.inl (qj a).symm))
    |2,a=>exact ER t (.inr (.inl (qj a).symm))
    |3,a=>exact ER t (.inl (qj a).symm)
    |4,a=>exact ER t (.inr (.inr (.inl (qj a).symm)))
    |5,a=>exact ER t (.inr (.inr (.inl (qj a).symm)))
    |6,a=>exact ER t (.inr (.inr (.inr (.inl (qj a).symm))))
    |7,a=>exact ER t (.inr (.inr (.inl (qj a).symm)))
    |8,a=>exact ER t (.inr (.inl (qj a).symm))
    |9,a=>exact ER t (.inr (.inr (.inr (.inr (qj a).symm))))
    |j+10,a=>simp at a⟩)
  (by kernel_rfl)
end
end Go.Proofs.YtfdbeldiomkdiaaGreatDoor
