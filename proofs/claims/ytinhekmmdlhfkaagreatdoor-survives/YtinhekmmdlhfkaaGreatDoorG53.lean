import Derived.Test.YtinhekmmdlhfkaaGreatDoorG52
import Derived.Test.YtinhekmmdlhfkaaGreatDoorG01
import Derived.ProofKit
import Derived.OpenShut
import Derived.ShutString
import Derived.ChangeOld
import Derived.Below
import Derived.SliceStrings
namespace Go.Proofs.YtinhekmmdlhfkaaGreatDoor
section
open Go.ChangeShapes Go.WideShapes Go.ChangeAt Go.RowKit
def zg2:Array Value:=#[.slice none 0 0,.slice none 0 0,.string ⟨#[]⟩,.int .i64 0,.bool false]
theorem z2p {W:World}(hL:laidMetH Tryz.prog Rows.survivesRow.laid W):laidMet Tryz.prog zds W∧handlesMet Tryz.prog [("errors.errorType",Rows.laid_errors_errorType)] W:=hL
theorem z8b (os:Os):laidMetH Tryz.prog Rows.survivesRow.laid (((zem (World.holding Tryz.prog os ⟨#[],#[],[]⟩)).layVars Tryz.prog zds).forCall (fun _ _=>0) ⟨#[],zg2,[]⟩).memory :=
 laidMetH_of_parts (zra (laid:=zds) zg2 (by kernel_rfl) (by kernel_rfl)) (by kernel_rfl)
theorem zz4 (os:Os):(((zem (World.holding Tryz.prog os ⟨#[],#[],[]⟩)).layVars Tryz.prog zds).forCall (fun _ _=>0) ⟨#[],zg2,[]⟩).Shaped Tryz.prog:=World.shaped_of_ZipB (by kernel_rfl) (by kernel_rfl)
theorem z02 (os:Os){H:Type}(enc:TypeId×Value→H):∃ places,DataW.whole enc Tryz.prog (((zem (World.holding Tryz.prog os ⟨#[],#[],[]⟩)).layVars Tryz.prog zds).forCall (fun _ _=>0) ⟨#[],zg2,[]⟩).memory Tryz.f3.params.toList Rows.survivesSpec.vars false zg2.toList 8=some ([.nil,.nil,.lit (.string []),.lit (.int .i64 0),.lit (.bool false)],[],places) :=
 ⟨[],by kernel_rfl⟩
theorem z8t (os:Os):Input.okWideB Tryz.checked.prog (((zem (World.holding Tryz.prog os ⟨#[],#[],[]⟩)).layVars Tryz.prog zds).forCall (fun _ _=>0) ⟨#[],zg2,[]⟩) 3 ⟨#[],zg2,[]⟩=true:=by kernel_rfl
theorem z9e (os:Os):((zem (World.holding Tryz.prog os ⟨#[],#[],[]⟩)).layVars Tryz.prog zds).os=os:=(World.layVars_os _ _ _).trans rfl
end
section
open Go.ChangeShapes Go.WideShapes Go.ChangeAt Go.RowKit
theorem zvr {H:Type}{enc:TypeId×Value→H}{w:World}{base:Nat}{spare:Nat→Bool}{held:Bool}{fuel:Nat}{x:DataW H×List MemPlace}{a:Option Addr}{len cap:Nat}
  (h:DataW.trod enc Tryz.prog w base spare held fuel 22 [.slice a len cap]=some x) :
  ∃ ss:List ByteArray,ss.length=len∧len≤maxLen∧(∀ s∈ss,s.size≤maxLen)∧Sss w (.slice a len cap) ss:=by
 rcases open_strings Tryz.underlying22 Tryz.underlying9 (by kernel_rfl) h with ⟨hcs,_⟩ | ⟨x,l,c,ss,hcs,_,hl,hm,hz,_,hcell,hws⟩
 ·simp at hcs
  obtain⟨rfl,rfl,rfl⟩:=hcs
  exact⟨[],rfl,Nat.zero_le _,by simp,⟨none,0,rfl,Nat.le_refl _,.inl rfl⟩⟩
 ·simp at hcs
  obtain⟨rfl,rfl,rfl⟩:=hcs
  have hle:len≤ss.length:=by rw [hz];split<;>omega
  have hlen:(ss.take len).length=len:=by simp;omega
  refine⟨ss.take len,hlen,by omega,fun s hs=>hws s (List.mem_of_mem_take hs),⟨some x,cap,by rw [hlen],by rw [hlen];exact hl,?_⟩⟩
  by_cases h0:len=0
  ·left;simp [h0]
  ·right
   obtain⟨b,off,spot⟩:=x
   have hc0:=hcell 0 (by omega)
   have hspot:spot=none:=by simpa [Addr.add] using World.cell?_spot hc0
   subst hspot
   refine⟨b,off,rfl,fun i hi=>?_⟩
   have:=hcell i (by rw [hlen] at hi;omega)
   rw [Addr.add_mid] at this
   rw [this,List.getElem_take]
   rw [hlen] at hi
   rw [List.getD_eq_getElem?_getD,List.getElem?_eq_getElem (by omega)]
   rfl
end
end Go.Proofs.YtinhekmmdlhfkaaGreatDoor
