import Derived.Test.YtinhekmmdlhfkaaGreatDoorG52
import Derived.Test.YtinhekmmdlhfkaaGreatDoorG01
import Derived.ProofKit
import Derived.OpenShut
import Derived.ShutString
import Derived.ChangeOld
import Derived.Below
import Derived.SliceStrings
namespace Go.Proofs.YtinhekmmdlhfkaaGreatDoor
section
open Go.ChangeShapes Go.WideShapes Go.ChangeAt Go.RowKit
theorem kh_met (os:Os):laidMetH Tryz.prog Rows.healsRow.laid (((withType (World.holding Tryz.prog os ⟨#[],#[],[]⟩)).layVars Tryz.prog rdLaid).forCall (fun _ _=>0) ⟨#[],kdArgs,[]⟩).memory :=
 laidMetH_of_parts (laidMet_lay (laid:=rdLaid) kdArgs (by kernel_rfl) (by kernel_rfl)) (by kernel_rfl)
theorem kh_shaped (os:Os):(((withType (World.holding Tryz.prog os ⟨#[],#[],[]⟩)).layVars Tryz.prog rdLaid).forCall (fun _ _=>0) ⟨#[],kdArgs,[]⟩).Shaped Tryz.prog:=World.shaped_of_ZipB (by kernel_rfl) (by kernel_rfl)
theorem kh_reads (os:Os){H:Type}(enc:TypeId×Value→H):∃ places,DataW.whole enc Tryz.prog (((withType (World.holding Tryz.prog os ⟨#[],#[],[]⟩)).layVars Tryz.prog rdLaid).forCall (fun _ _=>0) ⟨#[],kdArgs,[]⟩).memory Tryz.f5.params.toList Rows.healsSpec.vars false kdArgs.toList 8=some ([.nil,.nil,.lit (.string []),.lit (.int .i64 0),.nil],[],places) :=
 ⟨[],by kernel_rfl⟩
theorem kh_okB (os:Os):Input.okWideB Tryz.checked.prog (((withType (World.holding Tryz.prog os ⟨#[],#[],[]⟩)).layVars Tryz.prog rdLaid).forCall (fun _ _=>0) ⟨#[],kdArgs,[]⟩) 5 ⟨#[],kdArgs,[]⟩=true:=by kernel_rfl
theorem kh_os (os:Os):((withType (World.holding Tryz.prog os ⟨#[],#[],[]⟩)).layVars Tryz.prog rdLaid).os=os:=(World.layVars_os _ _ _).trans rfl
end
section
open Go.ChangeShapes Go.WideShapes Go.ChangeAt Go.RowKit
theorem open_texts {H:Type}{enc:TypeId×Value→H}{w:World}{base:Nat}{spare:Nat→Bool}{held:Bool}{fuel:Nat}{x:DataW H×List MemPlace}{a:Option Addr}{len cap:Nat}
  (h:DataW.trod enc Tryz.prog w base spare held fuel 22 [.slice a len cap]=some x) :
  ∃ ss:List ByteArray,ss.length=len∧len≤maxLen∧(∀ s∈ss,s.size≤maxLen)∧Sss w (.slice a len cap) ss:=by
 rcases open_strings Tryz.underlying22 Tryz.underlying9 (by kernel_rfl) h with ⟨hcs,_⟩ | ⟨x,l,c,ss,hcs,_,hl,hm,hz,_,hcell,hws⟩
 ·simp at hcs
  obtain⟨rfl,rfl,rfl⟩:=hcs
  exact⟨[],rfl,Nat.zero_le _,by simp,⟨none,0,rfl,Nat.le_refl _,.inl rfl⟩⟩
 ·simp at hcs
  obtain⟨rfl,rfl,rfl⟩:=hcs
  have hle:len≤ss.length:=by rw [hz];split<;>omega
  have hlen:(ss.take len).length=len:=by simp;omega
  refine⟨ss.take len,hlen,by omega,fun s hs=>hws s (List.mem_of_mem_take hs),⟨some x,cap,by rw [hlen],by rw [hlen];exact hl,?_⟩⟩
  by_cases h0:len=0
  ·left;simp [h0]
  ·right
   obtain⟨b,off,spot⟩:=x
   have hc0:=hcell 0 (by omega)
   have hspot:spot=none:=by simpa [Addr.add] using World.cell?_spot hc0
   subst hspot
   refine⟨b,off,rfl,fun i hi=>?_⟩
   have:=hcell i (by rw [hlen] at hi;omega)
   rw [Addr.add_mid] at this
   rw [this,List.getElem_take]
   rw [hlen] at hi
   rw [List.getD_eq_getElem?_getD,List.getElem?_eq_getElem (by omega)]
   rfl
end
end Go.Proofs.YtinhekmmdlhfkaaGreatDoor
