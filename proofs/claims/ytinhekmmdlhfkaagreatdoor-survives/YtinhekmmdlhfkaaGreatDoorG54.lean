import Derived.Test.YtinhekmmdlhfkaaGreatDoorG50
import Derived.Test.YtinhekmmdlhfkaaGreatDoorG53
import Derived.Test.YtinhekmmdlhfkaaGreatDoorTie
import Derived.Test.YtinhekmmdlhfkaaGreatDoorCards
import Derived.SevenTiedAt
namespace Go.Proofs.YtinhekmmdlhfkaaGreatDoor
section
open Go.ChangeShapes Go.WideShapes Go.ChangeAt Go.RowKit
open Go.ChangeMaps (open_string shut_string)
theorem z7h {w:World}{v:Value}{ss:List ByteArray}(h:Sss w v ss):Tss w v (ss.map fun s=>s.data.toList):=by
 refine Tss.of ?_
 rw [List.map_map]
 have e:(tb∘fun s:ByteArray=>s.data.toList)=id:=by
  funext s
  show tb s.data.toList=s
  unfold tb
  rw [Array.toArray_toList]
 rw [e,List.map_id]
 exact h
set_option maxRecDepth 100000 in
theorem zr5 (os:Os)(started:os.Started)(H:Type)(enc:TypeId×Value→H)(F:Stop.Interp):
  ReturnsInHanded {} Tryz.checked os 3 .any ((OpenSpec.ofChange Rows.survivesSpec).preRow enc Tryz.prog Tryz.f3 Rows.survivesRow.domain false Rows.survivesRow.laid) (((OpenSpec.ofChange Rows.survivesSpec).at F).post enc Tryz.prog Tryz.f3 false true false false):=by
 obtain⟨places,hx⟩:=z02 os enc
 refine returnsInHanded_of_row (C:=Tryz.checked) (s:=OpenSpec.ofChange Rows.survivesSpec) z83 started (by kernel_rfl) Tryz.func3
  (zqm (enc:=enc) ((zem (World.holding Tryz.prog os ⟨#[],#[],[]⟩)).layVars Tryz.prog zds) zg2 (z9e os) (zz4 os) (z8t os)
   (OpenSpec.preRow_of_cond 8 hx (by kernel_rfl) (fun k hk=>by cases hk) (by kernel_rfl) (z8b os))) ?_
 intro W base args ds gs before hval0 hW _ _ _ hL hsh _
 have hval:∀(j:Nat) t v,Tryz.f3.params[j]?=some t→args[j]?=some v→Value.okWide Tryz.prog W .any base t v:=hval0
 have hW':=hW
 obtain⟨p,q,hA0,hV,rfl,hfz,hnd⟩:=hW
 have hA:DataW.TrodAll enc Tryz.prog W 0 (fun _=>true) true Tryz.f3.params.toList args.toList ds p:=hA0
 rw [Tryz.params3] at hA hval
 obtain⟨v0,vs0,d0,ds0,p0,q0,hargs,rfl,rfl,h0,r0⟩:=trodAll_cons hA
 obtain⟨v1,vs1,d1,ds1,p1,q1,rfl,rfl,rfl,h1,r1⟩:=trodAll_cons r0
 obtain⟨v2,vs2,d2,ds2,p2,q2,rfl,rfl,rfl,h2,r2⟩:=trodAll_cons r1
 obtain⟨v3,vs3,d3,ds3,p3,q3,rfl,rfl,rfl,h3,r3⟩:=trodAll_cons r2
 obtain⟨v4,vs4,d4,ds4,p4,q4,rfl,rfl,rfl,h4,r4⟩:=trodAll_cons r3
 obtain⟨rfl,rfl,rfl⟩:=trodAll_nil r4
 obtain rfl:args=#[v0,v1,v2,v3,v4]:=by cases args;simp_all
 obtain⟨rfl,rfl⟩:=trodVars_none hV
 obtain⟨a0,len0,cap0,rfl⟩:=okWide_slice Tryz.underlying22 (hval 0 22 v0 rfl rfl)
 obtain⟨a1,len1,cap1,rfl⟩:=okWide_slice Tryz.underlying23 (hval 1 23 v1 rfl rfl)
 obtain⟨s2,rfl,rfl,rfl,w2⟩:=open_string Tryz.underlying9 (hval 2 9 v2 rfl rfl) h2
 obtain⟨i3,rfl,rfl,rfl,w3⟩:=open_int Tryz.underlying3 (hval 3 3 v3 rfl rfl) h3
 obtain⟨b4,rfl,rfl,rfl⟩:=open_bool Tryz.underlying4 (hval 4 4 v4 rfl rfl) h4
 have k0:=h0
 have k1:=h1
 have lt0:∀ x∈p0,x.block < W.heap.size:=by obtain⟨m,hm⟩:=k0;exact DataW.trod_lt m _ _ _ hm
 have lt1:∀ x∈p1,x.block < W.heap.size:=by obtain⟨m,hm⟩:=k1;exact DataW.trod_lt m _ _ _ hm
 obtain⟨ss,-,-,hsz,hss⟩:∃ ss:List ByteArray,ss.length=len0∧len0≤maxLen∧(∀ s∈ss,s.size≤maxLen)∧Sss W (.slice a0 len0 cap0) ss:=by
  obtain⟨fuel,hf⟩:=h0
  exact zvr (by simpa [Value.cells] using hf)
 obtain⟨az,haz,hab,hI⟩:∃ az:List Int,az.length≤9223372036854775807∧(∀ a∈az,-9223372036854775808≤a∧a≤9223372036854775807)∧Iss W (.slice a1 len1 cap1) az:=by
  obtain⟨fuel,hf⟩:=h1
  exact zzc (by simpa [Value.cells] using hf)
 have hkl:s2.data.toList.length≤9223372036854775807:=by
  have e:s2.data.toList.length=s2.size:=Array.length_toList
  have e2:=w2
  unfold maxLen at e2
  omega
 obtain⟨hL1,hL2⟩:=z2p hL
 have hb3:=bounds_i64 w3
 obtain⟨at_,hs⟩:=z4u hL1
 clear hA0 hval0
 refine(zp9 W at_ (z81 hL1 hsh) hs (z7l hL1) (z8x hL2) (.slice a0 len0 cap0) (.slice a1 len1 cap1) (ss.map fun s=>s.data.toList) az s2.data.toList i3 b4 hb3 (fun l hl=>by
  obtain⟨s,hs',rfl⟩:=List.mem_map.1 hl
  have:=hsz s hs'
  unfold maxLen at this
  show s.data.toList.length≤_
  have e:s.data.toList.length=s.data.size:=Array.length_toList
  have e2:s.data.size=s.size:=rfl
  omega) hkl (by omega) hab (z7h hss) hI).mono fun e W' ⟨he,bel⟩=>?_
 subst he
 exact⟨_,rfl,_,_,_,[],_,[],hW',trodAll_mk1 (shut_bool Tryz.underlying4 _),
  (trodAll_cons_mk (Below.trod znn (by kernel_rfl) (of_decide_eq_true (by kernel_rfl)) k0 bel lt0) (trodAll_cons_mk (Below.trod znn (by kernel_rfl) (of_decide_eq_true (by kernel_rfl)) k1 bel lt1) (trodAll_cons_mk (shut_string Tryz.underlying9 w2) (trodAll_cons_mk (shut_int Tryz.underlying3 w3) (trodAll_cons_mk (shut_bool Tryz.underlying4 _) trodAll_mk0))))),rfl,bel.frame _,fun h=>by cases h⟩
theorem zx1:Rows.SurvivesSaid :=
 OpenClaim.holds_of_cond 3 Tryz.f3 rfl rfl rfl rfl rfl rfl rfl ⟨rfl,rfl,rfl,rfl,rfl⟩ rfl rfl rfl rfl rfl (by kernel_rfl) Tryz.func3 (by kernel_rfl)
  (of_decide_eq_true (by kernel_rfl)) (by unfold Func.isWrapper;first | (rw [if_pos (by decide +kernel)];kernel_rfl) | (rw [if_neg (by decide +kernel)];exact⟨rfl,rfl⟩))
  (fun os started H enc _ F=>by rw [OpenClaim.pre_eq_preRow];exact zr5 os started H enc F)
theorem zfz (t:TypeId)(h:t=22∨t=23∨t=9∨t=3∨t=4):Tryz.prog.wantsStandIn t=false:=by
 rcases h with rfl | rfl | rfl | rfl | rfl
 ·kernel_rfl
 ·kernel_rfl
 ·kernel_rfl
 ·kernel_rfl
 ·kernel_rfl
theorem surv_card:Rows.SurvivesCardSaid :=
 Claim7.holds_tied_plain_at .later [] _ _ _ _ zx1 (fun _ h=>by cases h) (by kernel_rfl) (fun _ h=>by cases h) survives_row_tie rfl ⟨rfl,rfl⟩ (by kernel_rfl) rfl
  (fun f fn hf hfn=>by
   obtain rfl:f=3:=Option.some.inj ((show Tryz.prog.funcNamed "tiles/tileskeep.Survives"=some 3 by kernel_rfl).symm.trans hf) |>.symm
   obtain rfl:fn=Tryz.f3:=(Option.some.inj (Tryz.func3.symm.trans hfn)).symm
   exact⟨by kernel_rfl,fun j t ht=>by
    rw [Tryz.params3] at ht
    match j,ht with
    | 0,ht=>exact zfz t (.inl (Option.some.inj ht).symm)
    | 1,ht=>exact zfz t (.inr (.inl (Option.some.inj ht).symm))
    | 2,ht=>exact zfz t (.inr (.inr (.inl (Option.some.inj ht).symm)))
    | 3,ht=>exact zfz t (.inr (.inr (.inr (.inl (Option.some.inj ht).symm))))
    | 4,ht=>exact zfz t (.inr (.inr (.inr (.inr (Option.some.inj ht).symm))))
    | j+5,ht=>simp at ht⟩)
  (by kernel_rfl)
end
end Go.Proofs.YtinhekmmdlhfkaaGreatDoor
