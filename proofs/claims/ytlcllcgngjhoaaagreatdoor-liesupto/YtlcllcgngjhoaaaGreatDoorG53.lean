import Derived.Test.YtlcllcgngjhoaaaGreatDoorG49
import Derived.Test.YtlcllcgngjhoaaaGreatDoorG52
set_option maxHeartbeats 8000000
set_option maxRecDepth 100000
set_option linter.all false
namespace Go.Proofs.YtlcllcgngjhoaaaGreatDoor
open Go.RowKit Go.Proofs.Tryz
def znq:=@trodAll_cons_mk
variable {ss:List ByteArray}{v:Value}{w:World}
section
open Go.ChangeShapes Go.WideShapes Go.ChangeAt Go.RowKit
open Go.ChangeMaps (open_string shut_string)
theorem ymk (h:Sss w v ss):Tss w v (ss.map fun s=>s.data.toList):=by
 refine Tss.of ?_;rw [zgv];have e:(tb∘fun s:ByteArray=>s.data.toList)=id:=by
  funext s;show tb s.data.toList=s;unfold tb;rw [Array.toArray_toList]
 rw [e,List.map_id];exact h
theorem ycz (r:Os)(g:r.Started)(H:Type)(d:TypeId×Value→H)(F:Stop.Interp):
  ReturnsInHanded {} checked r 3 .any ((Rows.OpenSpec.upto Rows.liesSpec).preRow d prog f3 Rows.liesUptoRow.domain false Rows.liesUptoRow.laid) (((Rows.OpenSpec.upto Rows.liesSpec).at F).post d prog f3 false true false false):=by
 obtain⟨I,hx⟩:=yhw r d;refine returnsInHanded_of_row (C:=checked) (s:=Rows.OpenSpec.upto Rows.liesSpec) ym5 g (by kernel_rfl) func3
  (z1x (enc:=d) ((zmu (World.holding prog r ⟨#[],#[],[]⟩)).layVars prog zla) zo3 (yog r) (yc0 r) (yng r)
   (OpenSpec.preRow_of_cond 8 hx (by kernel_rfl) (fun k hk=>by cases hk;kernel_rfl) (by kernel_rfl) (ynf r))) ?_
 intro W A b ds gs G f hW _ z _ hL V _;have a:∀(j:Nat) t v,f3.params[j]?=some t→b[j]?=some v→Value.okWide prog W .any A t v:=f;have O:=hW;obtain⟨p,q,D,hV,rfl,ak,al⟩:=hW;have hA:DataW.TrodAll d prog W 0 (fun _=>true) true f3.params.toList b.toList ds p:=D;rw [params3] at hA a;obtain⟨v0,am,d0,ae,p0,q0,P,rfl,rfl,h0,r0⟩:=trodAll_cons hA;obtain⟨v1,an,d1,af,p1,q1,rfl,rfl,rfl,h1,r1⟩:=trodAll_cons r0;obtain⟨v2,ao,d2,ag,p2,q2,rfl,rfl,rfl,h2,r2⟩:=trodAll_cons r1;obtain⟨v3,ap,d3,ah,p3,q3,rfl,rfl,rfl,h3,r3⟩:=trodAll_cons r2;obtain⟨v4,aq,d4,ai,p4,q4,rfl,rfl,rfl,h4,r4⟩:=trodAll_cons r3;obtain⟨rfl,rfl,rfl⟩:=trodAll_nil r4;obtain rfl:b=#[v0,v1,v2,v3,v4]:=by cases b;simp_all
 obtain⟨rfl,rfl⟩:=trodVars_none hV;obtain⟨a0,c,i,rfl⟩:=okWide_slice underlying22 (a 0 22 v0 rfl rfl);obtain⟨i1,rfl,rfl,rfl,w1⟩:=open_int zf5 (a 1 3 v1 rfl rfl) h1;obtain⟨J,rfl,rfl,rfl,w2⟩:=open_string qw (a 2 9 v2 rfl rfl) h2;obtain⟨a3,o,n,rfl⟩:=okWide_slice underlying23 (a 3 23 v3 rfl rfl);obtain⟨i4,rfl,rfl,rfl,w4⟩:=open_int zf5 (a 4 3 v4 rfl rfl) h4;have k0:=h0;have k3:=h3;have ab:∀ x∈p0,x.block < W.heap.size:=by obtain⟨m,T⟩:=k0;exact DataW.trod_lt m _ _ _ T
 have ad:∀ x∈p3,x.block < W.heap.size:=by obtain⟨m,T⟩:=k3;exact DataW.trod_lt m _ _ _ T
 have y:=zhs (z _ rfl);simp only [za3,Rows.uptoBulkAll] at y;obtain⟨E,X,Y,aa,Z⟩:∃ E:List ByteArray,E.length=c∧c≤maxLen∧(∀ s∈E,s.size≤maxLen)∧Sss W (.slice a0 c i) E:=by
  obtain⟨B,Q⟩:=h0;exact z71 (by simpa [Value.cells] using Q)
 obtain⟨L,aj,M,N⟩:∃ L:List Ly,L.length≤Rows.uptoBulk d3∧(∀ l∈L,l.data.length≤Rows.uptoBulk d3)∧Lss W (.slice a3 o n) L:=by
  obtain⟨B,Q⟩:=h3;exact ydb (by simpa [Value.cells] using Q)
 have R:J.data.toList.length≤1048576:=by
  have e:Rows.uptoBulk (.lit (.string J.data.toList):DataW H)=J.data.toList.length+1:=by rw [Rows.uptoBulk]
  omega
 have b1:=bounds_i64 w1;have b4:=bounds_i64 w4;obtain⟨w,-⟩:=yhv hL;obtain⟨K,hs⟩:=yi8 w;clear D f;refine(yhq W K (ynl w V) hs (yl2 w) (.slice a0 c i) (.slice a3 o n) (E.map fun s=>s.data.toList) L i1 i4 J.data.toList b1 b4 R (by rw [yi,X];exact Y) (fun l S=>by
  obtain⟨s,U,rfl⟩:=yl.1 S;have:=aa s U;show s.data.toList.length≤_;have e:s.data.toList.length=s.data.size:=zik;have e2:s.data.size=s.size:=rfl;omega) (by omega) (fun l S=>by have:=M l S;omega) (ymk Z).to N).mono fun e W' ⟨he,u⟩=>?_
 subst he;exact⟨_,rfl,_,_,_,[],_,[],O,trodAll_mk1 (shut_bool underlying4 _),
  (znq (Below.trod zvw (by kernel_rfl) (zhs (by kernel_rfl)) k0 u ab) (znq (shut_int zf5 w1) (znq (shut_string qw w2) (znq (Below.trod zvw (by kernel_rfl) (zhs (by kernel_rfl)) k3 u ad) (znq (shut_int zf5 w4) trodAll_mk0))))),rfl,u.frame _,fun h=>by cases h⟩
end
end Go.Proofs.YtlcllcgngjhoaaaGreatDoor
