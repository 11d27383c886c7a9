import Derived.Test.YtlcllcgngjhoaaaGreatDoorG51
import Derived.Test.YtlcllcgngjhoaaaGreatDoorG38
import Derived.Deep.SlicePairs
set_option maxHeartbeats 8000000
set_option maxRecDepth 100000
set_option linter.all false
namespace Go.Proofs.YtlcllcgngjhoaaaGreatDoor
open Go.RowKit Go.Proofs.Tryz
section
open Go.ChangeShapes Go.WideShapes Go.ChangeAt Go.RowKit
def zo3:Array Value:=#[.slice none 0 0,.int .i64 0,.string ⟨#[]⟩,.slice none 0 0,.int .i64 0]
theorem ynf (a:Os):laidMetH prog Rows.liesUptoRow.laid (((zmu (World.holding prog a ⟨#[],#[],[]⟩)).layVars prog zla).forCall (fun _ _=>0) ⟨#[],zo3,[]⟩).memory :=
 laidMetH_of_parts (z3s (laid:=zla) zo3 (by kernel_rfl) (by kernel_rfl)) (by kernel_rfl)
theorem yc0 (a:Os):(((zmu (World.holding prog a ⟨#[],#[],[]⟩)).layVars prog zla).forCall (fun _ _=>0) ⟨#[],zo3,[]⟩).Shaped prog:=World.shaped_of_ZipB (by kernel_rfl) (by kernel_rfl)
theorem yhw (c:Os){H:Type}(b:TypeId×Value→H):∃ a,DataW.whole b prog (((zmu (World.holding prog c ⟨#[],#[],[]⟩)).layVars prog zla).forCall (fun _ _=>0) ⟨#[],zo3,[]⟩).memory f3.params.toList Rows.liesSpec.vars false zo3.toList 8=some ([.nil,.lit (.int .i64 0),.lit (.string []),.nil,.lit (.int .i64 0)],[],a) :=
 ⟨[],by kernel_rfl⟩
theorem yng (a:Os):Input.okWideB checked.prog (((zmu (World.holding prog a ⟨#[],#[],[]⟩)).layVars prog zla).forCall (fun _ _=>0) ⟨#[],zo3,[]⟩) 3 ⟨#[],zo3,[]⟩=true:=by kernel_rfl
theorem yog (a:Os):((zmu (World.holding prog a ⟨#[],#[],[]⟩)).layVars prog zla).os=a:=(World.layVars_os _ _ _).trans rfl
end
variable {fuel i k:Nat}{held:Bool}{v:Value}{w:World}
section
open Go.ChangeShapes Go.WideShapes Go.ChangeAt Go.RowKit
theorem yj0 (s:ByteArray):Value.string s=qo s.data.toList:=by
 unfold qo;congr 1
theorem z2o {H:Type}:∀(l:List (DataW H)) (d:DataW H),d∈l→Rows.uptoBulk d≤Rows.uptoBulkAll l
 | [],_,h=>by simp at h
 | x::r,d,h=>by
  rw [Rows.uptoBulkAll];rcases jr.1 h with rfl | h
  ·omega
  ·have:=z2o r d h;omega
theorem z2n {H:Type}:∀(l:List (DataW H)),(∀ d∈l,1≤Rows.uptoBulk d)→l.length≤Rows.uptoBulkAll l
 | [],_=>by simp
 | x::r,h=>by
  rw [Rows.uptoBulkAll,y9];have b:=h x zdo;have c:=z2n r (fun d a=>h d (zc0 _ a));omega
theorem yfx {H:Type}(d:DataW H):1≤Rows.uptoBulk d:=by
 cases d with
 | lit l=>cases l<;>simp [Rows.uptoBulk]
 | _=>simp [Rows.uptoBulk]
theorem zyn {H:Type}{D:Nat→DataW H}{a:Nat}{sp:List (DataW H)}(c:i < a)(h:Rows.uptoBulk (D i)=k):k≤Rows.uptoBulk (.slice ((List.range a).map D) sp)∧a≤Rows.uptoBulk (.slice ((List.range a).map D) sp):=by
 have e:=z2o ((List.range a).map D) (D i) (yl.2 ⟨i,zew.2 c,rfl⟩);have b:=z2n ((List.range a).map D) (fun d _=>yfx d);rw [yi,List.length_range] at b;rw [Rows.uptoBulk];omega
theorem ydb {H:Type}{r:TypeId×Value→H}{p:Nat}{a:Nat→Bool}{x:DataW H×List MemPlace}
 (h:DataW.trod r prog w p a held fuel 23 [v]=some x) :
  ∃ N:List Ly,N.length≤Rows.uptoBulk x.1∧(∀ l∈N,l.data.length≤Rows.uptoBulk x.1)∧Lss w v N:=by
 have ce:prog.cellsOf 36=4:=by kernel_rfl
 have c3:prog.cellsOf 3=1:=by kernel_rfl
 have c4:prog.cellsOf 4=1:=by kernel_rfl
 have P:prog.cellsOf 9=1:=by kernel_rfl
 rcases Go.Deep.open_slice underlying23 h with ⟨s,_⟩ | ⟨z,l,c,m,n,D,Pl,s,hb,hl,hm,K,rfl,hx⟩
 ·simp at s;subst s;exact⟨[],yv _,by simp,⟨none,0,rfl,.inl rfl⟩⟩
 ·simp at s;subst s;have ab:l≤m:=by rw [K];split<;>omega
  have A:∀ i,i < l→∃ o:zc×zc×Bool×Int,w.cell? (z.add (i*4))=some (qo o.1)∧w.cell? (z.add (i*4+1))=some (qo o.2.1)∧w.cell? (z.add (i*4+2))=some (.bool o.2.2.1)∧w.cell? (z.add (i*4+3))=some (.int .i64 o.2.2.2)∧o.2.1.length≤Rows.uptoBulk (D i):=by
   intro i B;obtain⟨G,t,I⟩:=hx i (by omega);rw [ce] at t;obtain⟨_,d,f⟩:=World.cells?_some t;obtain⟨xs,k,hk,M,_,L,F⟩:=DataW.trod_struct underlying36 I
   match xs,L,G,d with
   | [y0,y1,y2,y3],_,[v0,v1,v2,v3],_ =>
    have g0:DataW.trod r prog w p a held k 9 [v0]=some y0:=by have:=F 0 _ rfl;simpa [P] using this
    have g1:DataW.trod r prog w p a held k 9 [v1]=some y1:=by have:=F 1 _ rfl;simpa [P] using this
    have g2:DataW.trod r prog w p a held k 4 [v2]=some y2:=by have:=F 2 _ rfl;simpa [c4] using this
    have g3:DataW.trod r prog w p a held k 3 [v3]=some y3:=by have:=F 3 _ rfl;simpa [c3] using this
    obtain⟨n0,Q,-,-⟩:=DataW.trod_string qw g0;obtain⟨U,R,b1,-⟩:=DataW.trod_string qw g1;obtain⟨n2,S,-⟩:=DataW.trod_bool underlying4 g2;obtain⟨n3,T,-,-⟩:=DataW.trod_int zf5 g3;simp only [ztr,zl9] at Q R S T;have d0:=f 0 (by omega);have d1:=f 1 (by omega);have d2:=f 2 (by omega);have d3:=f 3 (by omega);rw [Go.Deep.add_add] at d0 d1 d2 d3;refine⟨(n0.data.toList,U.data.toList,n2,n3),by simpa [Q,yj0] using d0,by simpa [R,yj0] using d1,by simpa [S] using d2,by simpa [T] using d3,?_⟩;have hD:D i= .agg [y0.1,y1.1,y2.1,y3.1]:=by
     have:=congrArg Prod.fst M;simpa using this
    rw [hD,b1,Rows.uptoBulk,Rows.uptoBulkAll,Rows.uptoBulkAll,Rows.uptoBulk];show U.data.toList.length≤_;omega
  obtain⟨g,J⟩:=Go.Deep.choose_lt A;have d:((List.range l).map fun i=>(⟨(g i).1,(g i).2.1,(g i).2.2.1,(g i).2.2.2⟩:Ly)).length=l:=by simp
  refine⟨(List.range l).map fun i=>(⟨(g i).1,(g i).2.1,(g i).2.2.1,(g i).2.2.2⟩:Ly),?_,fun o ho=>?_,⟨some z,c,by rw [d],?_⟩⟩
  ·rw [d]
   by_cases h0:l=0
   ·rw [h0];exact yv _
   ·exact(zyn (D:=D) (show 0 < l by omega) rfl).2
  ·obtain⟨i,B,rfl⟩:=yl.1 ho;have C:=zew.1 B;have t:=(J i C).2.2.2.2;have I:=(zyn (D:=D) (sp:=(List.range (m - l)).map fun j=>D (l+j)) C rfl).1;exact zu t I
  ·by_cases h0:l=0
   ·left;simp [h0]
   ·right
    obtain⟨b,O,E⟩:=z;have y:E=none:=by simpa [Addr.add] using World.cell?_spot (J 0 (by omega)).1
    subst y;refine⟨b,O,rfl,fun j u q=>?_⟩;have aa:j < l*4:=by
     have t:=(xy.1 q).1;rw [zut,d] at t;exact t
    have B:j / 4 < l:=by omega
    obtain⟨Z,q1,q2,q3,-⟩:=J (j / 4) B;obtain⟨V,W,X,Y⟩:=yhm ((List.range l).map fun i=>(⟨(g i).1,(g i).2.1,(g i).2.2.1,(g i).2.2.2⟩:Ly)) (j / 4) (by rw [d];exact B);rw [za4,List.getElem_range] at V W X Y;rw [zcc] at Z q1 q2 q3;rcases(by omega:j=j / 4*4∨j=j / 4*4+1∨j=j / 4*4+2∨j=j / 4*4+3) with e | e | e | e
    ·rw [e] at q ⊢;rw [V] at q;rw [← q];exact Z
    ·rw [e] at q ⊢;rw [W] at q;rw [← q];exact q1
    ·rw [e] at q ⊢;rw [X] at q;rw [← q];exact q2
    ·rw [e] at q ⊢;rw [Y] at q;rw [← q];exact q3
end
variable {cap:Nat}
section
open Go.ChangeShapes Go.WideShapes Go.ChangeAt Go.RowKit
theorem z71 {H:Type}{p:TypeId×Value→H}{n:Nat}{k:Nat→Bool}{x:DataW H×List MemPlace}{a:Option Addr}{d:Nat}
 (h:DataW.trod p prog w n k held fuel 22 [.slice a d cap]=some x) :
  ∃ m:List ByteArray,m.length=d∧d≤maxLen∧(∀ s∈m,s.size≤maxLen)∧Sss w (.slice a d cap) m:=by
 rcases open_strings underlying22 qw (by kernel_rfl) h with ⟨g,_⟩ | ⟨x,l,c,m,g,_,v,B,A,_,f,r⟩
 ·simp at g;obtain⟨rfl,rfl,rfl⟩:=g;exact⟨[],rfl,yv _,by simp,⟨none,0,rfl,zm _,.inl rfl⟩⟩
 ·simp at g;obtain⟨rfl,rfl,rfl⟩:=g;have y:d≤m.length:=by rw [A];split<;>omega
  have e:(m.take d).length=d:=by simp;omega
  refine⟨m.take d,e,by omega,fun s z=>r s (qh z),⟨some x,cap,by rw [e],by rw [e];exact v,?_⟩⟩
  by_cases h0:d=0
  ·left;simp [h0]
  ·right
   obtain⟨b,t,o⟩:=x;have q:=f 0 (by omega);have j:o=none:=by simpa [Addr.add] using World.cell?_spot q
   subst j;refine⟨b,t,rfl,fun i u=>?_⟩;have:=f i (by rw [e] at u;omega);rw [zcc] at this;rw [this,vv];rw [e] at u;rw [zl,zt (by omega)]
   rfl
end
end Go.Proofs.YtlcllcgngjhoaaaGreatDoor
