import Derived.Test.YtfdbeldiomkdiaaGreatDoorG45
import Derived.Test.YtfdbeldiomkdiaaGreatDoorG30
import Derived.LaidMore
set_option maxHeartbeats 8000000
set_option maxRecDepth 100000
set_option linter.all false
namespace Go.Proofs.YtfdbeldiomkdiaaGreatDoor
open Go.RowKit Go.Proofs.Tryz
variable {W:World}{g:Nat}{text:zb}
section
open Go.ChangeShapes Go.WideShapes Go.ChangeAt Go.RowKit
def Vx:prog.cellsOf 394=1:=by kernel_rfl
def zfp:prog.cellsOf 9=1:=by kernel_rfl
def zae: "*" ++ "errors.errorString" = "*errors.errorString":=by decide
def znp (u:TypeId)(h:prog.typeName? 3 u=some "*errors.errorString"):u=392:=
 typeName_ptr_named (nm:= "errors.errorString") (by rw[zae];kernel_rfl) (by kernel_rfl) (by decide) u (by rw[zae];exact h)
def Gb {n:String}{r:List (String×DataW Unit)}{p:List MemPlace}
 (h:DataW.LaidVars prog W ((n,.iface "*errors.errorString" (.ptr (.agg [.lit (.string text)])))::r) p)
 (f:∀b j,MemPlace.cell b j∈p->(∃c t,W.heap[b]?=some (.cells c t (0,0)))/\∀u v,W.cell? ⟨b,j,none⟩=some (.iface u v)->Value.okWide prog W .any 0 u v)
 (y:prog.globalNamed n=some g) (B:(prog.globals[g]?).map (·.type)=some 100) :
  ∃a q,W.cell? ⟨g,0,none⟩=some (.iface 392 (.pointer (some a)))/\DataW.LaidVars prog W r q/\p=.cell g 0:: .cell a.block a.off::q:=by
 obtain⟨F,t0,k,f0,G,E,d,m,i,l,z,w⟩:=h;obtain rfl:=qj (y.symm.trans d);obtain rfl:=qj (B.symm.trans m);subst w;obtain⟨D⟩:=k;have o:∀u v,D=[.iface u v]->Value.okWide prog W .any 0 u v:=λu v e=>by
  subst e;exact(f g 0 (by simp[MemPlace.row])).2 u v (by simpa using Kb d i 0)
 obtain⟨s,H,rfl,x,A,C,rfl⟩:=errorString_of_trod underlying100 znp underlying392 underlying394 rfl rfl xt Vx zfp l o;exact⟨s,E,by simpa using Kb d i 0,z,by simp[MemPlace.row,DK]⟩
def Sx {rest:List (String×DataW Unit)}(h:laidMet prog (("tiles/api.ErrEntry",Rows.laid_tiles_api_ErrEntry)::("tiles/api.ErrRange",Rows.laid_tiles_api_ErrRange)::("tiles/api.ErrCheckpoint",Rows.laid_tiles_api_ErrCheckpoint)::("tiles/api.ErrOld",Rows.laid_tiles_api_ErrOld)::("tiles/api.ErrProof",Rows.laid_tiles_api_ErrProof)::("tiles/api.ErrTile",Rows.laid_tiles_api_ErrTile)::("tiles/api.ErrFailed",Rows.laid_tiles_api_ErrFailed)::rest) W):∃w,vj W w:=by
 obtain⟨T,hv,y,c⟩:=h;obtain⟨f,U,z,M,l⟩:=Gb (g:=1) hv c (by kernel_rfl) (by kernel_rfl);obtain⟨n,V,A,N,G⟩:=Gb (g:=0) M (λb o d=>c b o (by rw[l];simp[d])) (by kernel_rfl) (by kernel_rfl);subst G;obtain⟨p,X,B,O,H⟩:=Gb (g:=2) N (λb o d=>c b o (by rw[l];simp[d])) (by kernel_rfl) (by kernel_rfl);subst H;obtain⟨q,Y,C,P,I⟩:=Gb (g:=3) O (λb o d=>c b o (by rw[l];simp[d])) (by kernel_rfl) (by kernel_rfl);subst I;obtain⟨r,Z,D,Q,J⟩:=Gb (g:=4) P (λb o d=>c b o (by rw[l];simp[d])) (by kernel_rfl) (by kernel_rfl);subst J;obtain⟨s,q5,E,R,K⟩:=Gb (g:=6) Q (λb o d=>c b o (by rw[l];simp[d])) (by kernel_rfl) (by kernel_rfl);subst K;obtain⟨t,q6,F,S,L⟩:=Gb (g:=5) R (λb o d=>c b o (by rw[l];simp[d])) (by kernel_rfl) (by kernel_rfl);subst L;clear S;subst l;have k:([f,n,p,q,r,s,t].map λa=>MemPlace.cell a.block a.off).Nodup:=by
  refine List.Nodup.sublist ?_ y
  repeat (first|exact List.nil_sublist _|(apply List.Sublist.cons;apply List.Sublist.cons_cons))
 rw[List.Nodup,List.pairwise_map]at k;refine⟨λi=>[f,n,p,q,r,s,t].getD i f,z,A,B,C,D,E,F,?_,?_⟩
 ·have v:∀i j,i<j->(u:j<7)->[f,n,p,q,r,s,t].getD i f≠[f,n,p,q,r,s,t].getD j f:=by
   intro i j m u e;have:=FN.1 k i j (by simp;omega) (by simpa using u) m;rw[zj,zj,zo (by simp;omega),zo (by simpa using u),AX,AX]at e;exact this (by rw[e])
  intro i j x u m;rcases Nat.lt_or_gt_of_ne m with h|h
  ·exact v i j h u
  ·exact λe=>v j i h x e.symm
 ·intro i x
  match i,x with
  |0,_=>exact(c f.block f.off (by simp)).1
  |1,_=>exact(c n.block n.off (by simp)).1
  |2,_=>exact(c p.block p.off (by simp)).1
  |3,_=>exact(c q.block q.off (by simp)).1
  |4,_=>exact(c r.block r.off (by simp)).1
  |5,_=>exact(c s.block s.off (by simp)).1
  |6,_=>exact(c t.block t.off (by simp)).1
def I3:List (String×DataW Unit):=[("math/bits.deBruijn32tab",Rows.laid_math_bits_deBruijn32tab),("math/bits.deBruijn64tab",Rows.laid_math_bits_deBruijn64tab),("internal/strconv.uint64pow10",Rows.laid_internal_strconv_uint64pow10),("unicode/utf8.acceptRanges",Rows.laid_unicode_utf8_acceptRanges),("strconv.ErrRange",Rows.laid_strconv_ErrRange),("strconv.ErrSyntax",Rows.laid_strconv_ErrSyntax),("tiles/api.ErrEntry",Rows.laid_tiles_api_ErrEntry),("tiles/api.ErrRange",Rows.laid_tiles_api_ErrRange),("tiles/api.ErrCheckpoint",Rows.laid_tiles_api_ErrCheckpoint),("tiles/api.ErrOld",Rows.laid_tiles_api_ErrOld),("tiles/api.ErrProof",Rows.laid_tiles_api_ErrProof),("tiles/api.ErrTile",Rows.laid_tiles_api_ErrTile),("tiles/api.ErrFailed",Rows.laid_tiles_api_ErrFailed),("unicode/utf8.first",Rows.laid_unicode_utf8_first)]
def zm4:prog.globalNamed "errors.errorType"=some 7:=by kernel_rfl
def zol:(prog.cutTypes.find? (·.1 == "internal/reflectlite.rtype") ).map (·.2)=some 305:=by kernel_rfl
def zm3:((List.range prog.types.size).filter λt=>prog.rowNamed t [101,114,114,111,114])=[100]:=by kernel_rfl
def zbl:typeHandle prog 100=Mp 100:=by kernel_rfl
def zm5 (h:handlesMet prog [("errors.errorType",Rows.laid_errors_errorType)] W):RW W:=by
 obtain⟨a,u,j,d,e,f,g,b⟩:=h _ (yl.2 rfl);have i:a=[101,114,114,111,114]:=(qj d).symm;subst i;obtain rfl:=qj (zol.symm.trans e);have c:j∈(List.range prog.types.size).filter λt=>prog.rowNamed t [101,114,114,111,114]:=CX.2 ⟨CH.2 f,g⟩;rw[zm3]at c;obtain rfl:=yl.1 c;rw[zbl]at b;exact(Kb zm4 b 0).trans rfl
def zno (a:laidMet prog I3 W)(b:W.ShapedOpen prog):DW W:=
 ⟨zh4 a.tail.tail,Q7 zkm zlx a.tail.tail.tail.tail.tail,Q7 zkl zlq a.tail.tail.tail.tail,zhb b⟩
def zik (b:laidMet prog I3 W):∃a,vj W a:=Sx b.tail.tail.tail.tail.tail.tail
def zly:(prog.globals[13]?).map (·.type) =some 404:=by kernel_rfl
def zaf:prog.globalNamed "math/bits.deBruijn64tab"=some 13:=by kernel_rfl
def zi6:prog.cellsOf 404=64:=by kernel_rfl
def za8:prog.cellsOf 5=1:=by kernel_rfl
def zi7 {rest:List (String×DataW Unit)}(h:laidMet prog (("math/bits.deBruijn64tab",Rows.laid_math_bits_deBruijn64tab)::rest) W):F0 W:=by
 have a:Lib.TabIs prog W "math/bits.deBruijn64tab" .u8 (Lib.deBruijn64tab.map λ(n:Nat)=>(n:Int)):=Lib.tabIs_of_head (rest:=rest) zaf zly underlying404 jc za8 zi6 h;intro j c;have b:=Kb zaf a j;rw[b];simp[zj,zo c]
def zlj (a:laidMet prog I3 W):F0 W:=zi7 a.tail
end
variable {w0:World}
section
open Go.ChangeShapes Go.WideShapes Go.ChangeAt Go.RowKit
def Wg {laid:List (String×DataW Unit)}(a:Array Value)(e:w0.layFits prog laid []=true)(f:w0.layIfaces prog laid (w0.layVars prog laid)=true):
  laidMet prog laid ((w0.layVars prog laid).forCall (λ_ _=>0) ⟨#[],a,[]⟩).memory:=by
 have b:(laid.filter λx=>(laid.map (·.1)).contains x.1)=laid:=Ay.2 λx c=>List.contains_iff_mem.2 (yi.2 ⟨x,c,rfl⟩);have d:(laid.filter λx=>!(laid.map (·.1)).contains x.1)=[]:=List.filter_eq_nil_iff.2 λx c=>by rw[List.contains_iff_mem.2 (yi.2 ⟨x,c,rfl⟩)];simp
 have h:laidMet prog laid (w0.layVars prog laid):=laidMet_layVars (w0:=w0) (laid.map (·.1)) [] (by rw[b]) (by rw[b];exact e) (by rw[b];exact f) (by rw[d];exact LaidIn.none);exact h.of_heap (by simp[World.memory,World.forCall,Input.heap])
def JV (w:World):World:={w with heap:=w.heap.modify 7 fun
 |.cells _ t frozen=>.cells #[Zp 100] t frozen
 |o=>o}
end
end Go.Proofs.YtfdbeldiomkdiaaGreatDoor
