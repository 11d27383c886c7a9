import Derived.Test.YtlcllcgngjhoaaaGreatDoorG50
import Derived.Test.YtlcllcgngjhoaaaGreatDoorG40
import Derived.LaidMore
set_option maxHeartbeats 8000000
set_option maxRecDepth 100000
set_option linter.all false
namespace Go.Proofs.YtlcllcgngjhoaaaGreatDoor
open Go.RowKit Go.Proofs.Tryz
variable {W:World}{g:Nat}{text:zc}
section
open Go.ChangeShapes Go.WideShapes Go.ChangeAt Go.RowKit
theorem z2s:prog.cellsOf 366=1:=by kernel_rfl
theorem yf3:prog.cellsOf 9=1:=by kernel_rfl
theorem yay : "*" ++ "errors.errorString" = "*errors.errorString":=by decide
theorem ynm (u:TypeId)(h:prog.typeName? 3 u=some "*errors.errorString"):u=364 :=
 typeName_ptr_named (nm := "errors.errorString") (by rw [yay];kernel_rfl) (by kernel_rfl) (by decide) u (by rw [yay];exact h)
theorem ziu {n:String}{r:List (String×DataW Unit)}{ps:List MemPlace}
 (h:DataW.LaidVars prog W ((n,.iface "*errors.errorString" (.ptr (.agg [.lit (.string text)])))::r) ps)
 (f:∀ b j,MemPlace.cell b j∈ps→(∃ c t,W.heap[b]?=some (.cells c t (0,0)))∧∀ u v,W.cell? ⟨b,j,none⟩=some (.iface u v)→Value.okWide prog W .any 0 u v)
 (x:prog.globalNamed n=some g) (A:(prog.globals[g]?).map (·.type)=some 102) :
  ∃ a q,W.cell? ⟨g,0,none⟩=some (.iface 364 (.pointer (some a)))∧DataW.LaidVars prog W r q∧ps= .cell g 0:: .cell a.block a.off::q:=by
 obtain⟨E,t0,k,f0,F,D,d,m,i,l,y,s⟩:=h;obtain rfl:=jd (x.symm.trans d);obtain rfl:=jd (A.symm.trans m);subst s;obtain⟨C⟩:=k;have o:∀ u v,C=[.iface u v]→Value.okWide prog W .any 0 u v:=fun u v e=>by
  subst e;exact(f g 0 (by simp [MemPlace.row])).2 u v (by simpa using zts d i 0)
 obtain⟨p,G,rfl,w,z,B,rfl⟩:=errorString_of_trod underlying102 ynm underlying364 underlying366 rfl rfl qw z2s yf3 l o;exact⟨p,D,by simpa using zts d i 0,y,by simp [MemPlace.row,zfe]⟩
theorem zyf {rest:List (String×DataW Unit)}(h:laidMet prog (("tiles/api.ErrEntry",Rows.laid_tiles_api_ErrEntry)::("tiles/api.ErrRange",Rows.laid_tiles_api_ErrRange)::("tiles/api.ErrCheckpoint",Rows.laid_tiles_api_ErrCheckpoint)::("tiles/api.ErrOld",Rows.laid_tiles_api_ErrOld)::("tiles/api.ErrProof",Rows.laid_tiles_api_ErrProof)::("tiles/api.ErrTile",Rows.laid_tiles_api_ErrTile)::("tiles/api.ErrFailed",Rows.laid_tiles_api_ErrFailed)::rest) W):∃ w,zbz W w:=by
 obtain⟨ps,hv,y,c⟩:=h;obtain⟨f,T,z,M,l⟩:=ziu (g:=1) hv c (by kernel_rfl) (by kernel_rfl);obtain⟨n,U,A,N,G⟩:=ziu (g:=2) M (fun b o d=>c b o (by rw [l];simp [d])) (by kernel_rfl) (by kernel_rfl);subst G;obtain⟨p,V,B,O,H⟩:=ziu (g:=0) N (fun b o d=>c b o (by rw [l];simp [d])) (by kernel_rfl) (by kernel_rfl);subst H;obtain⟨q,X,C,P,I⟩:=ziu (g:=3) O (fun b o d=>c b o (by rw [l];simp [d])) (by kernel_rfl) (by kernel_rfl);subst I;obtain⟨r,Y,D,Q,J⟩:=ziu (g:=4) P (fun b o d=>c b o (by rw [l];simp [d])) (by kernel_rfl) (by kernel_rfl);subst J;obtain⟨s,Z,E,R,K⟩:=ziu (g:=6) Q (fun b o d=>c b o (by rw [l];simp [d])) (by kernel_rfl) (by kernel_rfl);subst K;obtain⟨t,q6,F,S,L⟩:=ziu (g:=5) R (fun b o d=>c b o (by rw [l];simp [d])) (by kernel_rfl) (by kernel_rfl);subst L;clear S;subst l;have k:([f,n,p,q,r,s,t].map fun a=>MemPlace.cell a.block a.off).Nodup:=by
  refine List.Nodup.sublist ?_ y
  repeat (first | exact List.nil_sublist _ | (apply List.Sublist.cons;apply List.Sublist.cons_cons))
 rw [List.Nodup,List.pairwise_map] at k;refine⟨fun i=>[f,n,p,q,r,s,t].getD i f,z,A,B,C,D,E,F,?_,?_⟩
 ·have v:∀ i j,i < j→(u:j < 7)→[f,n,p,q,r,s,t].getD i f≠[f,n,p,q,r,s,t].getD j f:=by
   intro i j m u e;have:=zp5.1 k i j (by simp;omega) (by simpa using u) m;rw [zl,zl,zt (by simp;omega),zt (by simpa using u),zc2,zc2] at e;exact this (by rw [e])
  intro i j x u m;rcases Nat.lt_or_gt_of_ne m with h | h
  ·exact v i j h u
  ·exact fun e=>v j i h x e.symm
 ·intro i x
  match i,x with
  | 0,_=>exact(c f.block f.off (by simp)).1
  | 1,_=>exact(c n.block n.off (by simp)).1
  | 2,_=>exact(c p.block p.off (by simp)).1
  | 3,_=>exact(c q.block q.off (by simp)).1
  | 4,_=>exact(c r.block r.off (by simp)).1
  | 5,_=>exact(c s.block s.off (by simp)).1
  | 6,_=>exact(c t.block t.off (by simp)).1
def zla:List (String×DataW Unit):=[("math/bits.deBruijn32tab",Rows.laid_math_bits_deBruijn32tab),("math/bits.deBruijn64tab",Rows.laid_math_bits_deBruijn64tab),("internal/strconv.uint64pow10",Rows.laid_internal_strconv_uint64pow10),("unicode/utf8.acceptRanges",Rows.laid_unicode_utf8_acceptRanges),("strconv.ErrRange",Rows.laid_strconv_ErrRange),("strconv.ErrSyntax",Rows.laid_strconv_ErrSyntax),("tiles/api.ErrEntry",Rows.laid_tiles_api_ErrEntry),("tiles/api.ErrRange",Rows.laid_tiles_api_ErrRange),("tiles/api.ErrCheckpoint",Rows.laid_tiles_api_ErrCheckpoint),("tiles/api.ErrOld",Rows.laid_tiles_api_ErrOld),("tiles/api.ErrProof",Rows.laid_tiles_api_ErrProof),("tiles/api.ErrTile",Rows.laid_tiles_api_ErrTile),("tiles/api.ErrFailed",Rows.laid_tiles_api_ErrFailed),("unicode/utf8.first",Rows.laid_unicode_utf8_first)]
theorem yhv (a:laidMetH prog Rows.liesUptoRow.laid W):laidMet prog zla W∧handlesMet prog [("errors.errorType",Rows.laid_errors_errorType)] W:=a
theorem ynl (a:laidMet prog zla W)(b:W.ShapedOpen prog):Env W :=
 ⟨yiv a.tail.tail,zv5 yla yme a.tail.tail.tail.tail.tail,zv5 yk9 yma a.tail.tail.tail.tail,yhy b⟩
theorem yi8 (b:laidMet prog zla W):∃ a,zbz W a:=zyf b.tail.tail.tail.tail.tail.tail
theorem ymf:(prog.globals[11]?).map (·.type) =some 361:=by kernel_rfl
theorem yaz:prog.globalNamed "math/bits.deBruijn64tab"=some 11:=by kernel_rfl
theorem yju:prog.cellsOf 361=64:=by kernel_rfl
theorem ybm:prog.cellsOf 5=1:=by kernel_rfl
theorem yjv {rest:List (String×DataW Unit)}(h:laidMet prog (("math/bits.deBruijn64tab",Rows.laid_math_bits_deBruijn64tab)::rest) W):zjx W:=by
 have a:Lib.TabIs prog W "math/bits.deBruijn64tab" .u8 (Lib.deBruijn64tab.map fun(n:Nat)=>(n:Int)):=Lib.tabIs_of_head (rest:=rest) yaz ymf underlying361 jt ybm yju h;intro j c;have b:=zts yaz a j;rw [b];simp [zl,zt c]
theorem yl2 (a:laidMet prog zla W):zjx W:=yjv a.tail
end
variable {w0:World}
section
open Go.ChangeShapes Go.WideShapes Go.ChangeAt Go.RowKit
theorem z3s {laid:List (String×DataW Unit)}(a:Array Value)(e:w0.layFits prog laid []=true)(f:w0.layIfaces prog laid (w0.layVars prog laid)=true):
  laidMet prog laid ((w0.layVars prog laid).forCall (fun _ _=>0) ⟨#[],a,[]⟩).memory:=by
 have b:(laid.filter fun x=>(laid.map (·.1)).contains x.1)=laid:=za1.2 fun x c=>List.contains_iff_mem.2 (yl.2 ⟨x,c,rfl⟩);have d:(laid.filter fun x=>!(laid.map (·.1)).contains x.1)=[]:=List.filter_eq_nil_iff.2 fun x c=>by rw [List.contains_iff_mem.2 (yl.2 ⟨x,c,rfl⟩)];simp
 have h:laidMet prog laid (w0.layVars prog laid):=laidMet_layVars (w0:=w0) (laid.map (·.1)) [] (by rw [b]) (by rw [b];exact e) (by rw [b];exact f) (by rw [d];exact LaidIn.none);exact h.of_heap (by simp [World.memory,World.forCall,Input.heap])
def zmu (w:World):World:={ w with heap:=w.heap.modify 7 fun
 | .cells _ t frozen=> .cells #[tyV 102] t frozen
 | o=>o }
end
end Go.Proofs.YtlcllcgngjhoaaaGreatDoor
