import Derived.Test.YtlcllcgngjhoaaaGreatDoorG07
import Derived.Stop.LaidErr
import Derived.Lay
import Derived.ProofKit
import Derived.ShutString
import Derived.Deep.DeepHandedRow
import Derived.SevenTiedAt
set_option maxHeartbeats 8000000
set_option maxRecDepth 100000
set_option linter.all false
namespace Go.Proofs.YtlcllcgngjhoaaaGreatDoor
open Go.RowKit Go.Proofs.Tryz
def zts:=@World.var?_cell
variable {W:World}{g:Nat}
section
open Go.ChangeShapes Go.WideShapes Go.ChangeAt Go.RowKit
theorem ym5:ownKnob prog.godebug=none:=by kernel_rfl
theorem zvw:laidOutB prog=true:=by kernel_rfl
theorem ylv:(prog.globals[15]?).map (·.type) =some 379:=by kernel_rfl
theorem yiu:prog.cellsOf 379=20:=by kernel_rfl
theorem ye5:prog.cellsOf 183=1:=by kernel_rfl
theorem yla:prog.globalNamed "strconv.ErrSyntax"=some 8:=by kernel_rfl
theorem yk9:prog.globalNamed "strconv.ErrRange"=some 9:=by kernel_rfl
theorem yme:(prog.globals[8]?).map (·.type) =some 102:=by kernel_rfl
theorem yma:(prog.globals[9]?).map (·.type) =some 102:=by kernel_rfl
theorem zv5 {n l:String}{d:DataW Unit}{rest:List (String×DataW Unit)}(j:prog.globalNamed n=some g)(f:(prog.globals[g]?).map (·.type)=some 102)
 (h:laidMet prog ((n,.iface l d)::rest) W):∃ m p,W.cell? ⟨g,0,none⟩=some (.iface m p):=by
 obtain⟨ps,⟨s,t,o,i,p,q,b,c,a,k,_,_⟩,_⟩:=h;obtain rfl:=jd (j.symm.trans b);obtain rfl:=jd (f.symm.trans c);obtain⟨r,u,v,e,_,_⟩:=iface_of_trod underlying102 k;refine⟨u,v,?_⟩;have:=zts j a 0;rw [this,← zco,e]
 rfl
theorem yiv {rest:List (String×DataW Unit)}(h:laidMet prog (("internal/strconv.uint64pow10",Rows.laid_internal_strconv_uint64pow10)::rest) W):Lib.TabIs prog W "internal/strconv.uint64pow10" .u64 Lib.pow10Tab :=
 Lib.tabIs_of_head (rest:=rest) z0x ylv underlying379 underlying183 ye5 yiu h
theorem yhy (h:W.ShapedOpen prog):∃ m,W.cell? ⟨12,0,none⟩=some (.int .i64 m) :=
 cell_of_shapedOpen_int (zero:=#[.int .i64 0]) (t:=3) h (zhs (by kernel_rfl)) (by kernel_rfl) rfl (by kernel_rfl) (by kernel_rfl) zf5
theorem z1x {H:Type}{enc:TypeId×Value→H}{n:Os}{f:FuncId}{m:Func}{s:OpenSpec}{d:List PathCond}{c:Bool}{e:List (String×DataW Unit)}(j:World)(a:Array Value)(k:j.os=n)
 (l:(j.forCall (fun _ _=>0) ⟨#[],a,[]⟩).Shaped checked.prog)
 (g:Input.okWideB checked.prog (j.forCall (fun _ _=>0) ⟨#[],a,[]⟩) f ⟨#[],a,[]⟩=true)
 (h:s.preRow enc checked.prog m d c e (j.forCall (fun _ _=>0) ⟨#[],a,[]⟩).memory a) :
  ∃(w:World) (b:Tape) (i:Input),w.os=n∧(w.forCall b i).Shaped checked.prog∧i.vars=[]∧Input.okWide checked.prog (w.forCall b i) .any w.heap.size f i ∧
   s.preRow enc checked.prog m d c e (w.forCall b i).memory i.args∧({}:Assume).holds checked.prog (lone (Frame.enter checked.prog f i.args .normal) [] (w.forCall b i)) :=
 ⟨j,fun _ _=>0,⟨#[],a,[]⟩,k,l,(Input.okWide_of_okWideB (base:=0) g).1,(Input.okWide_of_okWideB g).2,h,by
  simp only [Assume.holds];exact⟨by simp,by simp,fun _=>Modest.zero,by simp,by simp⟩⟩
end
end Go.Proofs.YtlcllcgngjhoaaaGreatDoor
