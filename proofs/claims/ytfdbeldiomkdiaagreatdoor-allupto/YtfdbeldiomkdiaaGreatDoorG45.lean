import Derived.Test.YtfdbeldiomkdiaaGreatDoorG08
import Derived.Stop.LaidErr
import Derived.Lay
import Derived.ProofKit
import Derived.ShutString
import Derived.Deep.DeepHandedRow
import Derived.SevenTiedAt
set_option maxHeartbeats 8000000
set_option maxRecDepth 100000
set_option linter.all false
namespace Go.Proofs.YtfdbeldiomkdiaaGreatDoor
open Go.RowKit Go.Proofs.Tryz
def Kb:=@World.var?_cell
variable {W:World}{fn:Func}{g:Nat}
section
open Go.ChangeShapes Go.WideShapes Go.ChangeAt Go.RowKit
def zm2:ownKnob prog.godebug=none:=by kernel_rfl
def Kg:laidOutB prog=true:=by kernel_rfl
def zla:(prog.globals[11]?).map (·.type) =some 387:=by kernel_rfl
def zh3:prog.cellsOf 387=20:=by kernel_rfl
def zer:prog.cellsOf 169=1:=by kernel_rfl
def zkm:prog.globalNamed "strconv.ErrSyntax"=some 9:=by kernel_rfl
def zkl:prog.globalNamed "strconv.ErrRange"=some 10:=by kernel_rfl
def zlx:(prog.globals[9]?).map (·.type) =some 100:=by kernel_rfl
def zlq:(prog.globals[10]?).map (·.type) =some 100:=by kernel_rfl
def Q7 {n l:String}{d:DataW Unit}{rest:List (String×DataW Unit)}(j:prog.globalNamed n=some g)(f:(prog.globals[g]?).map (·.type)=some 100)
 (h:laidMet prog ((n,.iface l d)::rest) W):∃m p,W.cell? ⟨g,0,none⟩=some (.iface m p):=by
 obtain⟨t,⟨s,w,o,i,p,q,b,c,a,k,_,_⟩,_⟩:=h;obtain rfl:=qj (j.symm.trans b);obtain rfl:=qj (f.symm.trans c);obtain⟨r,u,v,e,_,_⟩:=iface_of_trod underlying100 k;refine⟨u,v,?_⟩;have:=Kb j a 0;rw[this,<- D4,e]
 rfl
def zh4 {rest:List (String×DataW Unit)}(h:laidMet prog (("internal/strconv.uint64pow10",Rows.laid_internal_strconv_uint64pow10)::rest) W):Lib.TabIs prog W "internal/strconv.uint64pow10" .u64 Lib.pow10Tab:=
 Lib.tabIs_of_head (rest:=rest) Ut zla underlying387 underlying169 zer zh3 h
def zhb (h:W.ShapedOpen prog):∃m,W.cell? ⟨8,0,none⟩=some (.int .i64 m):=
 cell_of_shapedOpen_int (zero:=#[.int .i64 0]) (t:=3) h (Ch (by kernel_rfl)) (by kernel_rfl) rfl (by kernel_rfl) (by kernel_rfl) BX
def UT {H:Type}{enc:TypeId×Value->H}{m:Os}{f:FuncId}{s:OpenSpec}{d:List PathCond}{c:Bool}{e:List (String×DataW Unit)}(j:World)(a:Array Value)(k:j.os=m)
 (l:(j.forCall (λ_ _=>0) ⟨#[],a,[]⟩).Shaped checked.prog)
 (g:Input.okWideB checked.prog (j.forCall (λ_ _=>0) ⟨#[],a,[]⟩) f ⟨#[],a,[]⟩=true)
 (h:s.preRow enc checked.prog fn d c e (j.forCall (λ_ _=>0) ⟨#[],a,[]⟩).memory a) :
  ∃(w:World) (b:Tape) (i:Input),w.os=m/\(w.forCall b i).Shaped checked.prog/\i.vars=[]/\Input.okWide checked.prog (w.forCall b i) .any w.heap.size f i /\
   s.preRow enc checked.prog fn d c e (w.forCall b i).memory i.args/\({}:Assume).holds checked.prog (lone (Frame.enter checked.prog f i.args .normal) [] (w.forCall b i)):=
 ⟨j,λ_ _=>0,⟨#[],a,[]⟩,k,l,(Input.okWide_of_okWideB (base:=0) g).1,(Input.okWide_of_okWideB g).2,h,by
  simp only[Assume.holds];exact⟨by simp,by simp,λ_=>Modest.zero,by simp,by simp⟩⟩
end
end Go.Proofs.YtfdbeldiomkdiaaGreatDoor
