import Derived.Test.YtinhekmmdlhfkaaGreatDoorG08
import Derived.Stop.LaidErr
import Derived.Lib.LaidTab
import Derived.LaidLaws
import Derived.Lay
import Derived.Shelf.Vars
import Derived.ProofKit
import Derived.OpenShut
import Derived.ShutString
import Derived.ChangeOld
import Derived.Below
import Derived.MakeChecks
import Derived.Deep.DeepHandedRow
import Derived.SevenTiedAt
namespace Go.Proofs.YtinhekmmdlhfkaaGreatDoor
section
open Go.ChangeShapes Go.WideShapes Go.ChangeAt Go.RowKit
theorem z83:ownKnob Tryz.prog.godebug=none:=by kernel_rfl
theorem znn:laidOutB Tryz.prog=true:=by kernel_rfl
theorem z6h:(Tryz.prog.globals[13]?).map (·.type) =some 331:=by kernel_rfl
theorem z3p:Tryz.prog.cellsOf 331=20:=by kernel_rfl
theorem zxm:Tryz.prog.cellsOf 199=1:=by kernel_rfl
theorem z5y:Tryz.prog.globalNamed "strconv.ErrSyntax"=some 8:=by kernel_rfl
theorem z5x:Tryz.prog.globalNamed "strconv.ErrRange"=some 9:=by kernel_rfl
theorem z54:(Tryz.prog.globals[8]?).map (·.type) =some 70:=by kernel_rfl
theorem z5q:(Tryz.prog.globals[9]?).map (·.type) =some 70:=by kernel_rfl
theorem zm9 {W:World}{n nm:String}{d:DataW Unit}{rest:List (String×DataW Unit)}{g:Nat}(hg:Tryz.prog.globalNamed n=some g)(hty:(Tryz.prog.globals[g]?).map (·.type)=some 70)
  (h:laidMet Tryz.prog ((n,.iface nm d)::rest) W):∃ tp p,W.cell? ⟨g,0,none⟩=some (.iface tp p):=by
 obtain⟨ps,⟨g',t',cs,fuel,p,q,hg',ht',hvar,hd,_,_⟩,_⟩:=h
 obtain rfl:=Option.some.inj (hg.symm.trans hg')
 obtain rfl:=Option.some.inj (hty.symm.trans ht')
 obtain⟨f',u,v,e,_,_⟩:=iface_of_trod Tryz.underlying70 hd
 refine⟨u,v,?_⟩
 have:=World.var?_cell hg hvar 0
 rw [this,← Array.getElem?_toList,e]
 rfl
theorem z3q {W:World}{rest:List (String×DataW Unit)}(h:laidMet Tryz.prog (("internal/strconv.uint64pow10",Rows.laid_internal_strconv_uint64pow10)::rest) W):Lib.TabIs Tryz.prog W "internal/strconv.uint64pow10" .u64 Lib.pow10Tab :=
 Lib.tabIs_of_head (rest:=rest) zql z6h Tryz.underlying331 Tryz.underlying199 zxm z3p h
theorem z4y {W:World}(h:W.ShapedOpen Tryz.prog):∃ m,W.cell? ⟨12,0,none⟩=some (.int .i64 m) :=
 cell_of_shapedOpen_int (zero:=#[.int .i64 0]) (t:=3) h (of_decide_eq_true (by kernel_rfl)) (by kernel_rfl) rfl (by kernel_rfl) (by kernel_rfl) Tryz.underlying3
theorem zqm {H:Type}{enc:TypeId×Value→H}{os:Os}{f:FuncId}{fn:Func}{s:OpenSpec}{conds:List PathCond}{apart:Bool}{laid:List (String×DataW Unit)}(w0:World)(args:Array Value)(hos:w0.os=os)
  (hsh:(w0.forCall (fun _ _=>0) ⟨#[],args,[]⟩).Shaped Tryz.checked.prog)
  (hok:Input.okWideB Tryz.checked.prog (w0.forCall (fun _ _=>0) ⟨#[],args,[]⟩) f ⟨#[],args,[]⟩=true)
  (hrow:s.preRow enc Tryz.checked.prog fn conds apart laid (w0.forCall (fun _ _=>0) ⟨#[],args,[]⟩).memory args) :
  ∃(w:World) (tape:Tape) (i:Input),w.os=os∧(w.forCall tape i).Shaped Tryz.checked.prog∧i.vars=[]∧Input.okWide Tryz.checked.prog (w.forCall tape i) .any w.heap.size f i ∧
   s.preRow enc Tryz.checked.prog fn conds apart laid (w.forCall tape i).memory i.args∧({}:Assume).holds Tryz.checked.prog (lone (Frame.enter Tryz.checked.prog f i.args .normal) [] (w.forCall tape i)) :=
 ⟨w0,fun _ _=>0,⟨#[],args,[]⟩,hos,hsh,(Input.okWide_of_okWideB (base:=0) hok).1,(Input.okWide_of_okWideB hok).2,hrow,by
  simp only [Assume.holds]
  exact⟨by simp,by simp,fun _=>Modest.zero,by simp,by simp⟩⟩
end
end Go.Proofs.YtinhekmmdlhfkaaGreatDoor
