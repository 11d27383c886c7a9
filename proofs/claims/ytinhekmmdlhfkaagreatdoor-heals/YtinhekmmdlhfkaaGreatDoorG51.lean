import Derived.Test.YtinhekmmdlhfkaaGreatDoorG08
import Derived.Stop.LaidErr
import Derived.Lib.LaidTab
import Derived.LaidLaws
import Derived.Lay
import Derived.Shelf.Vars
import Derived.ProofKit
import Derived.OpenShut
import Derived.ShutString
import Derived.ChangeOld
import Derived.Below
import Derived.MakeChecks
import Derived.Deep.DeepHandedRow
import Derived.SevenTiedAt
namespace Go.Proofs.YtinhekmmdlhfkaaGreatDoor
section
open Go.ChangeShapes Go.WideShapes Go.ChangeAt Go.RowKit
theorem envOwn:ownKnob Tryz.prog.godebug=none:=by kernel_rfl
theorem envLaidOut:laidOutB Tryz.prog=true:=by kernel_rfl
theorem powType:(Tryz.prog.globals[13]?).map (·.type) =some 331:=by kernel_rfl
theorem powCells:Tryz.prog.cellsOf 331=20:=by kernel_rfl
theorem wordCells:Tryz.prog.cellsOf 199=1:=by kernel_rfl
theorem globSyn:Tryz.prog.globalNamed "strconv.ErrSyntax"=some 8:=by kernel_rfl
theorem globRng:Tryz.prog.globalNamed "strconv.ErrRange"=some 9:=by kernel_rfl
theorem synType:(Tryz.prog.globals[8]?).map (·.type) =some 70:=by kernel_rfl
theorem rngType:(Tryz.prog.globals[9]?).map (·.type) =some 70:=by kernel_rfl
theorem iface_head {W:World}{n nm:String}{d:DataW Unit}{rest:List (String×DataW Unit)}{g:Nat}(hg:Tryz.prog.globalNamed n=some g)(hty:(Tryz.prog.globals[g]?).map (·.type)=some 70)
  (h:laidMet Tryz.prog ((n,.iface nm d)::rest) W):∃ tp p,W.cell? ⟨g,0,none⟩=some (.iface tp p):=by
 obtain⟨ps,⟨g',t',cs,fuel,p,q,hg',ht',hvar,hd,_,_⟩,_⟩:=h
 obtain rfl:=Option.some.inj (hg.symm.trans hg')
 obtain rfl:=Option.some.inj (hty.symm.trans ht')
 obtain⟨f',u,v,e,_,_⟩:=iface_of_trod Tryz.underlying70 hd
 refine⟨u,v,?_⟩
 have:=World.var?_cell hg hvar 0
 rw [this,← Array.getElem?_toList,e]
 rfl
theorem pow_head {W:World}{rest:List (String×DataW Unit)}(h:laidMet Tryz.prog (("internal/strconv.uint64pow10",Rows.laid_internal_strconv_uint64pow10)::rest) W):Lib.TabIs Tryz.prog W "internal/strconv.uint64pow10" .u64 Lib.pow10Tab :=
 Lib.tabIs_of_head (rest:=rest) globPow powType Tryz.underlying331 Tryz.underlying199 wordCells powCells h
theorem max_head {W:World}(h:W.ShapedOpen Tryz.prog):∃ m,W.cell? ⟨12,0,none⟩=some (.int .i64 m) :=
 cell_of_shapedOpen_int (zero:=#[.int .i64 0]) (t:=3) h (of_decide_eq_true (by kernel_rfl)) (by kernel_rfl) rfl (by kernel_rfl) (by kernel_rfl) Tryz.underlying3
theorem witness_laid {H:Type}{enc:TypeId×Value→H}{os:Os}{f:FuncId}{fn:Func}{s:OpenSpec}{conds:List PathCond}{apart:Bool}{laid:List (String×DataW Unit)}(w0:World)(args:Array Value)(hos:w0.os=os)
  (hsh:(w0.forCall (fun _ _=>0) ⟨#[],args,[]⟩).Shaped Tryz.checked.prog)
  (hok:Input.okWideB Tryz.checked.prog (w0.forCall (fun _ _=>0) ⟨#[],args,[]⟩) f ⟨#[],args,[]⟩=true)
  (hrow:s.preRow enc Tryz.checked.prog fn conds apart laid (w0.forCall (fun _ _=>0) ⟨#[],args,[]⟩).memory args) :
  ∃(w:World) (tape:Tape) (i:Input),w.os=os∧(w.forCall tape i).Shaped Tryz.checked.prog∧i.vars=[]∧Input.okWide Tryz.checked.prog (w.forCall tape i) .any w.heap.size f i ∧
   s.preRow enc Tryz.checked.prog fn conds apart laid (w.forCall tape i).memory i.args∧({}:Assume).holds Tryz.checked.prog (lone (Frame.enter Tryz.checked.prog f i.args .normal) [] (w.forCall tape i)) :=
 ⟨w0,fun _ _=>0,⟨#[],args,[]⟩,hos,hsh,(Input.okWide_of_okWideB (base:=0) hok).1,(Input.okWide_of_okWideB hok).2,hrow,by
  simp only [Assume.holds]
  exact⟨by simp,by simp,fun _=>Modest.zero,by simp,by simp⟩⟩
end
end Go.Proofs.YtinhekmmdlhfkaaGreatDoor
