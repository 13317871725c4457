import Derived.Test.YtbjndgachcdbcaaGreatDoorVViewIn
namespace Go.Proofs.YtbjndgachcdbcaaGreatDoor
open Go.ChangeShapes Go.WideShapes Go.ChangeAt Go.RowKit
set_option maxRecDepth 100000
theorem vr:(Rows.laid_hindcast_show_faultNames:DataW Unit)=.agg (ZY.map fun l=>.lit (.string l)):=rfl
theorem ui {W : World} {laid : List (String × DataW Unit)} (h : laidMet Tryz.prog laid W) (hm : ∀ x ∈ laidX, x ∈ laid) (hf : ("hindcast/show.faultNames", Rows.laid_hindcast_show_faultNames) ∈ laid) (hs : W.ShapedOpen Tryz.prog) : YB W := by
 refine ⟨X9 h hm,?_,Tryz.laysM143.s1_3 W hs⟩;obtain ⟨q,o,-⟩:=h;obtain ⟨g, t, u, fuel, p, e, m, b, c⟩ := Zz (n := "hindcast/show.faultNames") (d := Rows.laid_hindcast_show_faultNames) o hf
 obtain rfl := Option.some.inj ((show Tryz.prog.globalNamed "hindcast/show.faultNames" = some 0 by kernel_rfl).symm.trans e)
 obtain rfl:=Option.some.inj ((show (Tryz.prog.globals[0]?).map (·.type)=some 64 by kernel_rfl).symm.trans m)
 rw [vr] at c;exact Yc (ls:=ZY) Tryz.underlying64 Tryz.underlying9 Yd rfl e b c
section
variable {H:Type} {enc:TypeId × Value→H} {w:World}
end
theorem xS {H:Type} {enc:TypeId × Value→H} {C:Checked} {os:Os} {f:FuncId} {fn:Func} {s:OpenSpec} {conds:List PathCond} {apart:Bool} {laid:List (String × DataW Unit)} (w0:World) (args:Array Value) (hos:w0.os=os)
  (hsh:(w0.forCall (fun _ _=>0) ⟨#[],args,[]⟩).Shaped C.prog) (hok:Input.okWideB C.prog (w0.forCall (fun _ _=>0) ⟨#[],args,[]⟩) f ⟨#[],args,[]⟩=true)
  (hrow:s.preRow enc C.prog fn conds apart laid (w0.forCall (fun _ _=>0) ⟨#[],args,[]⟩).memory args) :
  ∃(w:World) (tape:Tape) (i:Input),w.os=os∧(w.forCall tape i).Shaped C.prog∧i.vars=[]∧Input.okWide C.prog (w.forCall tape i) .any w.heap.size f i ∧
   s.preRow enc C.prog fn conds apart laid (w.forCall tape i).memory i.args∧({}:Assume).holds C.prog (lone (Frame.enter C.prog f i.args .normal) [] (w.forCall tape i)) :=
 ⟨w0,fun _ _=>0,⟨#[],args,[]⟩,hos,hsh,(Input.okWide_of_okWideB (base:=0) hok).1,(Input.okWide_of_okWideB hok).2,hrow,by
  simp only [Assume.holds]
  exact ⟨by simp,by simp,fun _=>Modest.zero,by simp,by simp⟩⟩
end Go.Proofs.YtbjndgachcdbcaaGreatDoor
