import Derived.Test.YtbjndgachcdbcaaGreatDoorVViewIn
namespace Go.Proofs.YtbjndgachcdbcaaGreatDoor
open Go.ChangeShapes Go.WideShapes Go.ChangeAt Go.RowKit
set_option maxRecDepth 100000
theorem vY:(Rows.laid_hindcast_show_faultNames:DataW Unit)=.agg (Z7.map fun l=>.lit (.string l)):=rfl
theorem uQ {W : World} {laid : List (String × DataW Unit)} (h : laidMet Tryz.prog laid W) (hm : ∀ x ∈ laidX, x ∈ laid) (hf : ("hindcast/show.faultNames", Rows.laid_hindcast_show_faultNames) ∈ laid) (hs : W.ShapedOpen Tryz.prog) : Yz W := by
 refine ⟨vR h hm,?_,Tryz.laysM143.s1_3 W hs⟩;obtain ⟨q,m,-⟩:=h;obtain ⟨g, t, u, fuel, p, c, o, b, e⟩ := ZE (n := "hindcast/show.faultNames") (d := Rows.laid_hindcast_show_faultNames) m hf
 obtain rfl := Option.some.inj ((show Tryz.prog.globalNamed "hindcast/show.faultNames" = some 0 by kernel_rfl).symm.trans c)
 obtain rfl:=Option.some.inj ((show (Tryz.prog.globals[0]?).map (·.type)=some 64 by kernel_rfl).symm.trans o)
 rw [vY] at e;exact Yi (ls:=Z7) Tryz.underlying64 Tryz.underlying9 Yj rfl c b e
section
variable {H:Type} {enc:TypeId × Value→H} {w:World}
end
theorem Xm {H:Type} {enc:TypeId × Value→H} {C:Checked} {os:Os} {f:FuncId} {fn:Func} {s:OpenSpec} {conds:List PathCond} {apart:Bool} {laid:List (String × DataW Unit)} (w0:World) (args:Array Value) (hos:w0.os=os)
  (hsh:(w0.forCall (fun _ _=>0) ⟨#[],args,[]⟩).Shaped C.prog) (hok:Input.okWideB C.prog (w0.forCall (fun _ _=>0) ⟨#[],args,[]⟩) f ⟨#[],args,[]⟩=true)
  (hrow:s.preRow enc C.prog fn conds apart laid (w0.forCall (fun _ _=>0) ⟨#[],args,[]⟩).memory args) :
  ∃(w:World) (tape:Tape) (i:Input),w.os=os∧(w.forCall tape i).Shaped C.prog∧i.vars=[]∧Input.okWide C.prog (w.forCall tape i) .any w.heap.size f i ∧
   s.preRow enc C.prog fn conds apart laid (w.forCall tape i).memory i.args∧({}:Assume).holds C.prog (lone (Frame.enter C.prog f i.args .normal) [] (w.forCall tape i)) :=
 ⟨w0,fun _ _=>0,⟨#[],args,[]⟩,hos,hsh,(Input.okWide_of_okWideB (base:=0) hok).1,(Input.okWide_of_okWideB hok).2,hrow,by
  simp only [Assume.holds]
  exact ⟨by simp,by simp,fun _=>Modest.zero,by simp,by simp⟩⟩
end Go.Proofs.YtbjndgachcdbcaaGreatDoor
