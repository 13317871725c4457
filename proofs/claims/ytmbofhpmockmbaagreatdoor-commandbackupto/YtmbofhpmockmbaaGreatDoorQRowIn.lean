import Derived.Test.YtmbofhpmockmbaaGreatDoorSYTabs
import Derived.Test.YtmbofhpmockmbaaGreatDoorQAtoi
import Derived.Test.YtmbofhpmockmbaaGreatDoorLRow
import Derived.ChangeSame
import Derived.JoinedCond
import Derived.JoinedOf
import Derived.SizedLaws
import Derived.Deep.DeepHandedRow
namespace Go.Proofs.YtmbofhpmockmbaaGreatDoor
open Go.ChangeShapes Go.WideShapes Go.ChangeAt Go.RowKit
set_option maxRecDepth 100000
theorem VF {W:World} (h:laidMetH Tryz.prog Yy W):QT W:=by
 refine ⟨vH h,?_⟩;have E:laidMet Tryz.prog yo W∧handlesMet Tryz.prog (Yy.filter fun x=>x.2.handleName?.isSome) W:=h
 obtain ⟨J,D,-⟩:=E.1;obtain ⟨g, t, I, A, p, z, G, e, H⟩ := ZE (n := "strconv.ErrSyntax") (d := Rows.laid_strconv_ErrSyntax) D (by rw [Yz]; simp)
 obtain rfl := Option.some.inj ((show Tryz.prog.globalNamed "strconv.ErrSyntax" = some 1 by kernel_rfl).symm.trans z)
 obtain rfl:=Option.some.inj ((show (Tryz.prog.globals[1]?).map (·.type)=some 69 by kernel_rfl).symm.trans G)
 obtain ⟨o,u,v,y,-⟩:=iface_of_trod Tryz.underlying69 H;refine ⟨u,v,?_⟩;rw [World.var?_cell z e 0]
 have:=congrArg (fun l=>l[0]?) y
 simpa using this
theorem xu {H:Type} {enc:TypeId × Value→H} {C:Checked} {os:Os} {f:FuncId} {fn:Func} {s:OpenSpec} {conds:List PathCond} {apart:Bool} {laid:List (String × DataW Unit)} (w0:World) (args:Array Value) (hos:w0.os=os)
  (hsh:(w0.forCall (fun _ _=>0) ⟨#[],args,[]⟩).Shaped C.prog) (hok:Input.okWideB C.prog (w0.forCall (fun _ _=>0) ⟨#[],args,[]⟩) f ⟨#[],args,[]⟩=true)
  (hrow:s.preRow enc C.prog fn conds apart laid (w0.forCall (fun _ _=>0) ⟨#[],args,[]⟩).memory args) :
  ∃(w:World) (tape:Tape) (i:Input),w.os=os∧(w.forCall tape i).Shaped C.prog∧i.vars=[]∧Input.okWide C.prog (w.forCall tape i) .any w.heap.size f i ∧
   s.preRow enc C.prog fn conds apart laid (w.forCall tape i).memory i.args∧({}:Assume).holds C.prog (lone (Frame.enter C.prog f i.args .normal) [] (w.forCall tape i)) :=
 ⟨w0,fun _ _=>0,⟨#[],args,[]⟩,hos,hsh,(Input.okWide_of_okWideB (base:=0) hok).1,(Input.okWide_of_okWideB hok).2,hrow,by
  simp only [Assume.holds]
  exact ⟨by simp,by simp,fun _=>Modest.zero,by simp,by simp⟩⟩
theorem XF:∃f0 f1 f2:Field,Tryz.prog.underlying 24=some (.struct #[f0,f1,f2])∧(f0.type=22∧f1.type=3∧f2.type=9)∧(f0.offset=0∧f1.offset=1∧f2.offset=2) :=
 ⟨_,_,_,Tryz.underlying24,⟨rfl,rfl,rfl⟩,⟨rfl,rfl,rfl⟩⟩
theorem XG:Tryz.prog.cellsOf 3=1:=by kernel_rfl
theorem x8:Tryz.prog.cellsOf 22=1:=by kernel_rfl
theorem XH:Tryz.prog.cellsOf 24=3:=by kernel_rfl
theorem xw {v:Value} {cs:List Value} {i:Nat} (h:(cs.drop i).take 1=[v]):cs[i]?=some v:=by
 have:=congrArg (fun l=>l[0]?) h
 simpa [List.getElem?_take,List.getElem?_drop] using this
theorem Vk {H:Type} {enc:TypeId × Value→H} {w:World} {base fuel:Nat} {sp:Nat→Bool} {held:Bool} {cs:List Value} {x:DataW H × List MemPlace}
  (h:DataW.trod enc Tryz.prog w base sp held fuel 24 cs=some x) :
  ∃(k n:Int) (s:List UInt8),cs=[.int .i64 k,.int .i64 n,.string (za s)]∧(-9223372036854775808≤k∧k≤9223372036854775807)∧(-9223372036854775808≤n∧n≤9223372036854775807)∧x.1=.agg [.lit (.int .i64 k),.lit (.int .i64 n),.lit (.string s)]:=by
 obtain ⟨Z,V,S,U,⟨J,T,N⟩,⟨o0,I,K⟩⟩:=XF;obtain ⟨Y,m,-,rfl,o,L,e⟩:=DataW.trod_struct U h;have E:=e 0 Z rfl;have G:=e 1 V rfl;have A:=e 2 S rfl;rw [J,o0,x8] at E;rw [T,I,XG] at G;rw [N,K,yt] at A;rw [XH] at o
 match Y,L with
 | [x0,x1,x2],_ =>
  obtain ⟨k,W,R,X⟩:=DataW.trod_int Tryz.underlying22 E;obtain ⟨n,Q,b1,c1⟩:=DataW.trod_int Tryz.underlying3 G;obtain ⟨s,O,M,-⟩:=DataW.trod_string Tryz.underlying9 A;have y:=xw W;have D:=xw Q;have z:=xw O
  match cs,o with
  | [v0,v1,v2],_ =>
   simp only [List.getElem?_cons_zero,List.getElem?_cons_succ,Option.some.injEq] at y D z;refine ⟨k,n,s.data.toList,?_,Vj X,Vj c1,?_⟩
   ·rw [y,D,z,xt]
   ·simp [R,b1,M]
theorem VG {H:Type} {enc:TypeId × Value→H} {w:World} {base:Nat} {sp:Nat→Bool} {held:Bool} {v:Value} {d:DataW H} {p:List MemPlace} (hv:∃o,v=.agg o) (h:DataW.Trod enc Tryz.prog w base sp held 24 v d p) :
  ∃(k n:Int) (s:List UInt8),v=ZS k n s∧(-9223372036854775808≤k∧k≤9223372036854775807)∧(-9223372036854775808≤n∧n≤9223372036854775807)∧d=.agg [.lit (.int .i64 k),.lit (.int .i64 n),.lit (.string s)]:=by
 obtain ⟨o,rfl⟩:=hv;obtain ⟨y,A⟩:=h;obtain ⟨k,n,s,x,z,D,E⟩:=Vk A;refine ⟨k,n,s,?_,z,D,E⟩;have e:o.toList=[.int .i64 k,.int .i64 n,.string (za s)]:=by simpa [Value.cells] using x
 cases o
 simp at e
 rw [e];rfl
end Go.Proofs.YtmbofhpmockmbaaGreatDoor
