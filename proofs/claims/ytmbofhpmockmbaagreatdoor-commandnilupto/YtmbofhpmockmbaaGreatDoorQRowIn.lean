import Derived.Test.YtmbofhpmockmbaaGreatDoorSYTabs
import Derived.Test.YtmbofhpmockmbaaGreatDoorQAtoi
import Derived.Test.YtmbofhpmockmbaaGreatDoorLRow
import Derived.ChangeSame
import Derived.JoinedCond
import Derived.JoinedOf
import Derived.SizedLaws
import Derived.Deep.DeepHandedRow
namespace Go.Proofs.YtmbofhpmockmbaaGreatDoor
open Go.ChangeShapes Go.WideShapes Go.ChangeAt Go.RowKit
set_option maxRecDepth 100000
theorem uR {W:World} (h:laidMetH Tryz.prog YZ W):QT W:=by
 refine ⟨VG h,?_⟩;have G:laidMet Tryz.prog yF W∧handlesMet Tryz.prog (YZ.filter fun x=>x.2.handleName?.isSome) W:=h
 obtain ⟨K,E,-⟩:=G.1;obtain ⟨g, t, J, A, p, D, H, o, I⟩ := ZQ (n := "strconv.ErrSyntax") (d := Rows.laid_strconv_ErrSyntax) E (by rw [Y0]; simp)
 obtain rfl := Option.some.inj ((show Tryz.prog.globalNamed "strconv.ErrSyntax" = some 1 by kernel_rfl).symm.trans D)
 obtain rfl:=Option.some.inj ((show (Tryz.prog.globals[1]?).map (·.type)=some 69 by kernel_rfl).symm.trans H)
 obtain ⟨y,u,v,z,-⟩:=iface_of_trod Tryz.underlying69 I;refine ⟨u,v,?_⟩;rw [World.var?_cell D o 0]
 have:=congrArg (fun l=>l[0]?) z
 simpa using this
theorem Xb {H:Type} {enc:TypeId × Value→H} {C:Checked} {os:Os} {f:FuncId} {fn:Func} {s:OpenSpec} {conds:List PathCond} {apart:Bool} {laid:List (String × DataW Unit)} (w0:World) (args:Array Value) (hos:w0.os=os)
  (hsh:(w0.forCall (fun _ _=>0) ⟨#[],args,[]⟩).Shaped C.prog) (hok:Input.okWideB C.prog (w0.forCall (fun _ _=>0) ⟨#[],args,[]⟩) f ⟨#[],args,[]⟩=true)
  (hrow:s.preRow enc C.prog fn conds apart laid (w0.forCall (fun _ _=>0) ⟨#[],args,[]⟩).memory args) :
  ∃(w:World) (tape:Tape) (i:Input),w.os=os∧(w.forCall tape i).Shaped C.prog∧i.vars=[]∧Input.okWide C.prog (w.forCall tape i) .any w.heap.size f i ∧
   s.preRow enc C.prog fn conds apart laid (w.forCall tape i).memory i.args∧({}:Assume).holds C.prog (lone (Frame.enter C.prog f i.args .normal) [] (w.forCall tape i)) :=
 ⟨w0,fun _ _=>0,⟨#[],args,[]⟩,hos,hsh,(Input.okWide_of_okWideB (base:=0) hok).1,(Input.okWide_of_okWideB hok).2,hrow,by
  simp only [Assume.holds]
  exact ⟨by simp,by simp,fun _=>Modest.zero,by simp,by simp⟩⟩
theorem vw:∃f0 f1 f2:Field,Tryz.prog.underlying 24=some (.struct #[f0,f1,f2])∧(f0.type=22∧f1.type=3∧f2.type=9)∧(f0.offset=0∧f1.offset=1∧f2.offset=2) :=
 ⟨_,_,_,Tryz.underlying24,⟨rfl,rfl,rfl⟩,⟨rfl,rfl,rfl⟩⟩
theorem vy:Tryz.prog.cellsOf 3=1:=by kernel_rfl
theorem XQ:Tryz.prog.cellsOf 22=1:=by kernel_rfl
theorem vz:Tryz.prog.cellsOf 24=3:=by kernel_rfl
theorem Xc {v:Value} {cs:List Value} {i:Nat} (h:(cs.drop i).take 1=[v]):cs[i]?=some v:=by
 have:=congrArg (fun l=>l[0]?) h
 simpa [List.getElem?_take,List.getElem?_drop] using this
theorem uu {H:Type} {enc:TypeId × Value→H} {w:World} {base fuel:Nat} {sp:Nat→Bool} {held:Bool} {cs:List Value} {x:DataW H × List MemPlace}
  (h:DataW.trod enc Tryz.prog w base sp held fuel 24 cs=some x) :
  ∃(k n:Int) (s:List UInt8),cs=[.int .i64 k,.int .i64 n,.string (za s)]∧(-9223372036854775808≤k∧k≤9223372036854775807)∧(-9223372036854775808≤n∧n≤9223372036854775807)∧x.1=.agg [.lit (.int .i64 k),.lit (.int .i64 n),.lit (.string s)]:=by
 obtain ⟨Q,U,f2,hu,⟨J,Z,L⟩,⟨V,K,W⟩⟩:=vw;obtain ⟨O,m,-,rfl,y,hl,o⟩:=DataW.trod_struct hu h;have E:=o 0 Q rfl;have D:=o 1 U rfl;have z:=o 2 f2 rfl;rw [J,V,XQ] at E;rw [Z,K,vy] at D;rw [L,W,yJ] at z;rw [vz] at y
 match O,hl with
 | [x0,x1,x2],_ =>
  obtain ⟨k,R,b0,S⟩:=DataW.trod_int Tryz.underlying22 E;obtain ⟨n,M,N,T⟩:=DataW.trod_int Tryz.underlying3 D;obtain ⟨s,X,Y,-⟩:=DataW.trod_string Tryz.underlying9 z;have I:=Xc R;have A:=Xc M;have G:=Xc X
  match cs,y with
  | [v0,v1,v2],_ =>
   simp only [List.getElem?_cons_zero,List.getElem?_cons_succ,Option.some.injEq] at I A G;refine ⟨k,n,s.data.toList,?_,ut S,ut T,?_⟩
   ·rw [I,A,G,vT]
   ·simp [b0,N,Y]
theorem uS {H:Type} {enc:TypeId × Value→H} {w:World} {base:Nat} {sp:Nat→Bool} {held:Bool} {v:Value} {d:DataW H} {p:List MemPlace} (hv:∃o,v=.agg o) (h:DataW.Trod enc Tryz.prog w base sp held 24 v d p) :
  ∃(k n:Int) (s:List UInt8),v=ZJ k n s∧(-9223372036854775808≤k∧k≤9223372036854775807)∧(-9223372036854775808≤n∧n≤9223372036854775807)∧d=.agg [.lit (.int .i64 k),.lit (.int .i64 n),.lit (.string s)]:=by
 obtain ⟨o,rfl⟩:=hv;obtain ⟨z,G⟩:=h;obtain ⟨k,n,s,y,A,D,E⟩:=uu G;refine ⟨k,n,s,?_,A,D,E⟩;have e:o.toList=[.int .i64 k,.int .i64 n,.string (za s)]:=by simpa [Value.cells] using y
 cases o
 simp at e
 rw [e];rfl
end Go.Proofs.YtmbofhpmockmbaaGreatDoor
