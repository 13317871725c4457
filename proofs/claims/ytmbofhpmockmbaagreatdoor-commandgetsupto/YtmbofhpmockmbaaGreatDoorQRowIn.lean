import Derived.Test.YtmbofhpmockmbaaGreatDoorSYTabs
import Derived.Test.YtmbofhpmockmbaaGreatDoorMC40
import Derived.Test.YtmbofhpmockmbaaGreatDoorLRow
import Derived.ChangeSame
import Derived.JoinedCond
import Derived.JoinedOf
import Derived.SizedLaws
import Derived.Deep.DeepHandedRow
namespace Go.Proofs.YtmbofhpmockmbaaGreatDoor
open Go.ChangeShapes Go.WideShapes Go.ChangeAt Go.RowKit
set_option maxRecDepth 100000
theorem U2 {W:World} (h:laidMetH Tryz.prog xR W):QT W:=by
 refine ⟨uM h,?_⟩;have A:laidMet Tryz.prog Yb W∧handlesMet Tryz.prog (xR.filter fun x=>x.2.handleName?.isSome) W:=h
 obtain ⟨H,G,-⟩:=A.1;obtain ⟨g, t, I, fuel, p, z, D, o, E⟩ := Z1 (n := "strconv.ErrSyntax") (d := Rows.laid_strconv_ErrSyntax) G (by rw [xS]; simp)
 obtain rfl := Option.some.inj ((show Tryz.prog.globalNamed "strconv.ErrSyntax" = some 1 by kernel_rfl).symm.trans z)
 obtain rfl:=Option.some.inj ((show (Tryz.prog.globals[1]?).map (·.type)=some 69 by kernel_rfl).symm.trans D)
 obtain ⟨fuel',u,v,y,-⟩:=iface_of_trod Tryz.underlying69 E;refine ⟨u,v,?_⟩;rw [World.var?_cell z o 0]
 have:=congrArg (fun l=>l[0]?) y
 simpa using this
theorem XZ {H:Type} {enc:TypeId × Value→H} {C:Checked} {os:Os} {f:FuncId} {fn:Func} {s:OpenSpec} {conds:List PathCond} {apart:Bool} {laid:List (String × DataW Unit)} (w0:World) (args:Array Value) (hos:w0.os=os)
  (hsh:(w0.forCall (fun _ _=>0) ⟨#[],args,[]⟩).Shaped C.prog) (hok:Input.okWideB C.prog (w0.forCall (fun _ _=>0) ⟨#[],args,[]⟩) f ⟨#[],args,[]⟩=true)
  (hrow:s.preRow enc C.prog fn conds apart laid (w0.forCall (fun _ _=>0) ⟨#[],args,[]⟩).memory args) :
  ∃(w:World) (tape:Tape) (i:Input),w.os=os∧(w.forCall tape i).Shaped C.prog∧i.vars=[]∧Input.okWide C.prog (w.forCall tape i) .any w.heap.size f i ∧
   s.preRow enc C.prog fn conds apart laid (w.forCall tape i).memory i.args∧({}:Assume).holds C.prog (lone (Frame.enter C.prog f i.args .normal) [] (w.forCall tape i)) :=
 ⟨w0,fun _ _=>0,⟨#[],args,[]⟩,hos,hsh,(Input.okWide_of_okWideB (base:=0) hok).1,(Input.okWide_of_okWideB hok).2,hrow,by
  simp only [Assume.holds]
  exact ⟨by simp,by simp,fun _=>Modest.zero,by simp,by simp⟩⟩
theorem VD:∃f0 f1 f2:Field,Tryz.prog.underlying 24=some (.struct #[f0,f1,f2])∧(f0.type=22∧f1.type=3∧f2.type=9)∧(f0.offset=0∧f1.offset=1∧f2.offset=2) :=
 ⟨_,_,_,Tryz.underlying24,⟨rfl,rfl,rfl⟩,⟨rfl,rfl,rfl⟩⟩
theorem VE:Tryz.prog.cellsOf 3=1:=by kernel_rfl
theorem vU:Tryz.prog.cellsOf 22=1:=by kernel_rfl
theorem VF:Tryz.prog.cellsOf 24=3:=by kernel_rfl
theorem X0 {v:Value} {cs:List Value} {i:Nat} (h:(cs.drop i).take 1=[v]):cs[i]?=some v:=by
 have:=congrArg (fun l=>l[0]?) h
 simpa [List.getElem?_take,List.getElem?_drop] using this
theorem UG {H:Type} {enc:TypeId × Value→H} {w:World} {base fuel:Nat} {sp:Nat→Bool} {held:Bool} {cs:List Value} {x:DataW H × List MemPlace}
  (h:DataW.trod enc Tryz.prog w base sp held fuel 24 cs=some x) :
  ∃(k n:Int) (s:List UInt8),cs=[.int .i64 k,.int .i64 n,.string (za s)]∧(-9223372036854775808≤k∧k≤9223372036854775807)∧(-9223372036854775808≤n∧n≤9223372036854775807)∧x.1=.agg [.lit (.int .i64 k),.lit (.int .i64 n),.lit (.string s)]:=by
 obtain ⟨R,f1,K,Z,⟨L,J,X⟩,⟨O,o1,V⟩⟩:=VD;obtain ⟨xs,m,-,rfl,y,Q,o⟩:=DataW.trod_struct Z h;have D:=o 0 R rfl;have I:=o 1 f1 rfl;have E:=o 2 K rfl;rw [L,O,vU] at D;rw [J,o1,VE] at I;rw [X,V,Yf] at E;rw [VF] at y
 match xs,Q with
 | [x0,x1,x2],_ =>
  obtain ⟨k,M,W,c0⟩:=DataW.trod_int Tryz.underlying22 D;obtain ⟨n,Y,T,c1⟩:=DataW.trod_int Tryz.underlying3 I;obtain ⟨s,U,b2,-⟩:=DataW.trod_string Tryz.underlying9 E;have G:=X0 M;have z:=X0 Y;have A:=X0 U
  match cs,y with
  | [v0,v1,v2],_ =>
   simp only [List.getElem?_cons_zero,List.getElem?_cons_succ,Option.some.injEq] at G z A;refine ⟨k,n,s.data.toList,?_,UD c0,UD c1,?_⟩
   ·rw [G,z,A,VY]
   ·simp [W,T,b2]
theorem U3 {H:Type} {enc:TypeId × Value→H} {w:World} {base:Nat} {sp:Nat→Bool} {held:Bool} {v:Value} {d:DataW H} {p:List MemPlace} (hv:∃o,v=.agg o) (h:DataW.Trod enc Tryz.prog w base sp held 24 v d p) :
  ∃(k n:Int) (s:List UInt8),v=ZH k n s∧(-9223372036854775808≤k∧k≤9223372036854775807)∧(-9223372036854775808≤n∧n≤9223372036854775807)∧d=.agg [.lit (.int .i64 k),.lit (.int .i64 n),.lit (.string s)]:=by
 obtain ⟨o,rfl⟩:=hv;obtain ⟨fuel,A⟩:=h;obtain ⟨k,n,s,y,z,D,E⟩:=UG A;refine ⟨k,n,s,?_,z,D,E⟩;have e:o.toList=[.int .i64 k,.int .i64 n,.string (za s)]:=by simpa [Value.cells] using y
 cases o
 simp at e
 rw [e];rfl
theorem uN {H:Type} {enc:TypeId × Value→H} {W:World} {base:Nat} {held:Bool} {a:Option Addr} {len cap:Nat} {d:DataW H} {p:List MemPlace} (h:DataW.Trod enc Tryz.prog W base (fun _=>true) held 39 (.slice a len cap) d p) (hk:Rows.uptoBulk d≤1048576) :
  ∃bs,zt W (.slice a len cap) bs∧bs.length≤1048576:=by
 obtain ⟨V,w0,M⟩:∃z,U8 .u8 W a len cap z∧(d=.nil∧len=0∨∃A G,d=.slice A G∧A.length=len):=by
  obtain ⟨fuel,L⟩:=h;rcases open_ints Tryz.underlying39 Tryz.underlying5 (by kernel_rfl) L with ⟨o,E⟩ | ⟨x,l,c,z,o,_,O,Q,I,E,y,D⟩
  ·simp [Value.cells] at o
   obtain ⟨rfl,rfl,rfl⟩:=o;exact ⟨[],.inl ⟨rfl,rfl,rfl,rfl⟩,.inl ⟨by simpa using congrArg Prod.fst E,rfl⟩⟩
  ·simp [Value.cells] at o
   obtain ⟨rfl,rfl,rfl⟩:=o;refine ⟨z,.inr ⟨_,rfl,O,Q,by simpa using I,y,D⟩,.inr ⟨_,_,by simpa using congrArg Prod.fst E,?_⟩⟩
   have J:z.length=cap:=by simpa using I
   simp [lits];omega
 obtain ⟨T,R,K⟩:=vT w0;refine ⟨T,K,?_⟩;rw [R];rcases M with ⟨_,h⟩ | ⟨A,G,h,X⟩
 ·rw [h];omega
 ·have U:=UF A
  rw [h] at hk;simp only [Rows.uptoBulk] at hk;omega
end Go.Proofs.YtmbofhpmockmbaaGreatDoor
