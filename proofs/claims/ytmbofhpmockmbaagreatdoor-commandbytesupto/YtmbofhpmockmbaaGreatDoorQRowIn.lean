import Derived.Test.YtmbofhpmockmbaaGreatDoorSYTabs
import Derived.Test.YtmbofhpmockmbaaGreatDoorQAtoi
import Derived.Test.YtmbofhpmockmbaaGreatDoorLRow
import Derived.ChangeSame
import Derived.JoinedCond
import Derived.JoinedOf
import Derived.SizedLaws
import Derived.Deep.DeepHandedRow
namespace Go.Proofs.YtmbofhpmockmbaaGreatDoor
open Go.ChangeShapes Go.WideShapes Go.ChangeAt Go.RowKit
set_option maxRecDepth 100000
theorem Ur {W:World} (h:laidMetH Tryz.prog xo W):QT W:=by
 refine ⟨V8 h,?_⟩;have A:laidMet Tryz.prog yR W∧handlesMet Tryz.prog (xo.filter fun x=>x.2.handleName?.isSome) W:=h
 obtain ⟨G,E,-⟩:=A.1;obtain ⟨g, t, H, fuel, p, y, D, e, z⟩ := ZU (n := "strconv.ErrSyntax") (d := Rows.laid_strconv_ErrSyntax) E (by rw [xp]; simp)
 obtain rfl := Option.some.inj ((show Tryz.prog.globalNamed "strconv.ErrSyntax" = some 1 by kernel_rfl).symm.trans y)
 obtain rfl:=Option.some.inj ((show (Tryz.prog.globals[1]?).map (·.type)=some 69 by kernel_rfl).symm.trans D)
 obtain ⟨fuel',u,v,o,-⟩:=iface_of_trod Tryz.underlying69 z;refine ⟨u,v,?_⟩;rw [World.var?_cell y e 0]
 have:=congrArg (fun l=>l[0]?) o
 simpa using this
theorem Xs {H:Type} {enc:TypeId × Value→H} {C:Checked} {os:Os} {f:FuncId} {fn:Func} {s:OpenSpec} {conds:List PathCond} {apart:Bool} {laid:List (String × DataW Unit)} (w0:World) (args:Array Value) (hos:w0.os=os)
  (hsh:(w0.forCall (fun _ _=>0) ⟨#[],args,[]⟩).Shaped C.prog) (hok:Input.okWideB C.prog (w0.forCall (fun _ _=>0) ⟨#[],args,[]⟩) f ⟨#[],args,[]⟩=true)
  (hrow:s.preRow enc C.prog fn conds apart laid (w0.forCall (fun _ _=>0) ⟨#[],args,[]⟩).memory args) :
  ∃(w:World) (tape:Tape) (i:Input),w.os=os∧(w.forCall tape i).Shaped C.prog∧i.vars=[]∧Input.okWide C.prog (w.forCall tape i) .any w.heap.size f i ∧
   s.preRow enc C.prog fn conds apart laid (w.forCall tape i).memory i.args∧({}:Assume).holds C.prog (lone (Frame.enter C.prog f i.args .normal) [] (w.forCall tape i)) :=
 ⟨w0,fun _ _=>0,⟨#[],args,[]⟩,hos,hsh,(Input.okWide_of_okWideB (base:=0) hok).1,(Input.okWide_of_okWideB hok).2,hrow,by
  simp only [Assume.holds]
  exact ⟨by simp,by simp,fun _=>Modest.zero,by simp,by simp⟩⟩
theorem vU:∃f0 f1 f2:Field,Tryz.prog.underlying 24=some (.struct #[f0,f1,f2])∧(f0.type=22∧f1.type=3∧f2.type=9)∧(f0.offset=0∧f1.offset=1∧f2.offset=2) :=
 ⟨_,_,_,Tryz.underlying24,⟨rfl,rfl,rfl⟩,⟨rfl,rfl,rfl⟩⟩
theorem vV:Tryz.prog.cellsOf 3=1:=by kernel_rfl
theorem vf:Tryz.prog.cellsOf 22=1:=by kernel_rfl
theorem vW:Tryz.prog.cellsOf 24=3:=by kernel_rfl
theorem Xt {v:Value} {cs:List Value} {i:Nat} (h:(cs.drop i).take 1=[v]):cs[i]?=some v:=by
 have:=congrArg (fun l=>l[0]?) h
 simpa [List.getElem?_take,List.getElem?_drop] using this
theorem uV {H:Type} {enc:TypeId × Value→H} {w:World} {base fuel:Nat} {sp:Nat→Bool} {held:Bool} {cs:List Value} {x:DataW H × List MemPlace}
  (h:DataW.trod enc Tryz.prog w base sp held fuel 24 cs=some x) :
  ∃(k n:Int) (s:List UInt8),cs=[.int .i64 k,.int .i64 n,.string (za s)]∧(-9223372036854775808≤k∧k≤9223372036854775807)∧(-9223372036854775808≤n∧n≤9223372036854775807)∧x.1=.agg [.lit (.int .i64 k),.lit (.int .i64 n),.lit (.string s)]:=by
 obtain ⟨L,O,T,N,⟨X,Y,M⟩,⟨I,Q,o2⟩⟩:=vU;obtain ⟨xs,m,-,rfl,o,W,e⟩:=DataW.trod_struct N h;have A:=e 0 L rfl;have G:=e 1 O rfl;have y:=e 2 T rfl;rw [X,I,vf] at A;rw [Y,Q,vV] at G;rw [M,o2,yV] at y;rw [vW] at o
 match xs,W with
 | [x0,x1,x2],_ =>
  obtain ⟨k,a0,U,Z⟩:=DataW.trod_int Tryz.underlying22 A;obtain ⟨n,J,b1,V⟩:=DataW.trod_int Tryz.underlying3 G;obtain ⟨s,K,R,-⟩:=DataW.trod_string Tryz.underlying9 y;have z:=Xt a0;have D:=Xt J;have E:=Xt K
  match cs,o with
  | [v0,v1,v2],_ =>
   simp only [List.getElem?_cons_zero,List.getElem?_cons_succ,Option.some.injEq] at z D E;refine ⟨k,n,s.data.toList,?_,uS Z,uS V,?_⟩
   ·rw [z,D,E,Vq]
   ·simp [U,b1,R]
theorem Vr {H:Type} {enc:TypeId × Value→H} {w:World} {base:Nat} {sp:Nat→Bool} {held:Bool} {v:Value} {d:DataW H} {p:List MemPlace} (hv:∃o,v=.agg o) (h:DataW.Trod enc Tryz.prog w base sp held 24 v d p) :
  ∃(k n:Int) (s:List UInt8),v=Zz k n s∧(-9223372036854775808≤k∧k≤9223372036854775807)∧(-9223372036854775808≤n∧n≤9223372036854775807)∧d=.agg [.lit (.int .i64 k),.lit (.int .i64 n),.lit (.string s)]:=by
 obtain ⟨o,rfl⟩:=hv;obtain ⟨fuel,A⟩:=h;obtain ⟨k,n,s,y,D,E,z⟩:=uV A;refine ⟨k,n,s,?_,D,E,z⟩;have e:o.toList=[.int .i64 k,.int .i64 n,.string (za s)]:=by simpa [Value.cells] using y
 cases o
 simp at e
 rw [e];rfl
theorem V9 {H:Type} {enc:TypeId × Value→H} {W:World} {base:Nat} {held:Bool} {a:Option Addr} {len cap:Nat} {d:DataW H} {p:List MemPlace} (h:DataW.Trod enc Tryz.prog W base (fun _=>true) held 39 (.slice a len cap) d p) (hk:Rows.uptoBulk d≤1048576) :
  ∃bs,zu W (.slice a len cap) bs∧bs.length≤1048576:=by
 obtain ⟨T,w0,N⟩:∃y,Uv .u8 W a len cap y∧(d=.nil∧len=0∨∃z E,d=.slice z E∧z.length=len):=by
  obtain ⟨fuel,J⟩:=h;rcases open_ints Tryz.underlying39 Tryz.underlying5 (by kernel_rfl) J with ⟨e,A⟩ | ⟨x,l,c,y,e,_,L,M,G,A,o,D⟩
  ·simp [Value.cells] at e
   obtain ⟨rfl,rfl,rfl⟩:=e;exact ⟨[],.inl ⟨rfl,rfl,rfl,rfl⟩,.inl ⟨by simpa using congrArg Prod.fst A,rfl⟩⟩
  ·simp [Value.cells] at e
   obtain ⟨rfl,rfl,rfl⟩:=e;refine ⟨y,.inr ⟨_,rfl,L,M,by simpa using G,o,D⟩,.inr ⟨_,_,by simpa using congrArg Prod.fst A,?_⟩⟩
   have Q:y.length=cap:=by simpa using G
   simp [lits];omega
 obtain ⟨K,O,I⟩:=ve w0;refine ⟨K,I,?_⟩;rw [O];rcases N with ⟨_,h⟩ | ⟨z,E,h,R⟩
 ·rw [h];omega
 ·have U:=uU z
  rw [h] at hk;simp only [Rows.uptoBulk] at hk;omega
end Go.Proofs.YtmbofhpmockmbaaGreatDoor
