import Derived.Test.YtbjndgachcdbcaaGreatDoorVViewIn
namespace Go.Proofs.YtbjndgachcdbcaaGreatDoor
open Go.ChangeShapes Go.WideShapes Go.ChangeAt Go.RowKit
set_option maxRecDepth 100000
theorem XM:(Rows.laid_hindcast_show_faultNames:DataW Unit)=.agg (ZP.map fun l=>.lit (.string l)):=rfl
theorem Vu {W : World} {laid : List (String × DataW Unit)} (h : laidMet Tryz.prog laid W) (hm : ∀ x ∈ laidX, x ∈ laid) (hf : ("hindcast/show.faultNames", Rows.laid_hindcast_show_faultNames) ∈ laid) (hs : W.ShapedOpen Tryz.prog) : Yc W := by
 refine ⟨XH h hm,?_,Tryz.laysM143.s1_3 W hs⟩;obtain ⟨q,o,-⟩:=h;obtain ⟨g, t, u, fuel, p, e, m, b, c⟩ := Zp (n := "hindcast/show.faultNames") (d := Rows.laid_hindcast_show_faultNames) o hf
 obtain rfl := Option.some.inj ((show Tryz.prog.globalNamed "hindcast/show.faultNames" = some 0 by kernel_rfl).symm.trans e)
 obtain rfl:=Option.some.inj ((show (Tryz.prog.globals[0]?).map (·.type)=some 64 by kernel_rfl).symm.trans m)
 rw [XM] at c;exact yF (ls:=ZP) Tryz.underlying64 Tryz.underlying9 yG rfl e b c
section
variable {H:Type} {enc:TypeId × Value→H} {w:World}
theorem yU {fuel:Nat} {hd:Bool} {u:Value} {t e:TypeId} {y:DataW H × List MemPlace} (ht:Tryz.prog.underlying t=some (.slice e)) (h:DataW.trod enc Tryz.prog w 0 (fun _=>true) hd fuel t [u]=some y):∃b n c,u=.slice b n c:=by
 rcases Deep.open_slice ht h with ⟨o,-⟩ | ⟨a,len,q,m,n,D,x,o,-⟩
 ·simp at o;exact ⟨_,_,_,o⟩
 ·simp at o;exact ⟨_,_,_,o⟩
theorem Y9 {fuel:Nat} {hd:Bool} {u:Value} {y:DataW H × List MemPlace} (h:DataW.trod enc Tryz.prog w 0 (fun _=>true) hd fuel 9 [u]=some y):∃s:List UInt8,u=.string (za s):=by
 obtain ⟨s,a,-⟩:=DataW.trod_string Tryz.underlying9 h;simp only [List.cons.injEq,and_true] at a;exact ⟨s.data.toList,by rw [a,VY]⟩
theorem vM {v:Value} {d:DataW H} {p:List MemPlace} {hd:Bool} (hv:∃u:Array Value,v=.agg u) (h:∃fuel,DataW.trod enc Tryz.prog w 0 (fun _=>true) hd fuel 35 v.cells.toList=some (d,p)) :
  ∃(s:Vw) (b1 b2:Option Addr) (A x F m:Nat),v=VO (.slice b1 A x) (.slice b2 F m) s:=by
 obtain ⟨u,rfl⟩:=hv;obtain ⟨fuel,G⟩:=h;have y:DataW.trod enc Tryz.prog w 0 (fun _=>true) hd fuel 35 u.toList=some (d,p):=by simpa [Value.cells] using G
 obtain ⟨hl,o,q⟩:=uv Tryz.underlying35 V4 y;obtain ⟨yl,tl,bl⟩:=q 0 _ rfl;obtain ⟨yr,Z,br⟩:=q 3 _ rfl;obtain ⟨ys,ts,bs⟩:=q 1 _ rfl;obtain ⟨yt,tt,bt⟩:=q 2 _ rfl
 match u,hl with
 | ⟨[a0,a1,a2,a3,a4,a5,a6,a7,a8,a9]⟩,_ =>
  have D:DataW.trod enc Tryz.prog w 0 (fun _=>true) hd o 29 [a0,a1,a2,a3,a4]=some yl:=by
   have e:=tl;rw [show Tryz.prog.cellsOf (Field.type _)=5 from XZ] at e
   exact e
  have E:DataW.trod enc Tryz.prog w 0 (fun _=>true) hd o 33 [a7,a8,a9]=some yr:=by
   have e:=Z;rw [show Tryz.prog.cellsOf (Field.type _)=3 from Xi] at e
   exact e
  have z:DataW.trod enc Tryz.prog w 0 (fun _=>true) hd o 3 [a5]=some ys:=by
   have e:=ts;rw [show Tryz.prog.cellsOf (Field.type _)=1 from XL] at e
   exact e
  have B:DataW.trod enc Tryz.prog w 0 (fun _=>true) hd o 30 [a6]=some yt:=by
   have e:=tt;rw [show Tryz.prog.cellsOf (Field.type _)=1 from Vt] at e
   exact e
  obtain ⟨-,ml,b⟩:=uu Tryz.underlying29 XZ D;obtain ⟨-,mr,c⟩:=uu Tryz.underlying33 Xi E;obtain ⟨u0,y0,J,Y,-⟩:=b 0 _ rfl XL rfl (by omega)
  obtain ⟨u1,y1,x,t1,-⟩:=b 1 _ rfl vK rfl (by omega)
  obtain ⟨u2,y2,m,t2,-⟩:=b 2 _ rfl Vr rfl (by omega)
  obtain ⟨u3,y3,R,t3,-⟩:=b 3 _ rfl vL rfl (by omega)
  obtain ⟨u4,y4,O,t4,-⟩:=b 4 _ rfl Vq rfl (by omega)
  obtain ⟨u7,y7,K,t7,-⟩:=c 0 _ rfl Vs rfl (by omega)
  obtain ⟨u8,y8,I,t8,-⟩:=c 1 _ rfl XL rfl (by omega)
  obtain ⟨u9,y9,M,t9,-⟩:=c 2 _ rfl Vq rfl (by omega)
  simp only [List.getElem?_cons_zero,List.getElem?_cons_succ,Option.some.injEq] at J x m R O K I M;subst J x m R O K I M;obtain ⟨n0,rfl,-⟩:=Zj Tryz.underlying3 Y;obtain ⟨A,rfl,-⟩:=Zj Tryz.underlying26 t1;obtain ⟨F,rfl,-⟩:=Zj Tryz.underlying23 t2;obtain ⟨U,W,V,rfl⟩:=yU Tryz.underlying27 t3;obtain ⟨s4,rfl⟩:=Y9 t4;obtain ⟨n5,rfl,-⟩:=Zj Tryz.underlying3 z;obtain ⟨p6,q6,z6,rfl⟩:=yU Tryz.underlying30 B;obtain ⟨n7,rfl,-⟩:=Zj Tryz.underlying31 t7;obtain ⟨X,rfl,-⟩:=Zj Tryz.underlying3 t8;obtain ⟨T,rfl⟩:=Y9 t9;exact ⟨⟨⟨n0,A,F,[],s4⟩,n5,[],⟨n7,X,T⟩⟩,U,p6,W,V,q6,z6,rfl⟩
end
theorem xx {H:Type} {enc:TypeId × Value→H} {C:Checked} {os:Os} {f:FuncId} {fn:Func} {s:OpenSpec} {conds:List PathCond} {apart:Bool} {laid:List (String × DataW Unit)} (w0:World) (args:Array Value) (hos:w0.os=os)
  (hsh:(w0.forCall (fun _ _=>0) ⟨#[],args,[]⟩).Shaped C.prog) (hok:Input.okWideB C.prog (w0.forCall (fun _ _=>0) ⟨#[],args,[]⟩) f ⟨#[],args,[]⟩=true)
  (hrow:s.preRow enc C.prog fn conds apart laid (w0.forCall (fun _ _=>0) ⟨#[],args,[]⟩).memory args) :
  ∃(w:World) (tape:Tape) (i:Input),w.os=os∧(w.forCall tape i).Shaped C.prog∧i.vars=[]∧Input.okWide C.prog (w.forCall tape i) .any w.heap.size f i ∧
   s.preRow enc C.prog fn conds apart laid (w.forCall tape i).memory i.args∧({}:Assume).holds C.prog (lone (Frame.enter C.prog f i.args .normal) [] (w.forCall tape i)) :=
 ⟨w0,fun _ _=>0,⟨#[],args,[]⟩,hos,hsh,(Input.okWide_of_okWideB (base:=0) hok).1,(Input.okWide_of_okWideB hok).2,hrow,by
  simp only [Assume.holds]
  exact ⟨by simp,by simp,fun _=>Modest.zero,by simp,by simp⟩⟩
end Go.Proofs.YtbjndgachcdbcaaGreatDoor
