import Derived.Test.YtmbofhpmockmbaaGreatDoorMC21
import Derived.Test.YtmbofhpmockmbaaGreatDoorRows
import Derived.OpenShut
import Derived.LaidLaws
import Derived.Lay
import Derived.LaidOnce
import Derived.Lib.LaidTab
import Derived.Test.YtmbofhpmockmbaaGreatDoorMC10
import Derived.LaidHandle
import Derived.Test.YtmbofhpmockmbaaGreatDoorWAll
import Derived.ProofKit
import Derived.ShutString
import Derived.ChangeOld
import Derived.Below
import Derived.Test.YtmbofhpmockmbaaGreatDoorMC23
import Derived.ChangeSame
import Derived.JoinedCond
import Derived.JoinedOf
import Derived.SizedLaws
import Derived.Deep.DeepHandedRow
namespace Go.Proofs.YtmbofhpmockmbaaGreatDoor
open Go.ChangeShapes Go.WideShapes Go.RowKit
set_option maxRecDepth 100000
theorem U5 (a:ByteArray):za a.data.toList=a:=by
 apply ByteArray.ext
 unfold za
 simp
theorem yE {P:Program} {w:World} {n:String} {d:DataW Unit}:∀{laid:List (String × DataW Unit)} {ps:List MemPlace},DataW.LaidVars P w laid ps→(n,d)∈laid →
  ∃g t cs fuel p,P.globalNamed n=some g∧(P.globals[g]?).map (·.type)=some t∧w.var? P n=some cs∧DataW.trod (fun _=>()) P w 0 (fun _=>true) false fuel t cs.toList=some (d,p)
 | [],_,_,h=>by cases h
 | (_,_)::_,_,⟨g,t,cs,fuel,p,_,hg,ht,hv,hd,hr,_⟩,h=>by
  rcases List.mem_cons.1 h with e | e
  ·cases e;exact ⟨g,t,cs,fuel,p,hg,ht,hv,hd⟩
  ·exact yE hr e
theorem Vt {P:Program} {w:World} {nm:String} {g n:Nat} {t e:TypeId} {ls:List (List UInt8)} {cs:Array Value} {fuel:Nat} {p:List MemPlace}
  (hu:P.underlying t=some (.array n e)) (hs:P.underlying e=some .string) (hc:P.cellsOf e=1) (hn:n=ls.length) (hg:P.globalNamed nm=some g) (hv:w.var? P nm=some cs)
  (hd:DataW.trod (fun _=>()) P w 0 (fun _=>true) false fuel t cs.toList=some (.agg (ls.map fun l=>.lit (.string l)),p)) :
  ∀j (h:j<ls.length),w.cell? ⟨g,j,none⟩=some (.string (za ls[j])):=by
 intro j h;obtain ⟨H,m,-,I,-,L,z⟩:=DataW.trod_array hu hd;have J:=DataW.agg.inj (Prod.mk.inj I).1;have y:=z j (by omega)
 rw [hc,Nat.mul_one] at y;have o:j<H.length:=by omega
 rw [List.getElem?_eq_getElem o] at y;obtain ⟨s,E,D,-⟩:=DataW.trod_string hs y;have A:(ls.map fun l=>(DataW.lit (.string l):DataW Unit))[j]?=(H.map (·.1))[j]?:=by rw [J]
 rw [List.getElem?_map,List.getElem?_map,List.getElem?_eq_getElem h,List.getElem?_eq_getElem o,D] at A;simp only [Option.map_some,Option.some.injEq,DataW.lit.injEq,Lit.string.injEq] at A
 have K:s=za ls[j]:=by
  apply ByteArray.ext
  rw [A]
 rw [World.var?_cell hg hv j,←K]
 have G:(cs.toList.drop j)[0]?=some (.string s):=by
  have:=congrArg (fun l=>l[0]?) E
  simpa [List.getElem?_take] using this
 rw [List.getElem?_drop] at G
 simpa using G
theorem uJ:∃f0 f1:Field,Tryz.prog.underlying 228=some (.struct #[f0,f1])∧f0.type=5∧f1.type=5∧f0.offset=0∧f1.offset=1:=⟨_,_,Tryz.underlying228,rfl,rfl,rfl,rfl⟩
theorem Vu:Tryz.prog.cellsOf 5=1:=by kernel_rfl
theorem UH:Tryz.prog.cellsOf 228=2:=by kernel_rfl
theorem x6:Tryz.prog.cellsOf 9=1:=by kernel_rfl
theorem x7 {w:World} {m:Nat} {cs:List Value} {a b:Int} {p:List MemPlace}
  (h:DataW.trod (fun _=>()) Tryz.prog w 0 (fun _=>true) false m 228 cs=some (.agg [.lit (.int .u8 a),.lit (.int .u8 b)],p)):cs[0]?=some (.int .u8 a)∧cs[1]?=some (.int .u8 b):=by
 obtain ⟨M,K,R,Q,L,I,N⟩:=uJ;obtain ⟨T,n,-,O,-,U,e⟩:=DataW.trod_struct R h;have o:=DataW.agg.inj (Prod.mk.inj O).1;have z:=e 0 M rfl;have D:=e 1 K rfl;rw [Q,I,Vu] at z;rw [L,N,Vu] at D
 match T,U with
 | [x0,x1],_ =>
  simp only [List.map_cons,List.map_nil,List.cons.injEq,and_true] at o;obtain ⟨V,J,G,-⟩:=DataW.trod_int Tryz.underlying5 z;obtain ⟨W,H,E,-⟩:=DataW.trod_int Tryz.underlying5 D;rw [G,E] at o;simp only [DataW.lit.injEq,Lit.int.injEq,true_and] at o;obtain ⟨rfl,rfl⟩:=o;have A:=congrArg (fun l=>l[0]?) J
  have y:=congrArg (fun l=>l[0]?) H
  simp only [List.getElem?_take,List.getElem?_drop] at A y;exact ⟨by simpa using A,by simpa using y⟩
def laidX : List (String × DataW Unit) := [("hindcast/lex.words", Rows.laid_hindcast_lex_words), ("hindcast/lex.signs", Rows.laid_hindcast_lex_signs), ("hindcast/lex.escapes", Rows.laid_hindcast_lex_escapes), ("strconv.ErrRange", Rows.laid_strconv_ErrRange), ("internal/strconv.uint64pow10", Rows.laid_internal_strconv_uint64pow10)]
theorem qU {W:World} {laid:List (String × DataW Unit)} (h:laidMet Tryz.prog laid W) (hm:∀x∈laidX,x∈laid):Z4 W:=by
 obtain ⟨Z,D,-⟩:=h;refine ⟨?_,?_,?_,?_⟩
 ·obtain ⟨g, t, H, y, p, o, z, e, hd⟩ := yE (n := "hindcast/lex.words") (d := Rows.laid_hindcast_lex_words) D (hm _ (by unfold laidX; simp))
  obtain rfl := Option.some.inj ((show Tryz.prog.globalNamed "hindcast/lex.words" = some 9 by kernel_rfl).symm.trans o)
  obtain rfl:=Option.some.inj ((show (Tryz.prog.globals[9]?).map (·.type)=some 227 by kernel_rfl).symm.trans z)
  exact Vt (ls:=wordsL) Tryz.underlying227 Tryz.underlying9 x6 rfl o e hd
 ·obtain ⟨g, t, H, y, p, o, z, e, hd⟩ := yE (n := "hindcast/lex.signs") (d := Rows.laid_hindcast_lex_signs) D (hm _ (by unfold laidX; simp))
  obtain rfl := Option.some.inj ((show Tryz.prog.globalNamed "hindcast/lex.signs" = some 8 by kernel_rfl).symm.trans o)
  obtain rfl:=Option.some.inj ((show (Tryz.prog.globals[8]?).map (·.type)=some 225 by kernel_rfl).symm.trans z)
  exact Vt (ls:=signsL) Tryz.underlying225 Tryz.underlying9 x6 rfl o e hd
 ·obtain ⟨g, t, H, y, p, o, z, e, hd⟩ := yE (n := "hindcast/lex.escapes") (d := Rows.laid_hindcast_lex_escapes) D (hm _ (by unfold laidX; simp))
  obtain rfl := Option.some.inj ((show Tryz.prog.globalNamed "hindcast/lex.escapes" = some 10 by kernel_rfl).symm.trans o)
  obtain rfl:=Option.some.inj ((show (Tryz.prog.globals[10]?).map (·.type)=some 229 by kernel_rfl).symm.trans z)
  obtain ⟨U,m,-,X,-,Y,A⟩:=DataW.trod_array Tryz.underlying229 hd;have L:=DataW.agg.inj (Prod.mk.inj X).1;have J:=A 0 (by omega)
  have T:=A 1 (by omega)
  have N:=A 2 (by omega)
  rw [UH] at J T N
  match U,Y with
  | [(_,p0),(_,p1),(_,p2)],_ =>
   simp only [List.map_cons,List.map_nil,List.cons.injEq,and_true] at L;obtain ⟨rfl,rfl,rfl⟩:=L;obtain ⟨M,O⟩:=x7 J;obtain ⟨Q,K⟩:=x7 T;obtain ⟨I,R⟩:=x7 N;simp only [List.getElem?_take,List.getElem?_drop] at M O Q K I R;intro j hj;rw [World.var?_cell o e j];have V:j=0∨j=1∨j=2∨j=3∨j=4∨j=5:=by omega
   rcases V with rfl | rfl | rfl | rfl | rfl | rfl
   ·simpa using M
   ·simpa using O
   ·simpa using Q
   ·simpa using K
   ·simpa using I
   ·simpa using R
 ·obtain ⟨g, t, H, y, p, o, z, e, hd⟩ := yE (n := "strconv.ErrRange") (d := Rows.laid_strconv_ErrRange) D (hm _ (by unfold laidX; simp))
  obtain rfl := Option.some.inj ((show Tryz.prog.globalNamed "strconv.ErrRange" = some 2 by kernel_rfl).symm.trans o)
  obtain rfl:=Option.some.inj ((show (Tryz.prog.globals[2]?).map (·.type)=some 69 by kernel_rfl).symm.trans z)
  obtain ⟨G,u,v,E,-⟩:=iface_of_trod Tryz.underlying69 hd;refine ⟨u,v,?_⟩;rw [World.var?_cell o e 0]
  have:=congrArg (fun l=>l[0]?) E
  simpa using this
theorem qW:Tryz.prog.cellsOf 106=1:=by kernel_rfl
theorem qX:Tryz.prog.cellsOf 159=20:=by kernel_rfl
theorem QQ:(Rows.laid_internal_strconv_uint64pow10:DataW Unit)=Lib.tabData .u64 Lib.pow10Tab:=rfl
theorem UI {W:World} {laid:List (String × DataW Unit)} (h:laidMet Tryz.prog laid W) (hm:∀x∈laidX,x∈laid):uH W:=by
 refine ⟨qU h hm,?_⟩;obtain ⟨E,A,-⟩:=h;obtain ⟨g, t, D, o, p, z, y, e, hd⟩ := yE (n := "internal/strconv.uint64pow10") (d := Rows.laid_internal_strconv_uint64pow10) A (hm _ (by unfold laidX; simp))
 obtain rfl := Option.some.inj ((show Tryz.prog.globalNamed "internal/strconv.uint64pow10" = some 3 by kernel_rfl).symm.trans z)
 obtain rfl:=Option.some.inj ((show (Tryz.prog.globals[3]?).map (·.type)=some 159 by kernel_rfl).symm.trans y)
 rw [QQ] at hd
 unfold Lib.TabIs
 rw [e,←Lib.cells_of_tab Tryz.underlying159 Tryz.underlying106 qW qX hd]
theorem UJ:∃f0 f1:Field,Tryz.prog.underlying 201=some (.struct #[f0,f1])∧f0.type=9∧f1.type=3∧f0.offset=0∧f1.offset=1:=⟨_,_,Tryz.underlying201,rfl,rfl,rfl,rfl⟩
theorem UK:Tryz.prog.cellsOf 3=1:=by kernel_rfl
theorem qY:Tryz.prog.cellsOf 201=2:=by kernel_rfl
theorem QR {w:World} {m:Nat} {cs:List Value} {a:List UInt8} {b:Int} {p:List MemPlace}
  (h:DataW.trod (fun _=>()) Tryz.prog w 0 (fun _=>true) false m 201 cs=some (.agg [.lit (.string a),.lit (.int .i64 b)],p)):cs[0]?=some (.string (za a))∧cs[1]?=some (.int .i64 b):=by
 obtain ⟨M,K,R,Q,L,I,N⟩:=UJ;obtain ⟨T,n,-,O,-,U,e⟩:=DataW.trod_struct R h;have o:=DataW.agg.inj (Prod.mk.inj O).1;have z:=e 0 M rfl;have D:=e 1 K rfl;rw [Q,I,x6] at z;rw [L,N,UK] at D
 match T,U with
 | [x0,x1],_ =>
  simp only [List.map_cons,List.map_nil,List.cons.injEq,and_true] at o;obtain ⟨s,J,G,-⟩:=DataW.trod_string Tryz.underlying9 z;obtain ⟨V,H,E,-⟩:=DataW.trod_int Tryz.underlying3 D;rw [G,E] at o;simp only [DataW.lit.injEq,Lit.int.injEq,Lit.string.injEq,true_and] at o;obtain ⟨rfl,rfl⟩:=o;have A:=congrArg (fun l=>l[0]?) J
  have y:=congrArg (fun l=>l[0]?) H
  simp only [List.getElem?_take,List.getElem?_drop] at A y;rw [U5];exact ⟨by simpa using A,by simpa using y⟩
theorem QS:(Rows.laid_hindcast_syntax_levels:DataW Unit)=.agg (levelsL.map fun p=>.agg [.lit (.string p.1),.lit (.int .i64 p.2)]):=rfl
theorem UL:∀(j:Nat) (v:Value),YD[j]?=some v→∃(h:j / 2<levelsL.length),v=if j % 2=0 then .string (za (levelsL[j / 2]'h).1) else .int .i64 (levelsL[j / 2]'h).2:=by
 intro j v y;have e:j<26:=(List.getElem?_eq_some_iff.1 y).1
 have o:∀j (h:j<26),YD[j]?=some (if j % 2=0 then .string (za (levelsL[j / 2]'(by show j / 2<13;omega)).1) else .int .i64 (levelsL[j / 2]'(by show j / 2<13;omega)).2):=by
  intro j h;have z:j=0∨j=1∨j=2∨j=3∨j=4∨j=5∨j=6∨j=7∨j=8∨j=9∨j=10∨j=11∨j=12∨j=13∨j=14∨j=15∨j=16∨j=17∨j=18∨j=19∨j=20∨j=21∨j=22∨j=23∨j=24∨j=25:=by omega
  rcases z with rfl | rfl | rfl | rfl | rfl | rfl | rfl | rfl | rfl | rfl | rfl | rfl | rfl | rfl | rfl | rfl | rfl | rfl | rfl | rfl | rfl | rfl | rfl | rfl | rfl | rfl <;> rfl
 exact ⟨by show j / 2<13;omega,Option.some.inj (y.symm.trans (o j e))⟩
theorem qZ {W : World} {laid : List (String × DataW Unit)} (h : laidMet Tryz.prog laid W) (hm : ("hindcast/syntax.levels", Rows.laid_hindcast_syntax_levels) ∈ laid) : yL W := by
 obtain ⟨T,R,-⟩:=h;obtain ⟨g, t, V, J, p, K, M, y, hd⟩ := yE (n := "hindcast/syntax.levels") (d := Rows.laid_hindcast_syntax_levels) R hm;obtain rfl := Option.some.inj ((show Tryz.prog.globalNamed "hindcast/syntax.levels" = some 5 by kernel_rfl).symm.trans K)
 obtain rfl:=Option.some.inj ((show (Tryz.prog.globals[5]?).map (·.type)=some 202 by kernel_rfl).symm.trans M)
 rw [QS] at hd;obtain ⟨H,m,-,O,-,U,G⟩:=DataW.trod_array Tryz.underlying202 hd;have Q:=DataW.agg.inj (Prod.mk.inj O).1;intro j v N;obtain ⟨e,rfl⟩:=UL j v N;have L:j / 2<13:=e;have E:=G (j / 2) (by omega)
 rw [qY] at E;have o:j / 2<H.length:=by omega
 rw [List.getElem?_eq_getElem o] at E;have D:(levelsL.map fun p=>(DataW.agg [.lit (.string p.1),.lit (.int .i64 p.2)]:DataW Unit))[j / 2]?=(H.map (·.1))[j / 2]?:=by rw [Q]
 rw [List.getElem?_map,List.getElem?_map,List.getElem?_eq_getElem e,List.getElem?_eq_getElem o] at D;simp only [Option.map_some,Option.some.injEq] at D;obtain ⟨A,z⟩:=QR (a:=(levelsL[j / 2]'e).1) (b:=(levelsL[j / 2]'e).2) (p:=(H[j / 2]).2) (E.trans (by rw [D]))
 simp only [List.getElem?_take,List.getElem?_drop] at A z;show W.cell? ⟨_,0+j,none⟩=_
 rw [Nat.zero_add,World.var?_cell K y j];rcases Nat.mod_two_eq_zero_or_one j with I | I
 ·rw [if_pos I]
  rw [if_pos (by omega)] at A
  rw [show j / 2*2+0=j by omega] at A
  simpa using A
 ·rw [if_neg (by omega)]
  rw [if_pos (by omega)] at z
  rw [show j / 2*2+1=j by omega] at z
  simpa using z
def X0 : List (String × DataW Unit) := [("math/bits.deBruijn32tab", Rows.laid_math_bits_deBruijn32tab), ("math/bits.deBruijn64tab", Rows.laid_math_bits_deBruijn64tab), ("internal/strconv.uint64pow10", Rows.laid_internal_strconv_uint64pow10), ("errors.errorType", Rows.laid_errors_errorType), ("strconv.ErrRange", Rows.laid_strconv_ErrRange), ("strconv.ErrSyntax", Rows.laid_strconv_ErrSyntax), ("hindcast/lex.words", Rows.laid_hindcast_lex_words), ("hindcast/lex.signs", Rows.laid_hindcast_lex_signs), ("hindcast/lex.escapes", Rows.laid_hindcast_lex_escapes), ("hindcast/syntax.levels", Rows.laid_hindcast_syntax_levels)]
def Y0:List (String × DataW Unit):=X0.filter fun x=>x.2.handleName?.isNone
theorem X1 : Y0 = [("math/bits.deBruijn32tab", Rows.laid_math_bits_deBruijn32tab), ("math/bits.deBruijn64tab", Rows.laid_math_bits_deBruijn64tab), ("internal/strconv.uint64pow10", Rows.laid_internal_strconv_uint64pow10), ("strconv.ErrRange", Rows.laid_strconv_ErrRange), ("strconv.ErrSyntax", Rows.laid_strconv_ErrSyntax), ("hindcast/lex.words", Rows.laid_hindcast_lex_words), ("hindcast/lex.signs", Rows.laid_hindcast_lex_signs), ("hindcast/lex.escapes", Rows.laid_hindcast_lex_escapes), ("hindcast/syntax.levels", Rows.laid_hindcast_syntax_levels)] := rfl
theorem zbh : Tryz.prog.globalNamed "errors.errorType" = some 4 := by kernel_rfl
theorem zbi : (Tryz.prog.cutTypes.find? (·.1 == "internal/reflectlite.rtype")).map (·.2) = some 210 := by kernel_rfl
theorem zaW:((List.range Tryz.prog.types.size).filter fun t=>Tryz.prog.rowNamed t [101,114,114,111,114])=[69]:=by kernel_rfl
theorem q6 {W:World} (h:laidMetH Tryz.prog X0 W):xX W:=by
 have o:laidMet Tryz.prog Y0 W∧handlesMet Tryz.prog (X0.filter fun x=>x.2.handleName?.isSome) W:=h
 have K:yL W:=qZ o.1 (by rw [X1];simp)
 refine ⟨UI o.1 (by rw [X1];unfold laidX;simp),K,?_⟩
 obtain ⟨e, u, G, A, E, H, D, y⟩ := o.2 ("errors.errorType", Rows.laid_errors_errorType) (by simp only [X0]; exact List.mem_filter.2 ⟨by simp, rfl⟩)
 have I:e=[101,114,114,111,114]:=(Option.some.inj A).symm;subst I;obtain rfl:=Option.some.inj (zbi.symm.trans E);have z:G∈(List.range Tryz.prog.types.size).filter fun t=>Tryz.prog.rowNamed t [101,114,114,111,114]:=List.mem_filter.2 ⟨List.mem_range.2 H,D⟩
 rw [zaW] at z;obtain rfl:=List.mem_singleton.1 z;have J:typeHandle Tryz.prog 69=.pointer (some ⟨11,69,none⟩):=by kernel_rfl
 rw [J] at y
 unfold Xp
 simpa using World.var?_cell zbh y 0
noncomputable def zaH (os:Os):World :=
 let w0:=World.holding Tryz.prog os ⟨#[],#[],[]⟩
 { w0 with heap:=w0.heap.modify 4 fun
   | .cells _ t frozen=>.cells #[.iface 210 (.agg #[.pointer (some ⟨11,69,none⟩)])] t frozen
   | o=>o }
noncomputable def QU (os:Os):World:=(zaH os).layVars Tryz.prog Y0
theorem zaz (os:Os):(QU os).os=os:=World.layVars_os _ _ _
theorem QV (os:Os) (args:Array Value):laidMetH Tryz.prog X0 ((QU os).forCall (fun _ _=>0) ⟨#[],args,[]⟩).memory:=by
 refine laidMetH_of_parts ?_ (by kernel_rfl)
 have e:(Y0.filter fun x=>(Y0.map (·.1)).contains x.1)=Y0:=List.filter_eq_self.2 fun x hx=>List.contains_iff_mem.2 (List.mem_map.2 ⟨x,hx,rfl⟩)
 have o:(Y0.filter fun x=>!(Y0.map (·.1)).contains x.1)=[]:=List.filter_eq_nil_iff.2 fun x hx=>by rw [List.contains_iff_mem.2 (List.mem_map.2 ⟨x,hx,rfl⟩)];simp
 have h:laidMet Tryz.prog Y0 (QU os):=laidMet_layVars (w0:=zaH os) (Y0.map (·.1)) [] (by rw [e];rfl) (by rw [e];kernel_rfl) (by rw [e];kernel_rfl) (by rw [o];exact LaidIn.none)
 exact h.of_heap (by simp [World.memory,World.forCall,Input.heap])
end Go.Proofs.YtmbofhpmockmbaaGreatDoor
namespace Go.Proofs.YtmbofhpmockmbaaGreatDoor
open Go.ChangeShapes Go.WideShapes Go.ChangeAt Go.RowKit
set_option maxRecDepth 100000
theorem own:ownKnob Tryz.prog.godebug=none:=by kernel_rfl
theorem zaA {W:World} (h:laidMetH Tryz.prog X0 W):QT W:=by
 refine ⟨q6 h,?_⟩;have E:laidMet Tryz.prog Y0 W∧handlesMet Tryz.prog (X0.filter fun x=>x.2.handleName?.isSome) W:=h
 obtain ⟨I,G,-⟩:=E.1;obtain ⟨g, t, H, A, p, z, D, e, hd⟩ := yE (n := "strconv.ErrSyntax") (d := Rows.laid_strconv_ErrSyntax) G (by rw [X1]; simp)
 obtain rfl := Option.some.inj ((show Tryz.prog.globalNamed "strconv.ErrSyntax" = some 1 by kernel_rfl).symm.trans z)
 obtain rfl:=Option.some.inj ((show (Tryz.prog.globals[1]?).map (·.type)=some 69 by kernel_rfl).symm.trans D)
 obtain ⟨y,u,v,o,-⟩:=iface_of_trod Tryz.underlying69 hd;refine ⟨u,v,?_⟩;rw [World.var?_cell z e 0]
 have:=congrArg (fun l=>l[0]?) o
 simpa using this
theorem VU {H:Type} {enc:TypeId × Value→H} {C:Checked} {os:Os} {f:FuncId} {fn:Func} {s:OpenSpec} {conds:List PathCond} {apart:Bool} {laid:List (String × DataW Unit)} (w0:World) (args:Array Value) (hos:w0.os=os)
  (hsh:(w0.forCall (fun _ _=>0) ⟨#[],args,[]⟩).Shaped C.prog) (hok:Input.okWideB C.prog (w0.forCall (fun _ _=>0) ⟨#[],args,[]⟩) f ⟨#[],args,[]⟩=true)
  (hrow:s.preRow enc C.prog fn conds apart laid (w0.forCall (fun _ _=>0) ⟨#[],args,[]⟩).memory args) :
  ∃(w:World) (tape:Tape) (i:Input),w.os=os∧(w.forCall tape i).Shaped C.prog∧i.vars=[]∧Input.okWide C.prog (w.forCall tape i) .any w.heap.size f i ∧
   s.preRow enc C.prog fn conds apart laid (w.forCall tape i).memory i.args∧({}:Assume).holds C.prog (lone (Frame.enter C.prog f i.args .normal) [] (w.forCall tape i)) :=
 ⟨w0,fun _ _=>0,⟨#[],args,[]⟩,hos,hsh,(Input.okWide_of_okWideB (base:=0) hok).1,(Input.okWide_of_okWideB hok).2,hrow,by
  simp only [Assume.holds]
  exact ⟨by simp,by simp,fun _=>Modest.zero,by simp,by simp⟩⟩
end Go.Proofs.YtmbofhpmockmbaaGreatDoor
