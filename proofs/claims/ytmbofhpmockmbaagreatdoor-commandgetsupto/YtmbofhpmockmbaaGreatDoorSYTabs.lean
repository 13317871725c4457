import Derived.Test.YtmbofhpmockmbaaGreatDoorMC19
import Derived.Test.YtmbofhpmockmbaaGreatDoorMC37
import Derived.LaidHandle
namespace Go.Proofs.YtmbofhpmockmbaaGreatDoor
open Go.ChangeShapes Go.WideShapes Go.RowKit
set_option maxRecDepth 100000
theorem VA:∃f0 f1:Field,Tryz.prog.underlying 201=some (.struct #[f0,f1])∧f0.type=9∧f1.type=3∧f0.offset=0∧f1.offset=1:=⟨_,_,Tryz.underlying201,rfl,rfl,rfl,rfl⟩
theorem VB:Tryz.prog.cellsOf 3=1:=by kernel_rfl
theorem uK:Tryz.prog.cellsOf 201=2:=by kernel_rfl
theorem Uz {w:World} {m:Nat} {cs:List Value} {a:List UInt8} {b:Int} {p:List MemPlace}
  (h:DataW.trod (fun _=>()) Tryz.prog w 0 (fun _=>true) false m 201 cs=some (.agg [.lit (.string a),.lit (.int .i64 b)],p)):cs[0]?=some (.string (za a))∧cs[1]?=some (.int .i64 b):=by
 obtain ⟨W,V,Q,H,G,I,U⟩:=VA;obtain ⟨T,n,-,R,-,K,o⟩:=DataW.trod_struct Q h;have y:=DataW.agg.inj (Prod.mk.inj R).1;have A:=o 0 W rfl;have D:=o 1 V rfl;rw [H,I,Yf] at A;rw [G,U,VB] at D
 match T,K with
 | [x0,x1],_ =>
  simp only [List.map_cons,List.map_nil,List.cons.injEq,and_true] at y;obtain ⟨s,J,M,-⟩:=DataW.trod_string Tryz.underlying9 A;obtain ⟨X,O,L,-⟩:=DataW.trod_int Tryz.underlying3 D;rw [M,L] at y;simp only [DataW.lit.injEq,Lit.int.injEq,Lit.string.injEq,true_and] at y;obtain ⟨rfl,rfl⟩:=y;have E:=congrArg (fun l=>l[0]?) J
  have z:=congrArg (fun l=>l[0]?) O
  simp only [List.getElem?_take,List.getElem?_drop] at E z;rw [VY];exact ⟨by simpa using E,by simpa using z⟩
theorem UA:(Rows.laid_hindcast_syntax_levels:DataW Unit)=.agg (zB.map fun p=>.agg [.lit (.string p.1),.lit (.int .i64 p.2)]):=rfl
theorem VC:∀(j:Nat) (v:Value),yJ[j]?=some v→∃(h:j / 2<zB.length),v=if j % 2=0 then .string (za (zB[j / 2]'h).1) else .int .i64 (zB[j / 2]'h).2:=by
 intro j v z;have y:j<26:=(List.getElem?_eq_some_iff.1 z).1
 have o:∀j (h:j<26),yJ[j]?=some (if j % 2=0 then .string (za (zB[j / 2]'(by show j / 2<13;omega)).1) else .int .i64 (zB[j / 2]'(by show j / 2<13;omega)).2):=by
  intro j h;have A:j=0∨j=1∨j=2∨j=3∨j=4∨j=5∨j=6∨j=7∨j=8∨j=9∨j=10∨j=11∨j=12∨j=13∨j=14∨j=15∨j=16∨j=17∨j=18∨j=19∨j=20∨j=21∨j=22∨j=23∨j=24∨j=25:=by omega
  rcases A with rfl | rfl | rfl | rfl | rfl | rfl | rfl | rfl | rfl | rfl | rfl | rfl | rfl | rfl | rfl | rfl | rfl | rfl | rfl | rfl | rfl | rfl | rfl | rfl | rfl | rfl <;> rfl
 exact ⟨by show j / 2<13;omega,Option.some.inj (z.symm.trans (o j y))⟩
theorem uL {W : World} {laid : List (String × DataW Unit)} (h : laidMet Tryz.prog laid W) (hm : ("hindcast/syntax.levels", Rows.laid_hindcast_syntax_levels) ∈ laid) : yc W := by
 obtain ⟨V,Q,-⟩:=h;obtain ⟨g, t, Y, fuel, p, K, T, y, L⟩ := Z1 (n := "hindcast/syntax.levels") (d := Rows.laid_hindcast_syntax_levels) Q hm;obtain rfl := Option.some.inj ((show Tryz.prog.globalNamed "hindcast/syntax.levels" = some 5 by kernel_rfl).symm.trans K)
 obtain rfl:=Option.some.inj ((show (Tryz.prog.globals[5]?).map (·.type)=some 202 by kernel_rfl).symm.trans T)
 rw [UA] at L;obtain ⟨H,m,-,R,-,X,I⟩:=DataW.trod_array Tryz.underlying202 L;have U:=DataW.agg.inj (Prod.mk.inj R).1;intro j v O;obtain ⟨o,rfl⟩:=VC j v O;have J:j / 2<13:=o;have E:=I (j / 2) (by omega)
 rw [uK] at E;have z:j / 2<H.length:=by omega
 rw [List.getElem?_eq_getElem z] at E;have G:(zB.map fun p=>(DataW.agg [.lit (.string p.1),.lit (.int .i64 p.2)]:DataW Unit))[j / 2]?=(H.map (·.1))[j / 2]?:=by rw [U]
 rw [List.getElem?_map,List.getElem?_map,List.getElem?_eq_getElem o,List.getElem?_eq_getElem z] at G;simp only [Option.map_some,Option.some.injEq] at G;obtain ⟨D,A⟩:=Uz (a:=(zB[j / 2]'o).1) (b:=(zB[j / 2]'o).2) (p:=(H[j / 2]).2) (E.trans (by rw [G]))
 simp only [List.getElem?_take,List.getElem?_drop] at D A;show W.cell? ⟨_,0+j,none⟩=_
 rw [Nat.zero_add,World.var?_cell K y j];rcases Nat.mod_two_eq_zero_or_one j with M | M
 ·rw [if_pos M]
  rw [if_pos (by omega)] at D
  rw [show j / 2*2+0=j by omega] at D
  simpa using D
 ·rw [if_neg (by omega)]
  rw [if_pos (by omega)] at A
  rw [show j / 2*2+1=j by omega] at A
  simpa using A
def xR : List (String × DataW Unit) := [("math/bits.deBruijn32tab", Rows.laid_math_bits_deBruijn32tab), ("math/bits.deBruijn64tab", Rows.laid_math_bits_deBruijn64tab), ("internal/strconv.uint64pow10", Rows.laid_internal_strconv_uint64pow10), ("errors.errorType", Rows.laid_errors_errorType), ("strconv.ErrRange", Rows.laid_strconv_ErrRange), ("strconv.ErrSyntax", Rows.laid_strconv_ErrSyntax), ("hindcast/lex.words", Rows.laid_hindcast_lex_words), ("hindcast/lex.signs", Rows.laid_hindcast_lex_signs), ("hindcast/lex.escapes", Rows.laid_hindcast_lex_escapes), ("hindcast/syntax.levels", Rows.laid_hindcast_syntax_levels)]
def Yb:List (String × DataW Unit):=xR.filter fun x=>x.2.handleName?.isNone
theorem xS : Yb = [("math/bits.deBruijn32tab", Rows.laid_math_bits_deBruijn32tab), ("math/bits.deBruijn64tab", Rows.laid_math_bits_deBruijn64tab), ("internal/strconv.uint64pow10", Rows.laid_internal_strconv_uint64pow10), ("strconv.ErrRange", Rows.laid_strconv_ErrRange), ("strconv.ErrSyntax", Rows.laid_strconv_ErrSyntax), ("hindcast/lex.words", Rows.laid_hindcast_lex_words), ("hindcast/lex.signs", Rows.laid_hindcast_lex_signs), ("hindcast/lex.escapes", Rows.laid_hindcast_lex_escapes), ("hindcast/syntax.levels", Rows.laid_hindcast_syntax_levels)] := rfl
theorem qK : Tryz.prog.globalNamed "errors.errorType" = some 4 := by kernel_rfl
theorem qL : (Tryz.prog.cutTypes.find? (·.1 == "internal/reflectlite.rtype")).map (·.2) = some 210 := by kernel_rfl
theorem qt:((List.range Tryz.prog.types.size).filter fun t=>Tryz.prog.rowNamed t [101,114,114,111,114])=[69]:=by kernel_rfl
theorem uM {W:World} (h:laidMetH Tryz.prog xR W):YQ W:=by
 have y:laidMet Tryz.prog Yb W∧handlesMet Tryz.prog (xR.filter fun x=>x.2.handleName?.isSome) W:=h
 have D:yc W:=uL y.1 (by rw [xS];simp)
 refine ⟨Vn y.1 (by rw [xS];unfold laidX;simp),D,?_⟩
 obtain ⟨o, u, H, I, K, E, J, z⟩ := y.2 ("errors.errorType", Rows.laid_errors_errorType) (by simp only [xR]; exact List.mem_filter.2 ⟨by simp, rfl⟩)
 have L:o=[101,114,114,111,114]:=(Option.some.inj I).symm;subst L;obtain rfl:=Option.some.inj (qL.symm.trans K);have A:H∈(List.range Tryz.prog.types.size).filter fun t=>Tryz.prog.rowNamed t [101,114,114,111,114]:=List.mem_filter.2 ⟨List.mem_range.2 E,J⟩
 rw [qt] at A;obtain rfl:=List.mem_singleton.1 A;have G:typeHandle Tryz.prog 69=.pointer (some ⟨11,69,none⟩):=by kernel_rfl
 rw [G] at z
 unfold Y3
 simpa using World.var?_cell qK z 0
noncomputable def U7 (os:Os):World :=
 let w0:=World.holding Tryz.prog os ⟨#[],#[],[]⟩
 { w0 with heap:=w0.heap.modify 4 fun
   | .cells _ t frozen=>.cells #[.iface 210 (.agg #[.pointer (some ⟨11,69,none⟩)])] t frozen
   | o=>o }
noncomputable def UB (os:Os):World:=(U7 os).layVars Tryz.prog Yb
theorem U1 (os:Os):(UB os).os=os:=World.layVars_os _ _ _
theorem UC (os:Os) (args:Array Value):laidMetH Tryz.prog xR ((UB os).forCall (fun _ _=>0) ⟨#[],args,[]⟩).memory:=by
 refine laidMetH_of_parts ?_ (by kernel_rfl)
 have o:(Yb.filter fun x=>(Yb.map (·.1)).contains x.1)=Yb:=List.filter_eq_self.2 fun x hx=>List.contains_iff_mem.2 (List.mem_map.2 ⟨x,hx,rfl⟩)
 have y:(Yb.filter fun x=>!(Yb.map (·.1)).contains x.1)=[]:=List.filter_eq_nil_iff.2 fun x hx=>by rw [List.contains_iff_mem.2 (List.mem_map.2 ⟨x,hx,rfl⟩)];simp
 have h:laidMet Tryz.prog Yb (UB os):=laidMet_layVars (w0:=U7 os) (Yb.map (·.1)) [] (by rw [o];rfl) (by rw [o];kernel_rfl) (by rw [o];kernel_rfl) (by rw [y];exact LaidIn.none)
 exact h.of_heap (by simp [World.memory,World.forCall,Input.heap])
end Go.Proofs.YtmbofhpmockmbaaGreatDoor
