import Derived.Test.YtmbofhpmockmbaaGreatDoorSSynT
import Derived.Test.YtmbofhpmockmbaaGreatDoorXTabs2
import Derived.LaidHandle
namespace Go.Proofs.YtmbofhpmockmbaaGreatDoor
open Go.ChangeShapes Go.WideShapes Go.RowKit
set_option maxRecDepth 100000
theorem vR:∃f0 f1:Field,Tryz.prog.underlying 201=some (.struct #[f0,f1])∧f0.type=9∧f1.type=3∧f0.offset=0∧f1.offset=1:=⟨_,_,Tryz.underlying201,rfl,rfl,rfl,rfl⟩
theorem vS:Tryz.prog.cellsOf 3=1:=by kernel_rfl
theorem V6:Tryz.prog.cellsOf 201=2:=by kernel_rfl
theorem uO {w:World} {m:Nat} {cs:List Value} {a:List UInt8} {b:Int} {p:List MemPlace}
  (h:DataW.trod (fun _=>()) Tryz.prog w 0 (fun _=>true) false m 201 cs=some (.agg [.lit (.string a),.lit (.int .i64 b)],p)):cs[0]?=some (.string (za a))∧cs[1]?=some (.int .i64 b):=by
 obtain ⟨H,J,I,N,O,E,K⟩:=vR;obtain ⟨U,n,-,R,-,M,e⟩:=DataW.trod_struct I h;have o:=DataW.agg.inj (Prod.mk.inj R).1;have A:=e 0 H rfl;have z:=e 1 J rfl;rw [N,E,yV] at A;rw [O,K,vS] at z
 match U,M with
 | [x0,x1],_ =>
  simp only [List.map_cons,List.map_nil,List.cons.injEq,and_true] at o;obtain ⟨s,T,L,-⟩:=DataW.trod_string Tryz.underlying9 A;obtain ⟨V,G,Q,-⟩:=DataW.trod_int Tryz.underlying3 z;rw [L,Q] at o;simp only [DataW.lit.injEq,Lit.int.injEq,Lit.string.injEq,true_and] at o;obtain ⟨rfl,rfl⟩:=o;have y:=congrArg (fun l=>l[0]?) T
  have D:=congrArg (fun l=>l[0]?) G
  simp only [List.getElem?_take,List.getElem?_drop] at y D;rw [Vq];exact ⟨by simpa using y,by simpa using D⟩
theorem uP:(Rows.laid_hindcast_syntax_levels:DataW Unit)=.agg (zA.map fun p=>.agg [.lit (.string p.1),.lit (.int .i64 p.2)]):=rfl
theorem vT:∀(j:Nat) (v:Value),yB[j]?=some v→∃(h:j / 2<zA.length),v=if j % 2=0 then .string (za (zA[j / 2]'h).1) else .int .i64 (zA[j / 2]'h).2:=by
 intro j v y;have e:j<26:=(List.getElem?_eq_some_iff.1 y).1
 have o:∀j (h:j<26),yB[j]?=some (if j % 2=0 then .string (za (zA[j / 2]'(by show j / 2<13;omega)).1) else .int .i64 (zA[j / 2]'(by show j / 2<13;omega)).2):=by
  intro j h;have z:j=0∨j=1∨j=2∨j=3∨j=4∨j=5∨j=6∨j=7∨j=8∨j=9∨j=10∨j=11∨j=12∨j=13∨j=14∨j=15∨j=16∨j=17∨j=18∨j=19∨j=20∨j=21∨j=22∨j=23∨j=24∨j=25:=by omega
  rcases z with rfl | rfl | rfl | rfl | rfl | rfl | rfl | rfl | rfl | rfl | rfl | rfl | rfl | rfl | rfl | rfl | rfl | rfl | rfl | rfl | rfl | rfl | rfl | rfl | rfl | rfl <;> rfl
 exact ⟨by show j / 2<13;omega,Option.some.inj (y.symm.trans (o j e))⟩
theorem V7 {W : World} {laid : List (String × DataW Unit)} (h : laidMet Tryz.prog laid W) (hm : ("hindcast/syntax.levels", Rows.laid_hindcast_syntax_levels) ∈ laid) : Z2 W := by
 obtain ⟨U,Q,-⟩:=h;obtain ⟨g, t, V, fuel, p, L, O, o, I⟩ := ZU (n := "hindcast/syntax.levels") (d := Rows.laid_hindcast_syntax_levels) Q hm;obtain rfl := Option.some.inj ((show Tryz.prog.globalNamed "hindcast/syntax.levels" = some 5 by kernel_rfl).symm.trans L)
 obtain rfl:=Option.some.inj ((show (Tryz.prog.globals[5]?).map (·.type)=some 202 by kernel_rfl).symm.trans O)
 rw [uP] at I;obtain ⟨H,m,-,R,-,T,D⟩:=DataW.trod_array Tryz.underlying202 I;have N:=DataW.agg.inj (Prod.mk.inj R).1;intro j v M;obtain ⟨e,rfl⟩:=vT j v M;have K:j / 2<13:=e;have G:=D (j / 2) (by omega)
 rw [V6] at G;have y:j / 2<H.length:=by omega
 rw [List.getElem?_eq_getElem y] at G;have E:(zA.map fun p=>(DataW.agg [.lit (.string p.1),.lit (.int .i64 p.2)]:DataW Unit))[j / 2]?=(H.map (·.1))[j / 2]?:=by rw [N]
 rw [List.getElem?_map,List.getElem?_map,List.getElem?_eq_getElem e,List.getElem?_eq_getElem y] at E;simp only [Option.map_some,Option.some.injEq] at E;obtain ⟨z,A⟩:=uO (a:=(zA[j / 2]'e).1) (b:=(zA[j / 2]'e).2) (p:=(H[j / 2]).2) (G.trans (by rw [E]))
 simp only [List.getElem?_take,List.getElem?_drop] at z A;show W.cell? ⟨_,0+j,none⟩=_
 rw [Nat.zero_add,World.var?_cell L o j];rcases Nat.mod_two_eq_zero_or_one j with J | J
 ·rw [if_pos J]
  rw [if_pos (by omega)] at z
  rw [show j / 2*2+0=j by omega] at z
  simpa using z
 ·rw [if_neg (by omega)]
  rw [if_pos (by omega)] at A
  rw [show j / 2*2+1=j by omega] at A
  simpa using A
def xo : List (String × DataW Unit) := [("math/bits.deBruijn32tab", Rows.laid_math_bits_deBruijn32tab), ("math/bits.deBruijn64tab", Rows.laid_math_bits_deBruijn64tab), ("internal/strconv.uint64pow10", Rows.laid_internal_strconv_uint64pow10), ("errors.errorType", Rows.laid_errors_errorType), ("strconv.ErrRange", Rows.laid_strconv_ErrRange), ("strconv.ErrSyntax", Rows.laid_strconv_ErrSyntax), ("hindcast/lex.words", Rows.laid_hindcast_lex_words), ("hindcast/lex.signs", Rows.laid_hindcast_lex_signs), ("hindcast/lex.escapes", Rows.laid_hindcast_lex_escapes), ("hindcast/syntax.levels", Rows.laid_hindcast_syntax_levels)]
def yR:List (String × DataW Unit):=xo.filter fun x=>x.2.handleName?.isNone
theorem xp : yR = [("math/bits.deBruijn32tab", Rows.laid_math_bits_deBruijn32tab), ("math/bits.deBruijn64tab", Rows.laid_math_bits_deBruijn64tab), ("internal/strconv.uint64pow10", Rows.laid_internal_strconv_uint64pow10), ("strconv.ErrRange", Rows.laid_strconv_ErrRange), ("strconv.ErrSyntax", Rows.laid_strconv_ErrSyntax), ("hindcast/lex.words", Rows.laid_hindcast_lex_words), ("hindcast/lex.signs", Rows.laid_hindcast_lex_signs), ("hindcast/lex.escapes", Rows.laid_hindcast_lex_escapes), ("hindcast/syntax.levels", Rows.laid_hindcast_syntax_levels)] := rfl
theorem U4 : Tryz.prog.globalNamed "errors.errorType" = some 4 := by kernel_rfl
theorem U5 : (Tryz.prog.cutTypes.find? (·.1 == "internal/reflectlite.rtype")).map (·.2) = some 210 := by kernel_rfl
theorem UN:((List.range Tryz.prog.types.size).filter fun t=>Tryz.prog.rowNamed t [101,114,114,111,114])=[69]:=by kernel_rfl
theorem V8 {W:World} (h:laidMetH Tryz.prog xo W):Yq W:=by
 have o:laidMet Tryz.prog yR W∧handlesMet Tryz.prog (xo.filter fun x=>x.2.handleName?.isSome) W:=h
 have H:Z2 W:=V7 o.1 (by rw [xp];simp)
 refine ⟨vQ o.1 (by rw [xp];unfold laidX;simp),H,?_⟩
 obtain ⟨e, u, D, G, I, A, K, y⟩ := o.2 ("errors.errorType", Rows.laid_errors_errorType) (by simp only [xo]; exact List.mem_filter.2 ⟨by simp, rfl⟩)
 have E:e=[101,114,114,111,114]:=(Option.some.inj G).symm;subst E;obtain rfl:=Option.some.inj (U5.symm.trans I);have z:D∈(List.range Tryz.prog.types.size).filter fun t=>Tryz.prog.rowNamed t [101,114,114,111,114]:=List.mem_filter.2 ⟨List.mem_range.2 A,K⟩
 rw [UN] at z;obtain rfl:=List.mem_singleton.1 z;have J:typeHandle Tryz.prog 69=.pointer (some ⟨11,69,none⟩):=by kernel_rfl
 rw [J] at y
 unfold YD
 simpa using World.var?_cell U4 y 0
noncomputable def Uu (os:Os):World :=
 let w0:=World.holding Tryz.prog os ⟨#[],#[],[]⟩
 { w0 with heap:=w0.heap.modify 4 fun
   | .cells _ t frozen=>.cells #[.iface 210 (.agg #[.pointer (some ⟨11,69,none⟩)])] t frozen
   | o=>o }
noncomputable def uQ (os:Os):World:=(Uu os).layVars Tryz.prog yR
theorem Uq (os:Os):(uQ os).os=os:=World.layVars_os _ _ _
theorem uR (os:Os) (args:Array Value):laidMetH Tryz.prog xo ((uQ os).forCall (fun _ _=>0) ⟨#[],args,[]⟩).memory:=by
 refine laidMetH_of_parts ?_ (by kernel_rfl)
 have e:(yR.filter fun x=>(yR.map (·.1)).contains x.1)=yR:=List.filter_eq_self.2 fun x hx=>List.contains_iff_mem.2 (List.mem_map.2 ⟨x,hx,rfl⟩)
 have o:(yR.filter fun x=>!(yR.map (·.1)).contains x.1)=[]:=List.filter_eq_nil_iff.2 fun x hx=>by rw [List.contains_iff_mem.2 (List.mem_map.2 ⟨x,hx,rfl⟩)];simp
 have h:laidMet Tryz.prog yR (uQ os):=laidMet_layVars (w0:=Uu os) (yR.map (·.1)) [] (by rw [e];rfl) (by rw [e];kernel_rfl) (by rw [e];kernel_rfl) (by rw [o];exact LaidIn.none)
 exact h.of_heap (by simp [World.memory,World.forCall,Input.heap])
end Go.Proofs.YtmbofhpmockmbaaGreatDoor
