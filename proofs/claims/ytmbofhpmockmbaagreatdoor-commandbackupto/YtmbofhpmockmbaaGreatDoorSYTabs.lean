import Derived.Test.YtmbofhpmockmbaaGreatDoorSSynT
import Derived.Test.YtmbofhpmockmbaaGreatDoorXTabs2
import Derived.LaidHandle
namespace Go.Proofs.YtmbofhpmockmbaaGreatDoor
open Go.ChangeShapes Go.WideShapes Go.RowKit
set_option maxRecDepth 100000
theorem XC:∃f0 f1:Field,Tryz.prog.underlying 201=some (.struct #[f0,f1])∧f0.type=9∧f1.type=3∧f0.offset=0∧f1.offset=1:=⟨_,_,Tryz.underlying201,rfl,rfl,rfl,rfl⟩
theorem XD:Tryz.prog.cellsOf 3=1:=by kernel_rfl
theorem vF:Tryz.prog.cellsOf 201=2:=by kernel_rfl
theorem Vf {w:World} {m:Nat} {cs:List Value} {a:List UInt8} {b:Int} {p:List MemPlace}
  (h:DataW.trod (fun _=>()) Tryz.prog w 0 (fun _=>true) false m 201 cs=some (.agg [.lit (.string a),.lit (.int .i64 b)],p)):cs[0]?=some (.string (za a))∧cs[1]?=some (.int .i64 b):=by
 obtain ⟨Q,M,L,E,K,R,D⟩:=XC;obtain ⟨O,n,-,G,-,H,e⟩:=DataW.trod_struct L h;have o:=DataW.agg.inj (Prod.mk.inj G).1;have z:=e 0 Q rfl;have A:=e 1 M rfl;rw [E,R,yt] at z;rw [K,D,XD] at A
 match O,H with
 | [x0,x1],_ =>
  simp only [List.map_cons,List.map_nil,List.cons.injEq,and_true] at o;obtain ⟨s,N,J,-⟩:=DataW.trod_string Tryz.underlying9 z;obtain ⟨T,I,S,-⟩:=DataW.trod_int Tryz.underlying3 A;rw [J,S] at o;simp only [DataW.lit.injEq,Lit.int.injEq,Lit.string.injEq,true_and] at o;obtain ⟨rfl,rfl⟩:=o;have x:=congrArg (fun l=>l[0]?) N
  have y:=congrArg (fun l=>l[0]?) I
  simp only [List.getElem?_take,List.getElem?_drop] at x y;rw [xt];exact ⟨by simpa using x,by simpa using y⟩
theorem Vg:(Rows.laid_hindcast_syntax_levels:DataW Unit)=.agg (zx.map fun p=>.agg [.lit (.string p.1),.lit (.int .i64 p.2)]):=rfl
theorem XE:∀(j:Nat) (v:Value),Z9[j]?=some v→∃(h:j / 2<zx.length),v=if j % 2=0 then .string (za (zx[j / 2]'h).1) else .int .i64 (zx[j / 2]'h).2:=by
 intro j v x;have e:j<26:=(List.getElem?_eq_some_iff.1 x).1
 have o:∀j (h:j<26),Z9[j]?=some (if j % 2=0 then .string (za (zx[j / 2]'(by show j / 2<13;omega)).1) else .int .i64 (zx[j / 2]'(by show j / 2<13;omega)).2):=by
  intro j h;have y:j=0∨j=1∨j=2∨j=3∨j=4∨j=5∨j=6∨j=7∨j=8∨j=9∨j=10∨j=11∨j=12∨j=13∨j=14∨j=15∨j=16∨j=17∨j=18∨j=19∨j=20∨j=21∨j=22∨j=23∨j=24∨j=25:=by omega
  rcases y with rfl | rfl | rfl | rfl | rfl | rfl | rfl | rfl | rfl | rfl | rfl | rfl | rfl | rfl | rfl | rfl | rfl | rfl | rfl | rfl | rfl | rfl | rfl | rfl | rfl | rfl <;> rfl
 exact ⟨by show j / 2<13;omega,Option.some.inj (x.symm.trans (o j e))⟩
theorem vG {W : World} {laid : List (String × DataW Unit)} (h : laidMet Tryz.prog laid W) (hm : ("hindcast/syntax.levels", Rows.laid_hindcast_syntax_levels) ∈ laid) : ZL W := by
 obtain ⟨S,O,-⟩:=h;obtain ⟨g, t, U, L, p, H, R, o, J⟩ := ZE (n := "hindcast/syntax.levels") (d := Rows.laid_hindcast_syntax_levels) O hm;obtain rfl := Option.some.inj ((show Tryz.prog.globalNamed "hindcast/syntax.levels" = some 5 by kernel_rfl).symm.trans H)
 obtain rfl:=Option.some.inj ((show (Tryz.prog.globals[5]?).map (·.type)=some 202 by kernel_rfl).symm.trans R)
 rw [Vg] at J;obtain ⟨E,m,-,M,-,T,D⟩:=DataW.trod_array Tryz.underlying202 J;have Q:=DataW.agg.inj (Prod.mk.inj M).1;intro j v N;obtain ⟨e,rfl⟩:=XE j v N;have K:j / 2<13:=e;have G:=D (j / 2) (by omega)
 rw [vF] at G;have x:j / 2<E.length:=by omega
 rw [List.getElem?_eq_getElem x] at G;have A:(zx.map fun p=>(DataW.agg [.lit (.string p.1),.lit (.int .i64 p.2)]:DataW Unit))[j / 2]?=(E.map (·.1))[j / 2]?:=by rw [Q]
 rw [List.getElem?_map,List.getElem?_map,List.getElem?_eq_getElem e,List.getElem?_eq_getElem x] at A;simp only [Option.map_some,Option.some.injEq] at A;obtain ⟨y,z⟩:=Vf (a:=(zx[j / 2]'e).1) (b:=(zx[j / 2]'e).2) (p:=(E[j / 2]).2) (G.trans (by rw [A]))
 simp only [List.getElem?_take,List.getElem?_drop] at y z;show W.cell? ⟨_,0+j,none⟩=_
 rw [Nat.zero_add,World.var?_cell H o j];rcases Nat.mod_two_eq_zero_or_one j with I | I
 ·rw [if_pos I]
  rw [if_pos (by omega)] at y
  rw [show j / 2*2+0=j by omega] at y
  simpa using y
 ·rw [if_neg (by omega)]
  rw [if_pos (by omega)] at z
  rw [show j / 2*2+1=j by omega] at z
  simpa using z
def Yy : List (String × DataW Unit) := [("math/bits.deBruijn32tab", Rows.laid_math_bits_deBruijn32tab), ("math/bits.deBruijn64tab", Rows.laid_math_bits_deBruijn64tab), ("internal/strconv.uint64pow10", Rows.laid_internal_strconv_uint64pow10), ("errors.errorType", Rows.laid_errors_errorType), ("strconv.ErrRange", Rows.laid_strconv_ErrRange), ("strconv.ErrSyntax", Rows.laid_strconv_ErrSyntax), ("hindcast/lex.words", Rows.laid_hindcast_lex_words), ("hindcast/lex.signs", Rows.laid_hindcast_lex_signs), ("hindcast/lex.escapes", Rows.laid_hindcast_lex_escapes), ("hindcast/syntax.levels", Rows.laid_hindcast_syntax_levels)]
def yo:List (String × DataW Unit):=Yy.filter fun x=>x.2.handleName?.isNone
theorem Yz : yo = [("math/bits.deBruijn32tab", Rows.laid_math_bits_deBruijn32tab), ("math/bits.deBruijn64tab", Rows.laid_math_bits_deBruijn64tab), ("internal/strconv.uint64pow10", Rows.laid_internal_strconv_uint64pow10), ("strconv.ErrRange", Rows.laid_strconv_ErrRange), ("strconv.ErrSyntax", Rows.laid_strconv_ErrSyntax), ("hindcast/lex.words", Rows.laid_hindcast_lex_words), ("hindcast/lex.signs", Rows.laid_hindcast_lex_signs), ("hindcast/lex.escapes", Rows.laid_hindcast_lex_escapes), ("hindcast/syntax.levels", Rows.laid_hindcast_syntax_levels)] := rfl
theorem ua : Tryz.prog.globalNamed "errors.errorType" = some 4 := by kernel_rfl
theorem ub : (Tryz.prog.cutTypes.find? (·.1 == "internal/reflectlite.rtype")).map (·.2) = some 210 := by kernel_rfl
theorem VW:((List.range Tryz.prog.types.size).filter fun t=>Tryz.prog.rowNamed t [101,114,114,111,114])=[69]:=by kernel_rfl
theorem vH {W:World} (h:laidMetH Tryz.prog Yy W):yR W:=by
 have o:laidMet Tryz.prog yo W∧handlesMet Tryz.prog (Yy.filter fun x=>x.2.handleName?.isSome) W:=h
 have J:ZL W:=vG o.1 (by rw [Yz];simp)
 refine ⟨XB o.1 (by rw [Yz];unfold laidX;simp),J,?_⟩
 obtain ⟨e, u, D, G, I, A, K, z⟩ := o.2 ("errors.errorType", Rows.laid_errors_errorType) (by simp only [Yy]; exact List.mem_filter.2 ⟨by simp, rfl⟩)
 have E:e=[101,114,114,111,114]:=(Option.some.inj G).symm;subst E;obtain rfl:=Option.some.inj (ub.symm.trans I);have y:D∈(List.range Tryz.prog.types.size).filter fun t=>Tryz.prog.rowNamed t [101,114,114,111,114]:=List.mem_filter.2 ⟨List.mem_range.2 A,K⟩
 rw [VW] at y;obtain rfl:=List.mem_singleton.1 y;have H:typeHandle Tryz.prog 69=.pointer (some ⟨11,69,none⟩):=by kernel_rfl
 rw [H] at z
 unfold y3
 simpa using World.var?_cell ua z 0
noncomputable def VI (os:Os):World :=
 let w0:=World.holding Tryz.prog os ⟨#[],#[],[]⟩
 { w0 with heap:=w0.heap.modify 4 fun
   | .cells _ t frozen=>.cells #[.iface 210 (.agg #[.pointer (some ⟨11,69,none⟩)])] t frozen
   | o=>o }
noncomputable def Vh (os:Os):World:=(VI os).layVars Tryz.prog yo
theorem VD (os:Os):(Vh os).os=os:=World.layVars_os _ _ _
theorem Vi (os:Os) (args:Array Value):laidMetH Tryz.prog Yy ((Vh os).forCall (fun _ _=>0) ⟨#[],args,[]⟩).memory:=by
 refine laidMetH_of_parts ?_ (by kernel_rfl)
 have e:(yo.filter fun x=>(yo.map (·.1)).contains x.1)=yo:=List.filter_eq_self.2 fun x hx=>List.contains_iff_mem.2 (List.mem_map.2 ⟨x,hx,rfl⟩)
 have o:(yo.filter fun x=>!(yo.map (·.1)).contains x.1)=[]:=List.filter_eq_nil_iff.2 fun x hx=>by rw [List.contains_iff_mem.2 (List.mem_map.2 ⟨x,hx,rfl⟩)];simp
 have h:laidMet Tryz.prog yo (Vh os):=laidMet_layVars (w0:=VI os) (yo.map (·.1)) [] (by rw [e];rfl) (by rw [e];kernel_rfl) (by rw [e];kernel_rfl) (by rw [o];exact LaidIn.none)
 exact h.of_heap (by simp [World.memory,World.forCall,Input.heap])
end Go.Proofs.YtmbofhpmockmbaaGreatDoor
