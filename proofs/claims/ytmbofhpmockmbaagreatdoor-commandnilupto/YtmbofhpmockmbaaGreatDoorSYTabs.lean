import Derived.Test.YtmbofhpmockmbaaGreatDoorSSynT
import Derived.Test.YtmbofhpmockmbaaGreatDoorXTabs2
import Derived.LaidHandle
namespace Go.Proofs.YtmbofhpmockmbaaGreatDoor
open Go.ChangeShapes Go.WideShapes Go.RowKit
set_option maxRecDepth 100000
theorem vt:∃f0 f1:Field,Tryz.prog.underlying 201=some (.struct #[f0,f1])∧f0.type=9∧f1.type=3∧f0.offset=0∧f1.offset=1:=⟨_,_,Tryz.underlying201,rfl,rfl,rfl,rfl⟩
theorem vu:Tryz.prog.cellsOf 3=1:=by kernel_rfl
theorem VE:Tryz.prog.cellsOf 201=2:=by kernel_rfl
theorem un {w:World} {m:Nat} {cs:List Value} {a:List UInt8} {b:Int} {p:List MemPlace}
  (h:DataW.trod (fun _=>()) Tryz.prog w 0 (fun _=>true) false m 201 cs=some (.agg [.lit (.string a),.lit (.int .i64 b)],p)):cs[0]?=some (.string (za a))∧cs[1]?=some (.int .i64 b):=by
 obtain ⟨K,M,T,G,O,N,H⟩:=vt;obtain ⟨R,n,-,S,-,Q,o⟩:=DataW.trod_struct T h;have y:=DataW.agg.inj (Prod.mk.inj S).1;have D:=o 0 K rfl;have A:=o 1 M rfl;rw [G,N,yJ] at D;rw [O,H,vu] at A
 match R,Q with
 | [x0,x1],_ =>
  simp only [List.map_cons,List.map_nil,List.cons.injEq,and_true] at y;obtain ⟨s,L,U,-⟩:=DataW.trod_string Tryz.underlying9 D;obtain ⟨V,I,J,-⟩:=DataW.trod_int Tryz.underlying3 A;rw [U,J] at y;simp only [DataW.lit.injEq,Lit.int.injEq,Lit.string.injEq,true_and] at y;obtain ⟨rfl,rfl⟩:=y;have E:=congrArg (fun l=>l[0]?) L
  have z:=congrArg (fun l=>l[0]?) I
  simp only [List.getElem?_take,List.getElem?_drop] at E z;rw [vT];exact ⟨by simpa using E,by simpa using z⟩
theorem uo:(Rows.laid_hindcast_syntax_levels:DataW Unit)=.agg (zy.map fun p=>.agg [.lit (.string p.1),.lit (.int .i64 p.2)]):=rfl
theorem vv:∀(j:Nat) (v:Value),yq[j]?=some v→∃(h:j / 2<zy.length),v=if j % 2=0 then .string (za (zy[j / 2]'h).1) else .int .i64 (zy[j / 2]'h).2:=by
 intro j v z;have o:j<26:=(List.getElem?_eq_some_iff.1 z).1
 have y:∀j (h:j<26),yq[j]?=some (if j % 2=0 then .string (za (zy[j / 2]'(by show j / 2<13;omega)).1) else .int .i64 (zy[j / 2]'(by show j / 2<13;omega)).2):=by
  intro j h;have A:j=0∨j=1∨j=2∨j=3∨j=4∨j=5∨j=6∨j=7∨j=8∨j=9∨j=10∨j=11∨j=12∨j=13∨j=14∨j=15∨j=16∨j=17∨j=18∨j=19∨j=20∨j=21∨j=22∨j=23∨j=24∨j=25:=by omega
  rcases A with rfl | rfl | rfl | rfl | rfl | rfl | rfl | rfl | rfl | rfl | rfl | rfl | rfl | rfl | rfl | rfl | rfl | rfl | rfl | rfl | rfl | rfl | rfl | rfl | rfl | rfl <;> rfl
 exact ⟨by show j / 2<13;omega,Option.some.inj (z.symm.trans (y j o))⟩
theorem VF {W : World} {laid : List (String × DataW Unit)} (h : laidMet Tryz.prog laid W) (hm : ("hindcast/syntax.levels", Rows.laid_hindcast_syntax_levels) ∈ laid) : ZW W := by
 obtain ⟨V,S,-⟩:=h;obtain ⟨g, t, U, J, p, M, R, y, K⟩ := ZQ (n := "hindcast/syntax.levels") (d := Rows.laid_hindcast_syntax_levels) S hm;obtain rfl := Option.some.inj ((show Tryz.prog.globalNamed "hindcast/syntax.levels" = some 5 by kernel_rfl).symm.trans M)
 obtain rfl:=Option.some.inj ((show (Tryz.prog.globals[5]?).map (·.type)=some 202 by kernel_rfl).symm.trans R)
 rw [uo] at K;obtain ⟨G,m,-,T,-,X,I⟩:=DataW.trod_array Tryz.underlying202 K;have Q:=DataW.agg.inj (Prod.mk.inj T).1;intro j v O;obtain ⟨o,rfl⟩:=vv j v O;have L:j / 2<13:=o;have H:=I (j / 2) (by omega)
 rw [VE] at H;have z:j / 2<G.length:=by omega
 rw [List.getElem?_eq_getElem z] at H;have E:(zy.map fun p=>(DataW.agg [.lit (.string p.1),.lit (.int .i64 p.2)]:DataW Unit))[j / 2]?=(G.map (·.1))[j / 2]?:=by rw [Q]
 rw [List.getElem?_map,List.getElem?_map,List.getElem?_eq_getElem o,List.getElem?_eq_getElem z] at E;simp only [Option.map_some,Option.some.injEq] at E;obtain ⟨D,A⟩:=un (a:=(zy[j / 2]'o).1) (b:=(zy[j / 2]'o).2) (p:=(G[j / 2]).2) (H.trans (by rw [E]))
 simp only [List.getElem?_take,List.getElem?_drop] at D A;show W.cell? ⟨_,0+j,none⟩=_
 rw [Nat.zero_add,World.var?_cell M y j];rcases Nat.mod_two_eq_zero_or_one j with N | N
 ·rw [if_pos N]
  rw [if_pos (by omega)] at D
  rw [show j / 2*2+0=j by omega] at D
  simpa using D
 ·rw [if_neg (by omega)]
  rw [if_pos (by omega)] at A
  rw [show j / 2*2+1=j by omega] at A
  simpa using A
def YZ : List (String × DataW Unit) := [("math/bits.deBruijn32tab", Rows.laid_math_bits_deBruijn32tab), ("math/bits.deBruijn64tab", Rows.laid_math_bits_deBruijn64tab), ("internal/strconv.uint64pow10", Rows.laid_internal_strconv_uint64pow10), ("errors.errorType", Rows.laid_errors_errorType), ("strconv.ErrRange", Rows.laid_strconv_ErrRange), ("strconv.ErrSyntax", Rows.laid_strconv_ErrSyntax), ("hindcast/lex.words", Rows.laid_hindcast_lex_words), ("hindcast/lex.signs", Rows.laid_hindcast_lex_signs), ("hindcast/lex.escapes", Rows.laid_hindcast_lex_escapes), ("hindcast/syntax.levels", Rows.laid_hindcast_syntax_levels)]
def yF:List (String × DataW Unit):=YZ.filter fun x=>x.2.handleName?.isNone
theorem Y0 : yF = [("math/bits.deBruijn32tab", Rows.laid_math_bits_deBruijn32tab), ("math/bits.deBruijn64tab", Rows.laid_math_bits_deBruijn64tab), ("internal/strconv.uint64pow10", Rows.laid_internal_strconv_uint64pow10), ("strconv.ErrRange", Rows.laid_strconv_ErrRange), ("strconv.ErrSyntax", Rows.laid_strconv_ErrSyntax), ("hindcast/lex.words", Rows.laid_hindcast_lex_words), ("hindcast/lex.signs", Rows.laid_hindcast_lex_signs), ("hindcast/lex.escapes", Rows.laid_hindcast_lex_escapes), ("hindcast/syntax.levels", Rows.laid_hindcast_syntax_levels)] := rfl
theorem UB : Tryz.prog.globalNamed "errors.errorType" = some 4 := by kernel_rfl
theorem UC : (Tryz.prog.cutTypes.find? (·.1 == "internal/reflectlite.rtype")).map (·.2) = some 210 := by kernel_rfl
theorem Uh:((List.range Tryz.prog.types.size).filter fun t=>Tryz.prog.rowNamed t [101,114,114,111,114])=[69]:=by kernel_rfl
theorem VG {W:World} (h:laidMetH Tryz.prog YZ W):y8 W:=by
 have y:laidMet Tryz.prog yF W∧handlesMet Tryz.prog (YZ.filter fun x=>x.2.handleName?.isSome) W:=h
 have I:ZW W:=VF y.1 (by rw [Y0];simp)
 refine ⟨vr y.1 (by rw [Y0];unfold laidX;simp),I,?_⟩
 obtain ⟨o, u, D, K, E, L, G, z⟩ := y.2 ("errors.errorType", Rows.laid_errors_errorType) (by simp only [YZ]; exact List.mem_filter.2 ⟨by simp, rfl⟩)
 have H:o=[101,114,114,111,114]:=(Option.some.inj K).symm;subst H;obtain rfl:=Option.some.inj (UC.symm.trans E);have A:D∈(List.range Tryz.prog.types.size).filter fun t=>Tryz.prog.rowNamed t [101,114,114,111,114]:=List.mem_filter.2 ⟨List.mem_range.2 L,G⟩
 rw [Uh] at A;obtain rfl:=List.mem_singleton.1 A;have J:typeHandle Tryz.prog 69=.pointer (some ⟨11,69,none⟩):=by kernel_rfl
 rw [J] at z
 unfold Ym
 simpa using World.var?_cell UB z 0
noncomputable def uV (os:Os):World :=
 let w0:=World.holding Tryz.prog os ⟨#[],#[],[]⟩
 { w0 with heap:=w0.heap.modify 4 fun
   | .cells _ t frozen=>.cells #[.iface 210 (.agg #[.pointer (some ⟨11,69,none⟩)])] t frozen
   | o=>o }
noncomputable def uq (os:Os):World:=(uV os).layVars Tryz.prog yF
theorem uP (os:Os):(uq os).os=os:=World.layVars_os _ _ _
theorem ur (os:Os) (args:Array Value):laidMetH Tryz.prog YZ ((uq os).forCall (fun _ _=>0) ⟨#[],args,[]⟩).memory:=by
 refine laidMetH_of_parts ?_ (by kernel_rfl)
 have o:(yF.filter fun x=>(yF.map (·.1)).contains x.1)=yF:=List.filter_eq_self.2 fun x hx=>List.contains_iff_mem.2 (List.mem_map.2 ⟨x,hx,rfl⟩)
 have y:(yF.filter fun x=>!(yF.map (·.1)).contains x.1)=[]:=List.filter_eq_nil_iff.2 fun x hx=>by rw [List.contains_iff_mem.2 (List.mem_map.2 ⟨x,hx,rfl⟩)];simp
 have h:laidMet Tryz.prog yF (uq os):=laidMet_layVars (w0:=uV os) (yF.map (·.1)) [] (by rw [o];rfl) (by rw [o];kernel_rfl) (by rw [o];kernel_rfl) (by rw [y];exact LaidIn.none)
 exact h.of_heap (by simp [World.memory,World.forCall,Input.heap])
end Go.Proofs.YtmbofhpmockmbaaGreatDoor
