import Derived.Test.YtmbofhpmockmbaaGreatDoorMC22
import Derived.Test.YtmbofhpmockmbaaGreatDoorRows
import Derived.OpenShut
import Derived.LaidLaws
import Derived.Lay
import Derived.LaidOnce
import Derived.Lib.LaidTab
import Derived.Test.YtmbofhpmockmbaaGreatDoorMC10
import Derived.LaidHandle
import Derived.Test.YtmbofhpmockmbaaGreatDoorWAll
import Derived.ProofKit
import Derived.ShutString
import Derived.ChangeOld
import Derived.Below
import Derived.Test.YtmbofhpmockmbaaGreatDoorMC24
import Derived.ChangeSame
import Derived.JoinedCond
import Derived.JoinedOf
import Derived.SizedLaws
import Derived.Deep.DeepHandedRow
namespace Go.Proofs.YtmbofhpmockmbaaGreatDoor
open Go.ChangeShapes Go.WideShapes Go.RowKit
set_option maxRecDepth 100000
theorem UN (a:ByteArray):za a.data.toList=a:=by
 apply ByteArray.ext
 unfold za
 simp
theorem yz {P:Program} {w:World} {n:String} {d:DataW Unit}:∀{laid:List (String × DataW Unit)} {ps:List MemPlace},DataW.LaidVars P w laid ps→(n,d)∈laid →
  ∃g t cs fuel p,P.globalNamed n=some g∧(P.globals[g]?).map (·.type)=some t∧w.var? P n=some cs∧DataW.trod (fun _=>()) P w 0 (fun _=>true) false fuel t cs.toList=some (d,p)
 | [],_,_,h=>by cases h
 | (_,_)::_,_,⟨g,t,cs,fuel,p,_,hg,ht,hv,hd,hr,_⟩,h=>by
  rcases List.mem_cons.1 h with e | e
  ·cases e;exact ⟨g,t,cs,fuel,p,hg,ht,hv,hd⟩
  ·exact yz hr e
theorem Va {P:Program} {w:World} {nm:String} {g n:Nat} {t e:TypeId} {ls:List (List UInt8)} {cs:Array Value} {fuel:Nat} {p:List MemPlace}
  (hu:P.underlying t=some (.array n e)) (hs:P.underlying e=some .string) (hc:P.cellsOf e=1) (hn:n=ls.length) (hg:P.globalNamed nm=some g) (hv:w.var? P nm=some cs)
  (hd:DataW.trod (fun _=>()) P w 0 (fun _=>true) false fuel t cs.toList=some (.agg (ls.map fun l=>.lit (.string l)),p)) :
  ∀j (h:j<ls.length),w.cell? ⟨g,j,none⟩=some (.string (za ls[j])):=by
 intro j h;obtain ⟨H,m,-,J,-,L,E⟩:=DataW.trod_array hu hd;have I:=DataW.agg.inj (Prod.mk.inj J).1;have z:=E j (by omega)
 rw [hc,Nat.mul_one] at z;have o:j<H.length:=by omega
 rw [List.getElem?_eq_getElem o] at z;obtain ⟨s,A,y,-⟩:=DataW.trod_string hs z;have D:(ls.map fun l=>(DataW.lit (.string l):DataW Unit))[j]?=(H.map (·.1))[j]?:=by rw [I]
 rw [List.getElem?_map,List.getElem?_map,List.getElem?_eq_getElem h,List.getElem?_eq_getElem o,y] at D;simp only [Option.map_some,Option.some.injEq,DataW.lit.injEq,Lit.string.injEq] at D
 have K:s=za ls[j]:=by
  apply ByteArray.ext
  rw [D]
 rw [World.var?_cell hg hv j,←K]
 have G:(cs.toList.drop j)[0]?=some (.string s):=by
  have:=congrArg (fun l=>l[0]?) A
  simpa [List.getElem?_take] using this
 rw [List.getElem?_drop] at G
 simpa using G
theorem uj:∃f0 f1:Field,Tryz.prog.underlying 228=some (.struct #[f0,f1])∧f0.type=5∧f1.type=5∧f0.offset=0∧f1.offset=1:=⟨_,_,Tryz.underlying228,rfl,rfl,rfl,rfl⟩
theorem Vb:Tryz.prog.cellsOf 5=1:=by kernel_rfl
theorem Uk:Tryz.prog.cellsOf 228=2:=by kernel_rfl
theorem Y0:Tryz.prog.cellsOf 9=1:=by kernel_rfl
theorem xQ {w:World} {m:Nat} {cs:List Value} {a b:Int} {p:List MemPlace}
  (h:DataW.trod (fun _=>()) Tryz.prog w 0 (fun _=>true) false m 228 cs=some (.agg [.lit (.int .u8 a),.lit (.int .u8 b)],p)):cs[0]?=some (.int .u8 a)∧cs[1]?=some (.int .u8 b):=by
 obtain ⟨O,Q,L,G,K,T,N⟩:=uj;obtain ⟨U,n,-,M,-,I,e⟩:=DataW.trod_struct L h;have o:=DataW.agg.inj (Prod.mk.inj M).1;have z:=e 0 O rfl;have D:=e 1 Q rfl;rw [G,T,Vb] at z;rw [K,N,Vb] at D
 match U,I with
 | [x0,x1],_ =>
  simp only [List.map_cons,List.map_nil,List.cons.injEq,and_true] at o;obtain ⟨W,J,H,-⟩:=DataW.trod_int Tryz.underlying5 z;obtain ⟨V,R,E,-⟩:=DataW.trod_int Tryz.underlying5 D;rw [H,E] at o;simp only [DataW.lit.injEq,Lit.int.injEq,true_and] at o;obtain ⟨rfl,rfl⟩:=o;have A:=congrArg (fun l=>l[0]?) J
  have y:=congrArg (fun l=>l[0]?) R
  simp only [List.getElem?_take,List.getElem?_drop] at A y;exact ⟨by simpa using A,by simpa using y⟩
def laidX : List (String × DataW Unit) := [("hindcast/lex.words", Rows.laid_hindcast_lex_words), ("hindcast/lex.signs", Rows.laid_hindcast_lex_signs), ("hindcast/lex.escapes", Rows.laid_hindcast_lex_escapes), ("strconv.ErrRange", Rows.laid_strconv_ErrRange), ("internal/strconv.uint64pow10", Rows.laid_internal_strconv_uint64pow10)]
theorem qy {W:World} {laid:List (String × DataW Unit)} (h:laidMet Tryz.prog laid W) (hm:∀x∈laidX,x∈laid):Z1 W:=by
 obtain ⟨ps,D,-⟩:=h;refine ⟨?_,?_,?_,?_⟩
 ·obtain ⟨g, t, H, y, p, o, z, e, hd⟩ := yz (n := "hindcast/lex.words") (d := Rows.laid_hindcast_lex_words) D (hm _ (by unfold laidX; simp))
  obtain rfl := Option.some.inj ((show Tryz.prog.globalNamed "hindcast/lex.words" = some 9 by kernel_rfl).symm.trans o)
  obtain rfl:=Option.some.inj ((show (Tryz.prog.globals[9]?).map (·.type)=some 227 by kernel_rfl).symm.trans z)
  exact Va (ls:=wordsL) Tryz.underlying227 Tryz.underlying9 Y0 rfl o e hd
 ·obtain ⟨g, t, H, y, p, o, z, e, hd⟩ := yz (n := "hindcast/lex.signs") (d := Rows.laid_hindcast_lex_signs) D (hm _ (by unfold laidX; simp))
  obtain rfl := Option.some.inj ((show Tryz.prog.globalNamed "hindcast/lex.signs" = some 8 by kernel_rfl).symm.trans o)
  obtain rfl:=Option.some.inj ((show (Tryz.prog.globals[8]?).map (·.type)=some 225 by kernel_rfl).symm.trans z)
  exact Va (ls:=signsL) Tryz.underlying225 Tryz.underlying9 Y0 rfl o e hd
 ·obtain ⟨g, t, H, y, p, o, z, e, hd⟩ := yz (n := "hindcast/lex.escapes") (d := Rows.laid_hindcast_lex_escapes) D (hm _ (by unfold laidX; simp))
  obtain rfl := Option.some.inj ((show Tryz.prog.globalNamed "hindcast/lex.escapes" = some 10 by kernel_rfl).symm.trans o)
  obtain rfl:=Option.some.inj ((show (Tryz.prog.globals[10]?).map (·.type)=some 229 by kernel_rfl).symm.trans z)
  obtain ⟨U,m,-,X,-,V,A⟩:=DataW.trod_array Tryz.underlying229 hd;have I:=DataW.agg.inj (Prod.mk.inj X).1;have J:=A 0 (by omega)
  have K:=A 1 (by omega)
  have M:=A 2 (by omega)
  rw [Uk] at J K M
  match U,V with
  | [(_,p0),(_,p1),(_,p2)],_ =>
   simp only [List.map_cons,List.map_nil,List.cons.injEq,and_true] at I;obtain ⟨rfl,rfl,rfl⟩:=I;obtain ⟨T,R⟩:=xQ J;obtain ⟨O,Q⟩:=xQ K;obtain ⟨N,L⟩:=xQ M;simp only [List.getElem?_take,List.getElem?_drop] at T R O Q N L;intro j Z;rw [World.var?_cell o e j];have Y:j=0∨j=1∨j=2∨j=3∨j=4∨j=5:=by omega
   rcases Y with rfl | rfl | rfl | rfl | rfl | rfl
   ·simpa using T
   ·simpa using R
   ·simpa using O
   ·simpa using Q
   ·simpa using N
   ·simpa using L
 ·obtain ⟨g, t, H, y, p, o, z, e, hd⟩ := yz (n := "strconv.ErrRange") (d := Rows.laid_strconv_ErrRange) D (hm _ (by unfold laidX; simp))
  obtain rfl := Option.some.inj ((show Tryz.prog.globalNamed "strconv.ErrRange" = some 2 by kernel_rfl).symm.trans o)
  obtain rfl:=Option.some.inj ((show (Tryz.prog.globals[2]?).map (·.type)=some 69 by kernel_rfl).symm.trans z)
  obtain ⟨G,u,v,E,-⟩:=iface_of_trod Tryz.underlying69 hd;refine ⟨u,v,?_⟩;rw [World.var?_cell o e 0]
  have:=congrArg (fun l=>l[0]?) E
  simpa using this
theorem qz:Tryz.prog.cellsOf 106=1:=by kernel_rfl
theorem qA:Tryz.prog.cellsOf 159=20:=by kernel_rfl
theorem Qs:(Rows.laid_internal_strconv_uint64pow10:DataW Unit)=Lib.tabData .u64 Lib.pow10Tab:=rfl
theorem Ul {W:World} {laid:List (String × DataW Unit)} (h:laidMet Tryz.prog laid W) (hm:∀x∈laidX,x∈laid):uh W:=by
 refine ⟨qy h hm,?_⟩;obtain ⟨E,A,-⟩:=h;obtain ⟨g, t, D, o, p, y, z, e, hd⟩ := yz (n := "internal/strconv.uint64pow10") (d := Rows.laid_internal_strconv_uint64pow10) A (hm _ (by unfold laidX; simp))
 obtain rfl := Option.some.inj ((show Tryz.prog.globalNamed "internal/strconv.uint64pow10" = some 3 by kernel_rfl).symm.trans y)
 obtain rfl:=Option.some.inj ((show (Tryz.prog.globals[3]?).map (·.type)=some 159 by kernel_rfl).symm.trans z)
 rw [Qs] at hd
 unfold Lib.TabIs
 rw [e,←Lib.cells_of_tab Tryz.underlying159 Tryz.underlying106 qz qA hd]
theorem Um:∃f0 f1:Field,Tryz.prog.underlying 201=some (.struct #[f0,f1])∧f0.type=9∧f1.type=3∧f0.offset=0∧f1.offset=1:=⟨_,_,Tryz.underlying201,rfl,rfl,rfl,rfl⟩
theorem Uo:Tryz.prog.cellsOf 3=1:=by kernel_rfl
theorem qB:Tryz.prog.cellsOf 201=2:=by kernel_rfl
theorem Qt {w:World} {m:Nat} {cs:List Value} {a:List UInt8} {b:Int} {p:List MemPlace}
  (h:DataW.trod (fun _=>()) Tryz.prog w 0 (fun _=>true) false m 201 cs=some (.agg [.lit (.string a),.lit (.int .i64 b)],p)):cs[0]?=some (.string (za a))∧cs[1]?=some (.int .i64 b):=by
 obtain ⟨O,Q,L,G,K,T,N⟩:=Um;obtain ⟨U,n,-,M,-,I,e⟩:=DataW.trod_struct L h;have o:=DataW.agg.inj (Prod.mk.inj M).1;have z:=e 0 O rfl;have D:=e 1 Q rfl;rw [G,T,Y0] at z;rw [K,N,Uo] at D
 match U,I with
 | [x0,x1],_ =>
  simp only [List.map_cons,List.map_nil,List.cons.injEq,and_true] at o;obtain ⟨s,J,H,-⟩:=DataW.trod_string Tryz.underlying9 z;obtain ⟨V,R,E,-⟩:=DataW.trod_int Tryz.underlying3 D;rw [H,E] at o;simp only [DataW.lit.injEq,Lit.int.injEq,Lit.string.injEq,true_and] at o;obtain ⟨rfl,rfl⟩:=o;have A:=congrArg (fun l=>l[0]?) J
  have y:=congrArg (fun l=>l[0]?) R
  simp only [List.getElem?_take,List.getElem?_drop] at A y;rw [UN];exact ⟨by simpa using A,by simpa using y⟩
theorem Qu:(Rows.laid_hindcast_syntax_levels:DataW Unit)=.agg (levelsL.map fun p=>.agg [.lit (.string p.1),.lit (.int .i64 p.2)]):=rfl
theorem Up:∀(j:Nat) (v:Value),Yw[j]?=some v→∃(h:j / 2<levelsL.length),v=if j % 2=0 then .string (za (levelsL[j / 2]'h).1) else .int .i64 (levelsL[j / 2]'h).2:=by
 intro j v y;have e:j<26:=(List.getElem?_eq_some_iff.1 y).1
 have o:∀j (h:j<26),Yw[j]?=some (if j % 2=0 then .string (za (levelsL[j / 2]'(by show j / 2<13;omega)).1) else .int .i64 (levelsL[j / 2]'(by show j / 2<13;omega)).2):=by
  intro j h;have z:j=0∨j=1∨j=2∨j=3∨j=4∨j=5∨j=6∨j=7∨j=8∨j=9∨j=10∨j=11∨j=12∨j=13∨j=14∨j=15∨j=16∨j=17∨j=18∨j=19∨j=20∨j=21∨j=22∨j=23∨j=24∨j=25:=by omega
  rcases z with rfl | rfl | rfl | rfl | rfl | rfl | rfl | rfl | rfl | rfl | rfl | rfl | rfl | rfl | rfl | rfl | rfl | rfl | rfl | rfl | rfl | rfl | rfl | rfl | rfl | rfl <;> rfl
 exact ⟨by show j / 2<13;omega,Option.some.inj (y.symm.trans (o j e))⟩
theorem qC {W : World} {laid : List (String × DataW Unit)} (h : laidMet Tryz.prog laid W) (hm : ("hindcast/syntax.levels", Rows.laid_hindcast_syntax_levels) ∈ laid) : yF W := by
 obtain ⟨V,Q,-⟩:=h;obtain ⟨g, t, T, J, p, I, O, o, hd⟩ := yz (n := "hindcast/syntax.levels") (d := Rows.laid_hindcast_syntax_levels) Q hm;obtain rfl := Option.some.inj ((show Tryz.prog.globalNamed "hindcast/syntax.levels" = some 5 by kernel_rfl).symm.trans I)
 obtain rfl:=Option.some.inj ((show (Tryz.prog.globals[5]?).map (·.type)=some 202 by kernel_rfl).symm.trans O)
 rw [Qu] at hd;obtain ⟨H,m,-,R,-,U,E⟩:=DataW.trod_array Tryz.underlying202 hd;have M:=DataW.agg.inj (Prod.mk.inj R).1;intro j v N;obtain ⟨e,rfl⟩:=Up j v N;have K:j / 2<13:=e;have G:=E (j / 2) (by omega)
 rw [qB] at G;have y:j / 2<H.length:=by omega
 rw [List.getElem?_eq_getElem y] at G;have D:(levelsL.map fun p=>(DataW.agg [.lit (.string p.1),.lit (.int .i64 p.2)]:DataW Unit))[j / 2]?=(H.map (·.1))[j / 2]?:=by rw [M]
 rw [List.getElem?_map,List.getElem?_map,List.getElem?_eq_getElem e,List.getElem?_eq_getElem y] at D;simp only [Option.map_some,Option.some.injEq] at D;obtain ⟨z,A⟩:=Qt (a:=(levelsL[j / 2]'e).1) (b:=(levelsL[j / 2]'e).2) (p:=(H[j / 2]).2) (G.trans (by rw [D]))
 simp only [List.getElem?_take,List.getElem?_drop] at z A;show W.cell? ⟨_,0+j,none⟩=_
 rw [Nat.zero_add,World.var?_cell I o j];rcases Nat.mod_two_eq_zero_or_one j with L | L
 ·rw [if_pos L]
  rw [if_pos (by omega)] at z
  rw [show j / 2*2+0=j by omega] at z
  simpa using z
 ·rw [if_neg (by omega)]
  rw [if_pos (by omega)] at A
  rw [show j / 2*2+1=j by omega] at A
  simpa using A
def XM : List (String × DataW Unit) := [("math/bits.deBruijn32tab", Rows.laid_math_bits_deBruijn32tab), ("math/bits.deBruijn64tab", Rows.laid_math_bits_deBruijn64tab), ("internal/strconv.uint64pow10", Rows.laid_internal_strconv_uint64pow10), ("errors.errorType", Rows.laid_errors_errorType), ("strconv.ErrRange", Rows.laid_strconv_ErrRange), ("strconv.ErrSyntax", Rows.laid_strconv_ErrSyntax), ("hindcast/lex.words", Rows.laid_hindcast_lex_words), ("hindcast/lex.signs", Rows.laid_hindcast_lex_signs), ("hindcast/lex.escapes", Rows.laid_hindcast_lex_escapes), ("hindcast/syntax.levels", Rows.laid_hindcast_syntax_levels)]
def YS:List (String × DataW Unit):=XM.filter fun x=>x.2.handleName?.isNone
theorem XN : YS = [("math/bits.deBruijn32tab", Rows.laid_math_bits_deBruijn32tab), ("math/bits.deBruijn64tab", Rows.laid_math_bits_deBruijn64tab), ("internal/strconv.uint64pow10", Rows.laid_internal_strconv_uint64pow10), ("strconv.ErrRange", Rows.laid_strconv_ErrRange), ("strconv.ErrSyntax", Rows.laid_strconv_ErrSyntax), ("hindcast/lex.words", Rows.laid_hindcast_lex_words), ("hindcast/lex.signs", Rows.laid_hindcast_lex_signs), ("hindcast/lex.escapes", Rows.laid_hindcast_lex_escapes), ("hindcast/syntax.levels", Rows.laid_hindcast_syntax_levels)] := rfl
theorem zaU : Tryz.prog.globalNamed "errors.errorType" = some 4 := by kernel_rfl
theorem zaV : (Tryz.prog.cutTypes.find? (·.1 == "internal/reflectlite.rtype")).map (·.2) = some 210 := by kernel_rfl
theorem zaz:((List.range Tryz.prog.types.size).filter fun t=>Tryz.prog.rowNamed t [101,114,114,111,114])=[69]:=by kernel_rfl
theorem qD {W:World} (h:laidMetH Tryz.prog XM W):xN W:=by
 have o:laidMet Tryz.prog YS W∧handlesMet Tryz.prog (XM.filter fun x=>x.2.handleName?.isSome) W:=h
 have E:yF W:=qC o.1 (by rw [XN];simp)
 refine ⟨Ul o.1 (by rw [XN];unfold laidX;simp),E,?_⟩
 obtain ⟨e, u, J, A, I, G, D, y⟩ := o.2 ("errors.errorType", Rows.laid_errors_errorType) (by simp only [XM]; exact List.mem_filter.2 ⟨by simp, rfl⟩)
 have K:e=[101,114,114,111,114]:=(Option.some.inj A).symm;subst K;obtain rfl:=Option.some.inj (zaV.symm.trans I);have z:J∈(List.range Tryz.prog.types.size).filter fun t=>Tryz.prog.rowNamed t [101,114,114,111,114]:=List.mem_filter.2 ⟨List.mem_range.2 G,D⟩
 rw [zaz] at z;obtain rfl:=List.mem_singleton.1 z;have H:typeHandle Tryz.prog 69=.pointer (some ⟨11,69,none⟩):=by kernel_rfl
 rw [H] at y
 unfold Xf
 simpa using World.var?_cell zaU y 0
noncomputable def zak (os:Os):World :=
 let w0:=World.holding Tryz.prog os ⟨#[],#[],[]⟩
 { w0 with heap:=w0.heap.modify 4 fun
   | .cells _ t frozen=>.cells #[.iface 210 (.agg #[.pointer (some ⟨11,69,none⟩)])] t frozen
   | o=>o }
noncomputable def Q9 (os:Os):World:=(zak os).layVars Tryz.prog YS
theorem zaa (os:Os):(Q9 os).os=os:=World.layVars_os _ _ _
theorem Qv (os:Os) (args:Array Value):laidMetH Tryz.prog XM ((Q9 os).forCall (fun _ _=>0) ⟨#[],args,[]⟩).memory:=by
 refine laidMetH_of_parts ?_ (by kernel_rfl)
 have e:(YS.filter fun x=>(YS.map (·.1)).contains x.1)=YS:=List.filter_eq_self.2 fun x hx=>List.contains_iff_mem.2 (List.mem_map.2 ⟨x,hx,rfl⟩)
 have o:(YS.filter fun x=>!(YS.map (·.1)).contains x.1)=[]:=List.filter_eq_nil_iff.2 fun x hx=>by rw [List.contains_iff_mem.2 (List.mem_map.2 ⟨x,hx,rfl⟩)];simp
 have h:laidMet Tryz.prog YS (Q9 os):=laidMet_layVars (w0:=zak os) (YS.map (·.1)) [] (by rw [e];rfl) (by rw [e];kernel_rfl) (by rw [e];kernel_rfl) (by rw [o];exact LaidIn.none)
 exact h.of_heap (by simp [World.memory,World.forCall,Input.heap])
end Go.Proofs.YtmbofhpmockmbaaGreatDoor
namespace Go.Proofs.YtmbofhpmockmbaaGreatDoor
open Go.ChangeShapes Go.WideShapes Go.ChangeAt Go.RowKit
set_option maxRecDepth 100000
theorem own:ownKnob Tryz.prog.godebug=none:=by kernel_rfl
theorem zab:laidOutB Tryz.prog=true:=by kernel_rfl
theorem Qw {n:Int} (h:(Lit.int .i64 n).wf=true):-9223372036854775808≤n∧n≤9223372036854775807:=by
 simpa [Lit.wf,IntKind.min,IntKind.max,IntKind.signed,IntKind.bits] using h
theorem zac {W:World} (h:laidMetH Tryz.prog XM W):QT W:=by
 refine ⟨qD h,?_⟩;have D:laidMet Tryz.prog YS W∧handlesMet Tryz.prog (XM.filter fun x=>x.2.handleName?.isSome) W:=h
 obtain ⟨I,G,-⟩:=D.1;obtain ⟨g, t, H, A, p, z, E, e, hd⟩ := yz (n := "strconv.ErrSyntax") (d := Rows.laid_strconv_ErrSyntax) G (by rw [XN]; simp)
 obtain rfl := Option.some.inj ((show Tryz.prog.globalNamed "strconv.ErrSyntax" = some 1 by kernel_rfl).symm.trans z)
 obtain rfl:=Option.some.inj ((show (Tryz.prog.globals[1]?).map (·.type)=some 69 by kernel_rfl).symm.trans E)
 obtain ⟨y,u,v,o,-⟩:=iface_of_trod Tryz.underlying69 hd;refine ⟨u,v,?_⟩;rw [World.var?_cell z e 0]
 have:=congrArg (fun l=>l[0]?) o
 simpa using this
theorem Vz {H:Type} {enc:TypeId × Value→H} {C:Checked} {os:Os} {f:FuncId} {fn:Func} {s:OpenSpec} {conds:List PathCond} {apart:Bool} {laid:List (String × DataW Unit)} (w0:World) (args:Array Value) (hos:w0.os=os)
  (hsh:(w0.forCall (fun _ _=>0) ⟨#[],args,[]⟩).Shaped C.prog) (hok:Input.okWideB C.prog (w0.forCall (fun _ _=>0) ⟨#[],args,[]⟩) f ⟨#[],args,[]⟩=true)
  (hrow:s.preRow enc C.prog fn conds apart laid (w0.forCall (fun _ _=>0) ⟨#[],args,[]⟩).memory args) :
  ∃(w:World) (tape:Tape) (i:Input),w.os=os∧(w.forCall tape i).Shaped C.prog∧i.vars=[]∧Input.okWide C.prog (w.forCall tape i) .any w.heap.size f i ∧
   s.preRow enc C.prog fn conds apart laid (w.forCall tape i).memory i.args∧({}:Assume).holds C.prog (lone (Frame.enter C.prog f i.args .normal) [] (w.forCall tape i)) :=
 ⟨w0,fun _ _=>0,⟨#[],args,[]⟩,hos,hsh,(Input.okWide_of_okWideB (base:=0) hok).1,(Input.okWide_of_okWideB hok).2,hrow,by
  simp only [Assume.holds]
  exact ⟨by simp,by simp,fun _=>Modest.zero,by simp,by simp⟩⟩
theorem Uq:∃f0 f1 f2:Field,Tryz.prog.underlying 24=some (.struct #[f0,f1,f2])∧(f0.type=22∧f1.type=3∧f2.type=9)∧(f0.offset=0∧f1.offset=1∧f2.offset=2) :=
 ⟨_,_,_,Tryz.underlying24,⟨rfl,rfl,rfl⟩,⟨rfl,rfl,rfl⟩⟩
theorem Ur:Tryz.prog.cellsOf 3=1:=by kernel_rfl
theorem uk:Tryz.prog.cellsOf 22=1:=by kernel_rfl
theorem Us:Tryz.prog.cellsOf 24=3:=by kernel_rfl
theorem VA {v:Value} {cs:List Value} {i:Nat} (h:(cs.drop i).take 1=[v]):cs[i]?=some v:=by
 have:=congrArg (fun l=>l[0]?) h
 simpa [List.getElem?_take,List.getElem?_drop] using this
theorem Qx {H:Type} {enc:TypeId × Value→H} {w:World} {base fuel:Nat} {sp:Nat→Bool} {held:Bool} {cs:List Value} {x:DataW H × List MemPlace}
  (h:DataW.trod enc Tryz.prog w base sp held fuel 24 cs=some x) :
  ∃(k n:Int) (s:List UInt8),cs=[.int .i64 k,.int .i64 n,.string (za s)]∧(-9223372036854775808≤k∧k≤9223372036854775807)∧(-9223372036854775808≤n∧n≤9223372036854775807)∧x.1=.agg [.lit (.int .i64 k),.lit (.int .i64 n),.lit (.string s)]:=by
 obtain ⟨W,X,Z,T,⟨J,R,U⟩,⟨L,V,K⟩⟩:=Uq;obtain ⟨xs,m,-,rfl,o,N,e⟩:=DataW.trod_struct T h;have D:=e 0 W rfl;have z:=e 1 X rfl;have y:=e 2 Z rfl;rw [J,L,uk] at D;rw [R,V,Ur] at z;rw [U,K,Y0] at y;rw [Us] at o
 match xs,N with
 | [x0,x1,x2],_ =>
  obtain ⟨k,O,M,c0⟩:=DataW.trod_int Tryz.underlying22 D;obtain ⟨n,a1,I,Q⟩:=DataW.trod_int Tryz.underlying3 z;obtain ⟨s,Y,b2,-⟩:=DataW.trod_string Tryz.underlying9 y;have G:=VA O;have E:=VA a1;have A:=VA Y
  match cs,o with
  | [v0,v1,v2],_ =>
   simp only [List.getElem?_cons_zero,List.getElem?_cons_succ,Option.some.injEq] at G E A;refine ⟨k,n,s.data.toList,?_,Qw c0,Qw Q,?_⟩
   ·rw [G,E,A,UN]
   ·simp [M,I,b2]
theorem zad {H:Type} {enc:TypeId × Value→H} {w:World} {base:Nat} {sp:Nat→Bool} {held:Bool} {v:Value} {d:DataW H} {p:List MemPlace} (hv:∃o,v=.agg o) (h:DataW.Trod enc Tryz.prog w base sp held 24 v d p) :
  ∃(k n:Int) (s:List UInt8),v=yi k n s∧(-9223372036854775808≤k∧k≤9223372036854775807)∧(-9223372036854775808≤n∧n≤9223372036854775807)∧d=.agg [.lit (.int .i64 k),.lit (.int .i64 n),.lit (.string s)]:=by
 obtain ⟨o,rfl⟩:=hv;obtain ⟨z,E⟩:=h;obtain ⟨k,n,s,y,D,A,hd⟩:=Qx E;refine ⟨k,n,s,?_,D,A,hd⟩;have e:o.toList=[.int .i64 k,.int .i64 n,.string (za s)]:=by simpa [Value.cells] using y
 cases o
 simp at e
 rw [e];rfl
end Go.Proofs.YtmbofhpmockmbaaGreatDoor
