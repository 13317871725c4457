import Derived.Test.YtbjndgachcdbcaaGreatDoorMC5
import Derived.Test.YtbjndgachcdbcaaGreatDoorRows
import Derived.OpenShut
import Derived.LaidLaws
import Derived.Lay
import Derived.LaidOnce
namespace Go.Proofs.YtbjndgachcdbcaaGreatDoor
open Go.ChangeShapes Go.WideShapes Go.RowKit
set_option maxRecDepth 100000
theorem Uq (a:ByteArray):za a.data.toList=a:=by
 apply ByteArray.ext
 unfold za
 simp
theorem ZE {P:Program} {w:World} {n:String} {d:DataW Unit}:∀{laid:List (String × DataW Unit)} {ps:List MemPlace},DataW.LaidVars P w laid ps→(n,d)∈laid →
  ∃g t cs fuel p,P.globalNamed n=some g∧(P.globals[g]?).map (·.type)=some t∧w.var? P n=some cs∧DataW.trod (fun _=>()) P w 0 (fun _=>true) false fuel t cs.toList=some (d,p)
 | [],_,_,h=>by cases h
 | (_,_)::_,_,⟨g,t,cs,fuel,p,_,hg,ht,hv,hd,hr,_⟩,h=>by
  rcases List.mem_cons.1 h with e | e
  ·cases e;exact ⟨g,t,cs,fuel,p,hg,ht,hv,hd⟩
  ·exact ZE hr e
theorem Yi {P:Program} {w:World} {nm:String} {g n:Nat} {t e:TypeId} {ls:List (List UInt8)} {cs:Array Value} {fuel:Nat} {p:List MemPlace}
  (hu:P.underlying t=some (.array n e)) (hs:P.underlying e=some .string) (hc:P.cellsOf e=1) (hn:n=ls.length) (hg:P.globalNamed nm=some g) (hv:w.var? P nm=some cs)
  (hd:DataW.trod (fun _=>()) P w 0 (fun _=>true) false fuel t cs.toList=some (.agg (ls.map fun l=>.lit (.string l)),p)) :
  ∀j (h:j<ls.length),w.cell? ⟨g,j,none⟩=some (.string (za ls[j])):=by
 intro j h;obtain ⟨A,m,-,D,-,F,c⟩:=DataW.trod_array hu hd;have B:=DataW.agg.inj (Prod.mk.inj D).1;have o:=c j (by omega)
 rw [hc,Nat.mul_one] at o;have b:j<A.length:=by omega
 rw [List.getElem?_eq_getElem b] at o;obtain ⟨s,q,y,-⟩:=DataW.trod_string hs o;have u:(ls.map fun l=>(DataW.lit (.string l):DataW Unit))[j]?=(A.map (·.1))[j]?:=by rw [B]
 rw [List.getElem?_map,List.getElem?_map,List.getElem?_eq_getElem h,List.getElem?_eq_getElem b,y] at u;simp only [Option.map_some,Option.some.injEq,DataW.lit.injEq,Lit.string.injEq] at u
 have E:s=za ls[j]:=by
  apply ByteArray.ext
  rw [u]
 rw [World.var?_cell hg hv j,←E]
 have z:(cs.toList.drop j)[0]?=some (.string s):=by
  have:=congrArg (fun l=>l[0]?) q
  simpa [List.getElem?_take] using this
 rw [List.getElem?_drop] at z
 simpa using z
theorem X5:∃f0 f1:Field,Tryz.prog.underlying 150=some (.struct #[f0,f1])∧f0.type=5∧f1.type=5∧f0.offset=0∧f1.offset=1:=⟨_,_,Tryz.underlying150,rfl,rfl,rfl,rfl⟩
theorem xN:Tryz.prog.cellsOf 5=1:=by kernel_rfl
theorem vQ:Tryz.prog.cellsOf 150=2:=by kernel_rfl
theorem Yj:Tryz.prog.cellsOf 9=1:=by kernel_rfl
theorem Yk {w:World} {m:Nat} {cs:List Value} {a b:Int} {p:List MemPlace}
  (h:DataW.trod (fun _=>()) Tryz.prog w 0 (fun _=>true) false m 150 cs=some (.agg [.lit (.int .u8 a),.lit (.int .u8 b)],p)):cs[0]?=some (.int .u8 a)∧cs[1]?=some (.int .u8 b):=by
 obtain ⟨B,H,M,R,A,K,G⟩:=X5;obtain ⟨I,n,-,J,-,O,c⟩:=DataW.trod_struct M h;have e:=DataW.agg.inj (Prod.mk.inj J).1;have u:=c 0 B rfl;have o:=c 1 H rfl;rw [R,K,xN] at u;rw [A,G,xN] at o
 match I,O with
 | [x0,x1],_ =>
  simp only [List.map_cons,List.map_nil,List.cons.injEq,and_true] at e;obtain ⟨U,D,F,-⟩:=DataW.trod_int Tryz.underlying5 u;obtain ⟨T,z,E,-⟩:=DataW.trod_int Tryz.underlying5 o;rw [F,E] at e;simp only [DataW.lit.injEq,Lit.int.injEq,true_and] at e;obtain ⟨rfl,rfl⟩:=e;have y:=congrArg (fun l=>l[0]?) D
  have q:=congrArg (fun l=>l[0]?) z
  simp only [List.getElem?_take,List.getElem?_drop] at y q;exact ⟨by simpa using y,by simpa using q⟩
def laidX : List (String × DataW Unit) := [("hindcast/lex.words", Rows.laid_hindcast_lex_words), ("hindcast/lex.signs", Rows.laid_hindcast_lex_signs), ("hindcast/lex.escapes", Rows.laid_hindcast_lex_escapes), ("strconv.ErrRange", Rows.laid_strconv_ErrRange), ("internal/strconv.uint64pow10", Rows.laid_internal_strconv_uint64pow10)]
theorem VW {W:World} {laid:List (String × DataW Unit)} (h:laidMet Tryz.prog laid W) (hm:∀x∈laidX,x∈laid):Zi W:=by
 obtain ⟨V,y,-⟩:=h;refine ⟨?_,?_,?_,?_⟩
 ·obtain ⟨g, t, A, fuel, p, c, q, b, o⟩ := ZE (n := "hindcast/lex.words") (d := Rows.laid_hindcast_lex_words) y (hm _ (by unfold laidX; simp))
  obtain rfl := Option.some.inj ((show Tryz.prog.globalNamed "hindcast/lex.words" = some 5 by kernel_rfl).symm.trans c)
  obtain rfl:=Option.some.inj ((show (Tryz.prog.globals[5]?).map (·.type)=some 152 by kernel_rfl).symm.trans q)
  exact Yi (ls:=zx) Tryz.underlying152 Tryz.underlying9 Yj rfl c b o
 ·obtain ⟨g, t, A, fuel, p, c, q, b, o⟩ := ZE (n := "hindcast/lex.signs") (d := Rows.laid_hindcast_lex_signs) y (hm _ (by unfold laidX; simp))
  obtain rfl := Option.some.inj ((show Tryz.prog.globalNamed "hindcast/lex.signs" = some 2 by kernel_rfl).symm.trans c)
  obtain rfl:=Option.some.inj ((show (Tryz.prog.globals[2]?).map (·.type)=some 140 by kernel_rfl).symm.trans q)
  exact Yi (ls:=signsL) Tryz.underlying140 Tryz.underlying9 Yj rfl c b o
 ·obtain ⟨g, t, A, fuel, p, c, q, b, o⟩ := ZE (n := "hindcast/lex.escapes") (d := Rows.laid_hindcast_lex_escapes) y (hm _ (by unfold laidX; simp))
  obtain rfl := Option.some.inj ((show Tryz.prog.globalNamed "hindcast/lex.escapes" = some 4 by kernel_rfl).symm.trans c)
  obtain rfl:=Option.some.inj ((show (Tryz.prog.globals[4]?).map (·.type)=some 151 by kernel_rfl).symm.trans q)
  obtain ⟨O,m,-,R,-,T,e⟩:=DataW.trod_array Tryz.underlying151 o;have J:=DataW.agg.inj (Prod.mk.inj R).1;have G:=e 0 (by omega)
  have D:=e 1 (by omega)
  have E:=e 2 (by omega)
  rw [vQ] at G D E
  match O,T with
  | [(_,p0),(_,p1),(_,p2)],_ =>
   simp only [List.map_cons,List.map_nil,List.cons.injEq,and_true] at J;obtain ⟨rfl,rfl,rfl⟩:=J;obtain ⟨H,K⟩:=Yk G;obtain ⟨B,M⟩:=Yk D;obtain ⟨F,I⟩:=Yk E;simp only [List.getElem?_take,List.getElem?_drop] at H K B M F I;intro j X;rw [World.var?_cell c b j];have U:j=0∨j=1∨j=2∨j=3∨j=4∨j=5:=by omega
   rcases U with rfl | rfl | rfl | rfl | rfl | rfl
   ·simpa using H
   ·simpa using K
   ·simpa using B
   ·simpa using M
   ·simpa using F
   ·simpa using I
 ·obtain ⟨g, t, A, fuel, p, c, q, b, o⟩ := ZE (n := "strconv.ErrRange") (d := Rows.laid_strconv_ErrRange) y (hm _ (by unfold laidX; simp))
  obtain rfl := Option.some.inj ((show Tryz.prog.globalNamed "strconv.ErrRange" = some 11 by kernel_rfl).symm.trans c)
  obtain rfl:=Option.some.inj ((show (Tryz.prog.globals[11]?).map (·.type)=some 135 by kernel_rfl).symm.trans q)
  obtain ⟨fuel',u,v,z,-⟩:=iface_of_trod Tryz.underlying135 o;refine ⟨u,v,?_⟩;rw [World.var?_cell c b 0]
  have:=congrArg (fun l=>l[0]?) z
  simpa using this
end Go.Proofs.YtbjndgachcdbcaaGreatDoor
