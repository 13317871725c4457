import Derived.Test.YtmbofhpmockmbaaGreatDoorMC33
import Derived.Test.YtmbofhpmockmbaaGreatDoorRows
import Derived.OpenShut
import Derived.LaidLaws
import Derived.Lay
import Derived.LaidOnce
namespace Go.Proofs.YtmbofhpmockmbaaGreatDoor
open Go.ChangeShapes Go.WideShapes Go.RowKit
set_option maxRecDepth 100000
theorem Vq (a:ByteArray):za a.data.toList=a:=by
 apply ByteArray.ext
 unfold za
 simp
theorem ZU {P:Program} {w:World} {n:String} {d:DataW Unit}:∀{laid:List (String × DataW Unit)} {ps:List MemPlace},DataW.LaidVars P w laid ps→(n,d)∈laid →
  ∃g t cs fuel p,P.globalNamed n=some g∧(P.globals[g]?).map (·.type)=some t∧w.var? P n=some cs∧DataW.trod (fun _=>()) P w 0 (fun _=>true) false fuel t cs.toList=some (d,p)
 | [],_,_,h=>by cases h
 | (_,_)::_,_,⟨g,t,cs,fuel,p,_,hg,ht,hv,hd,hr,_⟩,h=>by
  rcases List.mem_cons.1 h with e | e
  ·cases e;exact ⟨g,t,cs,fuel,p,hg,ht,hv,hd⟩
  ·exact ZU hr e
theorem xZ {P:Program} {w:World} {nm:String} {g n:Nat} {t e:TypeId} {ls:List (List UInt8)} {cs:Array Value} {fuel:Nat} {p:List MemPlace}
  (hu:P.underlying t=some (.array n e)) (hs:P.underlying e=some .string) (hc:P.cellsOf e=1) (hn:n=ls.length) (hg:P.globalNamed nm=some g) (hv:w.var? P nm=some cs)
  (hd:DataW.trod (fun _=>()) P w 0 (fun _=>true) false fuel t cs.toList=some (.agg (ls.map fun l=>.lit (.string l)),p)) :
  ∀j (h:j<ls.length),w.cell? ⟨g,j,none⟩=some (.string (za ls[j])):=by
 intro j h;obtain ⟨G,m,-,K,-,L,z⟩:=DataW.trod_array hu hd;have J:=DataW.agg.inj (Prod.mk.inj K).1;have y:=z j (by omega)
 rw [hc,Nat.mul_one] at y;have o:j<G.length:=by omega
 rw [List.getElem?_eq_getElem o] at y;obtain ⟨s,D,E,-⟩:=DataW.trod_string hs y;have A:(ls.map fun l=>(DataW.lit (.string l):DataW Unit))[j]?=(G.map (·.1))[j]?:=by rw [J]
 rw [List.getElem?_map,List.getElem?_map,List.getElem?_eq_getElem h,List.getElem?_eq_getElem o,E] at A;simp only [Option.map_some,Option.some.injEq,DataW.lit.injEq,Lit.string.injEq] at A
 have I:s=za ls[j]:=by
  apply ByteArray.ext
  rw [A]
 rw [World.var?_cell hg hv j,←I]
 have H:(cs.toList.drop j)[0]?=some (.string s):=by
  have:=congrArg (fun l=>l[0]?) D
  simpa [List.getElem?_take] using this
 rw [List.getElem?_drop] at H
 simpa using H
theorem vd:∃f0 f1:Field,Tryz.prog.underlying 228=some (.struct #[f0,f1])∧f0.type=5∧f1.type=5∧f0.offset=0∧f1.offset=1:=⟨_,_,Tryz.underlying228,rfl,rfl,rfl,rfl⟩
theorem x6:Tryz.prog.cellsOf 5=1:=by kernel_rfl
theorem vP:Tryz.prog.cellsOf 228=2:=by kernel_rfl
theorem yV:Tryz.prog.cellsOf 9=1:=by kernel_rfl
theorem Ys {w:World} {m:Nat} {cs:List Value} {a b:Int} {p:List MemPlace}
  (h:DataW.trod (fun _=>()) Tryz.prog w 0 (fun _=>true) false m 228 cs=some (.agg [.lit (.int .u8 a),.lit (.int .u8 b)],p)):cs[0]?=some (.int .u8 a)∧cs[1]?=some (.int .u8 b):=by
 obtain ⟨H,J,I,N,O,E,K⟩:=vd;obtain ⟨U,n,-,R,-,M,e⟩:=DataW.trod_struct I h;have o:=DataW.agg.inj (Prod.mk.inj R).1;have A:=e 0 H rfl;have z:=e 1 J rfl;rw [N,E,x6] at A;rw [O,K,x6] at z
 match U,M with
 | [x0,x1],_ =>
  simp only [List.map_cons,List.map_nil,List.cons.injEq,and_true] at o;obtain ⟨V,T,L,-⟩:=DataW.trod_int Tryz.underlying5 A;obtain ⟨W,G,Q,-⟩:=DataW.trod_int Tryz.underlying5 z;rw [L,Q] at o;simp only [DataW.lit.injEq,Lit.int.injEq,true_and] at o;obtain ⟨rfl,rfl⟩:=o;have y:=congrArg (fun l=>l[0]?) T
  have D:=congrArg (fun l=>l[0]?) G
  simp only [List.getElem?_take,List.getElem?_drop] at y D;exact ⟨by simpa using y,by simpa using D⟩
def laidX : List (String × DataW Unit) := [("hindcast/lex.words", Rows.laid_hindcast_lex_words), ("hindcast/lex.signs", Rows.laid_hindcast_lex_signs), ("hindcast/lex.escapes", Rows.laid_hindcast_lex_escapes), ("strconv.ErrRange", Rows.laid_strconv_ErrRange), ("internal/strconv.uint64pow10", Rows.laid_internal_strconv_uint64pow10)]
theorem V3 {W:World} {laid:List (String × DataW Unit)} (h:laidMet Tryz.prog laid W) (hm:∀x∈laidX,x∈laid):Zt W:=by
 obtain ⟨Z,D,-⟩:=h;refine ⟨?_,?_,?_,?_⟩
 ·obtain ⟨g, t, G, fuel, p, o, y, e, z⟩ := ZU (n := "hindcast/lex.words") (d := Rows.laid_hindcast_lex_words) D (hm _ (by unfold laidX; simp))
  obtain rfl := Option.some.inj ((show Tryz.prog.globalNamed "hindcast/lex.words" = some 9 by kernel_rfl).symm.trans o)
  obtain rfl:=Option.some.inj ((show (Tryz.prog.globals[9]?).map (·.type)=some 227 by kernel_rfl).symm.trans y)
  exact xZ (ls:=zK) Tryz.underlying227 Tryz.underlying9 yV rfl o e z
 ·obtain ⟨g, t, G, fuel, p, o, y, e, z⟩ := ZU (n := "hindcast/lex.signs") (d := Rows.laid_hindcast_lex_signs) D (hm _ (by unfold laidX; simp))
  obtain rfl := Option.some.inj ((show Tryz.prog.globalNamed "hindcast/lex.signs" = some 8 by kernel_rfl).symm.trans o)
  obtain rfl:=Option.some.inj ((show (Tryz.prog.globals[8]?).map (·.type)=some 225 by kernel_rfl).symm.trans y)
  exact xZ (ls:=signsL) Tryz.underlying225 Tryz.underlying9 yV rfl o e z
 ·obtain ⟨g, t, G, fuel, p, o, y, e, z⟩ := ZU (n := "hindcast/lex.escapes") (d := Rows.laid_hindcast_lex_escapes) D (hm _ (by unfold laidX; simp))
  obtain rfl := Option.some.inj ((show Tryz.prog.globalNamed "hindcast/lex.escapes" = some 10 by kernel_rfl).symm.trans o)
  obtain rfl:=Option.some.inj ((show (Tryz.prog.globals[10]?).map (·.type)=some 229 by kernel_rfl).symm.trans y)
  obtain ⟨V,m,-,U,-,X,A⟩:=DataW.trod_array Tryz.underlying229 z;have M:=DataW.agg.inj (Prod.mk.inj U).1;have O:=A 0 (by omega)
  have R:=A 1 (by omega)
  have I:=A 2 (by omega)
  rw [vP] at O R I
  match V,X with
  | [(_,p0),(_,p1),(_,p2)],_ =>
   simp only [List.map_cons,List.map_nil,List.cons.injEq,and_true] at M;obtain ⟨rfl,rfl,rfl⟩:=M;obtain ⟨K,L⟩:=Ys O;obtain ⟨N,H⟩:=Ys R;obtain ⟨J,Q⟩:=Ys I;simp only [List.getElem?_take,List.getElem?_drop] at K L N H J Q;intro j Y;rw [World.var?_cell o e j];have T:j=0∨j=1∨j=2∨j=3∨j=4∨j=5:=by omega
   rcases T with rfl | rfl | rfl | rfl | rfl | rfl
   ·simpa using K
   ·simpa using L
   ·simpa using N
   ·simpa using H
   ·simpa using J
   ·simpa using Q
 ·obtain ⟨g, t, G, fuel, p, o, y, e, z⟩ := ZU (n := "strconv.ErrRange") (d := Rows.laid_strconv_ErrRange) D (hm _ (by unfold laidX; simp))
  obtain rfl := Option.some.inj ((show Tryz.prog.globalNamed "strconv.ErrRange" = some 2 by kernel_rfl).symm.trans o)
  obtain rfl:=Option.some.inj ((show (Tryz.prog.globals[2]?).map (·.type)=some 69 by kernel_rfl).symm.trans y)
  obtain ⟨fuel',u,v,E,-⟩:=iface_of_trod Tryz.underlying69 z;refine ⟨u,v,?_⟩;rw [World.var?_cell o e 0]
  have:=congrArg (fun l=>l[0]?) E
  simpa using this
end Go.Proofs.YtmbofhpmockmbaaGreatDoor
