import Derived.Test.YtmbofhpmockmbaaGreatDoorXLives
import Derived.Test.YtmbofhpmockmbaaGreatDoorRows
import Derived.OpenShut
import Derived.LaidLaws
import Derived.Lay
import Derived.LaidOnce
namespace Go.Proofs.YtmbofhpmockmbaaGreatDoor
open Go.ChangeShapes Go.WideShapes Go.RowKit
set_option maxRecDepth 100000
theorem xt (a:ByteArray):za a.data.toList=a:=by
 apply ByteArray.ext
 unfold za
 simp
theorem ZE {P:Program} {w:World} {n:String} {d:DataW Unit}:∀{laid:List (String × DataW Unit)} {ps:List MemPlace},DataW.LaidVars P w laid ps→(n,d)∈laid →
  ∃g t cs fuel p,P.globalNamed n=some g∧(P.globals[g]?).map (·.type)=some t∧w.var? P n=some cs∧DataW.trod (fun _=>()) P w 0 (fun _=>true) false fuel t cs.toList=some (d,p)
 | [],_,_,h=>by cases h
 | (_,_)::_,_,⟨g,t,cs,fuel,p,_,hg,ht,hv,hd,hr,_⟩,h=>by
  rcases List.mem_cons.1 h with e | e
  ·cases e;exact ⟨g,t,cs,fuel,p,hg,ht,hv,hd⟩
  ·exact ZE hr e
theorem Y4 {P:Program} {w:World} {nm:String} {g n:Nat} {t e:TypeId} {ls:List (List UInt8)} {cs:Array Value} {fuel:Nat} {p:List MemPlace}
  (hu:P.underlying t=some (.array n e)) (hs:P.underlying e=some .string) (hc:P.cellsOf e=1) (hn:n=ls.length) (hg:P.globalNamed nm=some g) (hv:w.var? P nm=some cs)
  (hd:DataW.trod (fun _=>()) P w 0 (fun _=>true) false fuel t cs.toList=some (.agg (ls.map fun l=>.lit (.string l)),p)) :
  ∀j (h:j<ls.length),w.cell? ⟨g,j,none⟩=some (.string (za ls[j])):=by
 intro j h;obtain ⟨E,m,-,H,-,K,A⟩:=DataW.trod_array hu hd;have I:=DataW.agg.inj (Prod.mk.inj H).1;have y:=A j (by omega)
 rw [hc,Nat.mul_one] at y;have o:j<E.length:=by omega
 rw [List.getElem?_eq_getElem o] at y;obtain ⟨s,D,x,-⟩:=DataW.trod_string hs y;have z:(ls.map fun l=>(DataW.lit (.string l):DataW Unit))[j]?=(E.map (·.1))[j]?:=by rw [I]
 rw [List.getElem?_map,List.getElem?_map,List.getElem?_eq_getElem h,List.getElem?_eq_getElem o,x] at z;simp only [Option.map_some,Option.some.injEq,DataW.lit.injEq,Lit.string.injEq] at z
 have J:s=za ls[j]:=by
  apply ByteArray.ext
  rw [z]
 rw [World.var?_cell hg hv j,←J]
 have G:(cs.toList.drop j)[0]?=some (.string s):=by
  have:=congrArg (fun l=>l[0]?) D
  simpa [List.getElem?_take] using this
 rw [List.getElem?_drop] at G
 simpa using G
theorem x7:∃f0 f1:Field,Tryz.prog.underlying 228=some (.struct #[f0,f1])∧f0.type=5∧f1.type=5∧f0.offset=0∧f1.offset=1:=⟨_,_,Tryz.underlying228,rfl,rfl,rfl,rfl⟩
theorem Y5:Tryz.prog.cellsOf 5=1:=by kernel_rfl
theorem XA:Tryz.prog.cellsOf 228=2:=by kernel_rfl
theorem yt:Tryz.prog.cellsOf 9=1:=by kernel_rfl
theorem yT {w:World} {m:Nat} {cs:List Value} {a b:Int} {p:List MemPlace}
  (h:DataW.trod (fun _=>()) Tryz.prog w 0 (fun _=>true) false m 228 cs=some (.agg [.lit (.int .u8 a),.lit (.int .u8 b)],p)):cs[0]?=some (.int .u8 a)∧cs[1]?=some (.int .u8 b):=by
 obtain ⟨Q,M,L,E,K,R,D⟩:=x7;obtain ⟨O,n,-,G,-,H,e⟩:=DataW.trod_struct L h;have o:=DataW.agg.inj (Prod.mk.inj G).1;have z:=e 0 Q rfl;have A:=e 1 M rfl;rw [E,R,Y5] at z;rw [K,D,Y5] at A
 match O,H with
 | [x0,x1],_ =>
  simp only [List.map_cons,List.map_nil,List.cons.injEq,and_true] at o;obtain ⟨U,N,J,-⟩:=DataW.trod_int Tryz.underlying5 z;obtain ⟨T,I,S,-⟩:=DataW.trod_int Tryz.underlying5 A;rw [J,S] at o;simp only [DataW.lit.injEq,Lit.int.injEq,true_and] at o;obtain ⟨rfl,rfl⟩:=o;have x:=congrArg (fun l=>l[0]?) N
  have y:=congrArg (fun l=>l[0]?) I
  simp only [List.getElem?_take,List.getElem?_drop] at x y;exact ⟨by simpa using x,by simpa using y⟩
def laidX : List (String × DataW Unit) := [("hindcast/lex.words", Rows.laid_hindcast_lex_words), ("hindcast/lex.signs", Rows.laid_hindcast_lex_signs), ("hindcast/lex.escapes", Rows.laid_hindcast_lex_escapes), ("strconv.ErrRange", Rows.laid_strconv_ErrRange), ("internal/strconv.uint64pow10", Rows.laid_internal_strconv_uint64pow10)]
theorem vC {W:World} {laid:List (String × DataW Unit)} (h:laidMet Tryz.prog laid W) (hm:∀x∈laidX,x∈laid):Zh W:=by
 obtain ⟨Z,E,-⟩:=h;refine ⟨?_,?_,?_,?_⟩
 ·obtain ⟨g, t, H, y, p, o, D, e, z⟩ := ZE (n := "hindcast/lex.words") (d := Rows.laid_hindcast_lex_words) E (hm _ (by unfold laidX; simp))
  obtain rfl := Option.some.inj ((show Tryz.prog.globalNamed "hindcast/lex.words" = some 9 by kernel_rfl).symm.trans o)
  obtain rfl:=Option.some.inj ((show (Tryz.prog.globals[9]?).map (·.type)=some 227 by kernel_rfl).symm.trans D)
  exact Y4 (ls:=zI) Tryz.underlying227 Tryz.underlying9 yt rfl o e z
 ·obtain ⟨g, t, H, y, p, o, D, e, z⟩ := ZE (n := "hindcast/lex.signs") (d := Rows.laid_hindcast_lex_signs) E (hm _ (by unfold laidX; simp))
  obtain rfl := Option.some.inj ((show Tryz.prog.globalNamed "hindcast/lex.signs" = some 8 by kernel_rfl).symm.trans o)
  obtain rfl:=Option.some.inj ((show (Tryz.prog.globals[8]?).map (·.type)=some 225 by kernel_rfl).symm.trans D)
  exact Y4 (ls:=signsL) Tryz.underlying225 Tryz.underlying9 yt rfl o e z
 ·obtain ⟨g, t, H, y, p, o, D, e, z⟩ := ZE (n := "hindcast/lex.escapes") (d := Rows.laid_hindcast_lex_escapes) E (hm _ (by unfold laidX; simp))
  obtain rfl := Option.some.inj ((show Tryz.prog.globalNamed "hindcast/lex.escapes" = some 10 by kernel_rfl).symm.trans o)
  obtain rfl:=Option.some.inj ((show (Tryz.prog.globals[10]?).map (·.type)=some 229 by kernel_rfl).symm.trans D)
  obtain ⟨Y,m,-,X,-,U,A⟩:=DataW.trod_array Tryz.underlying229 z;have R:=DataW.agg.inj (Prod.mk.inj X).1;have S:=A 0 (by omega)
  have T:=A 1 (by omega)
  have N:=A 2 (by omega)
  rw [XA] at S T N
  match Y,U with
  | [(_,p0),(_,p1),(_,p2)],_ =>
   simp only [List.map_cons,List.map_nil,List.cons.injEq,and_true] at R;obtain ⟨rfl,rfl,rfl⟩:=R;obtain ⟨K,O⟩:=yT S;obtain ⟨J,Q⟩:=yT T;obtain ⟨M,L⟩:=yT N;simp only [List.getElem?_take,List.getElem?_drop] at K O J Q M L;intro j hj;rw [World.var?_cell o e j];have V:j=0∨j=1∨j=2∨j=3∨j=4∨j=5:=by omega
   rcases V with rfl | rfl | rfl | rfl | rfl | rfl
   ·simpa using K
   ·simpa using O
   ·simpa using J
   ·simpa using Q
   ·simpa using M
   ·simpa using L
 ·obtain ⟨g, t, H, y, p, o, D, e, z⟩ := ZE (n := "strconv.ErrRange") (d := Rows.laid_strconv_ErrRange) E (hm _ (by unfold laidX; simp))
  obtain rfl := Option.some.inj ((show Tryz.prog.globalNamed "strconv.ErrRange" = some 2 by kernel_rfl).symm.trans o)
  obtain rfl:=Option.some.inj ((show (Tryz.prog.globals[2]?).map (·.type)=some 69 by kernel_rfl).symm.trans D)
  obtain ⟨I,u,v,G,-⟩:=iface_of_trod Tryz.underlying69 z;refine ⟨u,v,?_⟩;rw [World.var?_cell o e 0]
  have:=congrArg (fun l=>l[0]?) G
  simpa using this
end Go.Proofs.YtmbofhpmockmbaaGreatDoor
