import Derived.Test.YtbjndgachcdbcaaGreatDoorMC5
import Derived.Test.YtbjndgachcdbcaaGreatDoorRows
import Derived.OpenShut
import Derived.LaidLaws
import Derived.Lay
import Derived.LaidOnce
namespace Go.Proofs.YtbjndgachcdbcaaGreatDoor
open Go.ChangeShapes Go.WideShapes Go.RowKit
set_option maxRecDepth 100000
theorem VY (a:ByteArray):za a.data.toList=a:=by
 apply ByteArray.ext
 unfold za
 simp
theorem Zp {P:Program} {w:World} {n:String} {d:DataW Unit}:∀{laid:List (String × DataW Unit)} {ps:List MemPlace},DataW.LaidVars P w laid ps→(n,d)∈laid →
  ∃g t cs fuel p,P.globalNamed n=some g∧(P.globals[g]?).map (·.type)=some t∧w.var? P n=some cs∧DataW.trod (fun _=>()) P w 0 (fun _=>true) false fuel t cs.toList=some (d,p)
 | [],_,_,h=>by cases h
 | (_,_)::_,_,⟨g,t,cs,fuel,p,_,hg,ht,hv,hd,hr,_⟩,h=>by
  rcases List.mem_cons.1 h with e | e
  ·cases e;exact ⟨g,t,cs,fuel,p,hg,ht,hv,hd⟩
  ·exact Zp hr e
theorem yF {P:Program} {w:World} {nm:String} {g n:Nat} {t e:TypeId} {ls:List (List UInt8)} {cs:Array Value} {fuel:Nat} {p:List MemPlace}
  (hu:P.underlying t=some (.array n e)) (hs:P.underlying e=some .string) (hc:P.cellsOf e=1) (hn:n=ls.length) (hg:P.globalNamed nm=some g) (hv:w.var? P nm=some cs)
  (hd:DataW.trod (fun _=>()) P w 0 (fun _=>true) false fuel t cs.toList=some (.agg (ls.map fun l=>.lit (.string l)),p)) :
  ∀j (h:j<ls.length),w.cell? ⟨g,j,none⟩=some (.string (za ls[j])):=by
 intro j h;obtain ⟨z,m,-,A,-,E,u⟩:=DataW.trod_array hu hd;have D:=DataW.agg.inj (Prod.mk.inj A).1;have x:=u j (by omega)
 rw [hc,Nat.mul_one] at x;have b:j<z.length:=by omega
 rw [List.getElem?_eq_getElem b] at x;obtain ⟨s,q,o,-⟩:=DataW.trod_string hs x;have c:(ls.map fun l=>(DataW.lit (.string l):DataW Unit))[j]?=(z.map (·.1))[j]?:=by rw [D]
 rw [List.getElem?_map,List.getElem?_map,List.getElem?_eq_getElem h,List.getElem?_eq_getElem b,o] at c;simp only [Option.map_some,Option.some.injEq,DataW.lit.injEq,Lit.string.injEq] at c
 have B:s=za ls[j]:=by
  apply ByteArray.ext
  rw [c]
 rw [World.var?_cell hg hv j,←B]
 have y:(cs.toList.drop j)[0]?=some (.string s):=by
  have:=congrArg (fun l=>l[0]?) q
  simpa [List.getElem?_take] using this
 rw [List.getElem?_drop] at y
 simpa using y
theorem Xh:∃f0 f1:Field,Tryz.prog.underlying 150=some (.struct #[f0,f1])∧f0.type=5∧f1.type=5∧f0.offset=0∧f1.offset=1:=⟨_,_,Tryz.underlying150,rfl,rfl,rfl,rfl⟩
theorem Y8:Tryz.prog.cellsOf 5=1:=by kernel_rfl
theorem XG:Tryz.prog.cellsOf 150=2:=by kernel_rfl
theorem yG:Tryz.prog.cellsOf 9=1:=by kernel_rfl
theorem yH {w:World} {m:Nat} {cs:List Value} {a b:Int} {p:List MemPlace}
  (h:DataW.trod (fun _=>()) Tryz.prog w 0 (fun _=>true) false m 150 cs=some (.agg [.lit (.int .u8 a),.lit (.int .u8 b)],p)):cs[0]?=some (.int .u8 a)∧cs[1]?=some (.int .u8 b):=by
 obtain ⟨K,G,F,J,z,H,B⟩:=Xh;obtain ⟨E,n,-,I,-,M,c⟩:=DataW.trod_struct F h;have e:=DataW.agg.inj (Prod.mk.inj I).1;have x:=c 0 K rfl;have q:=c 1 G rfl;rw [J,H,Y8] at x;rw [z,B,Y8] at q
 match E,M with
 | [x0,x1],_ =>
  simp only [List.map_cons,List.map_nil,List.cons.injEq,and_true] at e;obtain ⟨R,A,O,-⟩:=DataW.trod_int Tryz.underlying5 x;obtain ⟨T,y,D,-⟩:=DataW.trod_int Tryz.underlying5 q;rw [O,D] at e;simp only [DataW.lit.injEq,Lit.int.injEq,true_and] at e;obtain ⟨rfl,rfl⟩:=e;have o:=congrArg (fun l=>l[0]?) A
  have u:=congrArg (fun l=>l[0]?) y
  simp only [List.getElem?_take,List.getElem?_drop] at o u;exact ⟨by simpa using o,by simpa using u⟩
def laidX : List (String × DataW Unit) := [("hindcast/lex.words", Rows.laid_hindcast_lex_words), ("hindcast/lex.signs", Rows.laid_hindcast_lex_signs), ("hindcast/lex.escapes", Rows.laid_hindcast_lex_escapes), ("strconv.ErrRange", Rows.laid_strconv_ErrRange), ("internal/strconv.uint64pow10", Rows.laid_internal_strconv_uint64pow10)]
theorem vF {W:World} {laid:List (String × DataW Unit)} (h:laidMet Tryz.prog laid W) (hm:∀x∈laidX,x∈laid):z7 W:=by
 obtain ⟨X,y,-⟩:=h;refine ⟨?_,?_,?_,?_⟩
 ·obtain ⟨g, t, A, fuel, p, c, e, b, o⟩ := Zp (n := "hindcast/lex.words") (d := Rows.laid_hindcast_lex_words) y (hm _ (by unfold laidX; simp))
  obtain rfl := Option.some.inj ((show Tryz.prog.globalNamed "hindcast/lex.words" = some 5 by kernel_rfl).symm.trans c)
  obtain rfl:=Option.some.inj ((show (Tryz.prog.globals[5]?).map (·.type)=some 152 by kernel_rfl).symm.trans e)
  exact yF (ls:=zr) Tryz.underlying152 Tryz.underlying9 yG rfl c b o
 ·obtain ⟨g, t, A, fuel, p, c, e, b, o⟩ := Zp (n := "hindcast/lex.signs") (d := Rows.laid_hindcast_lex_signs) y (hm _ (by unfold laidX; simp))
  obtain rfl := Option.some.inj ((show Tryz.prog.globalNamed "hindcast/lex.signs" = some 2 by kernel_rfl).symm.trans c)
  obtain rfl:=Option.some.inj ((show (Tryz.prog.globals[2]?).map (·.type)=some 140 by kernel_rfl).symm.trans e)
  exact yF (ls:=signsL) Tryz.underlying140 Tryz.underlying9 yG rfl c b o
 ·obtain ⟨g, t, A, fuel, p, c, e, b, o⟩ := Zp (n := "hindcast/lex.escapes") (d := Rows.laid_hindcast_lex_escapes) y (hm _ (by unfold laidX; simp))
  obtain rfl := Option.some.inj ((show Tryz.prog.globalNamed "hindcast/lex.escapes" = some 4 by kernel_rfl).symm.trans c)
  obtain rfl:=Option.some.inj ((show (Tryz.prog.globals[4]?).map (·.type)=some 151 by kernel_rfl).symm.trans e)
  obtain ⟨T,m,-,U,-,R,q⟩:=DataW.trod_array Tryz.underlying151 o;have D:=DataW.agg.inj (Prod.mk.inj U).1;have G:=q 0 (by omega)
  have J:=q 1 (by omega)
  have H:=q 2 (by omega)
  rw [XG] at G J H
  match T,R with
  | [(_,p0),(_,p1),(_,p2)],_ =>
   simp only [List.map_cons,List.map_nil,List.cons.injEq,and_true] at D;obtain ⟨rfl,rfl,rfl⟩:=D;obtain ⟨I,K⟩:=yH G;obtain ⟨E,B⟩:=yH J;obtain ⟨M,F⟩:=yH H;simp only [List.getElem?_take,List.getElem?_drop] at I K E B M F;intro j V;rw [World.var?_cell c b j];have O:j=0∨j=1∨j=2∨j=3∨j=4∨j=5:=by omega
   rcases O with rfl | rfl | rfl | rfl | rfl | rfl
   ·simpa using I
   ·simpa using K
   ·simpa using E
   ·simpa using B
   ·simpa using M
   ·simpa using F
 ·obtain ⟨g, t, A, fuel, p, c, e, b, o⟩ := Zp (n := "strconv.ErrRange") (d := Rows.laid_strconv_ErrRange) y (hm _ (by unfold laidX; simp))
  obtain rfl := Option.some.inj ((show Tryz.prog.globalNamed "strconv.ErrRange" = some 11 by kernel_rfl).symm.trans c)
  obtain rfl:=Option.some.inj ((show (Tryz.prog.globals[11]?).map (·.type)=some 135 by kernel_rfl).symm.trans e)
  obtain ⟨fuel',u,v,z,-⟩:=iface_of_trod Tryz.underlying135 o;refine ⟨u,v,?_⟩;rw [World.var?_cell c b 0]
  have:=congrArg (fun l=>l[0]?) z
  simpa using this
end Go.Proofs.YtbjndgachcdbcaaGreatDoor
