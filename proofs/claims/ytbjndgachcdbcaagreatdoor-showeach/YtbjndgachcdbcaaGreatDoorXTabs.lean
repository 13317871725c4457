import Derived.Test.YtbjndgachcdbcaaGreatDoorMC5
import Derived.Test.YtbjndgachcdbcaaGreatDoorRows
import Derived.OpenShut
import Derived.LaidLaws
import Derived.Lay
import Derived.LaidOnce
namespace Go.Proofs.YtbjndgachcdbcaaGreatDoor
open Go.ChangeShapes Go.WideShapes Go.RowKit
set_option maxRecDepth 100000
theorem uT (a:ByteArray):za a.data.toList=a:=by
 apply ByteArray.ext
 unfold za
 simp
theorem Zv {P:Program} {w:World} {n:String} {d:DataW Unit}:∀{laid:List (String × DataW Unit)} {ps:List MemPlace},DataW.LaidVars P w laid ps→(n,d)∈laid →
  ∃g t cs fuel p,P.globalNamed n=some g∧(P.globals[g]?).map (·.type)=some t∧w.var? P n=some cs∧DataW.trod (fun _=>()) P w 0 (fun _=>true) false fuel t cs.toList=some (d,p)
 | [],_,_,h=>by cases h
 | (_,_)::_,_,⟨g,t,cs,fuel,p,_,hg,ht,hv,hd,hr,_⟩,h=>by
  rcases List.mem_cons.1 h with e | e
  ·cases e;exact ⟨g,t,cs,fuel,p,hg,ht,hv,hd⟩
  ·exact Zv hr e
theorem Yd {P:Program} {w:World} {nm:String} {g n:Nat} {t e:TypeId} {ls:List (List UInt8)} {cs:Array Value} {fuel:Nat} {p:List MemPlace}
  (hu:P.underlying t=some (.array n e)) (hs:P.underlying e=some .string) (hc:P.cellsOf e=1) (hn:n=ls.length) (hg:P.globalNamed nm=some g) (hv:w.var? P nm=some cs)
  (hd:DataW.trod (fun _=>()) P w 0 (fun _=>true) false fuel t cs.toList=some (.agg (ls.map fun l=>.lit (.string l)),p)) :
  ∀j (h:j<ls.length),w.cell? ⟨g,j,none⟩=some (.string (za ls[j])):=by
 intro j h;obtain ⟨A,m,-,E,-,F,u⟩:=DataW.trod_array hu hd;have D:=DataW.agg.inj (Prod.mk.inj E).1;have y:=u j (by omega)
 rw [hc,Nat.mul_one] at y;have b:j<A.length:=by omega
 rw [List.getElem?_eq_getElem b] at y;obtain ⟨s,o,q,-⟩:=DataW.trod_string hs y;have c:(ls.map fun l=>(DataW.lit (.string l):DataW Unit))[j]?=(A.map (·.1))[j]?:=by rw [D]
 rw [List.getElem?_map,List.getElem?_map,List.getElem?_eq_getElem h,List.getElem?_eq_getElem b,q] at c;simp only [Option.map_some,Option.some.injEq,DataW.lit.injEq,Lit.string.injEq] at c
 have B:s=za ls[j]:=by
  apply ByteArray.ext
  rw [c]
 rw [World.var?_cell hg hv j,←B]
 have z:(cs.toList.drop j)[0]?=some (.string s):=by
  have:=congrArg (fun l=>l[0]?) o
  simpa [List.getElem?_take] using this
 rw [List.getElem?_drop] at z
 simpa using z
theorem XL:∃f0 f1:Field,Tryz.prog.underlying 150=some (.struct #[f0,f1])∧f0.type=5∧f1.type=5∧f0.offset=0∧f1.offset=1:=⟨_,_,Tryz.underlying150,rfl,rfl,rfl,rfl⟩
theorem xA:Tryz.prog.cellsOf 5=1:=by kernel_rfl
theorem vr:Tryz.prog.cellsOf 150=2:=by kernel_rfl
theorem Ye:Tryz.prog.cellsOf 9=1:=by kernel_rfl
theorem Yf {w:World} {m:Nat} {cs:List Value} {a b:Int} {p:List MemPlace}
  (h:DataW.trod (fun _=>()) Tryz.prog w 0 (fun _=>true) false m 150 cs=some (.agg [.lit (.int .u8 a),.lit (.int .u8 b)],p)):cs[0]?=some (.int .u8 a)∧cs[1]?=some (.int .u8 b):=by
 obtain ⟨O,A,K,B,z,I,J⟩:=XL;obtain ⟨D,n,-,E,-,R,c⟩:=DataW.trod_struct K h;have e:=DataW.agg.inj (Prod.mk.inj E).1;have o:=c 0 O rfl;have y:=c 1 A rfl;rw [B,I,xA] at o;rw [z,J,xA] at y
 match D,R with
 | [x0,x1],_ =>
  simp only [List.map_cons,List.map_nil,List.cons.injEq,and_true] at e;obtain ⟨U,H,F,-⟩:=DataW.trod_int Tryz.underlying5 o;obtain ⟨T,M,G,-⟩:=DataW.trod_int Tryz.underlying5 y;rw [F,G] at e;simp only [DataW.lit.injEq,Lit.int.injEq,true_and] at e;obtain ⟨rfl,rfl⟩:=e;have u:=congrArg (fun l=>l[0]?) H
  have q:=congrArg (fun l=>l[0]?) M
  simp only [List.getElem?_take,List.getElem?_drop] at u q;exact ⟨by simpa using u,by simpa using q⟩
def laidX : List (String × DataW Unit) := [("hindcast/lex.words", Rows.laid_hindcast_lex_words), ("hindcast/lex.signs", Rows.laid_hindcast_lex_signs), ("hindcast/lex.escapes", Rows.laid_hindcast_lex_escapes), ("strconv.ErrRange", Rows.laid_strconv_ErrRange), ("internal/strconv.uint64pow10", Rows.laid_internal_strconv_uint64pow10)]
theorem Vu {W:World} {laid:List (String × DataW Unit)} (h:laidMet Tryz.prog laid W) (hm:∀x∈laidX,x∈laid):Zb W:=by
 obtain ⟨X,y,-⟩:=h;refine ⟨?_,?_,?_,?_⟩
 ·obtain ⟨g, t, z, fuel, p, c, o, b, e⟩ := Zv (n := "hindcast/lex.words") (d := Rows.laid_hindcast_lex_words) y (hm _ (by unfold laidX; simp))
  obtain rfl := Option.some.inj ((show Tryz.prog.globalNamed "hindcast/lex.words" = some 5 by kernel_rfl).symm.trans c)
  obtain rfl:=Option.some.inj ((show (Tryz.prog.globals[5]?).map (·.type)=some 152 by kernel_rfl).symm.trans o)
  exact Yd (ls:=zv) Tryz.underlying152 Tryz.underlying9 Ye rfl c b e
 ·obtain ⟨g, t, z, fuel, p, c, o, b, e⟩ := Zv (n := "hindcast/lex.signs") (d := Rows.laid_hindcast_lex_signs) y (hm _ (by unfold laidX; simp))
  obtain rfl := Option.some.inj ((show Tryz.prog.globalNamed "hindcast/lex.signs" = some 2 by kernel_rfl).symm.trans c)
  obtain rfl:=Option.some.inj ((show (Tryz.prog.globals[2]?).map (·.type)=some 140 by kernel_rfl).symm.trans o)
  exact Yd (ls:=signsL) Tryz.underlying140 Tryz.underlying9 Ye rfl c b e
 ·obtain ⟨g, t, z, fuel, p, c, o, b, e⟩ := Zv (n := "hindcast/lex.escapes") (d := Rows.laid_hindcast_lex_escapes) y (hm _ (by unfold laidX; simp))
  obtain rfl := Option.some.inj ((show Tryz.prog.globalNamed "hindcast/lex.escapes" = some 4 by kernel_rfl).symm.trans c)
  obtain rfl:=Option.some.inj ((show (Tryz.prog.globals[4]?).map (·.type)=some 151 by kernel_rfl).symm.trans o)
  obtain ⟨R,m,-,T,-,U,q⟩:=DataW.trod_array Tryz.underlying151 e;have B:=DataW.agg.inj (Prod.mk.inj T).1;have H:=q 0 (by omega)
  have G:=q 1 (by omega)
  have D:=q 2 (by omega)
  rw [vr] at H G D
  match R,U with
  | [(_,p0),(_,p1),(_,p2)],_ =>
   simp only [List.map_cons,List.map_nil,List.cons.injEq,and_true] at B;obtain ⟨rfl,rfl,rfl⟩:=B;obtain ⟨J,I⟩:=Yf H;obtain ⟨K,F⟩:=Yf G;obtain ⟨M,E⟩:=Yf D;simp only [List.getElem?_take,List.getElem?_drop] at J I K F M E;intro j V;rw [World.var?_cell c b j];have O:j=0∨j=1∨j=2∨j=3∨j=4∨j=5:=by omega
   rcases O with rfl | rfl | rfl | rfl | rfl | rfl
   ·simpa using J
   ·simpa using I
   ·simpa using K
   ·simpa using F
   ·simpa using M
   ·simpa using E
 ·obtain ⟨g, t, z, fuel, p, c, o, b, e⟩ := Zv (n := "strconv.ErrRange") (d := Rows.laid_strconv_ErrRange) y (hm _ (by unfold laidX; simp))
  obtain rfl := Option.some.inj ((show Tryz.prog.globalNamed "strconv.ErrRange" = some 11 by kernel_rfl).symm.trans c)
  obtain rfl:=Option.some.inj ((show (Tryz.prog.globals[11]?).map (·.type)=some 135 by kernel_rfl).symm.trans o)
  obtain ⟨fuel',u,v,A,-⟩:=iface_of_trod Tryz.underlying135 e;refine ⟨u,v,?_⟩;rw [World.var?_cell c b 0]
  have:=congrArg (fun l=>l[0]?) A
  simpa using this
end Go.Proofs.YtbjndgachcdbcaaGreatDoor
