import Derived.Test.YtmbofhpmockmbaaGreatDoorMC33
import Derived.Test.YtmbofhpmockmbaaGreatDoorRows
import Derived.OpenShut
import Derived.LaidLaws
import Derived.Lay
import Derived.LaidOnce
namespace Go.Proofs.YtmbofhpmockmbaaGreatDoor
open Go.ChangeShapes Go.WideShapes Go.RowKit
set_option maxRecDepth 100000
theorem vT (a:ByteArray):za a.data.toList=a:=by
 apply ByteArray.ext
 unfold za
 simp
theorem ZQ {P:Program} {w:World} {n:String} {d:DataW Unit}:∀{laid:List (String × DataW Unit)} {ps:List MemPlace},DataW.LaidVars P w laid ps→(n,d)∈laid →
  ∃g t cs fuel p,P.globalNamed n=some g∧(P.globals[g]?).map (·.type)=some t∧w.var? P n=some cs∧DataW.trod (fun _=>()) P w 0 (fun _=>true) false fuel t cs.toList=some (d,p)
 | [],_,_,h=>by cases h
 | (_,_)::_,_,⟨g,t,cs,fuel,p,_,hg,ht,hv,hd,hr,_⟩,h=>by
  rcases List.mem_cons.1 h with e | e
  ·cases e;exact ⟨g,t,cs,fuel,p,hg,ht,hv,hd⟩
  ·exact ZQ hr e
theorem xG {P:Program} {w:World} {nm:String} {g n:Nat} {t e:TypeId} {ls:List (List UInt8)} {cs:Array Value} {fuel:Nat} {p:List MemPlace}
  (hu:P.underlying t=some (.array n e)) (hs:P.underlying e=some .string) (hc:P.cellsOf e=1) (hn:n=ls.length) (hg:P.globalNamed nm=some g) (hv:w.var? P nm=some cs)
  (hd:DataW.trod (fun _=>()) P w 0 (fun _=>true) false fuel t cs.toList=some (.agg (ls.map fun l=>.lit (.string l)),p)) :
  ∀j (h:j<ls.length),w.cell? ⟨g,j,none⟩=some (.string (za ls[j])):=by
 intro j h;obtain ⟨H,m,-,K,-,L,E⟩:=DataW.trod_array hu hd;have I:=DataW.agg.inj (Prod.mk.inj K).1;have z:=E j (by omega)
 rw [hc,Nat.mul_one] at z;have o:j<H.length:=by omega
 rw [List.getElem?_eq_getElem o] at z;obtain ⟨s,y,D,-⟩:=DataW.trod_string hs z;have A:(ls.map fun l=>(DataW.lit (.string l):DataW Unit))[j]?=(H.map (·.1))[j]?:=by rw [I]
 rw [List.getElem?_map,List.getElem?_map,List.getElem?_eq_getElem h,List.getElem?_eq_getElem o,D] at A;simp only [Option.map_some,Option.some.injEq,DataW.lit.injEq,Lit.string.injEq] at A
 have J:s=za ls[j]:=by
  apply ByteArray.ext
  rw [A]
 rw [World.var?_cell hg hv j,←J]
 have G:(cs.toList.drop j)[0]?=some (.string s):=by
  have:=congrArg (fun l=>l[0]?) y
  simpa [List.getElem?_take] using this
 rw [List.getElem?_drop] at G
 simpa using G
theorem XP:∃f0 f1:Field,Tryz.prog.underlying 228=some (.struct #[f0,f1])∧f0.type=5∧f1.type=5∧f0.offset=0∧f1.offset=1:=⟨_,_,Tryz.underlying228,rfl,rfl,rfl,rfl⟩
theorem xH:Tryz.prog.cellsOf 5=1:=by kernel_rfl
theorem vq:Tryz.prog.cellsOf 228=2:=by kernel_rfl
theorem yJ:Tryz.prog.cellsOf 9=1:=by kernel_rfl
theorem y9 {w:World} {m:Nat} {cs:List Value} {a b:Int} {p:List MemPlace}
  (h:DataW.trod (fun _=>()) Tryz.prog w 0 (fun _=>true) false m 228 cs=some (.agg [.lit (.int .u8 a),.lit (.int .u8 b)],p)):cs[0]?=some (.int .u8 a)∧cs[1]?=some (.int .u8 b):=by
 obtain ⟨K,M,T,G,O,N,H⟩:=XP;obtain ⟨R,n,-,S,-,Q,o⟩:=DataW.trod_struct T h;have y:=DataW.agg.inj (Prod.mk.inj S).1;have D:=o 0 K rfl;have A:=o 1 M rfl;rw [G,N,xH] at D;rw [O,H,xH] at A
 match R,Q with
 | [x0,x1],_ =>
  simp only [List.map_cons,List.map_nil,List.cons.injEq,and_true] at y;obtain ⟨W,L,U,-⟩:=DataW.trod_int Tryz.underlying5 D;obtain ⟨V,I,J,-⟩:=DataW.trod_int Tryz.underlying5 A;rw [U,J] at y;simp only [DataW.lit.injEq,Lit.int.injEq,true_and] at y;obtain ⟨rfl,rfl⟩:=y;have E:=congrArg (fun l=>l[0]?) L
  have z:=congrArg (fun l=>l[0]?) I
  simp only [List.getElem?_take,List.getElem?_drop] at E z;exact ⟨by simpa using E,by simpa using z⟩
def laidX : List (String × DataW Unit) := [("hindcast/lex.words", Rows.laid_hindcast_lex_words), ("hindcast/lex.signs", Rows.laid_hindcast_lex_signs), ("hindcast/lex.escapes", Rows.laid_hindcast_lex_escapes), ("strconv.ErrRange", Rows.laid_strconv_ErrRange), ("internal/strconv.uint64pow10", Rows.laid_internal_strconv_uint64pow10)]
theorem VB {W:World} {laid:List (String × DataW Unit)} (h:laidMet Tryz.prog laid W) (hm:∀x∈laidX,x∈laid):Zp W:=by
 obtain ⟨ps,G,-⟩:=h;refine ⟨?_,?_,?_,?_⟩
 ·obtain ⟨g, t, I, y, p, z, D, o, E⟩ := ZQ (n := "hindcast/lex.words") (d := Rows.laid_hindcast_lex_words) G (hm _ (by unfold laidX; simp))
  obtain rfl := Option.some.inj ((show Tryz.prog.globalNamed "hindcast/lex.words" = some 9 by kernel_rfl).symm.trans z)
  obtain rfl:=Option.some.inj ((show (Tryz.prog.globals[9]?).map (·.type)=some 227 by kernel_rfl).symm.trans D)
  exact xG (ls:=zI) Tryz.underlying227 Tryz.underlying9 yJ rfl z o E
 ·obtain ⟨g, t, I, y, p, z, D, o, E⟩ := ZQ (n := "hindcast/lex.signs") (d := Rows.laid_hindcast_lex_signs) G (hm _ (by unfold laidX; simp))
  obtain rfl := Option.some.inj ((show Tryz.prog.globalNamed "hindcast/lex.signs" = some 8 by kernel_rfl).symm.trans z)
  obtain rfl:=Option.some.inj ((show (Tryz.prog.globals[8]?).map (·.type)=some 225 by kernel_rfl).symm.trans D)
  exact xG (ls:=signsL) Tryz.underlying225 Tryz.underlying9 yJ rfl z o E
 ·obtain ⟨g, t, I, y, p, z, D, o, E⟩ := ZQ (n := "hindcast/lex.escapes") (d := Rows.laid_hindcast_lex_escapes) G (hm _ (by unfold laidX; simp))
  obtain rfl := Option.some.inj ((show Tryz.prog.globalNamed "hindcast/lex.escapes" = some 10 by kernel_rfl).symm.trans z)
  obtain rfl:=Option.some.inj ((show (Tryz.prog.globals[10]?).map (·.type)=some 229 by kernel_rfl).symm.trans D)
  obtain ⟨X,m,-,Y,-,V,A⟩:=DataW.trod_array Tryz.underlying229 E;have L:=DataW.agg.inj (Prod.mk.inj Y).1;have S:=A 0 (by omega)
  have N:=A 1 (by omega)
  have R:=A 2 (by omega)
  rw [vq] at S N R
  match X,V with
  | [(_,p0),(_,p1),(_,p2)],_ =>
   simp only [List.map_cons,List.map_nil,List.cons.injEq,and_true] at L;obtain ⟨rfl,rfl,rfl⟩:=L;obtain ⟨Q,M⟩:=y9 S;obtain ⟨O,K⟩:=y9 N;obtain ⟨U,T⟩:=y9 R;simp only [List.getElem?_take,List.getElem?_drop] at Q M O K U T;intro j hj;rw [World.var?_cell z o j];have Z:j=0∨j=1∨j=2∨j=3∨j=4∨j=5:=by omega
   rcases Z with rfl | rfl | rfl | rfl | rfl | rfl
   ·simpa using Q
   ·simpa using M
   ·simpa using O
   ·simpa using K
   ·simpa using U
   ·simpa using T
 ·obtain ⟨g, t, I, y, p, z, D, o, E⟩ := ZQ (n := "strconv.ErrRange") (d := Rows.laid_strconv_ErrRange) G (hm _ (by unfold laidX; simp))
  obtain rfl := Option.some.inj ((show Tryz.prog.globalNamed "strconv.ErrRange" = some 2 by kernel_rfl).symm.trans z)
  obtain rfl:=Option.some.inj ((show (Tryz.prog.globals[2]?).map (·.type)=some 69 by kernel_rfl).symm.trans D)
  obtain ⟨J,u,v,H,-⟩:=iface_of_trod Tryz.underlying69 E;refine ⟨u,v,?_⟩;rw [World.var?_cell z o 0]
  have:=congrArg (fun l=>l[0]?) H
  simpa using this
end Go.Proofs.YtmbofhpmockmbaaGreatDoor
