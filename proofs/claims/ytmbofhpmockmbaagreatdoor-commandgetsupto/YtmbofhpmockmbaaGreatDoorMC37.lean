import Derived.Test.YtmbofhpmockmbaaGreatDoorMC18
import Derived.Test.YtmbofhpmockmbaaGreatDoorMC16
import Derived.Lib.AppendIntMem
import Derived.Test.YtmbofhpmockmbaaGreatDoorRows
import Derived.OpenShut
import Derived.LaidLaws
import Derived.Lay
import Derived.LaidOnce
import Derived.Lib.LaidTab
namespace Go.Proofs.YtmbofhpmockmbaaGreatDoor
open Go.RowKit Go.Shelf
set_option maxRecDepth 100000
theorem uv {w:World} {B e sz n:Nat} {v:Value} {xs:List Value} (h:w.ownsRow B e sz v n xs) (hn:1≤n):∃g o,v=.slice (some ⟨g,0,none⟩) n o∧B≤g∧g<w.heap.size∧n≤o∧∀j u,xs[j]?=some u→w.cell? ⟨g,j,none⟩=some u:=by
 obtain ⟨-,⟨-,G⟩ | ⟨g,o,A,rfl,D,y,z,-,-,E⟩⟩:=h
 ·omega
 ·refine ⟨g,o,rfl,D,(Array.getElem?_eq_some_iff.1 y).1,z,fun j u hj=>?_⟩
  rw [cell_of_row _ _ _ _ _ _ y];rw [←E,List.getElem?_take] at hj
  split at hj
  ·rw [Array.getElem?_toList] at hj;exact hj
  ·cases hj
def qW (c:UInt8):List UInt8:=if c.toNat=92 then [92,92] else if c.toNat=34 then [92,34] else if c.toNat=10 then [92,110] else [c]
def qm (s:List UInt8):List UInt8:=34::(s.flatMap qW++[34])
def vF (w : World) : Prop := ZB w ∧ Lib.TabIs Tryz.prog w "internal/strconv.uint64pow10" .u64 Lib.pow10Tab
theorem vF.below {w w':World} {B:Nat} (h:vF w) (hb:Below B w w') (hB:w.heap.size≤B):vF w' :=
 ⟨h.1.below hb hB,Lib.tabBelow_of_tabIs h.2 w' (hb.mono hB)⟩
def qN (k n:Int) (s:List UInt8):List UInt8:=if k=2 then Lib.itoa n else if k=3 then qm s else s
def U6 (k n:Int) (s:List UInt8):Prop:=(ZJ (qN k n s)).e=0∧((ZJ (qN k n s)).k:Int)=k∧(ZJ (qN k n s)).s=s∧((ZJ (qN k n s)).n:Int)=n
instance (k n:Int) (s:List UInt8):Decidable (U6 k n s):=by unfold U6;infer_instance
end Go.Proofs.YtmbofhpmockmbaaGreatDoor
namespace Go.Proofs.YtmbofhpmockmbaaGreatDoor
open Go.ChangeShapes Go.WideShapes Go.RowKit
set_option maxRecDepth 100000
theorem VY (a:ByteArray):za a.data.toList=a:=by
 apply ByteArray.ext
 unfold za
 simp
theorem Z1 {P:Program} {w:World} {n:String} {d:DataW Unit}:∀{laid:List (String × DataW Unit)} {ps:List MemPlace},DataW.LaidVars P w laid ps→(n,d)∈laid →
  ∃g t cs fuel p,P.globalNamed n=some g∧(P.globals[g]?).map (·.type)=some t∧w.var? P n=some cs∧DataW.trod (fun _=>()) P w 0 (fun _=>true) false fuel t cs.toList=some (d,p)
 | [],_,_,h=>by cases h
 | (_,_)::_,_,⟨g,t,cs,fuel,p,_,hg,ht,hv,hd,hr,_⟩,h=>by
  rcases List.mem_cons.1 h with e | e
  ·cases e;exact ⟨g,t,cs,fuel,p,hg,ht,hv,hd⟩
  ·exact Z1 hr e
theorem Xv {P:Program} {w:World} {nm:String} {g n:Nat} {t e:TypeId} {ls:List (List UInt8)} {cs:Array Value} {fuel:Nat} {p:List MemPlace}
  (hu:P.underlying t=some (.array n e)) (hs:P.underlying e=some .string) (hc:P.cellsOf e=1) (hn:n=ls.length) (hg:P.globalNamed nm=some g) (hv:w.var? P nm=some cs)
  (hd:DataW.trod (fun _=>()) P w 0 (fun _=>true) false fuel t cs.toList=some (.agg (ls.map fun l=>.lit (.string l)),p)) :
  ∀j (h:j<ls.length),w.cell? ⟨g,j,none⟩=some (.string (za ls[j])):=by
 intro j h;obtain ⟨G,m,-,J,-,L,A⟩:=DataW.trod_array hu hd;have K:=DataW.agg.inj (Prod.mk.inj J).1;have D:=A j (by omega)
 rw [hc,Nat.mul_one] at D;have o:j<G.length:=by omega
 rw [List.getElem?_eq_getElem o] at D;obtain ⟨s,z,y,-⟩:=DataW.trod_string hs D;have E:(ls.map fun l=>(DataW.lit (.string l):DataW Unit))[j]?=(G.map (·.1))[j]?:=by rw [K]
 rw [List.getElem?_map,List.getElem?_map,List.getElem?_eq_getElem h,List.getElem?_eq_getElem o,y] at E;simp only [Option.map_some,Option.some.injEq,DataW.lit.injEq,Lit.string.injEq] at E
 have I:s=za ls[j]:=by
  apply ByteArray.ext
  rw [E]
 rw [World.var?_cell hg hv j,←I]
 have H:(cs.toList.drop j)[0]?=some (.string s):=by
  have:=congrArg (fun l=>l[0]?) z
  simpa [List.getElem?_take] using this
 rw [List.getElem?_drop] at H
 simpa using H
theorem vG:∃f0 f1:Field,Tryz.prog.underlying 228=some (.struct #[f0,f1])∧f0.type=5∧f1.type=5∧f0.offset=0∧f1.offset=1:=⟨_,_,Tryz.underlying228,rfl,rfl,rfl,rfl⟩
theorem Xw:Tryz.prog.cellsOf 5=1:=by kernel_rfl
theorem Vm:Tryz.prog.cellsOf 228=2:=by kernel_rfl
theorem Yf:Tryz.prog.cellsOf 9=1:=by kernel_rfl
theorem YP {w:World} {m:Nat} {cs:List Value} {a b:Int} {p:List MemPlace}
  (h:DataW.trod (fun _=>()) Tryz.prog w 0 (fun _=>true) false m 228 cs=some (.agg [.lit (.int .u8 a),.lit (.int .u8 b)],p)):cs[0]?=some (.int .u8 a)∧cs[1]?=some (.int .u8 b):=by
 obtain ⟨W,V,Q,H,G,I,U⟩:=vG;obtain ⟨T,n,-,R,-,K,o⟩:=DataW.trod_struct Q h;have y:=DataW.agg.inj (Prod.mk.inj R).1;have A:=o 0 W rfl;have D:=o 1 V rfl;rw [H,I,Xw] at A;rw [G,U,Xw] at D
 match T,K with
 | [x0,x1],_ =>
  simp only [List.map_cons,List.map_nil,List.cons.injEq,and_true] at y;obtain ⟨X,J,M,-⟩:=DataW.trod_int Tryz.underlying5 A;obtain ⟨Y,O,L,-⟩:=DataW.trod_int Tryz.underlying5 D;rw [M,L] at y;simp only [DataW.lit.injEq,Lit.int.injEq,true_and] at y;obtain ⟨rfl,rfl⟩:=y;have E:=congrArg (fun l=>l[0]?) J
  have z:=congrArg (fun l=>l[0]?) O
  simp only [List.getElem?_take,List.getElem?_drop] at E z;exact ⟨by simpa using E,by simpa using z⟩
def laidX : List (String × DataW Unit) := [("hindcast/lex.words", Rows.laid_hindcast_lex_words), ("hindcast/lex.signs", Rows.laid_hindcast_lex_signs), ("hindcast/lex.escapes", Rows.laid_hindcast_lex_escapes), ("strconv.ErrRange", Rows.laid_strconv_ErrRange), ("internal/strconv.uint64pow10", Rows.laid_internal_strconv_uint64pow10)]
theorem uw {W:World} {laid:List (String × DataW Unit)} (h:laidMet Tryz.prog laid W) (hm:∀x∈laidX,x∈laid):ZB W:=by
 obtain ⟨ps,E,-⟩:=h;refine ⟨?_,?_,?_,?_⟩
 ·obtain ⟨g, t, G, fuel, p, y, A, o, D⟩ := Z1 (n := "hindcast/lex.words") (d := Rows.laid_hindcast_lex_words) E (hm _ (by unfold laidX; simp))
  obtain rfl := Option.some.inj ((show Tryz.prog.globalNamed "hindcast/lex.words" = some 9 by kernel_rfl).symm.trans y)
  obtain rfl:=Option.some.inj ((show (Tryz.prog.globals[9]?).map (·.type)=some 227 by kernel_rfl).symm.trans A)
  exact Xv (ls:=zQ) Tryz.underlying227 Tryz.underlying9 Yf rfl y o D
 ·obtain ⟨g, t, G, fuel, p, y, A, o, D⟩ := Z1 (n := "hindcast/lex.signs") (d := Rows.laid_hindcast_lex_signs) E (hm _ (by unfold laidX; simp))
  obtain rfl := Option.some.inj ((show Tryz.prog.globalNamed "hindcast/lex.signs" = some 8 by kernel_rfl).symm.trans y)
  obtain rfl:=Option.some.inj ((show (Tryz.prog.globals[8]?).map (·.type)=some 225 by kernel_rfl).symm.trans A)
  exact Xv (ls:=signsL) Tryz.underlying225 Tryz.underlying9 Yf rfl y o D
 ·obtain ⟨g, t, G, fuel, p, y, A, o, D⟩ := Z1 (n := "hindcast/lex.escapes") (d := Rows.laid_hindcast_lex_escapes) E (hm _ (by unfold laidX; simp))
  obtain rfl := Option.some.inj ((show Tryz.prog.globalNamed "hindcast/lex.escapes" = some 10 by kernel_rfl).symm.trans y)
  obtain rfl:=Option.some.inj ((show (Tryz.prog.globals[10]?).map (·.type)=some 229 by kernel_rfl).symm.trans A)
  obtain ⟨Z,m,-,Y,-,V,z⟩:=DataW.trod_array Tryz.underlying229 D;have K:=DataW.agg.inj (Prod.mk.inj Y).1;have J:=z 0 (by omega)
  have M:=z 1 (by omega)
  have T:=z 2 (by omega)
  rw [Vm] at J M T
  match Z,V with
  | [(_,p0),(_,p1),(_,p2)],_ =>
   simp only [List.map_cons,List.map_nil,List.cons.injEq,and_true] at K;obtain ⟨rfl,rfl,rfl⟩:=K;obtain ⟨L,Q⟩:=YP J;obtain ⟨R,I⟩:=YP M;obtain ⟨O,U⟩:=YP T;simp only [List.getElem?_take,List.getElem?_drop] at L Q R I O U;intro j hj;rw [World.var?_cell y o j];have X:j=0∨j=1∨j=2∨j=3∨j=4∨j=5:=by omega
   rcases X with rfl | rfl | rfl | rfl | rfl | rfl
   ·simpa using L
   ·simpa using Q
   ·simpa using R
   ·simpa using I
   ·simpa using O
   ·simpa using U
 ·obtain ⟨g, t, G, fuel, p, y, A, o, D⟩ := Z1 (n := "strconv.ErrRange") (d := Rows.laid_strconv_ErrRange) E (hm _ (by unfold laidX; simp))
  obtain rfl := Option.some.inj ((show Tryz.prog.globalNamed "strconv.ErrRange" = some 2 by kernel_rfl).symm.trans y)
  obtain rfl:=Option.some.inj ((show (Tryz.prog.globals[2]?).map (·.type)=some 69 by kernel_rfl).symm.trans A)
  obtain ⟨fuel',u,v,H,-⟩:=iface_of_trod Tryz.underlying69 D;refine ⟨u,v,?_⟩;rw [World.var?_cell y o 0]
  have:=congrArg (fun l=>l[0]?) H
  simpa using this
theorem ux:Tryz.prog.cellsOf 106=1:=by kernel_rfl
theorem uy:Tryz.prog.cellsOf 159=20:=by kernel_rfl
theorem Us:(Rows.laid_internal_strconv_uint64pow10:DataW Unit)=Lib.tabData .u64 Lib.pow10Tab:=rfl
theorem Vn {W:World} {laid:List (String × DataW Unit)} (h:laidMet Tryz.prog laid W) (hm:∀x∈laidX,x∈laid):vF W:=by
 refine ⟨uw h hm,?_⟩;obtain ⟨E,D,-⟩:=h;obtain ⟨g, t, G, fuel, p, A, z, o, y⟩ := Z1 (n := "internal/strconv.uint64pow10") (d := Rows.laid_internal_strconv_uint64pow10) D (hm _ (by unfold laidX; simp))
 obtain rfl := Option.some.inj ((show Tryz.prog.globalNamed "internal/strconv.uint64pow10" = some 3 by kernel_rfl).symm.trans A)
 obtain rfl:=Option.some.inj ((show (Tryz.prog.globals[3]?).map (·.type)=some 159 by kernel_rfl).symm.trans z)
 rw [Us] at y
 unfold Lib.TabIs
 rw [o,←Lib.cells_of_tab Tryz.underlying159 Tryz.underlying106 ux uy y]
end Go.Proofs.YtmbofhpmockmbaaGreatDoor
