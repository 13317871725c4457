import Derived.Test.YtpejpbbdgblbeaaGreatDoorMC32
import Derived.Test.YtpejpbbdgblbeaaGreatDoorMC35
import Derived.Test.YtpejpbbdgblbeaaGreatDoorMC7
import Derived.LaidHandle
import Derived.Test.YtpejpbbdgblbeaaGreatDoorMC43
import Derived.Test.YtpejpbbdgblbeaaGreatDoorMC50
import Derived.Test.YtpejpbbdgblbeaaGreatDoorMC13
import Derived.Test.YtpejpbbdgblbeaaGreatDoorMC31
namespace Go.Proofs.YtpejpbbdgblbeaaGreatDoor
open Go.RowKit Go.Shelf
set_option maxHeartbeats 16000000
set_option maxRecDepth 100000
def Vz (w:World):Prop:=ZE w∧ZC w∧xp w
theorem Vz.below {w w':World} (h:Vz w) (hb:Below w.heap.size w w'):Vz w':=by
 refine ⟨h.1.below hb (Nat.le_refl _),h.2.1.env hb,?_⟩
 have:=h.2.2
 unfold xp at this ⊢
 rw [hb.cell (World.block_lt_of_cell? w _ this)];exact this
theorem qi (l want:List UInt8) (y:Ex) (hl:l.length≤4096) (hx:yG 60 l=(y,0,0)) (hok:VY y=true) (hp:prR (prE 24 (Xr y))=(want,0)) (w:World) (hS:Vz w) :
  Calls Tryz.prog 31 #[.string (zb l),.string (zb want)] w fun e w'=>e=.returned (.bool true)∧Below w.heap.size w w':=by
 have cx:=zhw l w hS.1.1 hS.2.1 hS.2.2;have Z:Hid (Vz w):=hS;clear hS
 go_enter Tryz.func31,Tryz.ntmps31
 go_wp2_with fail
 refine cx.mono ?_;clear cx;rintro e o ⟨x,at0,aa,v,rfl,hI,H,O⟩;have V:=zbi 60 hl hI (by rw [hx];simp)
 rw [hx] at V;simp only [Prod.mk.injEq] at V;obtain ⟨rfl,rfl,rfl⟩:=V;obtain ⟨a,b,c,U,R,T,k,rfl⟩:=H.agg;obtain ⟨w2,A⟩:∃w2,w2=o.alloc (.cells #[.int .i64 a,.string b,.int .i64 c,.slice U R T,.int .i64 k] 45):=⟨_,rfl⟩;have D:Below o.heap.size o w2:=by rw [A];exact (Below.refl _ o).alloc (Nat.le_refl _) _
 have I:w2.heap[o.heap.size]?=some (.cells #[.int .i64 a,.string b,.int .i64 c,.slice U R T,.int .i64 k] 45 (0,0)):=by rw [A];exact World.alloc_heap_new o _
 have G:Below w.heap.size w w2:=zp O D;have z:Vz w2:=Z.out.below G;have L:Zy w2.heap.size w2 (Xr y) (.agg #[.int .i64 a,.string b,.int .i64 c,.slice U R T,.int .i64 k]):=(H.kept D.size fun j _ hj=>D.block j hj).ez (fun _ _ h=>h) hok
 have Q:=qu (Xr y) _ w2 L z.1 z.2.1 z.2.2;rw [hp] at Q;have c0:w2.cell? ⟨o.heap.size,0,none⟩=some (.int .i64 a):=by simp only [World.cell?,I];rfl
 have c1:w2.cell? ⟨o.heap.size,1,none⟩=some (.string b):=by simp only [World.cell?,I];rfl
 have c2:w2.cell? ⟨o.heap.size,2,none⟩=some (.int .i64 c):=by simp only [World.cell?,I];rfl
 have c3:w2.cell? ⟨o.heap.size,3,none⟩=some (.slice U R T):=by simp only [World.cell?,I];rfl
 have c4:w2.cell? ⟨o.heap.size,4,none⟩=some (.int .i64 k):=by simp only [World.cell?,I];rfl
 have J:Hid (Below w.heap.size w w2):=G;have Y:=A.symm;simp only at Q;clear hI H O A D I G z L Z hx hok hp;go_wp2_with fail
 refine Q.mono ?_;clear Q c0 c1 c2 c3 c4;rintro e w3 ⟨rfl,N⟩;have W:Hid (Below w.heap.size w w3):=zp J.out N;clear N J;go_wp2
 exact bodyPost_ret (v:=.bool true) (by simp [results,Tryz.results31,go_sem]) rfl ⟨rfl,W.out⟩
theorem zi6 (w:World) (hS:Vz w):Calls Tryz.prog 19 #[.string ⟨#[49,43]⟩] w fun e w'=>∃(a:Int) (b:ByteArray) (c:Int) (o:Option Addr) (y h:Nat) (k:Int),e=.returned (.tuple #[.agg #[.int .i64 a,.string b,.int .i64 c,.slice o y h,.int .i64 k],.int .i64 2,.int .i64 6])∧Below w.heap.size w w' :=
 (zhw zi1 w hS.1.1 hS.2.1 hS.2.2).mono fun e w' ⟨x,at0,err,v,he,hI,hx,hb⟩=>by
  have z:=zbi 60 (by decide) hI (by rw [cxE];simp)
  rw [cxE] at z;simp only [Prod.mk.injEq] at z;obtain ⟨rfl,rfl,rfl⟩:=z;obtain ⟨a,b,c,o,y,h,k,rfl⟩:=hx.agg;exact ⟨a,b,c,o,y,h,k,he,hb⟩
theorem zi7 (w:World) (hS:Vz w):Calls Tryz.prog 8 #[.string ⟨#[102,110,32,102,40,41,123,49,61,50,59,125]⟩] w fun e w'=>∃(A:Option Addr) (h o:Nat) (z:Option Addr) (D y:Nat),e=.returned (.tuple #[.agg #[.slice A h o,.slice z D y],.int .i64 8,.int .i64 6])∧Below w.heap.size w w' :=
 (Q0 txF w hS.1.1 hS.2.1 hS.2.2).mono fun e w' ⟨x,at0,err,v,he,hI,hx,hb⟩=>by
  have G:=zbj 60 (by decide) hI (by rw [cxF];simp)
  rw [cxF] at G;simp only [Prod.mk.injEq] at G;obtain ⟨rfl,rfl,rfl⟩:=G;obtain ⟨A,h,o,z,D,y,rfl⟩:=hx.agg;exact ⟨A,h,o,z,D,y,he,hb⟩
def pgP:Pg:=(VV 60 txP).1
theorem zi8 (w:World) (hS:Vz w):Calls Tryz.prog 8 #[.string ⟨#[114,101,99,111,114,100,32,80,123,120,58,105,110,116,125,10,102,110,32,102,40,97,58,91,105,110,116,93,41,58,105,110,116,123,114,101,116,117,114,110,32,97,91,48,93,59,125]⟩] w fun e w'=>∃(A:Option Addr) (h o:Nat) (z:Option Addr) (D y:Nat),e=.returned (.tuple #[.agg #[.slice A h o,.slice z D y],.int .i64 0,.int .i64 0])∧Yl w.heap.size w' pgP (.agg #[.slice A h o,.slice z D y])∧Below w.heap.size w w' :=
 (Q0 txP w hS.1.1 hS.2.1 hS.2.2).mono fun e w' ⟨x,at0,err,v,he,hI,hx,hb⟩=>by
  have G:=zbj 60 (by decide) hI (by rw [cxP.1];simp)
  rw [cxP.1] at G;simp only [Prod.mk.injEq] at G;obtain ⟨rfl,rfl,rfl⟩:=G;obtain ⟨A,h,o,z,D,y,rfl⟩:=hx.agg;exact ⟨A,h,o,z,D,y,he,hx,hb⟩
theorem vE (w:World) (hS:Vz w) :
  Calls Tryz.prog 13 #[] w fun e w'=>e=.returned (.bool true)∧Below w.heap.size w w':=by
 have H:Hid (Vz w):=hS;have c1:=zi6 w hS;clear hS
 go_enter Tryz.func13,Tryz.ntmps13
 go_wp2_with fail
 refine c1.mono ?_;clear c1;rintro e w1 ⟨a,b,c,d0,d1,d2,k,rfl,ab⟩;obtain ⟨w2,R⟩:∃w2,w2=w1.alloc (.cells #[.int .i64 a,.string b,.int .i64 c,.slice d0 d1 d2,.int .i64 k] 45):=⟨_,rfl⟩;have V:Below w.heap.size w w2:=by rw [R];exact ab.alloc ab.size _
 have ad:Hid (Below w.heap.size w w2):=V;have c2:=zi7 w2 (H.out.below V);have au:=R.symm;clear R ab V;go_wp2_with fail
 refine c2.mono ?_;clear c2;rintro e w3 ⟨s0,s1,s2,e0,e1,e2,rfl,ah⟩;have z:=zp ad.out ah;obtain ⟨w4,Z⟩:∃w4,w4=w3.alloc (.cells #[.slice s0 s1 s2,.slice e0 e1 e2] 25):=⟨_,rfl⟩;have T:Below w.heap.size w w4:=by rw [Z];exact z.alloc z.size _
 have ae:Hid (Below w.heap.size w w4):=T;have c4:=zi8 w4 (H.out.below T);have aw:=Z.symm;clear Z ah z T ad;go_wp2_with fail
 refine c4.mono ?_;clear c4;rintro e w5 ⟨p0,p1,p2,f0,f1,f2,rfl,aj,ag⟩;have Q:=zp ae.out ag;obtain ⟨w6,J⟩:∃w6,w6=w5.alloc (.cells #[.slice p0 p1 p2,.slice f0 f1 f2] 25):=⟨_,rfl⟩;have o:Below w5.heap.size w5 w6:=by rw [J];exact (Below.refl _ w5).alloc (Nat.le_refl _) _
 have q6:w6.heap[w5.heap.size]?=some (pzO p0 p1 p2 f0 f1 f2):=by rw [J];exact World.alloc_heap_new w5 _
 have Y:Below w.heap.size w w6:=zp Q o;have ao:Hid (Below w.heap.size w w6):=Y;have I:=H.out.below Y;have ak:xJ w6.heap.size w6 (xM pgP) (VT pgP) (.agg #[.slice p0 p1 p2,.slice f0 f1 f2]):=xL.pz (xL.kept aj o.size fun j _ hj=>o.block j hj) (fun _ _ h=>h) cxP.2
 have c6:=uj _ _ _ w6 ak I.1 I.2.1 I.2.2;have hp:prR (vd (VT pgP))=(tyP,0):=cpP;rw [hp] at c6;simp only at c6;obtain ⟨y0,y1⟩:=YS q6;have av:=J.symm;clear J aj ag Q o q6 Y I ak hp ae;go_wp2_with fail
 refine c6.mono ?_;clear c6 y0 y1;rintro e w7 ⟨rfl,an⟩;have U:Hid (Below w.heap.size w w7):=zp ao.out an;clear an ao;have c7:Calls Tryz.prog 31 #[.string ⟨#[49,45,40,50,45,51,41]⟩,.string ⟨#[49,32,45,32,40,50,32,45,32,51,41]⟩] w7 fun e w'=>e=.returned (.bool true)∧Below w7.heap.size w7 w':=qi tx1 ty1 _ (by decide) cx1.1 cx1.2 cp1 w7 (H.out.below U.out)
 go_wp2_with fail
 refine c7.mono ?_;clear c7;rintro e w8 ⟨rfl,aq⟩;have aa:Hid (Below w.heap.size w w8):=zp U.out aq;clear aq U;have c8:Calls Tryz.prog 31 #[.string ⟨#[40,49,45,50,41,45,51]⟩,.string ⟨#[49,32,45,32,50,32,45,32,51]⟩] w8 fun e w'=>e=.returned (.bool true)∧Below w8.heap.size w8 w':=qi tx2 ty2 _ (by decide) cx2.1 cx2.2 cp2 w8 (H.out.below aa.out)
 go_wp2_with fail
 refine c8.mono ?_;clear c8;rintro e w9 ⟨rfl,af⟩;have W:Hid (Below w.heap.size w w9):=zp aa.out af;clear af aa;have c9:Calls Tryz.prog 31 #[.string ⟨#[45,97,46,98,91,48,93]⟩,.string ⟨#[45,97,46,98,91,48,93]⟩] w9 fun e w'=>e=.returned (.bool true)∧Below w9.heap.size w9 w':=qi tx3 tx3 _ (by decide) cx3.1 cx3.2 cp3 w9 (H.out.below W.out)
 go_wp2_with fail
 refine c9.mono ?_;clear c9;rintro e D ⟨rfl,L⟩;have A:Hid (Below w.heap.size w D):=zp W.out L;clear L W;have ai:Calls Tryz.prog 31 #[.string ⟨#[40,45,97,41,46,98]⟩,.string ⟨#[40,45,97,41,46,98]⟩] D fun e w'=>e=.returned (.bool true)∧Below D.heap.size D w':=qi tx4 tx4 _ (by decide) cx4.1 cx4.2 cp4 D (H.out.below A.out)
 go_wp2_with fail
 refine ai.mono ?_;clear ai;rintro e G ⟨rfl,O⟩;have y:Hid (Below w.heap.size w G):=zp A.out O;clear O A;have al:Calls Tryz.prog 31 #[.string ⟨#[33,40,120,38,38,121,41]⟩,.string ⟨#[33,40,120,32,38,38,32,121,41]⟩] G fun e w'=>e=.returned (.bool true)∧Below G.heap.size G w':=qi tx5 ty5 _ (by decide) cx5.1 cx5.2 cp5 G (H.out.below y.out)
 go_wp2_with fail
 refine al.mono ?_;clear al;rintro e ar ⟨rfl,N⟩;have am:Hid (Below w.heap.size w ar):=zp y.out N;clear N y H;have ap:zb tyP=⟨#[114,101,99,111,114,100,32,80,32,123,32,120,58,32,105,110,116,32,125,10,102,110,32,102,40,97,58,32,91,105,110,116,93,41,58,32,105,110,116,32,123,10,114,101,116,117,114,110,32,97,91,48,93,59,10,125,10]⟩:=rfl;rw [ap];clear ap;go_wp2
 exact bodyPost_ret (v:=.bool true) (by simp [results,Tryz.results13,go_sem]) rfl ⟨rfl,am.out⟩
end Go.Proofs.YtpejpbbdgblbeaaGreatDoor
namespace Go.Proofs.YtpejpbbdgblbeaaGreatDoor
open Go.ChangeShapes Go.WideShapes Go.RowKit
set_option maxHeartbeats 16000000
set_option maxRecDepth 100000
theorem zcH:∃f0 f1:Field,Tryz.prog.underlying 190=some (.struct #[f0,f1])∧f0.type=9∧f1.type=3∧f0.offset=0∧f1.offset=1:=⟨_,_,Tryz.underlying190,rfl,rfl,rfl,rfl⟩
theorem zcI:Tryz.prog.cellsOf 3=1:=by kernel_rfl
theorem zeo:Tryz.prog.cellsOf 190=2:=by kernel_rfl
theorem zf2 {w:World} {m:Nat} {cs:List Value} {a:List UInt8} {b:Int} {p:List MemPlace}
  (h:DataW.trod (fun _=>()) Tryz.prog w 0 (fun _=>true) false m 190 cs=some (.agg [.lit (.string a),.lit (.int .i64 b)],p)):cs[0]?=some (.string (zb a))∧cs[1]?=some (.int .i64 b):=by
 obtain ⟨H,O,Q,Y,L,J,W⟩:=zcH;obtain ⟨N,n,-,R,-,T,o⟩:=DataW.trod_struct Q h;have y:=DataW.agg.inj (Prod.mk.inj R).1;have z:=o 0 H rfl;have G:=o 1 O rfl;rw [Y,J,V4] at z;rw [L,W,zcI] at G
 match N,T with
 | [x0,x1],_ =>
  simp only [List.map_cons,List.map_nil,List.cons.injEq,and_true] at y;obtain ⟨s,U,Z,-⟩:=DataW.trod_string Tryz.underlying9 z;obtain ⟨z1,I,V,-⟩:=DataW.trod_int Tryz.underlying3 G;rw [Z,V] at y;simp only [DataW.lit.injEq,Lit.int.injEq,Lit.string.injEq,true_and] at y;obtain ⟨rfl,rfl⟩:=y;have D:=congrArg (fun l=>l[0]?) U
  have A:=congrArg (fun l=>l[0]?) I
  simp only [List.getElem?_take,List.getElem?_drop] at D A;rw [zcU];exact ⟨by simpa using D,by simpa using A⟩
theorem zf3:(Rows.laid_hindcast_syntax_levels:DataW Unit)=.agg (levelsL.map fun p=>.agg [.lit (.string p.1),.lit (.int .i64 p.2)]):=rfl
theorem zcJ:∀(j:Nat) (v:Value),Xy[j]?=some v→∃(h:j / 2<levelsL.length),v=if j % 2=0 then .string (zb (levelsL[j / 2]'h).1) else .int .i64 (levelsL[j / 2]'h).2:=by
 intro j v z;have y:j<26:=(List.getElem?_eq_some_iff.1 z).1
 have o:∀j (h:j<26),Xy[j]?=some (if j % 2=0 then .string (zb (levelsL[j / 2]'(by show j / 2<13;omega)).1) else .int .i64 (levelsL[j / 2]'(by show j / 2<13;omega)).2):=by
  intro j h;have A:j=0∨j=1∨j=2∨j=3∨j=4∨j=5∨j=6∨j=7∨j=8∨j=9∨j=10∨j=11∨j=12∨j=13∨j=14∨j=15∨j=16∨j=17∨j=18∨j=19∨j=20∨j=21∨j=22∨j=23∨j=24∨j=25:=by omega
  rcases A with rfl | rfl | rfl | rfl | rfl | rfl | rfl | rfl | rfl | rfl | rfl | rfl | rfl | rfl | rfl | rfl | rfl | rfl | rfl | rfl | rfl | rfl | rfl | rfl | rfl | rfl <;> rfl
 exact ⟨by show j / 2<13;omega,Option.some.inj (z.symm.trans (o j y))⟩
theorem zep {W : World} {laid : List (String × DataW Unit)} (h : laidMet Tryz.prog laid W) (hm : ("hindcast/syntax.levels", Rows.laid_hindcast_syntax_levels) ∈ laid) : ZC W := by
 obtain ⟨Z,V,-⟩:=h;obtain ⟨g, t, Y, fuel, p, L, Q, y, hd⟩ := xt (n := "hindcast/syntax.levels") (d := Rows.laid_hindcast_syntax_levels) V hm;obtain rfl := Option.some.inj ((show Tryz.prog.globalNamed "hindcast/syntax.levels" = some 1 by kernel_rfl).symm.trans L)
 obtain rfl:=Option.some.inj ((show (Tryz.prog.globals[1]?).map (·.type)=some 191 by kernel_rfl).symm.trans Q)
 rw [zf3] at hd;obtain ⟨I,m,-,R,-,hl,H⟩:=DataW.trod_array Tryz.underlying191 hd;have T:=DataW.agg.inj (Prod.mk.inj R).1;intro j v U;obtain ⟨o,rfl⟩:=zcJ j v U;have N:j / 2<13:=o;have G:=H (j / 2) (by omega)
 rw [zeo] at G;have z:j / 2<I.length:=by omega
 rw [List.getElem?_eq_getElem z] at G;have J:(levelsL.map fun p=>(DataW.agg [.lit (.string p.1),.lit (.int .i64 p.2)]:DataW Unit))[j / 2]?=(I.map (·.1))[j / 2]?:=by rw [T]
 rw [List.getElem?_map,List.getElem?_map,List.getElem?_eq_getElem o,List.getElem?_eq_getElem z] at J;simp only [Option.map_some,Option.some.injEq] at J;obtain ⟨D,A⟩:=zf2 (a:=(levelsL[j / 2]'o).1) (b:=(levelsL[j / 2]'o).2) (p:=(I[j / 2]).2) (G.trans (by rw [J]))
 simp only [List.getElem?_take,List.getElem?_drop] at D A;show W.cell? ⟨_,0+j,none⟩=_
 rw [Nat.zero_add,World.var?_cell L y j];rcases Nat.mod_two_eq_zero_or_one j with O | O
 ·rw [if_pos O]
  rw [if_pos (by omega)] at D
  rw [show j / 2*2+0=j by omega] at D
  simpa using D
 ·rw [if_neg (by omega)]
  rw [if_pos (by omega)] at A
  rw [show j / 2*2+1=j by omega] at A
  simpa using A
def zbv : List (String × DataW Unit) := [("math/bits.deBruijn32tab", Rows.laid_math_bits_deBruijn32tab), ("math/bits.deBruijn64tab", Rows.laid_math_bits_deBruijn64tab), ("internal/strconv.uint64pow10", Rows.laid_internal_strconv_uint64pow10), ("errors.errorType", Rows.laid_errors_errorType), ("strconv.ErrRange", Rows.laid_strconv_ErrRange), ("strconv.ErrSyntax", Rows.laid_strconv_ErrSyntax), ("hindcast/lex.words", Rows.laid_hindcast_lex_words), ("hindcast/lex.signs", Rows.laid_hindcast_lex_signs), ("hindcast/lex.escapes", Rows.laid_hindcast_lex_escapes), ("hindcast/syntax.levels", Rows.laid_hindcast_syntax_levels)]
def v6:List (String × DataW Unit):=zbv.filter fun x=>x.2.handleName?.isNone
theorem zbw : v6 = [("math/bits.deBruijn32tab", Rows.laid_math_bits_deBruijn32tab), ("math/bits.deBruijn64tab", Rows.laid_math_bits_deBruijn64tab), ("internal/strconv.uint64pow10", Rows.laid_internal_strconv_uint64pow10), ("strconv.ErrRange", Rows.laid_strconv_ErrRange), ("strconv.ErrSyntax", Rows.laid_strconv_ErrSyntax), ("hindcast/lex.words", Rows.laid_hindcast_lex_words), ("hindcast/lex.signs", Rows.laid_hindcast_lex_signs), ("hindcast/lex.escapes", Rows.laid_hindcast_lex_escapes), ("hindcast/syntax.levels", Rows.laid_hindcast_syntax_levels)] := rfl
theorem zi9 : Tryz.prog.globalNamed "errors.errorType" = some 0 := by kernel_rfl
theorem zja : (Tryz.prog.cutTypes.find? (·.1 == "internal/reflectlite.rtype")).map (·.2) = some 196 := by kernel_rfl
theorem ziv:((List.range Tryz.prog.types.size).filter fun t=>Tryz.prog.rowNamed t [101,114,114,111,114])=[142]:=by kernel_rfl
theorem zeq {W:World} (h:laidMetH Tryz.prog zbv W):Vz W:=by
 have o:laidMet Tryz.prog v6 W∧handlesMet Tryz.prog (zbv.filter fun x=>x.2.handleName?.isSome) W:=h
 have A:ZC W:=zep o.1 (by rw [zbw];simp)
 refine ⟨zbO o.1 (by rw [zbw];unfold laidX;simp),A,?_⟩
 obtain ⟨name, u, ty, L, D, G, I, y⟩ := o.2 ("errors.errorType", Rows.laid_errors_errorType) (by simp only [zbv]; exact List.mem_filter.2 ⟨by simp, rfl⟩)
 have J:name=[101,114,114,111,114]:=(Option.some.inj L).symm;subst J;obtain rfl:=Option.some.inj (zja.symm.trans D);have z:ty∈(List.range Tryz.prog.types.size).filter fun t=>Tryz.prog.rowNamed t [101,114,114,111,114]:=List.mem_filter.2 ⟨List.mem_range.2 G,I⟩
 rw [ziv] at z;obtain rfl:=List.mem_singleton.1 z;have H:typeHandle Tryz.prog 142=.pointer (some ⟨11,142,none⟩):=by kernel_rfl
 rw [H] at y
 unfold xp
 simpa using World.var?_cell zi9 y 0
noncomputable def zhE (os:Os):World :=
 let w0:=World.holding Tryz.prog os ⟨#[],#[],[]⟩
 { w0 with heap:=w0.heap.modify 0 fun
   | .cells _ t frozen=>.cells #[.iface 196 (.agg #[.pointer (some ⟨11,142,none⟩)])] t frozen
   | o=>o }
noncomputable def zhj (os:Os):World:=(zhE os).layVars Tryz.prog v6
theorem zhk (os:Os):(zhj os).os=os:=World.layVars_os _ _ _
theorem zf4 (os:Os) (args:Array Value):laidMetH Tryz.prog zbv ((zhj os).forCall (fun _ _=>0) ⟨#[],args,[]⟩).memory:=by
 refine laidMetH_of_parts ?_ (by kernel_rfl)
 have o:(v6.filter fun x=>(v6.map (·.1)).contains x.1)=v6:=List.filter_eq_self.2 fun x hx=>List.contains_iff_mem.2 (List.mem_map.2 ⟨x,hx,rfl⟩)
 have y:(v6.filter fun x=>!(v6.map (·.1)).contains x.1)=[]:=List.filter_eq_nil_iff.2 fun x hx=>by rw [List.contains_iff_mem.2 (List.mem_map.2 ⟨x,hx,rfl⟩)];simp
 have h:laidMet Tryz.prog v6 (zhj os):=laidMet_layVars (w0:=zhE os) (v6.map (·.1)) [] (by rw [o];rfl) (by rw [o];kernel_rfl) (by rw [o];kernel_rfl) (by rw [y];exact LaidIn.none)
 exact h.of_heap (by simp [World.memory,World.forCall,Input.heap])
end Go.Proofs.YtpejpbbdgblbeaaGreatDoor
namespace Go.Proofs.YtpejpbbdgblbeaaGreatDoor
open Go.RowKit Go.Shelf
set_option maxHeartbeats 16000000
set_option maxRecDepth 100000
theorem zbx {l:List UInt8} {x:Pg} {a e:Nat} (h:Z2 l x a e) (he:e≠0):x=YA:=by
 unfold Z2 at h
 split at h
 ·exact h.1
 ·obtain ⟨f,r,-,h⟩:=h
  split at h
  ·exact h.1
  ·split at h
   ·exact h.1
   ·exact absurd h.2.2 he
theorem Qt {β:Type} {P:β→List Value→Prop} {sz B:Nat} {w:World}:Zr P sz B w [] none 0 0:=⟨rfl,Nat.le_refl _,Nat.zero_le _,fun i x hx=>by simp at hx⟩
theorem zhl (f B:Nat) (w:World):xJ B w f (VT YA) (.agg #[.slice none 0 0,.slice none 0 0]):=⟨none,0,0,none,0,0,rfl,Qt,Qt⟩
theorem zhm:SmP (VT YA) (VT YA):=zfW (fun _=>0) rfl
theorem zer (l:List UInt8) (w:World) (hS:Vz w) :
  Calls Tryz.prog 6 #[.string (zb l)] w fun e w'=>e=.returned (.bool true)∧Below w.heap.size w w':=by
 have c1:=Q0 l w hS.1.1 hS.2.1 hS.2.2;have HS:Hid (∀W,Below w.heap.size w W→Vz W):=fun W hW=>hS.below hW
 clear hS
 go_enter Tryz.func6,Tryz.ntmps6
 go_wp2_with fail
 refine c1.mono ?_;clear c1;rintro e w1 ⟨x,at0,ad,v,rfl,hI,hx,ai⟩;obtain ⟨s0,s1,s2,d0,d1,d2,rfl⟩:=xL.agg hx;obtain ⟨au,-,-⟩:=xi hI;obtain ⟨A,hA⟩:∃A,A=w1.heap.size:=⟨_,rfl⟩;obtain ⟨w2,O⟩:∃w2,w2=w1.alloc (.cells #[.slice s0 s1 s2,.slice d0 d1 d2] 25):=⟨_,rfl⟩;have am:Below w.heap.size w w2:=by rw [O];exact ai.alloc ai.size _
 have pA:w2.heap[A]?=some (.cells #[.slice s0 s1 s2,.slice d0 d1 d2] 25 (0,0)):=by rw [O,hA];exact World.alloc_heap_new _ _
 have aw:Yl w.heap.size w2 x (.agg #[.slice s0 s1 s2,.slice d0 d1 d2]):=by rw [O];exact Yl.kept hx (by simp) fun i _ hi=>Below.heap_alloc _ _ _ hi
 have aq:xJ w2.heap.size w2 (xM x) (VT x) (.agg #[.slice s0 s1 s2,.slice d0 d1 d2]):=xL.pz aw (fun i _ hi=>hi) au
 have o:Hid (Below w.heap.size w w2):=am;have ar:Hid (w2.heap[A]?=some (.cells #[.slice s0 s1 s2,.slice d0 d1 d2] 25 (0,0))):=pA;have HI:Hid (Z2 l x at0 ad):=hI;have HZ:Hid (xJ w2.heap.size w2 (xM x) (VT x) (.agg #[.slice s0 s1 s2,.slice d0 d1 d2])):=aq;obtain ⟨m0,m1,-⟩:=ZA pA;have Q:=O.symm;have ag:=hA.symm;clear am pA aw O hA hx ai hI au aq
 by_cases hz:ad=0
 case neg =>
  obtain rfl:=zbx HI.out hz;have CS:Hid (Calls Tryz.prog 10 #[.agg #[.slice s0 s1 s2,.slice d0 d1 d2],.agg #[.slice none 0 0,.slice none 0 0]] w2 fun e w'=>e=.returned (.bool true)∧Below w2.heap.size w2 w'):=XP (xM YA) _ _ _ _ w2 HZ.out (zhl _ _ _) zhm
  have r0:((ad:Int)==0)=false:=by rw [beq_eq_false_iff_ne];omega
  have v0:((ad:Int) != 0)=true:=by simp [bne,r0]
  have V:Hid (∀W,Below w2.heap.size w2 W→Calls Tryz.prog 13 #[] W fun e w'=>e=.returned (.bool true)∧Below W.heap.size W w'):=fun W hW=>vE W (HS.out W (zp o.out hW))
  clear hz r0;go_wp2_with fail
  refine CS.out.mono ?_;clear CS m0 m1 Q ag;rintro e w3 ⟨rfl,h⟩;have Z:Hid (Below w2.heap.size w2 w3):=h;have cl:=V.out _ h;clear h V;go_wp2_with fail
  refine cl.mono ?_;rintro e w4 ⟨rfl,y⟩;have U:=zp o.out (zp Z.out y);clear cl y;go_wp2
  exact bodyPost_ret (v:=.bool true) (by simp [results,Tryz.results6,go_sem]) rfl ⟨rfl,U⟩
 case pos =>
  subst hz;obtain ⟨t,ht⟩:=zen HI.out;have hT:=HS.out w2 o.out;have z:=uj (xM x) (VT x) _ w2 HZ.out hT.1 hT.2.1 hT.2.2;rw [ht] at z
  unfold prR at z
  simp only at z
  by_cases hbig:4096<t.length
  ·rw [if_pos hbig] at z
   have hE:zb []=⟨#[]⟩:=rfl;have V:Hid (∀W,Below w2.heap.size w2 W→Calls Tryz.prog 13 #[] W fun e w'=>e=.returned (.bool true)∧Below W.heap.size W w'):=fun W hW=>vE W (HS.out W (zp o.out hW))
   clear hT hbig;go_wp2_with fail
   refine z.mono ?_;clear z m0 m1 Q ag;rintro e w3 ⟨rfl,h⟩;have Z:Hid (Below w2.heap.size w2 w3):=h;have cl:=V.out _ h;clear h V;go_wp2_with fail
   refine cl.mono ?_;rintro e w4 ⟨rfl,y⟩;have U:=zp o.out (zp Z.out y);clear cl y;go_wp2
   exact bodyPost_ret (v:=.bool true) (by simp [results,Tryz.results6,go_sem]) rfl ⟨rfl,U⟩
  ·rw [if_neg hbig] at z
   clear hT;go_wp2_with fail
   refine z.mono ?_;clear z m0 m1 Q ag;rintro e w3 ⟨rfl,h⟩;have ab:=HS.out w3 (zp o.out h);have c3:=Q0 t w3 ab.1.1 ab.2.1 ab.2.2;have Z:Hid (Below w2.heap.size w2 w3):=h;have HT:Hid (vd (VT x)=some t∧t.length≤4096):=⟨ht,by omega⟩
   clear h ab ht hbig;go_wp2_with fail
   refine c3.mono ?_;clear c3;rintro e w4 ⟨x',aC,aB,v',rfl,ah,aj,y⟩;obtain ⟨rfl,af,ay⟩:=zbu HI.out HT.out.1 HT.out.2 ah;obtain ⟨ae,-,-⟩:=xi ah;obtain ⟨J,L,H,I,D,G,rfl⟩:=xL.agg aj;obtain ⟨B,hB⟩:∃B,B=w4.heap.size:=⟨_,rfl⟩;obtain ⟨w5,Y⟩:∃w5,w5=w4.alloc (.cells #[.slice J L H,.slice I D G] 25):=⟨_,rfl⟩;have an:Below w3.heap.size w3 w5:=by rw [Y];exact y.alloc y.size _
   have pB:w5.heap[B]?=some (.cells #[.slice J L H,.slice I D G] 25 (0,0)):=by rw [Y,hB];exact World.alloc_heap_new _ _
   have ao:Yl w3.heap.size w5 x' (.agg #[.slice J L H,.slice I D G]):=by rw [Y];exact Yl.kept aj (by simp) fun i _ hi=>Below.heap_alloc _ _ _ hi
   have N:xJ w5.heap.size w5 (xM x') (VT x') (.agg #[.slice J L H,.slice I D G]):=xL.pz ao (fun i _ hi=>hi) ae
   have T:Below w2.heap.size w2 w5:=zp Z.out an;have hT:=HS.out w5 (zp o.out T);have z:=uj (xM x') (VT x') _ w5 N hT.1 hT.2.1 hT.2.2;rw [←zhi af,HT.out.1] at z
   unfold prR at z
   simp only at z;rw [if_neg (by have:=HT.out.2;omega)] at z
   have aa:Hid (Below w2.heap.size w2 w5):=T;have ak:Hid (w5.heap[B]?=some (.cells #[.slice J L H,.slice I D G] 25 (0,0))):=pB;rw [ay] at N
   have CS:Hid (∀W,Below w5.heap.size w5 W→Calls Tryz.prog 10 #[.agg #[.slice s0 s1 s2,.slice d0 d1 d2],.agg #[.slice J L H,.slice I D G]] W fun e w'=>e=.returned (.bool true)∧Below W.heap.size W w'):=fun W hW=>by
    have h1:xJ W.heap.size W (xM x) (VT x) (.agg #[.slice s0 s1 s2,.slice d0 d1 d2]):=xJ.wide (zp aa.out hW).size (xJ.kept (zp aa.out hW) HZ.out);have h2:xJ W.heap.size W (xM x) (VT x') (.agg #[.slice J L H,.slice I D G]):=xJ.wide hW.size (xJ.kept hW N);exact XP (xM x) _ _ _ _ W h1 h2 af
   obtain ⟨n0,n1,-⟩:=ZA pB;have ax:=Y.symm;have az:=hB.symm;clear an pB ao Y hB aj y ah ae N af T hT ay;go_wp2_with fail
   refine z.mono ?_;clear z n0 n1 ax az;rintro e w6 ⟨rfl,R⟩;have aA:Hid (Below w5.heap.size w5 w6):=R;obtain ⟨a0,a1,-⟩:=ZA (((zp aa.out R).block _ (Array.getElem?_eq_some_iff.1 ar.out).1).trans ar.out);obtain ⟨b0,b1,-⟩:=ZA ((R.block _ (Array.getElem?_eq_some_iff.1 ak.out).1).trans ak.out);have cs:=CS.out _ R;clear R CS;go_wp2_with fail
   refine cs.mono ?_;clear cs;rintro e w7 ⟨rfl,ap⟩;have al:Hid (Below w2.heap.size w2 w7):=zp aa.out (zp aA.out ap);have cl:=vE w7 (HS.out w7 (zp o.out al.out));clear ap;go_wp2_with fail
   refine cl.mono ?_;rintro e w8 ⟨rfl,av⟩;have U:=zp o.out (zp al.out av);clear cl av;go_wp2
   exact bodyPost_ret (v:=.bool true) (by simp [results,Tryz.results6,go_sem]) rfl ⟨rfl,U⟩
end Go.Proofs.YtpejpbbdgblbeaaGreatDoor
