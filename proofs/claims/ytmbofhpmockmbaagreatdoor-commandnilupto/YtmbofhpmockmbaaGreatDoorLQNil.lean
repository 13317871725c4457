import Derived.Test.YtmbofhpmockmbaaGreatDoorMC4
import Derived.Test.YtmbofhpmockmbaaGreatDoorQLives
namespace Go.Proofs.YtmbofhpmockmbaaGreatDoor
open Go.RowKit Go.Shelf
set_option maxHeartbeats 16000000
set_option maxRecDepth 100000
theorem vS (w:World):Calls Tryz.prog 22 #[.pointer none] w fun e w'=>e=.returned (.int .i64 1)∧w=w':=by
 go_enter Tryz.func22,Tryz.ntmps22
 go_wp2
 go_ret
 exact ⟨rfl,rfl⟩
theorem Uz (w:World):Calls Tryz.prog 23 #[.pointer none] w fun e w'=>e=.returned (.int .i64 0)∧w=w':=by
 go_enter Tryz.func23,Tryz.ntmps23
 go_wp2_with (first | (go_at_call 22;refine (vS _).mono ?_;rintro e w' ⟨rfl,rfl⟩) | go_in)
 go_ret
 exact ⟨rfl,rfl⟩
theorem Ug (most:Int) (w:World):Calls Tryz.prog 42 #[.pointer none,.int .i64 most] w fun e w'=>e=.returned (.string ⟨#[]⟩)∧Below w.heap.size w w':=by
 have y:Below w.heap.size w (w.alloc (.cells #[.int .i64 most] 3 (0,0))):=(Below.refl _ _).alloc (Nat.le_refl _) _;have o:=VW
 go_enter Tryz.func42,Tryz.ntmps42
 go_wp2_with (first | (go_at_call 22;refine (vS _).mono ?_;rintro e w' ⟨rfl,rfl⟩) | go_in)
 go_ret
 exact ⟨rfl,y⟩
theorem UA (w:World):Calls Tryz.prog 17 #[.pointer none] w fun e w'=>e=.returned (ZJ 0 0 [])∧Below w.heap.size w w':=by
 obtain ⟨J,z,H,Q,S⟩:=yd w (.cells #[.int .i64 0,.int .i64 0,.string ⟨#[]⟩] 24 (0,0));have M:=Uz J;have R:=Ug 255 J;have L:Hid (J.heap[w.heap.size]?=some (.cells #[.int .i64 0,.int .i64 0,.string ⟨#[]⟩] 24 (0,0))∧Below w.heap.size w J):=⟨S,H⟩;have E:=z.symm;clear z H Q S
 go_enter Tryz.func17,Tryz.ntmps17
 go_wp2_with fail
 refine M.mono ?_;clear E;rintro e I ⟨rfl,rfl⟩;go_wp2_with fail
 refine M.mono ?_;clear M;rintro e I ⟨rfl,rfl⟩;go_wp2_with fail
 refine R.mono ?_;clear R;rintro e I ⟨rfl,y⟩;obtain ⟨G,D,o,O,X⟩:=yd I (.cells #[.int .i64 0,.int .i64 0,.string ⟨#[]⟩] 24 (0,0));have N:G.heap[w.heap.size]?=some (.cells #[.int .i64 0,.int .i64 0,.string ⟨#[]⟩] 24 (0,0)):=((ZC y o).block _ (yj L.out.1)).trans L.out.1;have K:Hid (Below w.heap.size w G):=ZC L.out.2 (ZC y o);have ce:=vS G;obtain ⟨e0,Z,Y,ef⟩:=zl N;obtain ⟨V,U,T,-⟩:=zl (Zt N (.int .i64 0) (.int .i64 0) (.string ⟨#[]⟩));have W:Hid (Below w.heap.size w (Zs G w.heap.size (.int .i64 0) (.int .i64 0) (.string ⟨#[]⟩))):=ZL K.out (Nat.le_refl _) _ _ _
 unfold Zs at V U T
 have A:Hid (G=I.alloc (.cells #[.int .i64 0,.int .i64 0,.string ⟨#[]⟩] 24 (0,0))):=D;clear y D o O X N
 go_upto_if 13 with (go_at_call 22;refine (vS _).mono ?_;rintro e w' ⟨rfl,rfl⟩)
 rw [←A.out];clear A;go_wp2
 exact bodyPost_ret (v:=.agg #[.int .i64 0,.int .i64 0,.string ⟨#[]⟩]) (by simp [results,Tryz.results17,go_sem,V,U,T]) rfl ⟨rfl,W.out⟩
theorem uk {k:Int} (h0:-9223372036854775808≤k) (h1:k≤9223372036854775807):0<(Zg k).length:=by
 rcases Nat.eq_zero_or_pos (Zg k).length with h | h
 ·have y:=List.length_eq_zero_iff.1 h
  have:=V3 h0 h1 []
  rw [y] at this;have o:(zS ([]++[])).2.2=3:=rfl;rw [this] at o;cases o
 ·exact h
theorem uN:gI [128,0] 0 0=(0,0,4):=by unfold gI;rw [Yy (e:=4) (by rfl) (by decide)];rfl
theorem uO:xP [128,0] 0 4=((0,0,[]),0,4):=rfl
theorem ul (k n:Int) (s:List UInt8) (hk:-9223372036854775808≤k∧k≤9223372036854775807) (hn:-9223372036854775808≤n∧n≤9223372036854775807) (hs:s.length≤1048576) (w:World) (hQ:QT w) :
  Calls Tryz.prog 8 #[ZJ k n s] w fun e w'=>e=.returned (.bool true)∧Below w.heap.size w w':=by
 have HQ:Hid (QT w):=hQ;obtain ⟨w1,L,T,ae,p1,p2⟩:=vB w (.cells #[.int .i64 k,.int .i64 n,.string (za s)] 24 (0,0)) (.cells #[.int .u8 128,.int .u8 0] 5 (0,0))
 have cn:=Y6 (.slice (some ⟨w.heap.size+1,0,none⟩) 2 2) [128,0] w1 (Ye rfl (by unfold maxLen;decide) (fun j u hj=>by
  have an:j<2:=by
   have:=(List.getElem?_eq_some_iff.1 hj).1
   simpa [Lib.byteCells] using this
  have E:j=0∨j=1:=by omega
  rcases E with rfl | rfl
  ·simp only [World.cell?,p2];exact hj
  ·simp only [World.cell?,p2];exact hj)) (by decide)
 have Y:Hid (w1.heap[w.heap.size]?=some (.cells #[.int .i64 k,.int .i64 n,.string (za s)] 24 (0,0))∧Below w.heap.size w w1):=⟨p1,T⟩;have y:Hid ((-9223372036854775808≤k∧k≤9223372036854775807)∧(-9223372036854775808≤n∧n≤9223372036854775807)∧s.length≤1048576):=⟨hk,hn,hs⟩;have O:=L.symm
 unfold ZJ
 clear hQ L T ae p1 p2 hk hn hs
 go_enter Tryz.func8,Tryz.ntmps8
 go_wp2_with fail
 refine cn.mono ?_;clear cn O;rintro e w2 ⟨p,base,ab,rfl,V,ag,Q,M,I⟩;have ci:=xN V
 have aj:Hid (w2.heap[w.heap.size]?=some (.cells #[.int .i64 k,.int .i64 n,.string (za s)] 24 (0,0))∧Below w.heap.size w w2∧w.heap.size<p∧p<w2.heap.size∧∀a,base=some a→a.block<w2.heap.size) :=
  ⟨(I.block _ (yj Y.out.1)).trans Y.out.1,ZC Y.out.2 I,by have:=yj Y.out.1;omega,Q,fun a ha=>(M a ha).2⟩
 clear V ag Q M I;go_wp2_with fail
 refine ci.mono ?_;clear ci;rintro e S ⟨rfl,A,z⟩;have e3:stepR 0 0 0 (zS (([128,0]:List UInt8).drop 0))=(0,0,4):=uN;rw [e3] at A ⊢;simp only at A ⊢;have E:=aj.out
 have af:Hid (S.heap[w.heap.size]?=some (.cells #[.int .i64 k,.int .i64 n,.string (za s)] 24 (0,0))∧Below w.heap.size w S∧w.heap.size<p∧∀a,base=some a→a.block<S.heap.size) :=
  ⟨yC z E.1 (by omega),E.2.1.grown z E.2.1.size (fun k hk=>by cases hk;omega),E.2.2.1,fun a ha=>by have:=E.2.2.2.2 a ha;have:=z.size;omega⟩
 have ad:Hid (zf S p base ab [128,0] 0 4):=A;have c0:=UA S
 unfold ZJ at c0
 clear A z e3 E;go_wp2_with fail
 refine c0.mono ?_;clear c0;rintro e w4 ⟨rfl,o⟩;have J:=af.out;have W:=ad.out.below o (Nat.le_refl _)
 have ah:Hid (w4.heap[w.heap.size]?=some (.cells #[.int .i64 k,.int .i64 n,.string (za s)] 24 (0,0))∧Below w.heap.size w w4∧w.heap.size<p) :=
  ⟨(o.block _ (yj J.1)).trans J.1,ZC J.2.1 o,J.2.2.1⟩
 have X:=V5 W (fun a ha=>by have:=J.2.2.2 a ha;have:=o.size;omega)
 rw [uO] at X
 unfold ZJ at X
 simp only at X;clear o J W;go_wp2_with fail
 refine X.mono ?_;clear X;rintro e w5 ⟨rfl,H,G⟩;have Z:=ah.out
 have N:Hid (w5.heap[w.heap.size]?=some (.cells #[.int .i64 k,.int .i64 n,.string (za s)] 24 (0,0))∧Below w.heap.size w w5) :=
  ⟨yC G Z.1 (by omega),Z.2.1.grown G Z.2.1.size (fun k hk=>by cases hk;omega)⟩
 have ce:=Z4 H;have ca:=u3 H;clear H G Z;go_wp2_with fail
 refine ce.mono ?_;clear ce;rintro e w6 ⟨rfl,rfl⟩;go_wp2_with fail
 refine ca.mono ?_;clear ca;rintro e w6 ⟨rfl,rfl⟩;obtain ⟨q0,q1,q2,-⟩:=zl N.out.1;have cp:=V6 (.slice none 0 0) [] k n s y.out.1 y.out.2.1 w5 (Yb _) (by have:=y.out.2.2;simp;omega)
 unfold ZJ at cp
 go_wp2_with fail
 refine cp.mono ?_;clear cp q0 q1 q2;rintro e w6 ⟨v6,rfl,D,K⟩;have U:Hid (Below w.heap.size w w6):=ZC N.out.2 K
 have al:0<([]++xQ k n s).length:=by
  have:=uk y.out.1.1 y.out.1.2
  rw [List.nil_append];unfold xQ;simp only [List.length_append];omega
 obtain ⟨ai,am,aa,-,-,-,-⟩:=Yq D;have ao:(0:Int)<(([]++xQ k n s).length:Int):=by omega
 have cl:=XO w6 (HQ.out.below U.out);subst aa;clear D K;go_wp2_with fail
 refine cl.mono ?_;clear cl;rintro e w7 ⟨rfl,R⟩;have ak:Hid (Below w.heap.size w w7):=ZC U.out R;clear R;go_wp2
 go_ret
 exact ⟨rfl,ak.out⟩
end Go.Proofs.YtmbofhpmockmbaaGreatDoor
