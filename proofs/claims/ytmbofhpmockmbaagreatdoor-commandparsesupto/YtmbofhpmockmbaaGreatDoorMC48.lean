import Derived.Test.YtmbofhpmockmbaaGreatDoorMC23
import Derived.Test.YtmbofhpmockmbaaGreatDoorMC1
import Derived.Test.YtmbofhpmockmbaaGreatDoorMC32
import Derived.Test.YtmbofhpmockmbaaGreatDoorMC47
import Derived.Test.YtmbofhpmockmbaaGreatDoorMC39
namespace Go.Proofs.YtmbofhpmockmbaaGreatDoor
open Go.RowKit Go.Shelf
set_option maxHeartbeats 16000000
set_option maxRecDepth 100000
def wrP (X:List UInt8→Prop) (s:List UInt8):Prop:=s.length≤255∧X s
def yH (X:List UInt8→Prop) (k n:Int) (s:List UInt8):Prop :=
 YW k n s∧0≤n∧n≤4294967296∧(k=10→1≤n∧(s=[]∨wrP X s))∧(k=11∨k=17→wrP X s)∧(12≤k∧k≤14→1≤n)
theorem vz (X:List UInt8→Prop) (k n:Int) (s:List UInt8):Zt X k n s↔yH X k n s:=by
 by_cases hk:k<1∨17<k
 ·refine ⟨fun h=>absurd (y6 k hk) h.1,fun h=>?_⟩
  have:=h.1
  unfold YW at this
  exfalso
  rcases this with ⟨y,-⟩ | ⟨y,-⟩ | ⟨y,-⟩ | y <;> omega
 ·have o:∀k:Int,(ofKind k).2.2.1=false→(ofKind k).2.2.2.2.1=false→ofKind k≠y5→(1≤k∧k≤8∨k=15∨k=16)→(Zt X k n s↔yH X k n s):=by
   intro k a b c d
   unfold Zt yH YW
   rw [a,b];refine ⟨fun h=>⟨.inl ⟨d,h.2.1 rfl,h.2.2.1 rfl⟩,by rw [h.2.1 rfl];omega,by rw [h.2.1 rfl];omega,fun e=>by omega,fun e=>by omega,fun e=>by omega⟩,fun h=>?_⟩
   have A:n=0∧s=[]:=by
    rcases h.1 with y | ⟨y,-⟩ | ⟨y,-⟩ | y
    ·exact y.2
    ·omega
    ·omega
    ·omega
   exact ⟨c,fun _=>A.1,fun _=>A.2,fun e=>(by cases e),fun e=>(by cases e)⟩
  have D:∀k:Int,(ofKind k).2.2.1=true→(ofKind k).2.2.2.2.1=false→ofKind k≠y5→(k=9∧(ofKind k).2.2.2.1=0∨12≤k∧k≤14∧(ofKind k).2.2.2.1=1)→(Zt X k n s↔yH X k n s):=by
   intro k a b c d
   unfold Zt yH YW
   rw [a,b];refine ⟨fun h=>?_,fun h=>?_⟩
   ·have A:=h.2.2.2.1 rfl
    exact ⟨.inr (.inl ⟨by omega,h.2.2.1 rfl⟩),by omega,by omega,fun e=>by omega,fun e=>by omega,fun e=>by omega⟩
   ·have A:s=[]:=by
     rcases h.1 with ⟨y,-⟩ | y | ⟨y,-⟩ | y
     ·omega
     ·exact y.2
     ·omega
     ·omega
    have z:=h.2.2.2.2.2;have I:=h.2.1;have H:=h.2.2.1;exact ⟨c,fun e=>(by cases e),fun _=>A,fun _=>⟨by omega,H⟩,fun e=>(by cases e)⟩
  have E:∀k:Int,(ofKind k).2.2.1=false→(ofKind k).2.2.2.2.1=true→(ofKind k).2.2.2.2.2=[]→ofKind k≠y5→(k=11∨k=17)→(Zt X k n s↔yH X k n s):=by
   intro k a b m c d
   unfold Zt yH YW wrP
   rw [a,b,m];refine ⟨fun h=>?_,fun h=>?_⟩
   ·have A:=h.2.1 rfl
    have z:s.length≤255∧X s:=by
     rcases h.2.2.2.2 rfl with z | z
     ·exact absurd rfl z.2
     ·exact z
    exact ⟨.inr (.inr (.inl ⟨d,A⟩)),by omega,by omega,fun e=>by omega,fun _=>z,fun e=>by omega⟩
   ·have A:n=0:=by
     rcases h.1 with y | ⟨y,-⟩ | y | y
     ·exact y.2.1
     ·omega
     ·exact y.2
     ·omega
    exact ⟨c,fun _=>A,fun e=>(by cases e),fun e=>(by cases e),fun _=>.inr (h.2.2.2.2.1 d)⟩
  have G:Zt X 10 n s↔yH X 10 n s:=by
   unfold Zt yH YW wrP
   rw [k10];refine ⟨fun h=>?_,fun h=>?_⟩
   ·have A:=h.2.2.2.1 rfl
    refine ⟨.inr (.inr (.inr rfl)),by simp only at A;omega,A.2,fun _=>⟨A.1,?_⟩,fun e=>by omega,fun e=>by omega⟩
    rcases h.2.2.2.2 rfl with z | z
    ·exact .inl z.1
    ·exact .inr z
   ·obtain ⟨A,z⟩:=h.2.2.2.1 rfl
    refine ⟨by decide,fun e=>(by cases e),fun e=>(by cases e),fun _=>⟨A,h.2.2.1⟩,fun _=>?_⟩
    rcases z with z | z
    ·exact .inl ⟨z,by decide⟩
    ·exact .inr z
  exact YR (P:=fun k=>(Zt X k n s↔yH X k n s))
   (o 1 (by decide) (by decide) (by decide) (by omega)) (o 2 (by decide) (by decide) (by decide) (by omega)) (o 3 (by decide) (by decide) (by decide) (by omega)) (o 4 (by decide) (by decide) (by decide) (by omega))
   (o 5 (by decide) (by decide) (by decide) (by omega)) (o 6 (by decide) (by decide) (by decide) (by omega)) (o 7 (by decide) (by decide) (by decide) (by omega)) (o 8 (by decide) (by decide) (by decide) (by omega))
   (D 9 (by decide) (by decide) (by decide) (by decide)) G (E 11 (by decide) (by decide) (by decide) (by decide) (by decide)) (D 12 (by decide) (by decide) (by decide) (by decide)) (D 13 (by decide) (by decide) (by decide) (by decide))
   (D 14 (by decide) (by decide) (by decide) (by decide)) (o 15 (by decide) (by decide) (by decide) (by omega)) (o 16 (by decide) (by decide) (by decide) (by omega)) (E 17 (by decide) (by decide) (by decide) (by decide) (by decide)) k (by omega) (by omega)
theorem V6 (s:List UInt8) (w:World) :
  Calls Tryz.prog 55 #[.string (za s)] w fun e w'=>Ux e (wrP Zy s)∧Below w.heap.size w w':=by
 have D:=uY s w;have O:(za s).size=s.length:=rfl
 go_enter Tryz.func55,Tryz.ntmps55
 go_wp2_with fail
 refine D.mono ?_;clear D;rintro e I ⟨x,at0,y,v,rfl,E,-,G,z⟩;obtain ⟨N,R,L,T,M,Q,U,rfl⟩:=G.agg;have o:Hid (Below w.heap.size w I):=z;have H:Hid (Zy s↔y=0):=VL E;clear E G z
 by_cases h0:y=0
 ·subst h0
  by_cases h1:s.length≤255
  ·have J:(s.length:Int)≤255:=by omega
   have A:Hid (wrP Zy s):=⟨h1,H.out.2 rfl⟩;clear h1;go_wp2
   go_ret
   exact ⟨⟨true,rfl,by simp [A.out]⟩,o.out.alloc o.out.size _⟩
  ·have K:Hid (decide ((s.length:Int)≤255)=false):=decide_eq_false (by omega)
   have A:Hid (¬ wrP Zy s):=fun h=>h1 h.1
   clear h1;go_wp2
   go_ret
   exact ⟨⟨false,by show Ending.returned (.bool (decide ((s.length:Int)≤255)))=_;rw [K.out],by simp [A.out]⟩,o.out.alloc o.out.size _⟩
 ·have J:¬ (y:Int)=0:=by omega
  have A:Hid (¬ wrP Zy s):=fun h=>h0 (H.out.1 h.2)
  clear h0;go_wp2
  go_ret
  exact ⟨⟨false,rfl,by simp [A.out]⟩,o.out.alloc o.out.size _⟩
theorem vU (k n:Int) (s:List UInt8) (w:World) :
  Calls Tryz.prog 28 #[yJ k n s] w fun e w'=>Ux e (Zt Zy k n s)∧Below w.heap.size w w':=by
 obtain ⟨w1,O,M,Z,p1⟩:=y8 w (.cells #[.int .i64 k,.int .i64 n,.string (za s)] 24 (0,0));have Y:=qK k n s w1;obtain ⟨R,Q,T,-⟩:=zw p1;have V:Hid (w1.heap[w.heap.size]?=some (.cells #[.int .i64 k,.int .i64 n,.string (za s)] 24 (0,0))∧Below w.heap.size w w1):=⟨p1,M⟩;have J:Hid (Zt Zy k n s↔yH Zy k n s):=vz Zy k n s;have CW:Hid (∀W,Calls Tryz.prog 55 #[.string (za s)] W fun e w'=>Ux e (wrP Zy s)∧Below W.heap.size W w'):=fun W=>V6 s W
 have L:=O.symm
 unfold yJ at Y ⊢
 clear O M Z p1
 go_enter Tryz.func28,Tryz.ntmps28
 go_wp2_with fail
 refine Y.mono ?_;clear Y L R Q T;rintro e w2 ⟨⟨q,rfl,z⟩,I⟩;have o:Hid (Below w.heap.size w w2):=yb V.out.2 I;obtain ⟨R,Q,T,-⟩:=zw ((I.block _ (y7 V.out.1)).trans V.out.1);have A:Hid (q=true↔YW k n s):=z;clear z I
 by_cases hbad:q=false∨n<0∨4294967296<n
 ·have K:Hid (¬ Zt Zy k n s):=fun h=>by
   have h:=J.out.1 h;rcases hbad with D | D | D
   ·have:=A.out.2 h.1
    rw [D] at this;cases this
   ·have:=h.2.1;omega
   ·have:=h.2.2.1;omega
  cases q with
  | false =>
   clear A;go_wp2
   go_ret
   exact ⟨⟨false,rfl,by simp [K.out]⟩,o.out⟩
  | true =>
   clear A
   by_cases hn:n<0
   ·go_wp2
    go_ret
    exact ⟨⟨false,rfl,by simp [K.out]⟩,o.out⟩
   ·have aa:4294967296<n:=by
     rcases hbad with D | D | D
     ·cases D
     ·omega
     ·exact D
    go_wp2
    go_ret
    exact ⟨⟨false,rfl,by simp [K.out]⟩,o.out⟩
 ·have z:q=true:=by cases q <;> simp_all
  subst z;have ai:¬ n<0:=by omega
  have ae:¬ 4294967296<n:=by omega
  have U:Hid (YW k n s):=A.out.1 rfl;clear A hbad;have H:=CW.out w2
  by_cases h10:k=10
  ·subst h10
   have G:Hid (Zt Zy 10 n s↔1≤n∧(s=[]∨wrP Zy s)):=by
    show _↔_
    rw [J.out];exact ⟨fun h=>h.2.2.2.1 rfl,fun h=>⟨U.out,by omega,by omega,fun _=>h,fun e=>by omega,fun e=>by omega⟩⟩
   by_cases h1:1≤n
   ·cases s with
    | nil =>
     have X:Hid (Zt Zy 10 n []):=G.out.2 ⟨h1,.inl rfl⟩;clear H;go_wp2
     go_ret
     exact ⟨⟨true,rfl,by simp [X.out]⟩,o.out⟩
    | cons s0 ss =>
     go_wp2_with fail
     refine H.mono ?_;clear H;rintro e w3 ⟨⟨q,rfl,z⟩,y⟩;have E:Hid (Below w.heap.size w w3):=yb o.out y
     have A:Hid (q=true↔Zt Zy 10 n (s0::ss)):=by
      show _↔_
      rw [z,G.out];exact ⟨fun h=>⟨h1,.inr h⟩,fun h=>h.2.resolve_left (by simp)⟩
     clear z y R Q T;have N:Hid (Ux (.returned (.bool q)) (Zt Zy 10 n (s0::ss))):=⟨q,rfl,A.out⟩;clear A;go_wp2
     go_ret
     exact ⟨N.out,E.out⟩
   ·have K:Hid (¬ Zt Zy 10 n s):=fun h=>h1 (G.out.1 h).1
    clear H;go_wp2
    go_ret
    exact ⟨⟨false,rfl,by simp [K.out]⟩,o.out⟩
  ·by_cases h11:k=11∨k=17
   ·have G:Hid (Zt Zy k n s↔wrP Zy s):=by
     show _↔_
     rw [J.out];exact ⟨fun h=>h.2.2.2.2.1 h11,fun h=>⟨U.out,by omega,by omega,fun e=>by omega,fun _=>h,fun e=>by omega⟩⟩
    rcases h11 with rfl | rfl <;>
     (go_wp2_with fail
      refine H.mono ?_;clear H;rintro e w3 ⟨⟨q,rfl,z⟩,y⟩;have E:Hid (Below w.heap.size w w3):=yb o.out y;have N:Hid (Ux (.returned (.bool q)) (Zt Zy _ n s)):=⟨q,rfl,z.trans G.out.symm⟩;clear z y R Q T;go_wp2
      go_ret
      exact ⟨N.out,E.out⟩)
   ·clear H
    by_cases h12:12≤k∧k≤14
    ·have G:Hid (Zt Zy k n s↔1≤n):=by
      show _↔_
      rw [J.out];exact ⟨fun h=>h.2.2.2.2.2 h12,fun h=>⟨U.out,by omega,by omega,fun e=>by omega,fun e=>absurd e h11,fun _=>h⟩⟩
     have hk:k=12∨k=13∨k=14:=by omega
     have N:Hid (Ux (.returned (.bool (decide (1≤n)))) (Zt Zy k n s)):=⟨_,rfl,by rw [G.out];simp⟩
     rcases hk with rfl | rfl | rfl <;>
      (go_wp2
       go_ret
       exact ⟨N.out,o.out⟩)
    ·have X:Hid (Zt Zy k n s):=J.out.2 ⟨U.out,by omega,by omega,fun e=>absurd e h10,fun e=>absurd e h11,fun e=>absurd e h12⟩
     have ag:¬ k=11:=fun e=>h11 (.inl e)
     have af:¬ k=17:=fun e=>h11 (.inr e)
     have ab:¬ k=12:=by omega
     have ad:¬ k=13:=by omega
     have ah:¬ k=14:=by omega
     go_wp2
     go_ret
     exact ⟨⟨true,rfl,by simp [X.out]⟩,o.out⟩
theorem Qh (k:Int) (h0:1≤k) (h1:k≤17) (w:World) :
  Calls Tryz.prog 29 #[.int .i64 k] w fun e w'=>e=.returned (.string (za (ofKind k).2.1))∧Below w.heap.size w w':=by
 obtain ⟨j,h⟩:∃j:Nat,k=(j:Int)+1:=⟨(k-1).toNat,by omega⟩
 subst h;exact Vb j (by omega) w
theorem qg (n:Int) (h0:0≤n) (h1:n≤4294967296) (w:World) :
  Calls Tryz.prog 30 #[.int .i64 n] w fun e w'=>e=.returned (.string (za (Lib.itoa n)))∧Below w.heap.size w w':=by
 obtain ⟨m,rfl⟩:∃m:Nat,n=m:=⟨n.toNat,by omega⟩
 rw [xh _ h0];exact vN m w (by omega)
theorem vV (k n:Int) (s:List UInt8) (w:World) :
  Calls Tryz.prog 10 #[yJ k n s] w fun e w'=>(Zt Zy k n s∧e=.returned (.tuple #[.string (za (Zv k n s)),.int .i64 0])∨¬ Zt Zy k n s∧e=.returned (.tuple #[.string ⟨#[]⟩,.int .i64 2]))∧Below w.heap.size w w':=by
 obtain ⟨w1,aj,ah,al,p1⟩:=y8 w (.cells #[.int .i64 k,.int .i64 n,.string (za s)] 24 (0,0));have cf:=vU k n s w1;obtain ⟨R,O,L,-⟩:=zw p1;have HP:Hid (w1.heap[w.heap.size]?=some (.cells #[.int .i64 k,.int .i64 n,.string (za s)] 24 (0,0))∧Below w.heap.size w w1):=⟨p1,ah⟩;have ae:=aj.symm
 unfold yJ at cf ⊢
 clear aj ah al p1
 go_enter Tryz.func10,Tryz.ntmps10
 go_wp2_with fail
 refine cf.mono ?_;clear cf ae R O L;rintro e w2 ⟨⟨q,rfl,hq⟩,M⟩;have A:Hid (w2.heap[w.heap.size]?=some (.cells #[.int .i64 k,.int .i64 n,.string (za s)] 24 (0,0))∧Below w.heap.size w w2):=⟨(M.block _ (y7 HP.out.1)).trans HP.out.1,yb HP.out.2 M⟩;cases q with
 | false =>
  have HN:Hid (¬ Zt Zy k n s):=fun h=>by have:=hq.2 h;cases this
  clear hq M HP;go_wp2
  go_ret2
  exact ⟨.inr ⟨HN.out,rfl⟩,A.out.2⟩
 | true =>
  have G:Zt Zy k n s:=hq.1 rfl;have E:Hid (Zt Zy k n s):=G;obtain ⟨ak,am⟩:=YS G;have an:=Xd G;have HR:Hid (yH Zy k n s):=(vz Zy k n s).1 G;have ai:0≤n:=HR.out.2.1;have af:n≤4294967296:=HR.out.2.2.1;have ag:=Lib.itoa_length_le n (by omega) (by omega)
  obtain ⟨R,O,L,-⟩:=zw A.out.1;have cw:=Qh k ak am w2;have ao:=(YK k).1;have y:Hid (Zv k n s=(ofKind k).2.1++(if (ofKind k).2.2.1=true then 32::Lib.itoa n else [])++(if s≠[]∧(ofKind k).2.2.2.2.2≠[] then 32::(ofKind k).2.2.2.2.2 else [])++(if s≠[] then 32::s else [])):=rfl
  obtain ⟨B,hB⟩:∃B,B=(ofKind k).2.1:=⟨_,rfl⟩;have HB:Hid (B=(ofKind k).2.1):=hB;rw [←hB] at cw ao y;clear hq M HP G hB;go_wp2_with fail
  refine cw.mono ?_;clear cw R O L;rintro e w3 ⟨rfl,K⟩;have H:Hid (Below w.heap.size w w3):=yb A.out.2 K;obtain ⟨R,O,L,-⟩:=zw ((K.block _ (y7 A.out.1)).trans A.out.1);have V:Hid (w3.heap[w.heap.size]?=some (.cells #[.int .i64 k,.int .i64 n,.string (za s)] 24 (0,0))):=(K.block _ (y7 A.out.1)).trans A.out.1;have e1:za B++(⟨#[32]⟩:ByteArray)=za (B++[32]):=ZO B [32];have z1:(za B).size=B.length:=rfl;have z2:(za (B++[32])).size=B.length+1:=by show (B++[32]).length=_;simp
  have z3:(za s).size=s.length:=rfl;clear K
  by_cases hnum:k=9∨k=12∨k=13∨k=14
  ·have J:s=[]:=by
    have:=HR.out.1
    unfold YW at this
    rcases this with ⟨h1,-⟩ | ⟨h1,h2⟩ | ⟨h1,-⟩ | h1
    ·omega
    ·exact h2
    ·omega
    ·omega
   have o:(ofKind k).2.2.1=true:=by rcases hnum with rfl | rfl | rfl | rfl <;> decide
   obtain ⟨D,T⟩:∃D,D=Lib.itoa n:=⟨_,rfl⟩
   have X:Hid (Zv k n s=B++[32]++D):=by
    show _=_
    rw [y.out,J,o,T];simp
   have Q:=qg n ai af w3;rw [←T] at Q ag;have z4:(za D).size=D.length:=rfl;have e2:za (B++[32])++za D=za (B++[32]++D):=ZO _ _;clear y o T J
   rcases hnum with rfl | rfl | rfl | rfl <;>
    (go_wp2_with fail
     refine Q.mono ?_;clear Q R O L;rintro e w4 ⟨rfl,z⟩;have I:Hid (Below w.heap.size w w4):=yb H.out z;clear z;go_wp2
     go_ret2
     exact ⟨.inl ⟨E.out,by rw [X.out];first | rfl | simp⟩,I.out⟩)
  ·have n9:¬ k=9:=by omega
   have au:¬ k=12:=by omega
   have av:¬ k=13:=by omega
   have aq:¬ k=14:=by omega
   by_cases h10:k=10
   ·subst h10
    obtain ⟨D,T⟩:∃D,D=Lib.itoa n:=⟨_,rfl⟩;have Q:=qg n ai af w3;rw [←T] at Q ag;have z4:(za D).size=D.length:=rfl;have z5:(za (B++[32]++D)).size=B.length+1+D.length:=by show (B++[32]++D).length=_;simp only [List.length_append,List.length_cons,List.length_nil] <;> omega
    have e2:za (B++[32])++za D=za (B++[32]++D):=ZO _ _;have e3:za (B++[32]++D)++(⟨#[32,105,102,32]⟩:ByteArray)=za (B++[32]++D++[32,105,102,32]):=ZO _ [32,105,102,32];have z6:(za (B++[32]++D++[32,105,102,32])).size=B.length+1+D.length+4:=by show (B++[32]++D++[32,105,102,32]).length=_;simp only [List.length_append,List.length_cons,List.length_nil] <;> omega
    have e4:za (B++[32]++D++[32,105,102,32])++za s=za (B++[32]++D++[32,105,102,32]++s):=ZO _ _;have o:(ofKind 10).2.2.1=true:=by decide
    have aa:(ofKind 10).2.2.2.2.2=[105,102]:=by decide
    cases s with
    | nil =>
     have X:Hid (Zv 10 n []=B++[32]++D):=by
      show _=_
      rw [y.out,o,T];simp
     clear y o aa T e3 e4 z6;go_wp2_with fail
     refine Q.mono ?_;clear Q R O L;rintro e w4 ⟨rfl,z⟩;have I:Hid (Below w.heap.size w w4):=yb H.out z;obtain ⟨R,O,L,-⟩:=zw ((z.block _ (y7 V.out)).trans V.out);clear z;go_wp2
     go_ret2
     exact ⟨.inl ⟨E.out,by rw [X.out];first | rfl | simp⟩,I.out⟩
    | cons s0 ss =>
     clear e1 e2 e3 e4;obtain ⟨T1,W⟩:∃T1,T1=B++[32]:=⟨_,rfl⟩;obtain ⟨T2,U⟩:∃T2,T2=T1++D:=⟨_,rfl⟩;obtain ⟨T3,N⟩:∃T3,T3=T2++[32,105,102,32]:=⟨_,rfl⟩;obtain ⟨T4,Z⟩:∃T4,T4=T3++s0::ss:=⟨_,rfl⟩
     have X:Hid (Zv 10 n (s0::ss)=T4):=by
      show _=_
      rw [y.out,o,aa,Z,N,U,W,T];simp
     have l1:T1.length≤1000:=by rw [W];simp only [List.length_append,List.length_cons,List.length_nil];omega
     have l2:T2.length≤2000:=by rw [U];simp only [List.length_append];omega
     have l3:T3.length≤3000:=by rw [N];simp only [List.length_append,List.length_cons,List.length_nil];omega
     have e1:za B++(⟨#[32]⟩:ByteArray)=za T1:=by rw [W];exact ZO B [32]
     have e2:za T1++za D=za T2:=by rw [U];exact ZO _ _
     have e3:za T2++(⟨#[32,105,102,32]⟩:ByteArray)=za T3:=by rw [N];exact ZO _ [32,105,102,32]
     have e4:za T3++za (s0::ss)=za T4:=by rw [Z];exact ZO _ _
     have y1:(za T1).size=T1.length:=rfl;have y2:(za T2).size=T2.length:=rfl;have y3:(za T3).size=T3.length:=rfl;have ap:ss.length+1≤255:=an;clear y o aa T z5 z6 z2 W U N Z;go_wp2_with fail
     refine Q.mono ?_;clear Q R O L;rintro e w4 ⟨rfl,z⟩;have I:Hid (Below w.heap.size w w4):=yb H.out z;obtain ⟨R,O,L,-⟩:=zw ((z.block _ (y7 V.out)).trans V.out);clear z;go_wp2
     go_ret2
     exact ⟨.inl ⟨E.out,by rw [X.out];first | rfl | simp⟩,I.out⟩
   ·by_cases h11:k=11∨k=17
    ·have ad:True:=trivial
     have o:(ofKind k).2.2.1=false∧(ofKind k).2.2.2.2.2=[]∧(ofKind k).2.2.2.2.1=true:=by rcases h11 with rfl | rfl <;> decide
     have Y:s≠[]:=by
      rintro rfl;rcases E.out.2.2.2.2 o.2.2 with h | h
      ·exact h.2 o.2.1
      ·exact V5 h.2
     have X:Hid (Zv k n s=B++[32]++s):=by
      show _=_
      rw [y.out,o.1,o.2.1,if_pos Y];simp
     have e2:za (B++[32])++za s=za (B++[32]++s):=ZO _ _;clear y o Y ad
     rcases h11 with rfl | rfl <;>
      (go_wp2
       go_ret2
       exact ⟨.inl ⟨E.out,by rw [X.out];first | rfl | simp⟩,H.out⟩)
    ·have ad:¬ k=11:=by omega
     have ar:¬ k=17:=by omega
     have ab:k=1∨k=2∨k=3∨k=4∨k=5∨k=6∨k=7∨k=8∨k=15∨k=16:=by omega
     have o:(ofKind k).2.2.1=false∧(ofKind k).2.2.2.2.1=false:=by
      rcases ab with rfl | rfl | rfl | rfl | rfl | rfl | rfl | rfl | rfl | rfl <;> decide
     have J:=E.out.2.2.1 o.2
     have X:Hid (Zv k n s=B):=by
      show _=_
      rw [y.out,J,o.1];simp
     clear y o J ab;go_wp2
     go_ret2
     exact ⟨.inl ⟨E.out,by rw [X.out];rfl⟩,H.out⟩
end Go.Proofs.YtmbofhpmockmbaaGreatDoor
