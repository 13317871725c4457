import Derived.Test.YtmbofhpmockmbaaGreatDoorLQRight
import Derived.Test.YtmbofhpmockmbaaGreatDoorMC40
import Derived.Test.YtmbofhpmockmbaaGreatDoorMC48
import Derived.Test.YtmbofhpmockmbaaGreatDoorMC31
namespace Go.Proofs.YtmbofhpmockmbaaGreatDoor
open Go.RowKit Go.Shelf
set_option maxHeartbeats 16000000
set_option maxRecDepth 100000
theorem qO (k:Int) (h0:1≤k) (h1:k≤17) (w:World) :
  Calls Tryz.prog 29 #[.int .i64 k] w fun e w'=>e=.returned (.string (za (ofKind k).2.1))∧Below w.heap.size w w':=by
 obtain ⟨j,h⟩:∃j:Nat,k=(j:Int)+1:=⟨(k-1).toNat,by omega⟩
 subst h;exact U2 j (by omega) w
theorem UW (n:Int) (h0:0≤n) (h1:n≤4294967296) (w:World) :
  Calls Tryz.prog 30 #[.int .i64 n] w fun e w'=>e=.returned (.string (za (Lib.itoa n)))∧Below w.heap.size w w':=by
 obtain ⟨m,rfl⟩:∃m:Nat,n=m:=⟨n.toNat,by omega⟩
 rw [UC _ h0];exact vx m w (by omega)
theorem vF (k n:Int) (s:List UInt8) (w:World) :
  Calls Tryz.prog 10 #[yi k n s] w fun e w'=>(ZP ZE k n s∧e=.returned (.tuple #[.string (za (y7 k n s)),.int .i64 0])∨¬ ZP ZE k n s∧e=.returned (.tuple #[.string ⟨#[]⟩,.int .i64 2]))∧Below w.heap.size w w':=by
 obtain ⟨w1,aj,af,am,p1⟩:=Yg w (.cells #[.int .i64 k,.int .i64 n,.string (za s)] 24 (0,0));have cf:=xi k n s w1;obtain ⟨T,N,Q,-⟩:=zv p1;have HP:Hid (w1.heap[w.heap.size]?=some (.cells #[.int .i64 k,.int .i64 n,.string (za s)] 24 (0,0))∧Below w.heap.size w w1):=⟨p1,af⟩;have ae:=aj.symm
 unfold yi at cf ⊢
 clear aj af am p1
 go_enter Tryz.func10,Tryz.ntmps10
 go_wp2_with fail
 refine cf.mono ?_;clear cf ae T N Q;rintro e w2 ⟨⟨q,rfl,hq⟩,U⟩;have A:Hid (w2.heap[w.heap.size]?=some (.cells #[.int .i64 k,.int .i64 n,.string (za s)] 24 (0,0))∧Below w.heap.size w w2):=⟨(U.block _ (Yf HP.out.1)).trans HP.out.1,Z8 HP.out.2 U⟩;cases q with
 | false =>
  have HN:Hid (¬ ZP ZE k n s):=fun h=>by have:=hq.2 h;cases this
  clear hq U HP;go_wp2
  go_ret2
  exact ⟨.inr ⟨HN.out,rfl⟩,A.out.2⟩
 | true =>
  have I:ZP ZE k n s:=hq.1 rfl;have E:Hid (ZP ZE k n s):=I;obtain ⟨ak,an⟩:=qU I;have ao:=xW I;have HR:Hid (yC ZE k n s):=(X4 ZE k n s).1 I;have ai:0≤n:=HR.out.2.1;have ag:n≤4294967296:=HR.out.2.2.1;have ah:=Lib.itoa_length_le n (by omega) (by omega)
  obtain ⟨T,N,Q,-⟩:=zv A.out.1;have cw:=qO k ak an w2;have al:=(xE k).1;have y:Hid (y7 k n s=(ofKind k).2.1++(if (ofKind k).2.2.1=true then 32::Lib.itoa n else [])++(if s≠[]∧(ofKind k).2.2.2.2.2≠[] then 32::(ofKind k).2.2.2.2.2 else [])++(if s≠[] then 32::s else [])):=rfl
  obtain ⟨B,hB⟩:∃B,B=(ofKind k).2.1:=⟨_,rfl⟩;have HB:Hid (B=(ofKind k).2.1):=hB;rw [←hB] at cw al y;clear hq U HP I hB;go_wp2_with fail
  refine cw.mono ?_;clear cw T N Q;rintro e w3 ⟨rfl,R⟩;have H:Hid (Below w.heap.size w w3):=Z8 A.out.2 R;obtain ⟨T,N,Q,-⟩:=zv ((R.block _ (Yf A.out.1)).trans A.out.1);have L:Hid (w3.heap[w.heap.size]?=some (.cells #[.int .i64 k,.int .i64 n,.string (za s)] 24 (0,0))):=(R.block _ (Yf A.out.1)).trans A.out.1;have e1:za B++(⟨#[32]⟩:ByteArray)=za (B++[32]):=ZK B [32];have z1:(za B).size=B.length:=rfl;have z2:(za (B++[32])).size=B.length+1:=by show (B++[32]).length=_;simp
  have z3:(za s).size=s.length:=rfl;clear R
  by_cases hnum:k=9∨k=12∨k=13∨k=14
  ·have J:s=[]:=by
    have:=HR.out.1
    unfold YO at this
    rcases this with ⟨h1,-⟩ | ⟨h1,h2⟩ | ⟨h1,-⟩ | h1
    ·omega
    ·exact h2
    ·omega
    ·omega
   have o:(ofKind k).2.2.1=true:=by rcases hnum with rfl | rfl | rfl | rfl <;> decide
   obtain ⟨D,K⟩:∃D,D=Lib.itoa n:=⟨_,rfl⟩
   have M:Hid (y7 k n s=B++[32]++D):=by
    show _=_
    rw [y.out,J,o,K];simp
   have O:=UW n ai ag w3;rw [←K] at O ah;have z4:(za D).size=D.length:=rfl;have e2:za (B++[32])++za D=za (B++[32]++D):=ZK _ _;clear y o K J
   rcases hnum with rfl | rfl | rfl | rfl <;>
    (go_wp2_with fail
     refine O.mono ?_;clear O T N Q;rintro e w4 ⟨rfl,z⟩;have G:Hid (Below w.heap.size w w4):=Z8 H.out z;clear z;go_wp2
     go_ret2
     exact ⟨.inl ⟨E.out,by rw [M.out];first | rfl | simp⟩,G.out⟩)
  ·have n9:¬ k=9:=by omega
   have av:¬ k=12:=by omega
   have ar:¬ k=13:=by omega
   have au:¬ k=14:=by omega
   by_cases h10:k=10
   ·subst h10
    obtain ⟨D,K⟩:∃D,D=Lib.itoa n:=⟨_,rfl⟩;have O:=UW n ai ag w3;rw [←K] at O ah;have z4:(za D).size=D.length:=rfl;have z5:(za (B++[32]++D)).size=B.length+1+D.length:=by show (B++[32]++D).length=_;simp only [List.length_append,List.length_cons,List.length_nil] <;> omega
    have e2:za (B++[32])++za D=za (B++[32]++D):=ZK _ _;have e3:za (B++[32]++D)++(⟨#[32,105,102,32]⟩:ByteArray)=za (B++[32]++D++[32,105,102,32]):=ZK _ [32,105,102,32];have z6:(za (B++[32]++D++[32,105,102,32])).size=B.length+1+D.length+4:=by show (B++[32]++D++[32,105,102,32]).length=_;simp only [List.length_append,List.length_cons,List.length_nil] <;> omega
    have e4:za (B++[32]++D++[32,105,102,32])++za s=za (B++[32]++D++[32,105,102,32]++s):=ZK _ _;have o:(ofKind 10).2.2.1=true:=by decide
    have aa:(ofKind 10).2.2.2.2.2=[105,102]:=by decide
    cases s with
    | nil =>
     have M:Hid (y7 10 n []=B++[32]++D):=by
      show _=_
      rw [y.out,o,K];simp
     clear y o aa K e3 e4 z6;go_wp2_with fail
     refine O.mono ?_;clear O T N Q;rintro e w4 ⟨rfl,z⟩;have G:Hid (Below w.heap.size w w4):=Z8 H.out z;obtain ⟨T,N,Q,-⟩:=zv ((z.block _ (Yf L.out)).trans L.out);clear z;go_wp2
     go_ret2
     exact ⟨.inl ⟨E.out,by rw [M.out];first | rfl | simp⟩,G.out⟩
    | cons s0 ss =>
     clear e1 e2 e3 e4;obtain ⟨T1,V⟩:∃T1,T1=B++[32]:=⟨_,rfl⟩;obtain ⟨T2,X⟩:∃T2,T2=T1++D:=⟨_,rfl⟩;obtain ⟨T3,W⟩:∃T3,T3=T2++[32,105,102,32]:=⟨_,rfl⟩;obtain ⟨T4,Z⟩:∃T4,T4=T3++s0::ss:=⟨_,rfl⟩
     have M:Hid (y7 10 n (s0::ss)=T4):=by
      show _=_
      rw [y.out,o,aa,Z,W,X,V,K];simp
     have l1:T1.length≤1000:=by rw [V];simp only [List.length_append,List.length_cons,List.length_nil];omega
     have l2:T2.length≤2000:=by rw [X];simp only [List.length_append];omega
     have l3:T3.length≤3000:=by rw [W];simp only [List.length_append,List.length_cons,List.length_nil];omega
     have e1:za B++(⟨#[32]⟩:ByteArray)=za T1:=by rw [V];exact ZK B [32]
     have e2:za T1++za D=za T2:=by rw [X];exact ZK _ _
     have e3:za T2++(⟨#[32,105,102,32]⟩:ByteArray)=za T3:=by rw [W];exact ZK _ [32,105,102,32]
     have e4:za T3++za (s0::ss)=za T4:=by rw [Z];exact ZK _ _
     have y1:(za T1).size=T1.length:=rfl;have y2:(za T2).size=T2.length:=rfl;have y3:(za T3).size=T3.length:=rfl;have ap:ss.length+1≤255:=ao;clear y o aa K z5 z6 z2 V X W Z;go_wp2_with fail
     refine O.mono ?_;clear O T N Q;rintro e w4 ⟨rfl,z⟩;have G:Hid (Below w.heap.size w w4):=Z8 H.out z;obtain ⟨T,N,Q,-⟩:=zv ((z.block _ (Yf L.out)).trans L.out);clear z;go_wp2
     go_ret2
     exact ⟨.inl ⟨E.out,by rw [M.out];first | rfl | simp⟩,G.out⟩
   ·by_cases h11:k=11∨k=17
    ·have ad:True:=trivial
     have o:(ofKind k).2.2.1=false∧(ofKind k).2.2.2.2.2=[]∧(ofKind k).2.2.2.2.1=true:=by rcases h11 with rfl | rfl <;> decide
     have Y:s≠[]:=by
      rintro rfl;rcases E.out.2.2.2.2 o.2.2 with h | h
      ·exact h.2 o.2.1
      ·exact zai h.2
     have M:Hid (y7 k n s=B++[32]++s):=by
      show _=_
      rw [y.out,o.1,o.2.1,if_pos Y];simp
     have e2:za (B++[32])++za s=za (B++[32]++s):=ZK _ _;clear y o Y ad
     rcases h11 with rfl | rfl <;>
      (go_wp2
       go_ret2
       exact ⟨.inl ⟨E.out,by rw [M.out];first | rfl | simp⟩,H.out⟩)
    ·have ad:¬ k=11:=by omega
     have aq:¬ k=17:=by omega
     have ab:k=1∨k=2∨k=3∨k=4∨k=5∨k=6∨k=7∨k=8∨k=15∨k=16:=by omega
     have o:(ofKind k).2.2.1=false∧(ofKind k).2.2.2.2.1=false:=by
      rcases ab with rfl | rfl | rfl | rfl | rfl | rfl | rfl | rfl | rfl | rfl <;> decide
     have J:=E.out.2.2.1 o.2
     have M:Hid (y7 k n s=B):=by
      show _=_
      rw [y.out,J,o.1];simp
     clear y o J ab;go_wp2
     go_ret2
     exact ⟨.inl ⟨E.out,by rw [M.out];rfl⟩,H.out⟩
theorem uG (k n:Int) (s:List UInt8) (_hk:-9223372036854775808≤k∧k≤9223372036854775807) (_hn:-9223372036854775808≤n∧n≤9223372036854775807) (w:World) (hQ:QT w) :
  Calls Tryz.prog 3 #[yi k n s] w fun e w'=>e=.returned (.bool true)∧Below w.heap.size w w':=by
 have V:Hid (QT w):=hQ;obtain ⟨X,Q,J,Z,p1⟩:=Yg w (.cells #[.int .i64 k,.int .i64 n,.string (za s)] 24 (0,0));have U:Hid (X.heap[w.heap.size]?=some (.cells #[.int .i64 k,.int .i64 n,.string (za s)] 24 (0,0))∧Below w.heap.size w X):=⟨p1,J⟩
 obtain ⟨T,E,y⟩:∃(T:List UInt8) (E:Int),(ZP ZE k n s∧T=y7 k n s∧E=0)∨(¬ ZP ZE k n s∧T=[]∧E=2):=by
  by_cases h:ZP ZE k n s
  ·exact ⟨_,0,.inl ⟨h,rfl,rfl⟩⟩
  ·exact ⟨[],2,.inr ⟨h,rfl,rfl⟩⟩
 have C1:Hid (∀W,Below w.heap.size w W→Calls Tryz.prog 9 #[.agg #[.int .i64 k,.int .i64 n,.string (za s)]] W fun e w'=>e=.returned (.tuple #[.string (za T),.int .i64 E])∧Below W.heap.size W w'):=fun W hW=>(xt k n s W (V.out.below hW).1).mono fun e w' ⟨h,hb⟩=>⟨by
  rcases h with ⟨z,A⟩ | ⟨z,A⟩
  ·rcases y with ⟨_,rfl,rfl⟩ | ⟨D,_⟩
   ·exact A
   ·exact absurd z D
  ·rcases y with ⟨D,_⟩ | ⟨_,rfl,rfl⟩
   ·exact absurd D z
   ·exact A,hb⟩
 have C2:Hid (∀W,Calls Tryz.prog 10 #[.agg #[.int .i64 k,.int .i64 n,.string (za s)]] W fun e w'=>e=.returned (.tuple #[.string (za T),.int .i64 E])∧Below W.heap.size W w'):=fun W=>(vF k n s W).mono fun e w' ⟨h,hb⟩=>⟨by
  rcases h with ⟨z,A⟩ | ⟨z,A⟩
  ·rcases y with ⟨_,rfl,rfl⟩ | ⟨D,_⟩
   ·exact A
   ·exact absurd z D
  ·rcases y with ⟨D,_⟩ | ⟨_,rfl,rfl⟩
   ·exact absurd D z
   ·exact A,hb⟩
 have C3:Hid (∀W,Below w.heap.size w W→Calls Tryz.prog 11 #[.agg #[.int .i64 k,.int .i64 n,.string (za s)]] W fun e w'=>e=.returned (.int .i64 E)∧Below W.heap.size W w'):=fun W hW=>(vW k n s W (V.out.below hW).1).mono fun e w' ⟨h,hb⟩=>⟨by
  rcases h with ⟨z,A⟩ | ⟨z,A⟩
  ·rcases y with ⟨_,_,rfl⟩ | ⟨D,_⟩
   ·exact A
   ·exact absurd z D
  ·rcases y with ⟨D,_⟩ | ⟨_,_,rfl⟩
   ·exact absurd D z
   ·exact A,hb⟩
 have C4:Hid (∀W,Calls Tryz.prog 12 #[.agg #[.int .i64 k,.int .i64 n,.string (za s)]] W fun e w'=>e=.returned (.int .i64 E)∧Below W.heap.size W w'):=fun W=>(vE k n s W).mono fun e w' ⟨h,hb⟩=>⟨by
  rcases h with ⟨z,A⟩ | ⟨z,A⟩
  ·rcases y with ⟨_,_,rfl⟩ | ⟨D,_⟩
   ·exact A
   ·exact absurd z D
  ·rcases y with ⟨D,_⟩ | ⟨_,_,rfl⟩
   ·exact absurd D z
   ·exact A,hb⟩
 have c1:=C1.out X J;obtain ⟨L,M,N,-⟩:=zv p1;have O:=Q.symm
 unfold yi
 clear hQ Q J Z p1 y C1
 go_enter Tryz.func3,Tryz.ntmps3
 go_wp2_with fail
 refine c1.mono ?_;clear c1 O L M N;rintro e w2 ⟨rfl,K⟩;have G:Hid (w2.heap[w.heap.size]?=some (.cells #[.int .i64 k,.int .i64 n,.string (za s)] 24 (0,0))∧Below w.heap.size w w2):=⟨(K.block _ (Yf U.out.1)).trans U.out.1,Z8 U.out.2 K⟩;obtain ⟨L,M,N,-⟩:=zv G.out.1;have c2:=C2.out w2;clear K U;go_wp2_with fail
 refine c2.mono ?_;clear c2 L M N C2;rintro e o ⟨rfl,I⟩;have H:Hid (o.heap[w.heap.size]?=some (.cells #[.int .i64 k,.int .i64 n,.string (za s)] 24 (0,0))∧Below w.heap.size w o):=⟨(I.block _ (Yf G.out.1)).trans G.out.1,Z8 G.out.2 I⟩;obtain ⟨L,M,N,-⟩:=zv H.out.1;have R:=Yf H.out.1;have x0:=Xt (n:=o.heap.size) L R;have x1:=Xt (n:=o.heap.size) M R;have x2:=Xt (n:=o.heap.size) N R;have K3:Hid (∀W,Below o.heap.size o W→Calls Tryz.prog 11 #[.agg #[.int .i64 k,.int .i64 n,.string (za s)]] W fun e w'=>e=.returned (.int .i64 E)∧Below o.heap.size o w'):=fun W hW=>(C3.out W (Z8 H.out.2 hW)).mono fun e w' ⟨h,hb⟩=>⟨h,hW.trans (hb.mono hW.size)⟩
 have K4:Hid (∀W,Below o.heap.size o W→Calls Tryz.prog 12 #[.agg #[.int .i64 k,.int .i64 n,.string (za s)]] W fun e w'=>e=.returned (.int .i64 E)∧Below o.heap.size o w'):=fun W hW=>(C4.out W).mono fun e w' ⟨h,hb⟩=>⟨h,hW.trans (hb.mono hW.size)⟩
 have K5:Hid (∀W,Below o.heap.size o W→Calls Tryz.prog 13 #[] W fun e w'=>e=.returned (.bool true)∧Below o.heap.size o w'):=fun W hW=>(uF W (V.out.below (Z8 H.out.2 hW))).mono fun e w' ⟨h,hb⟩=>⟨h,hW.trans (hb.mono hW.size)⟩
 clear I L M N R G C3 C4;go_wp2_with fail
 refine X9 (w0:=o) (n:=o.heap.size) (Below.refl _ _) (by kernel_rfl) (by decide +kernel) ?_
 iterate 10 (go_big_quiet_step (fail))
 go_big_quiet_step (exact xG K3.out _)
 go_big_quiet_step (fail)
 go_big_quiet_step (exact xG K4.out _)
 iterate 3 (go_big_quiet_step (fail))
 go_big_quiet_step (exact xG K5.out _)
 iterate 2 (go_big_quiet_step (fail))
 refine wpQuiet_nil ?_;rintro w4 ⟨c,rfl⟩;have Y:Hid (Below w.heap.size w c.1):=Z8 H.out.2 c.2;clear x0 x1 x2;go_wp2
 exact bodyPost_ret (v:=.bool true) (by simp [results,Tryz.results3,go_sem]) rfl ⟨rfl,Y.out⟩
end Go.Proofs.YtmbofhpmockmbaaGreatDoor
