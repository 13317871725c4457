import Derived.Test.YtbjndgachcdbcaaGreatDoorVBytes
import Derived.Test.YtbjndgachcdbcaaGreatDoorVSame
namespace Go.Proofs.YtbjndgachcdbcaaGreatDoor
open Go.RowKit Go.Shelf
set_option maxHeartbeats 16000000
set_option maxRecDepth 100000
def X4 (c:UInt8) (n:Int):Bn:=⟨[c],⟨1,n,[]⟩⟩
def Zl:Vw:=⟨⟨3,0,0,[⟨[109,97,105,110],8,[X4 105 0]⟩,⟨[102],2,[X4 110 1]⟩],[97,10]⟩,0,[⟨1,3,[110,32,62,32,48],[],false⟩],⟨0,1,[]⟩⟩
def Yp:List (List UInt8):=[[97,116,32,51,32,114,117,110,110,105,110,103],[62,32,102,58,50,32,110,61,49],[32,32,109,97,105,110,58,56,32,105,61,48],[124,32,97],[35,49,32,108,105,110,101,32,51,32,105,102,32,110,32,62,32,48],[111,107,32,49]]
theorem uI:Zx [] Zl=Yp:=by
 have y:Lib.itoa 3=[51]:=by decide +kernel
 have b:Lib.itoa 1=[49]:=by decide +kernel
 have u:Lib.itoa 2=[50]:=by decide +kernel
 have q:Lib.itoa 8=[56]:=by decide +kernel
 have c:Lib.itoa 0=[48]:=by decide +kernel
 have m:∀n,Lib.itoa n=[48]∨Lib.itoa n=[49]→Zm [] ⟨1,n,[]⟩=Lib.itoa n:=fun n hn=>by
  unfold Zm
  have e:zJ [] 2 ⟨1,n,[]⟩=Lib.itoa n:=by simp [zJ,zX]
  rw [if_pos (by simp [rightV]),e]
  rcases hn with h | h <;> rw [h] <;> rfl
 have z:=(m 0 (.inl c)).trans c;have o:=(m 1 (.inr b)).trans b
 simp [Zx,Zl,Zk,VR,zl,zL,xH,zP,X4,y6,VS,endsAt,Zh,Xr,ZI,YR,z,o,y,b,u,q,zA,zY,yo,Yp]
theorem Vk:decide (Yp=Yp)=true:=decide_eq_true rfl
theorem VX:Yp.length≤1048576:=by decide
theorem VY:Yp.length≤maxLen:=by decide
theorem Un:uC 0 Zl=true:=by decide +kernel
theorem uJ:yz Zl:=by
 refine ⟨by simp [Zl,Zq],by simp [Zl,Zq],by simp [Zl,Zq],by simp [Zl],?_,by simp [Zl],by simp [Zl,Zq],by simp [Zl],?_,by simp [Zl,Zq],by simp [Zl,Zq],by simp [Zl]⟩
 ·intro f c
  simp [Zl] at c
  rcases c with rfl | rfl
  ·exact ⟨by simp,by simp [Zq],by simp,by simp [X4,zq]⟩
  ·exact ⟨by simp,by simp [Zq],by simp,by simp [X4,zq]⟩
 ·intro s b
  simp [Zl] at b
  subst b;exact ⟨by simp [Zq],by simp [Zq],by simp,by simp⟩
theorem xr (nm:List UInt8) (n:Int) (w:World) :
  Calls Tryz.prog 32 #[.string (za nm),.int .i64 n] w fun e w'=>e=.returned (.slice (some ⟨w.heap.size,0,none⟩) 1 1)∧w'=w.alloc (.cells #[.string (za nm),.int .i64 1,.int .i64 n,.string ⟨#[]⟩] 58):=by
 go_enter Tryz.func32,Tryz.ntmps32
 go_wp2
 go_ret
 exact ⟨rfl,rfl⟩
theorem XB (w:World) :
  Calls Tryz.prog 16 #[] w fun e w'=>∃bf bs:Option Addr,∃cf cs:Nat,e=.returned (uS (.slice bf 2 cf) (.slice bs 1 cs) Zl)∧zR (fun k=>w.heap.size≤k) w' Zl (.slice bf 2 cf) (.slice bs 1 cs)∧Below w.heap.size w w':=by
 go_enter Tryz.func16,Tryz.ntmps16
 go_wp2_with fail
 refine (xr [105] 0 _).mono ?_;rintro e w2 ⟨rfl,rfl⟩;go_wp2_with fail
 refine (xr [110] 1 _).mono ?_;rintro e w3 ⟨rfl,rfl⟩;go_wp2
 obtain ⟨Y,q,G,K,f1⟩:=yj w (.cells #[.int .i64 3,.int .i64 0,.int .i64 0,.slice (some ⟨w.heap.size+1+1+1,0,none⟩) 2 2,.string ⟨#[97,10]⟩,.int .i64 0,.slice (some ⟨w.heap.size+1+1+1+1,0,none⟩) 1 1,.int .i64 0,.int .i64 1,.string ⟨#[]⟩] 35);obtain ⟨W2,u,A,O,V⟩:=yj Y (.cells #[.string (za [105]),.int .i64 1,.int .i64 0,.string ⟨#[]⟩] 58);obtain ⟨W3,B,o,F,f3⟩:=yj W2 (.cells #[.string (za [110]),.int .i64 1,.int .i64 1,.string ⟨#[]⟩] 58);obtain ⟨Z,y,m,H,X⟩:=yj W3 (.cells #[.string ⟨#[109,97,105,110]⟩,.int .i64 8,.slice (some ⟨w.heap.size+1,0,none⟩) 1 1,.string ⟨#[102]⟩,.int .i64 2,.slice (some ⟨w.heap.size+1+1,0,none⟩) 1 1] 52);obtain ⟨W5,z,h,M,W⟩:=yj Z (.cells #[.int .i64 1,.int .i64 3,.string ⟨#[110,32,62,32,48]⟩,.string ⟨#[]⟩,.bool false] 82);rw [←q,←u,←B,←y,←z];have z1:Y.heap.size=w.heap.size+1:=K.out;have z2:W2.heap.size=w.heap.size+1+1:=by have:=O.out;omega
 have z3:W3.heap.size=w.heap.size+1+1+1:=by have:=F.out;omega
 have z4:Z.heap.size=w.heap.size+1+1+1+1:=by have:=H.out;omega
 have z5:W5.heap.size=w.heap.size+1+1+1+1+1:=by have:=M.out;omega
 rw [z1] at V;rw [z2] at f3;rw [z3] at X;rw [z4] at W;have g4:=(h.block _ (by omega)).trans X
 have g3:=(h.block _ (by omega)).trans ((m.block _ (by omega)).trans f3)
 have g2:=(h.block _ (by omega)).trans ((m.block _ (by omega)).trans ((o.block _ (by omega)).trans V))
 have g1:=(h.block _ (by omega)).trans ((m.block _ (by omega)).trans ((o.block _ (by omega)).trans ((A.block _ (by omega)).trans f1)))
 have hB:Below w.heap.size w W5:=(((G.trans (A.mono (by omega))).trans (o.mono (by omega))).trans (m.mono (by omega))).trans (h.mono (by omega))
 obtain ⟨p0,p1,p2,p3,p4,p5,p6,p7,p8,p9⟩:=zs g1
 have hV:zR (fun k=>w.heap.size≤k) W5 Zl (.slice (some ⟨w.heap.size+1+1+1,0,none⟩) 2 2) (.slice (some ⟨w.heap.size+1+1+1+1,0,none⟩) 1 1):=by
  have v1:YQ (fun k=>w.heap.size≤k) W5 (.slice (some ⟨w.heap.size+1,0,none⟩) 1 1) [X4 105 0]:=by
   obtain ⟨a,b,c,d⟩:=yd g2;refine ⟨_,1,rfl,by simp,by decide,.inr ⟨_,0,rfl,by omega,by omega,fun j hj=>?_⟩⟩
   obtain rfl:j=0:=by simpa using hj
   exact ⟨a,b,c,d⟩
  have v2:YQ (fun k=>w.heap.size≤k) W5 (.slice (some ⟨w.heap.size+1+1,0,none⟩) 1 1) [X4 110 1]:=by
   obtain ⟨a,b,c,d⟩:=yd g3;refine ⟨_,1,rfl,by simp,by decide,.inr ⟨_,0,rfl,by omega,by omega,fun j hj=>?_⟩⟩
   obtain rfl:j=0:=by simpa using hj
   exact ⟨a,b,c,d⟩
  constructor
  ·have c6:W5.cell? ⟨w.heap.size+1+1+1,0,none⟩=some (.string ⟨#[109,97,105,110]⟩)∧W5.cell? ⟨w.heap.size+1+1+1,1,none⟩=some (.int .i64 8)∧W5.cell? ⟨w.heap.size+1+1+1,2,none⟩=some (.slice (some ⟨w.heap.size+1,0,none⟩) 1 1)∧W5.cell? ⟨w.heap.size+1+1+1,3,none⟩=some (.string ⟨#[102]⟩)∧W5.cell? ⟨w.heap.size+1+1+1,4,none⟩=some (.int .i64 2)∧W5.cell? ⟨w.heap.size+1+1+1,5,none⟩=some (.slice (some ⟨w.heap.size+1+1,0,none⟩) 1 1):=by
    refine ⟨?_,?_,?_,?_,?_,?_⟩ <;> (simp only [World.cell?,g4];rfl)
   obtain ⟨T,I,E,D,R,a5⟩:=c6;refine ⟨_,2,rfl,by simp [Zl],by decide,.inr ⟨_,0,rfl,by omega,by omega,fun j hj=>?_⟩⟩
   have J:j<2:=hj;have U:j=0∨j=1:=by omega
   rcases U with rfl | rfl
   ·exact ⟨T,I,_,E,v1⟩
   ·exact ⟨D,R,_,a5,v2⟩
  ·obtain ⟨T,I,E,D,R⟩:=zZ W
   refine ⟨_,1,rfl,by simp [Zl],by decide,.inr ⟨_,0,rfl,by omega,by omega,fun j hj=>?_⟩⟩
   have J:j<1:=hj;obtain rfl:j=0:=by omega
   exact ⟨T,I,E,D,R⟩
 clear q u B y z;exact bodyPost_ret (v:=.agg #[.int .i64 3,.int .i64 0,.int .i64 0,.slice (some ⟨w.heap.size+1+1+1,0,none⟩) 2 2,.string ⟨#[97,10]⟩,.int .i64 0,.slice (some ⟨w.heap.size+1+1+1+1,0,none⟩) 1 1,.int .i64 0,.int .i64 1,.string ⟨#[]⟩]) (by simp [results,Tryz.results16,go_sem,p0,p1,p2,p3,p4,p5,p6,p7,p8,p9]) rfl ⟨_,_,_,_,rfl,hV,hB⟩
theorem XC (w:World) (ht:YB w) :
  Calls Tryz.prog 10 #[] w fun e w'=>e=.returned (.bool true)∧Below w.heap.size w w':=by
 have V:Hid (YB w):=ht;clear ht;have ce:=XB w
 go_enter Tryz.func10,Tryz.ntmps10
 go_wp2_with fail
 refine ce.mono ?_;clear ce;rintro e w1 ⟨O,U,X,R,rfl,I,D⟩;have W:Hid (zR (fun k=>w.heap.size≤k) w1 Zl (.slice O 2 X) (.slice U 1 R)):=I
 have A:Hid (Below w.heap.size w w1):=D;clear I D;have T:=vD 9 w1;rw [show mostN 9=9 from rfl] at T
 obtain ⟨Z,u⟩:∃Z,Z=uS (.slice O 2 X) (.slice U 1 R) Zl:=⟨_,rfl⟩;rw [←u];have M:Hid (Z=uS (.slice O 2 X) (.slice U 1 R) Zl):=u;clear u;go_wp2_with fail
 refine T.mono ?_;clear T;rintro e w2 ⟨rfl,H2,m⟩;have o:Hid (Below w.heap.size w w2):=A.out.trans (m.mono A.out.size);have Y:=xq Zl _ _ w2 H2 (W.out.below m) uJ (V.out.below o.out (Nat.le_refl _));rw [←M.out] at Y;clear m H2;go_wp2_with fail
 refine Y.mono ?_;clear Y;rintro e b (⟨hf,-,-⟩ | ⟨-,r,rfl,z⟩)
 ·rw [List.length_nil,Un] at hf
  cases hf
 ·rw [uI] at z
  have J:Hid (Below w.heap.size w b):=o.out.trans (z.below.mono o.out.size);have E:=J.out.size;have HJ:Hid _:=z;have hl:=zm.lit b.heap.size b b Yp (Below.refl _ _) (Nat.le_refl _) VY;have F:=z.new (w1:=b.alloc (.cells (strC Yp).toArray 9)) ((Below.refl _ _).alloc (Nat.le_refl _) _);have y:=xa _ _ Yp Yp r _ _ F.in hl.in VX;rw [Vk] at y;obtain ⟨nr,br,cr,rfl⟩:=ye z.row;have H:Below w.heap.size w (b.alloc (.cells (strC Yp).toArray 9)):=J.out.alloc E _;have G:Hid (Below w.heap.size w (b.alloc (.cells (strC Yp).toArray 9))):=H;clear z hl F H;go_wp2_with fail
  refine y.mono ?_;clear y;rintro e K ⟨rfl,B⟩;have c:Hid (Below w.heap.size w K):=G.out.trans (B.mono G.out.size);clear B;have q:=yf 1 K (V.out.below c.out (Nat.le_refl _));rw [show zS 1=[100,105,118,105,115,105,111,110] from rfl] at q
  go_wp2_with fail
  refine q.mono ?_;clear q;rintro e w6 ⟨rfl,rfl⟩;have h:=yf 11 K (V.out.below c.out (Nat.le_refl _));rw [show zS 11=[] from rfl] at h
  go_wp2_with fail
  refine h.mono ?_;clear h;rintro e w7 ⟨rfl,rfl⟩;go_wp2
  go_ret
  exact ⟨rfl,c.out⟩
end Go.Proofs.YtbjndgachcdbcaaGreatDoor
