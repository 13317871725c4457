import Derived.Test.YtbjndgachcdbcaaGreatDoorVBytes
import Derived.Test.YtbjndgachcdbcaaGreatDoorVSame
namespace Go.Proofs.YtbjndgachcdbcaaGreatDoor
open Go.RowKit Go.Shelf
set_option maxHeartbeats 16000000
set_option maxRecDepth 100000
def vg (c:UInt8) (n:Int):Bn:=⟨[c],⟨1,n,[]⟩⟩
def Zh:Vw:=⟨⟨3,0,0,[⟨[109,97,105,110],8,[vg 105 0]⟩,⟨[102],2,[vg 110 1]⟩],[97,10]⟩,0,[⟨1,3,[110,32,62,32,48],[],false⟩],⟨0,1,[]⟩⟩
def Ys:List (List UInt8):=[[97,116,32,51,32,114,117,110,110,105,110,103],[62,32,102,58,50,32,110,61,49],[32,32,109,97,105,110,58,56,32,105,61,48],[124,32,97],[35,49,32,108,105,110,101,32,51,32,105,102,32,110,32,62,32,48],[111,107,32,49]]
theorem uP:linesB [] Zh=Ys:=by
 have z:Lib.itoa 3=[51]:=by decide +kernel
 have b:Lib.itoa 1=[49]:=by decide +kernel
 have q:Lib.itoa 2=[50]:=by decide +kernel
 have u:Lib.itoa 8=[56]:=by decide +kernel
 have m:Lib.itoa 0=[48]:=by decide +kernel
 have c:∀n,Lib.itoa n=[48]∨Lib.itoa n=[49]→Zi [] ⟨1,n,[]⟩=Lib.itoa n:=fun n hn=>by
  unfold Zi
  have e:zH [] 2 ⟨1,n,[]⟩=Lib.itoa n:=by simp [zH,zV]
  rw [if_pos (by simp [rightV]),e]
  rcases hn with h | h <;> rw [h] <;> rfl
 have o:=(c 0 (.inl m)).trans m;have y:=(c 1 (.inr b)).trans b
 simp [linesB,Zh,Zg,V0,framesB,ZF,V1,zN,vg,yM,vN,endsAt,Ze,Xy,ZG,YR,o,y,z,b,q,u,lineB,seenB,Z7,Ys]
theorem Vs:decide (Ys=Ys)=true:=decide_eq_true rfl
theorem V6:Ys.length≤1048576:=by decide
theorem V7:Ys.length≤maxLen:=by decide
theorem Uu:Y8 0 Zh=true:=by decide +kernel
theorem uQ:Z9 Zh:=by
 refine ⟨by simp [Zh,Zu],by simp [Zh,Zu],by simp [Zh,Zu],by simp [Zh],?_,by simp [Zh],by simp [Zh,Zu],by simp [Zh],?_,by simp [Zh,Zu],by simp [Zh,Zu],by simp [Zh]⟩
 ·intro f b
  simp [Zh] at b
  rcases b with rfl | rfl
  ·exact ⟨by simp,by simp [Zu],by simp,by simp [vg,zq]⟩
  ·exact ⟨by simp,by simp [Zu],by simp,by simp [vg,zq]⟩
 ·intro s c
  simp [Zh] at c
  subst c;exact ⟨by simp [Zu],by simp [Zu],by simp,by simp⟩
theorem xz (nm:List UInt8) (n:Int) (w:World) :
  Calls Tryz.prog 32 #[.string (za nm),.int .i64 n] w fun e w'=>e=.returned (.slice (some ⟨w.heap.size,0,none⟩) 1 1)∧w'=w.alloc (.cells #[.string (za nm),.int .i64 1,.int .i64 n,.string ⟨#[]⟩] 58):=by
 go_enter Tryz.func32,Tryz.ntmps32
 go_wp2
 go_ret
 exact ⟨rfl,rfl⟩
theorem XI (w:World) :
  Calls Tryz.prog 16 #[] w fun e w'=>∃bf bs:Option Addr,∃cf cs:Nat,e=.returned (ut (.slice bf 2 cf) (.slice bs 1 cs) Zh)∧zL (fun k=>w.heap.size≤k) w' Zh (.slice bf 2 cf) (.slice bs 1 cs)∧Below w.heap.size w w':=by
 go_enter Tryz.func16,Tryz.ntmps16
 go_wp2_with fail
 refine (xz [105] 0 _).mono ?_;rintro e w2 ⟨rfl,rfl⟩;go_wp2_with fail
 refine (xz [110] 1 _).mono ?_;rintro e w3 ⟨rfl,rfl⟩;go_wp2
 obtain ⟨Z,B,O,U,f1⟩:=Z6 w (.cells #[.int .i64 3,.int .i64 0,.int .i64 0,.slice (some ⟨w.heap.size+1+1+1,0,none⟩) 2 2,.string ⟨#[97,10]⟩,.int .i64 0,.slice (some ⟨w.heap.size+1+1+1+1,0,none⟩) 1 1,.int .i64 0,.int .i64 1,.string ⟨#[]⟩] 35);obtain ⟨W,u,y,H,f2⟩:=Z6 Z (.cells #[.string (za [105]),.int .i64 1,.int .i64 0,.string ⟨#[]⟩] 58);obtain ⟨Y,z,o,M,f3⟩:=Z6 W (.cells #[.string (za [110]),.int .i64 1,.int .i64 1,.string ⟨#[]⟩] 58);obtain ⟨W4,A,m,F,V⟩:=Z6 Y (.cells #[.string ⟨#[109,97,105,110]⟩,.int .i64 8,.slice (some ⟨w.heap.size+1,0,none⟩) 1 1,.string ⟨#[102]⟩,.int .i64 2,.slice (some ⟨w.heap.size+1+1,0,none⟩) 1 1] 52);obtain ⟨W5,q,h,E,X⟩:=Z6 W4 (.cells #[.int .i64 1,.int .i64 3,.string ⟨#[110,32,62,32,48]⟩,.string ⟨#[]⟩,.bool false] 82);rw [←B,←u,←z,←A,←q];have z1:Z.heap.size=w.heap.size+1:=U.out;have z2:W.heap.size=w.heap.size+1+1:=by have:=H.out;omega
 have z3:Y.heap.size=w.heap.size+1+1+1:=by have:=M.out;omega
 have z4:W4.heap.size=w.heap.size+1+1+1+1:=by have:=F.out;omega
 have z5:W5.heap.size=w.heap.size+1+1+1+1+1:=by have:=E.out;omega
 rw [z1] at f2;rw [z2] at f3;rw [z3] at V;rw [z4] at X;have g4:=(h.block _ (by omega)).trans V
 have g3:=(h.block _ (by omega)).trans ((m.block _ (by omega)).trans f3)
 have g2:=(h.block _ (by omega)).trans ((m.block _ (by omega)).trans ((o.block _ (by omega)).trans f2))
 have g1:=(h.block _ (by omega)).trans ((m.block _ (by omega)).trans ((o.block _ (by omega)).trans ((y.block _ (by omega)).trans f1)))
 have hB:Below w.heap.size w W5:=(((O.trans (y.mono (by omega))).trans (o.mono (by omega))).trans (m.mono (by omega))).trans (h.mono (by omega))
 obtain ⟨p0,p1,p2,p3,p4,p5,p6,p7,p8,p9⟩:=zo g1
 have hV:zL (fun k=>w.heap.size≤k) W5 Zh (.slice (some ⟨w.heap.size+1+1+1,0,none⟩) 2 2) (.slice (some ⟨w.heap.size+1+1+1+1,0,none⟩) 1 1):=by
  have v1:YQ (fun k=>w.heap.size≤k) W5 (.slice (some ⟨w.heap.size+1,0,none⟩) 1 1) [vg 105 0]:=by
   obtain ⟨a,b,c,d⟩:=yi g2;refine ⟨_,1,rfl,by simp,by decide,.inr ⟨_,0,rfl,by omega,by omega,fun j hj=>?_⟩⟩
   obtain rfl:j=0:=by simpa using hj
   exact ⟨a,b,c,d⟩
  have v2:YQ (fun k=>w.heap.size≤k) W5 (.slice (some ⟨w.heap.size+1+1,0,none⟩) 1 1) [vg 110 1]:=by
   obtain ⟨a,b,c,d⟩:=yi g3;refine ⟨_,1,rfl,by simp,by decide,.inr ⟨_,0,rfl,by omega,by omega,fun j hj=>?_⟩⟩
   obtain rfl:j=0:=by simpa using hj
   exact ⟨a,b,c,d⟩
  constructor
  ·have c6:W5.cell? ⟨w.heap.size+1+1+1,0,none⟩=some (.string ⟨#[109,97,105,110]⟩)∧W5.cell? ⟨w.heap.size+1+1+1,1,none⟩=some (.int .i64 8)∧W5.cell? ⟨w.heap.size+1+1+1,2,none⟩=some (.slice (some ⟨w.heap.size+1,0,none⟩) 1 1)∧W5.cell? ⟨w.heap.size+1+1+1,3,none⟩=some (.string ⟨#[102]⟩)∧W5.cell? ⟨w.heap.size+1+1+1,4,none⟩=some (.int .i64 2)∧W5.cell? ⟨w.heap.size+1+1+1,5,none⟩=some (.slice (some ⟨w.heap.size+1+1,0,none⟩) 1 1):=by
    refine ⟨?_,?_,?_,?_,?_,?_⟩ <;> (simp only [World.cell?,g4];rfl)
   obtain ⟨T,J,K,I,G,a5⟩:=c6;refine ⟨_,2,rfl,by simp [Zh],by decide,.inr ⟨_,0,rfl,by omega,by omega,fun j hj=>?_⟩⟩
   have R:j<2:=hj;have D:j=0∨j=1:=by omega
   rcases D with rfl | rfl
   ·exact ⟨T,J,_,K,v1⟩
   ·exact ⟨I,G,_,a5,v2⟩
  ·obtain ⟨T,J,K,I,G⟩:=zW X
   refine ⟨_,1,rfl,by simp [Zh],by decide,.inr ⟨_,0,rfl,by omega,by omega,fun j hj=>?_⟩⟩
   have R:j<1:=hj;obtain rfl:j=0:=by omega
   exact ⟨T,J,K,I,G⟩
 clear B u z A q;exact bodyPost_ret (v:=.agg #[.int .i64 3,.int .i64 0,.int .i64 0,.slice (some ⟨w.heap.size+1+1+1,0,none⟩) 2 2,.string ⟨#[97,10]⟩,.int .i64 0,.slice (some ⟨w.heap.size+1+1+1+1,0,none⟩) 1 1,.int .i64 0,.int .i64 1,.string ⟨#[]⟩]) (by simp [results,Tryz.results16,go_sem,p0,p1,p2,p3,p4,p5,p6,p7,p8,p9]) rfl ⟨_,_,_,_,rfl,hV,hB⟩
theorem XJ (w:World) (ht:Yr w) :
  Calls Tryz.prog 10 #[] w fun e w'=>e=.returned (.bool true)∧Below w.heap.size w w':=by
 have V:Hid (Yr w):=ht;clear ht;have ce:=XI w
 go_enter Tryz.func10,Tryz.ntmps10
 go_wp2_with fail
 refine ce.mono ?_;clear ce;rintro e w1 ⟨U,W,R,K,rfl,J,G⟩;have Z:Hid (zL (fun k=>w.heap.size≤k) w1 Zh (.slice U 2 R) (.slice W 1 K)):=J
 have I:Hid (Below w.heap.size w w1):=G;clear J G;have X:=vK 9 w1;rw [show mostN 9=9 from rfl] at X
 obtain ⟨O,c⟩:∃O,O=ut (.slice U 2 R) (.slice W 1 K) Zh:=⟨_,rfl⟩;rw [←c];have T:Hid (O=ut (.slice U 2 R) (.slice W 1 K) Zh):=c;clear c;go_wp2_with fail
 refine X.mono ?_;clear X;rintro e w2 ⟨rfl,H2,h⟩;have q:Hid (Below w.heap.size w w2):=I.out.trans (h.mono I.out.size);have Y:=Yc Zh _ _ w2 H2 (Z.out.below h) uQ (V.out.below q.out (Nat.le_refl _));rw [←T.out] at Y;clear h H2;go_wp2_with fail
 refine Y.mono ?_;clear Y;rintro e m (⟨hf,-,-⟩ | ⟨-,r,rfl,z⟩)
 ·rw [List.length_nil,Uu] at hf
  cases hf
 ·rw [uP] at z
  have E:Hid (Below w.heap.size w m):=q.out.trans (z.below.mono q.out.size);have B:=E.out.size;have HJ:Hid _:=z;have hl:=zl.lit m.heap.size m m Ys (Below.refl _ _) (Nat.le_refl _) V7;have H:=z.new (w1:=m.alloc (.cells (strC Ys).toArray 9)) ((Below.refl _ _).alloc (Nat.le_refl _) _);have u:=xf _ _ Ys Ys r _ _ H.in hl.in V6;rw [Vs] at u;obtain ⟨nr,br,cr,rfl⟩:=yj z.row;have D:Below w.heap.size w (m.alloc (.cells (strC Ys).toArray 9)):=E.out.alloc B _;have A:Hid (Below w.heap.size w (m.alloc (.cells (strC Ys).toArray 9))):=D;clear z hl H D;go_wp2_with fail
  refine u.mono ?_;clear u;rintro e M ⟨rfl,F⟩;have b:Hid (Below w.heap.size w M):=A.out.trans (F.mono A.out.size);clear F;have o:=yk 1 M (V.out.below b.out (Nat.le_refl _));rw [show zP 1=[100,105,118,105,115,105,111,110] from rfl] at o
  go_wp2_with fail
  refine o.mono ?_;clear o;rintro e w6 ⟨rfl,rfl⟩;have y:=yk 11 M (V.out.below b.out (Nat.le_refl _));rw [show zP 11=[] from rfl] at y
  go_wp2_with fail
  refine y.mono ?_;clear y;rintro e w7 ⟨rfl,rfl⟩;go_wp2
  go_ret
  exact ⟨rfl,b.out⟩
end Go.Proofs.YtbjndgachcdbcaaGreatDoor
