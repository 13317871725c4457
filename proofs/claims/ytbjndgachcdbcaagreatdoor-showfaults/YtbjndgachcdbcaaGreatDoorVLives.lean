import Derived.Test.YtbjndgachcdbcaaGreatDoorVBytes
import Derived.Test.YtbjndgachcdbcaaGreatDoorVSame
namespace Go.Proofs.YtbjndgachcdbcaaGreatDoor
open Go.RowKit Go.Shelf
set_option maxHeartbeats 16000000
set_option maxRecDepth 100000
def Xm (c:UInt8) (n:Int):Bn:=⟨[c],⟨1,n,[]⟩⟩
def Zc:Vw:=⟨⟨3,0,0,[⟨[109,97,105,110],8,[Xm 105 0]⟩,⟨[102],2,[Xm 110 1]⟩],[97,10]⟩,0,[⟨1,3,[110,32,62,32,48],[],false⟩],⟨0,1,[]⟩⟩
def yP:List (List UInt8):=[[97,116,32,51,32,114,117,110,110,105,110,103],[62,32,102,58,50,32,110,61,49],[32,32,109,97,105,110,58,56,32,105,61,48],[124,32,97],[35,49,32,108,105,110,101,32,51,32,105,102,32,110,32,62,32,48],[111,107,32,49]]
theorem Vo:Y6 [] Zc=yP:=by
 have y:Lib.itoa 3=[51]:=by decide +kernel
 have b:Lib.itoa 1=[49]:=by decide +kernel
 have u:Lib.itoa 2=[50]:=by decide +kernel
 have x:Lib.itoa 8=[56]:=by decide +kernel
 have c:Lib.itoa 0=[48]:=by decide +kernel
 have m:∀n,Lib.itoa n=[48]∨Lib.itoa n=[49]→Zd [] ⟨1,n,[]⟩=Lib.itoa n:=fun n hn=>by
  unfold Zd
  have e:zI [] 2 ⟨1,n,[]⟩=Lib.itoa n:=by simp [zI,zT]
  rw [if_pos (by simp [zb]),e]
  rcases hn with h | h <;> rw [h] <;> rfl
 have q:=(m 0 (.inl c)).trans c;have o:=(m 1 (.inr b)).trans b
 simp [Y6,Zc,Zb,vC,zl,Zy,vD,zM,Xm,Yx,vE,endsAt,Za,xH,Zz,Yg,q,o,y,b,u,x,zB,Zj,yK,yP]
theorem X5:decide (yP=yP)=true:=decide_eq_true rfl
theorem vL:yP.length≤1048576:=by decide
theorem vM:yP.length≤maxLen:=by decide
theorem VK:Vh 0 Zc=true:=by decide +kernel
theorem Vp:Xh Zc:=by
 refine ⟨by simp [Zc,Zk],by simp [Zc,Zk],by simp [Zc,Zk],by simp [Zc],?_,by simp [Zc],by simp [Zc,Zk],by simp [Zc],?_,by simp [Zc,Zk],by simp [Zc,Zk],by simp [Zc]⟩
 ·intro f b
  simp [Zc] at b
  rcases b with rfl | rfl
  ·exact ⟨by simp,by simp [Zk],by simp,by simp [Xm,zv]⟩
  ·exact ⟨by simp,by simp [Zk],by simp,by simp [Xm,zv]⟩
 ·intro s c
  simp [Zc] at c
  subst c;exact ⟨by simp [Zk],by simp [Zk],by simp,by simp⟩
theorem YW (nm:List UInt8) (n:Int) (w:World) :
  Calls Tryz.prog 32 #[.string (za nm),.int .i64 n] w fun e w'=>e=.returned (.slice (some ⟨w.heap.size,0,none⟩) 1 1)∧w'=w.alloc (.cells #[.string (za nm),.int .i64 1,.int .i64 n,.string ⟨#[]⟩] 58):=by
 go_enter Tryz.func32,Tryz.ntmps32
 go_wp2
 go_ret
 exact ⟨rfl,rfl⟩
theorem xQ (w:World) :
  Calls Tryz.prog 16 #[] w fun e w'=>∃bf bs:Option Addr,∃cf cs:Nat,e=.returned (VS (.slice bf 2 cf) (.slice bs 1 cs) Zc)∧Zl (fun k=>w.heap.size≤k) w' Zc (.slice bf 2 cf) (.slice bs 1 cs)∧Below w.heap.size w w':=by
 go_enter Tryz.func16,Tryz.ntmps16
 go_wp2_with fail
 refine (YW [105] 0 _).mono ?_;rintro e w2 ⟨rfl,rfl⟩;go_wp2_with fail
 refine (YW [110] 1 _).mono ?_;rintro e w3 ⟨rfl,rfl⟩;go_wp2
 obtain ⟨V,z,I,T,f1⟩:=yl w (.cells #[.int .i64 3,.int .i64 0,.int .i64 0,.slice (some ⟨w.heap.size+1+1+1,0,none⟩) 2 2,.string ⟨#[97,10]⟩,.int .i64 0,.slice (some ⟨w.heap.size+1+1+1+1,0,none⟩) 1 1,.int .i64 0,.int .i64 1,.string ⟨#[]⟩] 35);obtain ⟨W2,q,A,G,Z⟩:=yl V (.cells #[.string (za [105]),.int .i64 1,.int .i64 0,.string ⟨#[]⟩] 58);obtain ⟨W3,u,o,O,U⟩:=yl W2 (.cells #[.string (za [110]),.int .i64 1,.int .i64 1,.string ⟨#[]⟩] 58);obtain ⟨X,y,m,M,W⟩:=yl W3 (.cells #[.string ⟨#[109,97,105,110]⟩,.int .i64 8,.slice (some ⟨w.heap.size+1,0,none⟩) 1 1,.string ⟨#[102]⟩,.int .i64 2,.slice (some ⟨w.heap.size+1+1,0,none⟩) 1 1] 52);obtain ⟨W5,x,h,R,Y⟩:=yl X (.cells #[.int .i64 1,.int .i64 3,.string ⟨#[110,32,62,32,48]⟩,.string ⟨#[]⟩,.bool false] 82);rw [←z,←q,←u,←y,←x];have z1:V.heap.size=w.heap.size+1:=T.out;have z2:W2.heap.size=w.heap.size+1+1:=by have:=G.out;omega
 have z3:W3.heap.size=w.heap.size+1+1+1:=by have:=O.out;omega
 have z4:X.heap.size=w.heap.size+1+1+1+1:=by have:=M.out;omega
 have z5:W5.heap.size=w.heap.size+1+1+1+1+1:=by have:=R.out;omega
 rw [z1] at Z;rw [z2] at U;rw [z3] at W;rw [z4] at Y;have g4:=(h.block _ (by omega)).trans W
 have g3:=(h.block _ (by omega)).trans ((m.block _ (by omega)).trans U)
 have g2:=(h.block _ (by omega)).trans ((m.block _ (by omega)).trans ((o.block _ (by omega)).trans Z))
 have g1:=(h.block _ (by omega)).trans ((m.block _ (by omega)).trans ((o.block _ (by omega)).trans ((A.block _ (by omega)).trans f1)))
 have hB:Below w.heap.size w W5:=(((I.trans (A.mono (by omega))).trans (o.mono (by omega))).trans (m.mono (by omega))).trans (h.mono (by omega))
 obtain ⟨p0,p1,p2,p3,p4,p5,p6,p7,p8,p9⟩:=zE g1
 have hV:Zl (fun k=>w.heap.size≤k) W5 Zc (.slice (some ⟨w.heap.size+1+1+1,0,none⟩) 2 2) (.slice (some ⟨w.heap.size+1+1+1+1,0,none⟩) 1 1):=by
  have v1:Yf (fun k=>w.heap.size≤k) W5 (.slice (some ⟨w.heap.size+1,0,none⟩) 1 1) [Xm 105 0]:=by
   obtain ⟨a,b,c,d⟩:=ZZ g2;refine ⟨_,1,rfl,by simp,by decide,.inr ⟨_,0,rfl,by omega,by omega,fun j hj=>?_⟩⟩
   obtain rfl:j=0:=by simpa using hj
   exact ⟨a,b,c,d⟩
  have v2:Yf (fun k=>w.heap.size≤k) W5 (.slice (some ⟨w.heap.size+1+1,0,none⟩) 1 1) [Xm 110 1]:=by
   obtain ⟨a,b,c,d⟩:=ZZ g3;refine ⟨_,1,rfl,by simp,by decide,.inr ⟨_,0,rfl,by omega,by omega,fun j hj=>?_⟩⟩
   obtain rfl:j=0:=by simpa using hj
   exact ⟨a,b,c,d⟩
  constructor
  ·have c6:W5.cell? ⟨w.heap.size+1+1+1,0,none⟩=some (.string ⟨#[109,97,105,110]⟩)∧W5.cell? ⟨w.heap.size+1+1+1,1,none⟩=some (.int .i64 8)∧W5.cell? ⟨w.heap.size+1+1+1,2,none⟩=some (.slice (some ⟨w.heap.size+1,0,none⟩) 1 1)∧W5.cell? ⟨w.heap.size+1+1+1,3,none⟩=some (.string ⟨#[102]⟩)∧W5.cell? ⟨w.heap.size+1+1+1,4,none⟩=some (.int .i64 2)∧W5.cell? ⟨w.heap.size+1+1+1,5,none⟩=some (.slice (some ⟨w.heap.size+1+1,0,none⟩) 1 1):=by
    refine ⟨?_,?_,?_,?_,?_,?_⟩ <;> (simp only [World.cell?,g4];rfl)
   obtain ⟨F,K,H,B,D,a5⟩:=c6;refine ⟨_,2,rfl,by simp [Zc],by decide,.inr ⟨_,0,rfl,by omega,by omega,fun j hj=>?_⟩⟩
   have E:j<2:=hj;have J:j=0∨j=1:=by omega
   rcases J with rfl | rfl
   ·exact ⟨F,K,_,H,v1⟩
   ·exact ⟨B,D,_,a5,v2⟩
  ·obtain ⟨F,K,H,B,D⟩:=zU Y
   refine ⟨_,1,rfl,by simp [Zc],by decide,.inr ⟨_,0,rfl,by omega,by omega,fun j hj=>?_⟩⟩
   have E:j<1:=hj;obtain rfl:j=0:=by omega
   exact ⟨F,K,H,B,D⟩
 clear z q u y x;exact bodyPost_ret (v:=.agg #[.int .i64 3,.int .i64 0,.int .i64 0,.slice (some ⟨w.heap.size+1+1+1,0,none⟩) 2 2,.string ⟨#[97,10]⟩,.int .i64 0,.slice (some ⟨w.heap.size+1+1+1+1,0,none⟩) 1 1,.int .i64 0,.int .i64 1,.string ⟨#[]⟩]) (by simp [results,Tryz.results16,go_sem,p0,p1,p2,p3,p4,p5,p6,p7,p8,p9]) rfl ⟨_,_,_,_,rfl,hV,hB⟩
theorem xR (w:World) (ht:yW w) :
  Calls Tryz.prog 10 #[] w fun e w'=>e=.returned (.bool true)∧Below w.heap.size w w':=by
 have T:Hid (yW w):=ht;clear ht;have ce:=xQ w
 go_enter Tryz.func10,Tryz.ntmps10
 go_wp2_with fail
 refine ce.mono ?_;clear ce;rintro e w1 ⟨V,J,Y,O,rfl,F,G⟩;have M:Hid (Zl (fun k=>w.heap.size≤k) w1 Zc (.slice V 2 Y) (.slice J 1 O)):=F
 have z:Hid (Below w.heap.size w w1):=G;clear F G;have W:=Va 9 w1;rw [show mostN 9=9 from rfl] at W
 obtain ⟨K,b⟩:∃K,K=VS (.slice V 2 Y) (.slice J 1 O) Zc:=⟨_,rfl⟩;rw [←b];have X:Hid (K=VS (.slice V 2 Y) (.slice J 1 O) Zc):=b;clear b;go_wp2_with fail
 refine W.mono ?_;clear W;rintro e w2 ⟨rfl,Z,m⟩;have c:Hid (Below w.heap.size w w2):=z.out.trans (m.mono z.out.size);have R:=X4 Zc _ _ w2 Z (M.out.below m) Vp (T.out.below c.out (Nat.le_refl _));rw [←X.out] at R;clear m Z;go_wp2_with fail
 refine R.mono ?_;clear R;rintro e h (⟨hf,-,-⟩ | ⟨-,r,rfl,y⟩)
 ·rw [List.length_nil,VK] at hf
  cases hf
 ·rw [Vo] at y
  have A:Hid (Below w.heap.size w h):=c.out.trans (y.below.mono c.out.size);have I:=A.out.size;have HJ:Hid _:=y;have hl:=zj.lit h.heap.size h h yP (Below.refl _ _) (Nat.le_refl _) vM;have D:=y.new (w1:=h.alloc (.cells (strC yP).toArray 9)) ((Below.refl _ _).alloc (Nat.le_refl _) _);have o:=YE _ _ yP yP r _ _ D.in hl.in vL;rw [X5] at o;obtain ⟨nr,br,cr,rfl⟩:=Z0 y.row;have H:Below w.heap.size w (h.alloc (.cells (strC yP).toArray 9)):=A.out.alloc I _;have E:Hid (Below w.heap.size w (h.alloc (.cells (strC yP).toArray 9))):=H;clear y hl D H;go_wp2_with fail
  refine o.mono ?_;clear o;rintro e U ⟨rfl,B⟩;have q:Hid (Below w.heap.size w U):=E.out.trans (B.mono E.out.size);clear B;have x:=ZI 1 U (T.out.below q.out (Nat.le_refl _));rw [show zw 1=[100,105,118,105,115,105,111,110] from rfl] at x
  go_wp2_with fail
  refine x.mono ?_;clear x;rintro e w6 ⟨rfl,rfl⟩;have u:=ZI 11 U (T.out.below q.out (Nat.le_refl _));rw [show zw 11=[] from rfl] at u
  go_wp2_with fail
  refine u.mono ?_;clear u;rintro e w7 ⟨rfl,rfl⟩;go_wp2
  go_ret
  exact ⟨rfl,q.out⟩
end Go.Proofs.YtbjndgachcdbcaaGreatDoor
