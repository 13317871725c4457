import Derived.Test.YtbjndgachcdbcaaGreatDoorVBytes
import Derived.Test.YtbjndgachcdbcaaGreatDoorVSame
namespace Go.Proofs.YtbjndgachcdbcaaGreatDoor
open Go.RowKit Go.Shelf
set_option maxHeartbeats 16000000
set_option maxRecDepth 100000
def Xm (c:UInt8) (n:Int):Bn:=⟨[c],⟨1,n,[]⟩⟩
def Zc:Vw:=⟨⟨3,0,0,[⟨[109,97,105,110],8,[Xm 105 0]⟩,⟨[102],2,[Xm 110 1]⟩],[97,10]⟩,0,[⟨1,3,[110,32,62,32,48],[],false⟩],⟨0,1,[]⟩⟩
def yP:List (List UInt8):=[[97,116,32,51,32,114,117,110,110,105,110,103],[62,32,102,58,50,32,110,61,49],[32,32,109,97,105,110,58,56,32,105,61,48],[124,32,97],[35,49,32,108,105,110,101,32,51,32,105,102,32,110,32,62,32,48],[111,107,32,49]]
theorem Vo:Y6 [] Zc=yP:=by
 have x:Lib.itoa 3=[51]:=by decide +kernel
 have b:Lib.itoa 1=[49]:=by decide +kernel
 have u:Lib.itoa 2=[50]:=by decide +kernel
 have q:Lib.itoa 8=[56]:=by decide +kernel
 have m:Lib.itoa 0=[48]:=by decide +kernel
 have c:∀n,Lib.itoa n=[48]∨Lib.itoa n=[49]→Zd [] ⟨1,n,[]⟩=Lib.itoa n:=fun n hn=>by
  unfold Zd
  have e:zI [] 2 ⟨1,n,[]⟩=Lib.itoa n:=by simp [zI,zT]
  rw [if_pos (by simp [zb]),e]
  rcases hn with h | h <;> rw [h] <;> rfl
 have o:=(c 0 (.inl m)).trans m;have y:=(c 1 (.inr b)).trans b
 simp [Y6,Zc,Zb,vC,zl,Zy,vD,zM,Xm,Yx,vE,endsAt,Za,xH,Zz,Yg,o,y,x,b,u,q,zB,Zj,yK,yP]
theorem X5:decide (yP=yP)=true:=decide_eq_true rfl
theorem vL:yP.length≤1048576:=by decide
theorem vM:yP.length≤maxLen:=by decide
theorem VK:Vh 0 Zc=true:=by decide +kernel
theorem Vp:Xh Zc:=by
 refine ⟨by simp [Zc,Zk],by simp [Zc,Zk],by simp [Zc,Zk],by simp [Zc],?_,by simp [Zc],by simp [Zc,Zk],by simp [Zc],?_,by simp [Zc,Zk],by simp [Zc,Zk],by simp [Zc]⟩
 ·intro f c
  simp [Zc] at c
  rcases c with rfl | rfl
  ·exact ⟨by simp,by simp [Zk],by simp,by simp [Xm,zv]⟩
  ·exact ⟨by simp,by simp [Zk],by simp,by simp [Xm,zv]⟩
 ·intro s b
  simp [Zc] at b
  subst b;exact ⟨by simp [Zk],by simp [Zk],by simp,by simp⟩
theorem YW (nm:List UInt8) (n:Int) (w:World) :
  Calls Tryz.prog 32 #[.string (za nm),.int .i64 n] w fun e w'=>e=.returned (.slice (some ⟨w.heap.size,0,none⟩) 1 1)∧w'=w.alloc (.cells #[.string (za nm),.int .i64 1,.int .i64 n,.string ⟨#[]⟩] 58):=by
 go_enter Tryz.func32,Tryz.ntmps32
 go_wp2
 go_ret
 exact ⟨rfl,rfl⟩
theorem xQ (w:World) :
  Calls Tryz.prog 16 #[] w fun e w'=>∃bf bs:Option Addr,∃cf cs:Nat,e=.returned (VS (.slice bf 2 cf) (.slice bs 1 cs) Zc)∧Zl (fun k=>w.heap.size≤k) w' Zc (.slice bf 2 cf) (.slice bs 1 cs)∧Below w.heap.size w w':=by
 go_enter Tryz.func16,Tryz.ntmps16
 go_wp2_with fail
 refine (YW [105] 0 _).mono ?_;rintro e w2 ⟨rfl,rfl⟩;go_wp2_with fail
 refine (YW [110] 1 _).mono ?_;rintro e w3 ⟨rfl,rfl⟩;go_wp2
 obtain ⟨W,x,K,D,f1⟩:=yl w (.cells #[.int .i64 3,.int .i64 0,.int .i64 0,.slice (some ⟨w.heap.size+1+1+1,0,none⟩) 2 2,.string ⟨#[97,10]⟩,.int .i64 0,.slice (some ⟨w.heap.size+1+1+1+1,0,none⟩) 1 1,.int .i64 0,.int .i64 1,.string ⟨#[]⟩] 35);obtain ⟨U,q,A,E,Y⟩:=yl W (.cells #[.string (za [105]),.int .i64 1,.int .i64 0,.string ⟨#[]⟩] 58);obtain ⟨Z,u,o,H,X⟩:=yl U (.cells #[.string (za [110]),.int .i64 1,.int .i64 1,.string ⟨#[]⟩] 58);obtain ⟨W4,z,m,G,f4⟩:=yl Z (.cells #[.string ⟨#[109,97,105,110]⟩,.int .i64 8,.slice (some ⟨w.heap.size+1,0,none⟩) 1 1,.string ⟨#[102]⟩,.int .i64 2,.slice (some ⟨w.heap.size+1+1,0,none⟩) 1 1] 52);obtain ⟨W5,y,h,T,V⟩:=yl W4 (.cells #[.int .i64 1,.int .i64 3,.string ⟨#[110,32,62,32,48]⟩,.string ⟨#[]⟩,.bool false] 82);rw [←x,←q,←u,←z,←y];have z1:W.heap.size=w.heap.size+1:=D.out;have z2:U.heap.size=w.heap.size+1+1:=by have:=E.out;omega
 have z3:Z.heap.size=w.heap.size+1+1+1:=by have:=H.out;omega
 have z4:W4.heap.size=w.heap.size+1+1+1+1:=by have:=G.out;omega
 have z5:W5.heap.size=w.heap.size+1+1+1+1+1:=by have:=T.out;omega
 rw [z1] at Y;rw [z2] at X;rw [z3] at f4;rw [z4] at V;have g4:=(h.block _ (by omega)).trans f4
 have g3:=(h.block _ (by omega)).trans ((m.block _ (by omega)).trans X)
 have g2:=(h.block _ (by omega)).trans ((m.block _ (by omega)).trans ((o.block _ (by omega)).trans Y))
 have g1:=(h.block _ (by omega)).trans ((m.block _ (by omega)).trans ((o.block _ (by omega)).trans ((A.block _ (by omega)).trans f1)))
 have hB:Below w.heap.size w W5:=(((K.trans (A.mono (by omega))).trans (o.mono (by omega))).trans (m.mono (by omega))).trans (h.mono (by omega))
 obtain ⟨p0,p1,p2,p3,p4,p5,p6,p7,p8,p9⟩:=zE g1
 have hV:Zl (fun k=>w.heap.size≤k) W5 Zc (.slice (some ⟨w.heap.size+1+1+1,0,none⟩) 2 2) (.slice (some ⟨w.heap.size+1+1+1+1,0,none⟩) 1 1):=by
  have v1:Yf (fun k=>w.heap.size≤k) W5 (.slice (some ⟨w.heap.size+1,0,none⟩) 1 1) [Xm 105 0]:=by
   obtain ⟨a,b,c,d⟩:=ZZ g2;refine ⟨_,1,rfl,by simp,by decide,.inr ⟨_,0,rfl,by omega,by omega,fun j hj=>?_⟩⟩
   obtain rfl:j=0:=by simpa using hj
   exact ⟨a,b,c,d⟩
  have v2:Yf (fun k=>w.heap.size≤k) W5 (.slice (some ⟨w.heap.size+1+1,0,none⟩) 1 1) [Xm 110 1]:=by
   obtain ⟨a,b,c,d⟩:=ZZ g3;refine ⟨_,1,rfl,by simp,by decide,.inr ⟨_,0,rfl,by omega,by omega,fun j hj=>?_⟩⟩
   obtain rfl:j=0:=by simpa using hj
   exact ⟨a,b,c,d⟩
  constructor
  ·have c6:W5.cell? ⟨w.heap.size+1+1+1,0,none⟩=some (.string ⟨#[109,97,105,110]⟩)∧W5.cell? ⟨w.heap.size+1+1+1,1,none⟩=some (.int .i64 8)∧W5.cell? ⟨w.heap.size+1+1+1,2,none⟩=some (.slice (some ⟨w.heap.size+1,0,none⟩) 1 1)∧W5.cell? ⟨w.heap.size+1+1+1,3,none⟩=some (.string ⟨#[102]⟩)∧W5.cell? ⟨w.heap.size+1+1+1,4,none⟩=some (.int .i64 2)∧W5.cell? ⟨w.heap.size+1+1+1,5,none⟩=some (.slice (some ⟨w.heap.size+1+1,0,none⟩) 1 1):=by
    refine ⟨?_,?_,?_,?_,?_,?_⟩ <;> (simp only [World.cell?,g4];rfl)
   obtain ⟨R,J,O,M,I,a5⟩:=c6;refine ⟨_,2,rfl,by simp [Zc],by decide,.inr ⟨_,0,rfl,by omega,by omega,fun j hj=>?_⟩⟩
   have F:j<2:=hj;have B:j=0∨j=1:=by omega
   rcases B with rfl | rfl
   ·exact ⟨R,J,_,O,v1⟩
   ·exact ⟨M,I,_,a5,v2⟩
  ·obtain ⟨R,J,O,M,I⟩:=zU V
   refine ⟨_,1,rfl,by simp [Zc],by decide,.inr ⟨_,0,rfl,by omega,by omega,fun j hj=>?_⟩⟩
   have F:j<1:=hj;obtain rfl:j=0:=by omega
   exact ⟨R,J,O,M,I⟩
 clear x q u z y;exact bodyPost_ret (v:=.agg #[.int .i64 3,.int .i64 0,.int .i64 0,.slice (some ⟨w.heap.size+1+1+1,0,none⟩) 2 2,.string ⟨#[97,10]⟩,.int .i64 0,.slice (some ⟨w.heap.size+1+1+1+1,0,none⟩) 1 1,.int .i64 0,.int .i64 1,.string ⟨#[]⟩]) (by simp [results,Tryz.results16,go_sem,p0,p1,p2,p3,p4,p5,p6,p7,p8,p9]) rfl ⟨_,_,_,_,rfl,hV,hB⟩
theorem xR (w:World) (ht:yW w) :
  Calls Tryz.prog 10 #[] w fun e w'=>e=.returned (.bool true)∧Below w.heap.size w w':=by
 have U:Hid (yW w):=ht;clear ht;have Z:=xQ w
 go_enter Tryz.func10,Tryz.ntmps10
 go_wp2_with fail
 refine Z.mono ?_;clear Z;rintro e w1 ⟨V,Y,X,M,rfl,A,H⟩;have W:Hid (Zl (fun k=>w.heap.size≤k) w1 Zc (.slice V 2 X) (.slice Y 1 M)):=A
 have F:Hid (Below w.heap.size w w1):=H;clear A H;have R:=Va 9 w1;rw [show mostN 9=9 from rfl] at R
 obtain ⟨K,c⟩:∃K,K=VS (.slice V 2 X) (.slice Y 1 M) Zc:=⟨_,rfl⟩;rw [←c];have J:Hid (K=VS (.slice V 2 X) (.slice Y 1 M) Zc):=c;clear c;go_wp2_with fail
 refine R.mono ?_;clear R;rintro e w2 ⟨rfl,H2,x⟩;have q:Hid (Below w.heap.size w w2):=F.out.trans (x.mono F.out.size);have T:=X4 Zc _ _ w2 H2 (W.out.below x) Vp (U.out.below q.out (Nat.le_refl _));rw [←J.out] at T;clear x H2;go_wp2_with fail
 refine T.mono ?_;clear T;rintro e h (⟨hf,-,-⟩ | ⟨-,r,rfl,y⟩)
 ·rw [List.length_nil,VK] at hf
  cases hf
 ·rw [Vo] at y
  have G:Hid (Below w.heap.size w h):=q.out.trans (y.below.mono q.out.size);have E:=G.out.size;have HJ:Hid _:=y;have hl:=zj.lit h.heap.size h h yP (Below.refl _ _) (Nat.le_refl _) vM;have B:=y.new (w1:=h.alloc (.cells (strC yP).toArray 9)) ((Below.refl _ _).alloc (Nat.le_refl _) _);have o:=YE _ _ yP yP r _ _ B.in hl.in vL;rw [X5] at o;obtain ⟨nr,br,cr,rfl⟩:=Z0 y.row;have z:Below w.heap.size w (h.alloc (.cells (strC yP).toArray 9)):=G.out.alloc E _;have I:Hid (Below w.heap.size w (h.alloc (.cells (strC yP).toArray 9))):=z;clear y hl B z;go_wp2_with fail
  refine o.mono ?_;clear o;rintro e O ⟨rfl,D⟩;have b:Hid (Below w.heap.size w O):=I.out.trans (D.mono I.out.size);clear D;have m:=ZI 1 O (U.out.below b.out (Nat.le_refl _));rw [show zw 1=[100,105,118,105,115,105,111,110] from rfl] at m
  go_wp2_with fail
  refine m.mono ?_;clear m;rintro e w6 ⟨rfl,rfl⟩;have u:=ZI 11 O (U.out.below b.out (Nat.le_refl _));rw [show zw 11=[] from rfl] at u
  go_wp2_with fail
  refine u.mono ?_;clear u;rintro e w7 ⟨rfl,rfl⟩;go_wp2
  go_ret
  exact ⟨rfl,b.out⟩
end Go.Proofs.YtbjndgachcdbcaaGreatDoor
