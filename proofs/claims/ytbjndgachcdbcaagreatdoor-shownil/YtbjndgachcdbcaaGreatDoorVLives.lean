import Derived.Test.YtbjndgachcdbcaaGreatDoorVBytes
import Derived.Test.YtbjndgachcdbcaaGreatDoorVSame
namespace Go.Proofs.YtbjndgachcdbcaaGreatDoor
open Go.RowKit Go.Shelf
set_option maxHeartbeats 16000000
set_option maxRecDepth 100000
def XF (c:UInt8) (n:Int):Bn:=⟨[c],⟨1,n,[]⟩⟩
def Zd:Vw:=⟨⟨3,0,0,[⟨[109,97,105,110],8,[XF 105 0]⟩,⟨[102],2,[XF 110 1]⟩],[97,10]⟩,0,[⟨1,3,[110,32,62,32,48],[],false⟩],⟨0,1,[]⟩⟩
def yX:List (List UInt8):=[[97,116,32,51,32,114,117,110,110,105,110,103],[62,32,102,58,50,32,110,61,49],[32,32,109,97,105,110,58,56,32,105,61,48],[124,32,97],[35,49,32,108,105,110,101,32,51,32,105,102,32,110,32,62,32,48],[111,107,32,49]]
theorem VW:xj [] Zd=yX:=by
 have u:Lib.itoa 3=[51]:=by decide +kernel
 have b:Lib.itoa 1=[49]:=by decide +kernel
 have x:Lib.itoa 2=[50]:=by decide +kernel
 have o:Lib.itoa 8=[56]:=by decide +kernel
 have c:Lib.itoa 0=[48]:=by decide +kernel
 have m:∀n,Lib.itoa n=[48]∨Lib.itoa n=[49]→Ze [] ⟨1,n,[]⟩=Lib.itoa n:=fun n hn=>by
  unfold Ze
  have e:zH [] 2 ⟨1,n,[]⟩=Lib.itoa n:=by simp [zH,zT]
  rw [if_pos (by simp [zb]),e]
  rcases hn with h | h <;> rw [h] <;> rfl
 have y:=(m 0 (.inl c)).trans c;have q:=(m 1 (.inr b)).trans b
 simp [xj,Zd,Zc,Vb,zl,ZA,Vc,zL,XF,YH,Vd,endsAt,Zb,xV,ZB,Ys,y,q,u,b,x,o,zB,Zl,yR,yX]
theorem vE:decide (yX=yX)=true:=decide_eq_true rfl
theorem Vm:yX.length≤1048576:=by decide
theorem Vn:yX.length≤maxLen:=by decide
theorem un:VP 0 Zd=true:=by decide +kernel
theorem VX:Xy Zd:=by
 refine ⟨by simp [Zd,Zm],by simp [Zd,Zm],by simp [Zd,Zm],by simp [Zd],?_,by simp [Zd],by simp [Zd,Zm],by simp [Zd],?_,by simp [Zd,Zm],by simp [Zd,Zm],by simp [Zd]⟩
 ·intro f b
  simp [Zd] at b
  rcases b with rfl | rfl
  ·exact ⟨by simp,by simp [Zm],by simp,by simp [XF,zw]⟩
  ·exact ⟨by simp,by simp [Zm],by simp,by simp [XF,zw]⟩
 ·intro s c
  simp [Zd] at c
  subst c;exact ⟨by simp [Zm],by simp [Zm],by simp,by simp⟩
theorem Y7 (nm:List UInt8) (n:Int) (w:World) :
  Calls Tryz.prog 32 #[.string (za nm),.int .i64 n] w fun e w'=>e=.returned (.slice (some ⟨w.heap.size,0,none⟩) 1 1)∧w'=w.alloc (.cells #[.string (za nm),.int .i64 1,.int .i64 n,.string ⟨#[]⟩] 58):=by
 go_enter Tryz.func32,Tryz.ntmps32
 go_wp2
 go_ret
 exact ⟨rfl,rfl⟩
theorem Xe (w:World) :
  Calls Tryz.prog 16 #[] w fun e w'=>∃bf bs:Option Addr,∃cf cs:Nat,e=.returned (VO (.slice bf 2 cf) (.slice bs 1 cs) Zd)∧Zn (fun k=>w.heap.size≤k) w' Zd (.slice bf 2 cf) (.slice bs 1 cs)∧Below w.heap.size w w':=by
 go_enter Tryz.func16,Tryz.ntmps16
 go_wp2_with fail
 refine (Y7 [105] 0 _).mono ?_;rintro e w2 ⟨rfl,rfl⟩;go_wp2_with fail
 refine (Y7 [110] 1 _).mono ?_;rintro e w3 ⟨rfl,rfl⟩;go_wp2
 obtain ⟨W1,q,D,K,f1⟩:=Z5 w (.cells #[.int .i64 3,.int .i64 0,.int .i64 0,.slice (some ⟨w.heap.size+1+1+1,0,none⟩) 2 2,.string ⟨#[97,10]⟩,.int .i64 0,.slice (some ⟨w.heap.size+1+1+1+1,0,none⟩) 1 1,.int .i64 0,.int .i64 1,.string ⟨#[]⟩] 35);obtain ⟨V,A,z,R,U⟩:=Z5 W1 (.cells #[.string (za [105]),.int .i64 1,.int .i64 0,.string ⟨#[]⟩] 58);obtain ⟨Y,x,o,O,X⟩:=Z5 V (.cells #[.string (za [110]),.int .i64 1,.int .i64 1,.string ⟨#[]⟩] 58);obtain ⟨Z,y,m,T,f4⟩:=Z5 Y (.cells #[.string ⟨#[109,97,105,110]⟩,.int .i64 8,.slice (some ⟨w.heap.size+1,0,none⟩) 1 1,.string ⟨#[102]⟩,.int .i64 2,.slice (some ⟨w.heap.size+1+1,0,none⟩) 1 1] 52);obtain ⟨W5,u,h,E,W⟩:=Z5 Z (.cells #[.int .i64 1,.int .i64 3,.string ⟨#[110,32,62,32,48]⟩,.string ⟨#[]⟩,.bool false] 82);rw [←q,←A,←x,←y,←u];have z1:W1.heap.size=w.heap.size+1:=K.out;have z2:V.heap.size=w.heap.size+1+1:=by have:=R.out;omega
 have z3:Y.heap.size=w.heap.size+1+1+1:=by have:=O.out;omega
 have z4:Z.heap.size=w.heap.size+1+1+1+1:=by have:=T.out;omega
 have z5:W5.heap.size=w.heap.size+1+1+1+1+1:=by have:=E.out;omega
 rw [z1] at U;rw [z2] at X;rw [z3] at f4;rw [z4] at W;have g4:=(h.block _ (by omega)).trans f4
 have g3:=(h.block _ (by omega)).trans ((m.block _ (by omega)).trans X)
 have g2:=(h.block _ (by omega)).trans ((m.block _ (by omega)).trans ((o.block _ (by omega)).trans U))
 have g1:=(h.block _ (by omega)).trans ((m.block _ (by omega)).trans ((o.block _ (by omega)).trans ((z.block _ (by omega)).trans f1)))
 have hB:Below w.heap.size w W5:=(((D.trans (z.mono (by omega))).trans (o.mono (by omega))).trans (m.mono (by omega))).trans (h.mono (by omega))
 obtain ⟨p0,p1,p2,p3,p4,p5,p6,p7,p8,p9⟩:=zu g1
 have hV:Zn (fun k=>w.heap.size≤k) W5 Zd (.slice (some ⟨w.heap.size+1+1+1,0,none⟩) 2 2) (.slice (some ⟨w.heap.size+1+1+1+1,0,none⟩) 1 1):=by
  have v1:Yr (fun k=>w.heap.size≤k) W5 (.slice (some ⟨w.heap.size+1,0,none⟩) 1 1) [XF 105 0]:=by
   obtain ⟨a,b,c,d⟩:=Z0 g2;refine ⟨_,1,rfl,by simp,by decide,.inr ⟨_,0,rfl,by omega,by omega,fun j hj=>?_⟩⟩
   obtain rfl:j=0:=by simpa using hj
   exact ⟨a,b,c,d⟩
  have v2:Yr (fun k=>w.heap.size≤k) W5 (.slice (some ⟨w.heap.size+1+1,0,none⟩) 1 1) [XF 110 1]:=by
   obtain ⟨a,b,c,d⟩:=Z0 g3;refine ⟨_,1,rfl,by simp,by decide,.inr ⟨_,0,rfl,by omega,by omega,fun j hj=>?_⟩⟩
   obtain rfl:j=0:=by simpa using hj
   exact ⟨a,b,c,d⟩
  constructor
  ·have c6:W5.cell? ⟨w.heap.size+1+1+1,0,none⟩=some (.string ⟨#[109,97,105,110]⟩)∧W5.cell? ⟨w.heap.size+1+1+1,1,none⟩=some (.int .i64 8)∧W5.cell? ⟨w.heap.size+1+1+1,2,none⟩=some (.slice (some ⟨w.heap.size+1,0,none⟩) 1 1)∧W5.cell? ⟨w.heap.size+1+1+1,3,none⟩=some (.string ⟨#[102]⟩)∧W5.cell? ⟨w.heap.size+1+1+1,4,none⟩=some (.int .i64 2)∧W5.cell? ⟨w.heap.size+1+1+1,5,none⟩=some (.slice (some ⟨w.heap.size+1+1,0,none⟩) 1 1):=by
    refine ⟨?_,?_,?_,?_,?_,?_⟩ <;> (simp only [World.cell?,g4];rfl)
   obtain ⟨J,B,H,F,G,a5⟩:=c6;refine ⟨_,2,rfl,by simp [Zd],by decide,.inr ⟨_,0,rfl,by omega,by omega,fun j hj=>?_⟩⟩
   have M:j<2:=hj;have I:j=0∨j=1:=by omega
   rcases I with rfl | rfl
   ·exact ⟨J,B,_,H,v1⟩
   ·exact ⟨F,G,_,a5,v2⟩
  ·obtain ⟨J,B,H,F,G⟩:=zU W
   refine ⟨_,1,rfl,by simp [Zd],by decide,.inr ⟨_,0,rfl,by omega,by omega,fun j hj=>?_⟩⟩
   have M:j<1:=hj;obtain rfl:j=0:=by omega
   exact ⟨J,B,H,F,G⟩
 clear q A x y u;exact bodyPost_ret (v:=.agg #[.int .i64 3,.int .i64 0,.int .i64 0,.slice (some ⟨w.heap.size+1+1+1,0,none⟩) 2 2,.string ⟨#[97,10]⟩,.int .i64 0,.slice (some ⟨w.heap.size+1+1+1+1,0,none⟩) 1 1,.int .i64 0,.int .i64 1,.string ⟨#[]⟩]) (by simp [results,Tryz.results16,go_sem,p0,p1,p2,p3,p4,p5,p6,p7,p8,p9]) rfl ⟨_,_,_,_,rfl,hV,hB⟩
theorem Xf (w:World) (ht:Yc w) :
  Calls Tryz.prog 10 #[] w fun e w'=>e=.returned (.bool true)∧Below w.heap.size w w':=by
 have K:Hid (Yc w):=ht;clear ht;have ce:=Xe w
 go_enter Tryz.func10,Tryz.ntmps10
 go_wp2_with fail
 refine ce.mono ?_;clear ce;rintro e w1 ⟨X,J,M,R,rfl,D,I⟩;have O:Hid (Zn (fun k=>w.heap.size≤k) w1 Zd (.slice X 2 M) (.slice J 1 R)):=D
 have z:Hid (Below w.heap.size w w1):=I;clear D I;have V:=VH 9 w1;rw [show mostN 9=9 from rfl] at V
 obtain ⟨Y,x⟩:∃Y,Y=VO (.slice X 2 M) (.slice J 1 R) Zd:=⟨_,rfl⟩;rw [←x];have T:Hid (Y=VO (.slice X 2 M) (.slice J 1 R) Zd):=x;clear x;go_wp2_with fail
 refine V.mono ?_;clear V;rintro e w2 ⟨rfl,Z,q⟩;have m:Hid (Below w.heap.size w w2):=z.out.trans (q.mono z.out.size);have U:=vC Zd _ _ w2 Z (O.out.below q) VX (K.out.below m.out (Nat.le_refl _));rw [←T.out] at U;clear q Z;go_wp2_with fail
 refine U.mono ?_;clear U;rintro e h (⟨hf,-,-⟩ | ⟨-,r,rfl,y⟩)
 ·rw [List.length_nil,un] at hf
  cases hf
 ·rw [VW] at y
  have B:Hid (Below w.heap.size w h):=m.out.trans (y.below.mono m.out.size);have G:=B.out.size;have HJ:Hid _:=y;have hl:=zj.lit h.heap.size h h yX (Below.refl _ _) (Nat.le_refl _) Vn;have E:=y.new (w1:=h.alloc (.cells (strC yX).toArray 9)) ((Below.refl _ _).alloc (Nat.le_refl _) _);have c:=YO _ _ yX yX r _ _ E.in hl.in Vm;rw [vE] at c;obtain ⟨nr,br,cr,rfl⟩:=Z1 y.row;have H:Below w.heap.size w (h.alloc (.cells (strC yX).toArray 9)):=B.out.alloc G _;have A:Hid (Below w.heap.size w (h.alloc (.cells (strC yX).toArray 9))):=H;clear y hl E H;go_wp2_with fail
  refine c.mono ?_;clear c;rintro e W ⟨rfl,F⟩;have u:Hid (Below w.heap.size w W):=A.out.trans (F.mono A.out.size);clear F;have o:=Z3 1 W (K.out.below u.out (Nat.le_refl _));rw [show zN 1=[100,105,118,105,115,105,111,110] from rfl] at o
  go_wp2_with fail
  refine o.mono ?_;clear o;rintro e w6 ⟨rfl,rfl⟩;have b:=Z3 11 W (K.out.below u.out (Nat.le_refl _));rw [show zN 11=[] from rfl] at b
  go_wp2_with fail
  refine b.mono ?_;clear b;rintro e w7 ⟨rfl,rfl⟩;go_wp2
  go_ret
  exact ⟨rfl,u.out⟩
end Go.Proofs.YtbjndgachcdbcaaGreatDoor
