import Derived.Test.YtbjndgachcdbcaaGreatDoorVBytes
import Derived.Test.YtbjndgachcdbcaaGreatDoorVSame
namespace Go.Proofs.YtbjndgachcdbcaaGreatDoor
open Go.RowKit Go.Shelf
set_option maxHeartbeats 16000000
set_option maxRecDepth 100000
def XF (c:UInt8) (n:Int):Bn:=⟨[c],⟨1,n,[]⟩⟩
def Zd:Vw:=⟨⟨3,0,0,[⟨[109,97,105,110],8,[XF 105 0]⟩,⟨[102],2,[XF 110 1]⟩],[97,10]⟩,0,[⟨1,3,[110,32,62,32,48],[],false⟩],⟨0,1,[]⟩⟩
def yX:List (List UInt8):=[[97,116,32,51,32,114,117,110,110,105,110,103],[62,32,102,58,50,32,110,61,49],[32,32,109,97,105,110,58,56,32,105,61,48],[124,32,97],[35,49,32,108,105,110,101,32,51,32,105,102,32,110,32,62,32,48],[111,107,32,49]]
theorem VW:xj [] Zd=yX:=by
 have y:Lib.itoa 3=[51]:=by decide +kernel
 have b:Lib.itoa 1=[49]:=by decide +kernel
 have o:Lib.itoa 2=[50]:=by decide +kernel
 have u:Lib.itoa 8=[56]:=by decide +kernel
 have m:Lib.itoa 0=[48]:=by decide +kernel
 have c:∀n,Lib.itoa n=[48]∨Lib.itoa n=[49]→Ze [] ⟨1,n,[]⟩=Lib.itoa n:=fun n hn=>by
  unfold Ze
  have e:zH [] 2 ⟨1,n,[]⟩=Lib.itoa n:=by simp [zH,zT]
  rw [if_pos (by simp [zb]),e]
  rcases hn with h | h <;> rw [h] <;> rfl
 have q:=(c 0 (.inl m)).trans m;have x:=(c 1 (.inr b)).trans b
 simp [xj,Zd,Zc,Vb,zl,ZA,Vc,zL,XF,YH,Vd,endsAt,Zb,xV,ZB,Ys,q,x,y,b,o,u,zB,Zl,yR,yX]
theorem vE:decide (yX=yX)=true:=decide_eq_true rfl
theorem Vm:yX.length≤1048576:=by decide
theorem Vn:yX.length≤maxLen:=by decide
theorem un:VP 0 Zd=true:=by decide +kernel
theorem VX:Xy Zd:=by
 refine ⟨by simp [Zd,Zm],by simp [Zd,Zm],by simp [Zd,Zm],by simp [Zd],?_,by simp [Zd],by simp [Zd,Zm],by simp [Zd],?_,by simp [Zd,Zm],by simp [Zd,Zm],by simp [Zd]⟩
 ·intro f c
  simp [Zd] at c
  rcases c with rfl | rfl
  ·exact ⟨by simp,by simp [Zm],by simp,by simp [XF,zw]⟩
  ·exact ⟨by simp,by simp [Zm],by simp,by simp [XF,zw]⟩
 ·intro s b
  simp [Zd] at b
  subst b;exact ⟨by simp [Zm],by simp [Zm],by simp,by simp⟩
theorem Y7 (nm:List UInt8) (n:Int) (w:World) :
  Calls Tryz.prog 32 #[.string (za nm),.int .i64 n] w fun e w'=>e=.returned (.slice (some ⟨w.heap.size,0,none⟩) 1 1)∧w'=w.alloc (.cells #[.string (za nm),.int .i64 1,.int .i64 n,.string ⟨#[]⟩] 58):=by
 go_enter Tryz.func32,Tryz.ntmps32
 go_wp2
 go_ret
 exact ⟨rfl,rfl⟩
theorem Xe (w:World) :
  Calls Tryz.prog 16 #[] w fun e w'=>∃bf bs:Option Addr,∃cf cs:Nat,e=.returned (VO (.slice bf 2 cf) (.slice bs 1 cs) Zd)∧Zn (fun k=>w.heap.size≤k) w' Zd (.slice bf 2 cf) (.slice bs 1 cs)∧Below w.heap.size w w':=by
 go_enter Tryz.func16,Tryz.ntmps16
 go_wp2_with fail
 refine (Y7 [105] 0 _).mono ?_;rintro e w2 ⟨rfl,rfl⟩;go_wp2_with fail
 refine (Y7 [110] 1 _).mono ?_;rintro e w3 ⟨rfl,rfl⟩;go_wp2
 obtain ⟨X,y,I,E,f1⟩:=Z5 w (.cells #[.int .i64 3,.int .i64 0,.int .i64 0,.slice (some ⟨w.heap.size+1+1+1,0,none⟩) 2 2,.string ⟨#[97,10]⟩,.int .i64 0,.slice (some ⟨w.heap.size+1+1+1+1,0,none⟩) 1 1,.int .i64 0,.int .i64 1,.string ⟨#[]⟩] 35);obtain ⟨Z,x,z,F,W⟩:=Z5 X (.cells #[.string (za [105]),.int .i64 1,.int .i64 0,.string ⟨#[]⟩] 58);obtain ⟨W3,A,o,T,f3⟩:=Z5 Z (.cells #[.string (za [110]),.int .i64 1,.int .i64 1,.string ⟨#[]⟩] 58);obtain ⟨U,q,m,M,V⟩:=Z5 W3 (.cells #[.string ⟨#[109,97,105,110]⟩,.int .i64 8,.slice (some ⟨w.heap.size+1,0,none⟩) 1 1,.string ⟨#[102]⟩,.int .i64 2,.slice (some ⟨w.heap.size+1+1,0,none⟩) 1 1] 52);obtain ⟨W5,u,h,J,Y⟩:=Z5 U (.cells #[.int .i64 1,.int .i64 3,.string ⟨#[110,32,62,32,48]⟩,.string ⟨#[]⟩,.bool false] 82);rw [←y,←x,←A,←q,←u];have z1:X.heap.size=w.heap.size+1:=E.out;have z2:Z.heap.size=w.heap.size+1+1:=by have:=F.out;omega
 have z3:W3.heap.size=w.heap.size+1+1+1:=by have:=T.out;omega
 have z4:U.heap.size=w.heap.size+1+1+1+1:=by have:=M.out;omega
 have z5:W5.heap.size=w.heap.size+1+1+1+1+1:=by have:=J.out;omega
 rw [z1] at W;rw [z2] at f3;rw [z3] at V;rw [z4] at Y;have g4:=(h.block _ (by omega)).trans V
 have g3:=(h.block _ (by omega)).trans ((m.block _ (by omega)).trans f3)
 have g2:=(h.block _ (by omega)).trans ((m.block _ (by omega)).trans ((o.block _ (by omega)).trans W))
 have g1:=(h.block _ (by omega)).trans ((m.block _ (by omega)).trans ((o.block _ (by omega)).trans ((z.block _ (by omega)).trans f1)))
 have hB:Below w.heap.size w W5:=(((I.trans (z.mono (by omega))).trans (o.mono (by omega))).trans (m.mono (by omega))).trans (h.mono (by omega))
 obtain ⟨p0,p1,p2,p3,p4,p5,p6,p7,p8,p9⟩:=zu g1
 have hV:Zn (fun k=>w.heap.size≤k) W5 Zd (.slice (some ⟨w.heap.size+1+1+1,0,none⟩) 2 2) (.slice (some ⟨w.heap.size+1+1+1+1,0,none⟩) 1 1):=by
  have v1:Yr (fun k=>w.heap.size≤k) W5 (.slice (some ⟨w.heap.size+1,0,none⟩) 1 1) [XF 105 0]:=by
   obtain ⟨a,b,c,d⟩:=Z0 g2;refine ⟨_,1,rfl,by simp,by decide,.inr ⟨_,0,rfl,by omega,by omega,fun j hj=>?_⟩⟩
   obtain rfl:j=0:=by simpa using hj
   exact ⟨a,b,c,d⟩
  have v2:Yr (fun k=>w.heap.size≤k) W5 (.slice (some ⟨w.heap.size+1+1,0,none⟩) 1 1) [XF 110 1]:=by
   obtain ⟨a,b,c,d⟩:=Z0 g3;refine ⟨_,1,rfl,by simp,by decide,.inr ⟨_,0,rfl,by omega,by omega,fun j hj=>?_⟩⟩
   obtain rfl:j=0:=by simpa using hj
   exact ⟨a,b,c,d⟩
  constructor
  ·have c6:W5.cell? ⟨w.heap.size+1+1+1,0,none⟩=some (.string ⟨#[109,97,105,110]⟩)∧W5.cell? ⟨w.heap.size+1+1+1,1,none⟩=some (.int .i64 8)∧W5.cell? ⟨w.heap.size+1+1+1,2,none⟩=some (.slice (some ⟨w.heap.size+1,0,none⟩) 1 1)∧W5.cell? ⟨w.heap.size+1+1+1,3,none⟩=some (.string ⟨#[102]⟩)∧W5.cell? ⟨w.heap.size+1+1+1,4,none⟩=some (.int .i64 2)∧W5.cell? ⟨w.heap.size+1+1+1,5,none⟩=some (.slice (some ⟨w.heap.size+1+1,0,none⟩) 1 1):=by
    refine ⟨?_,?_,?_,?_,?_,?_⟩ <;> (simp only [World.cell?,g4];rfl)
   obtain ⟨O,K,R,G,H,a5⟩:=c6;refine ⟨_,2,rfl,by simp [Zd],by decide,.inr ⟨_,0,rfl,by omega,by omega,fun j hj=>?_⟩⟩
   have D:j<2:=hj;have B:j=0∨j=1:=by omega
   rcases B with rfl | rfl
   ·exact ⟨O,K,_,R,v1⟩
   ·exact ⟨G,H,_,a5,v2⟩
  ·obtain ⟨O,K,R,G,H⟩:=zU Y
   refine ⟨_,1,rfl,by simp [Zd],by decide,.inr ⟨_,0,rfl,by omega,by omega,fun j hj=>?_⟩⟩
   have D:j<1:=hj;obtain rfl:j=0:=by omega
   exact ⟨O,K,R,G,H⟩
 clear y x A q u;exact bodyPost_ret (v:=.agg #[.int .i64 3,.int .i64 0,.int .i64 0,.slice (some ⟨w.heap.size+1+1+1,0,none⟩) 2 2,.string ⟨#[97,10]⟩,.int .i64 0,.slice (some ⟨w.heap.size+1+1+1+1,0,none⟩) 1 1,.int .i64 0,.int .i64 1,.string ⟨#[]⟩]) (by simp [results,Tryz.results16,go_sem,p0,p1,p2,p3,p4,p5,p6,p7,p8,p9]) rfl ⟨_,_,_,_,rfl,hV,hB⟩
theorem Xf (w:World) (ht:Yc w) :
  Calls Tryz.prog 10 #[] w fun e w'=>e=.returned (.bool true)∧Below w.heap.size w w':=by
 have M:Hid (Yc w):=ht;clear ht;have ce:=Xe w
 go_enter Tryz.func10,Tryz.ntmps10
 go_wp2_with fail
 refine ce.mono ?_;clear ce;rintro e w1 ⟨R,W,J,X,rfl,H,F⟩;have U:Hid (Zn (fun k=>w.heap.size≤k) w1 Zd (.slice R 2 J) (.slice W 1 X)):=H
 have z:Hid (Below w.heap.size w w1):=F;clear H F;have T:=VH 9 w1;rw [show mostN 9=9 from rfl] at T
 obtain ⟨V,x⟩:∃V,V=VO (.slice R 2 J) (.slice W 1 X) Zd:=⟨_,rfl⟩;rw [←x];have K:Hid (V=VO (.slice R 2 J) (.slice W 1 X) Zd):=x;clear x;go_wp2_with fail
 refine T.mono ?_;clear T;rintro e w2 ⟨rfl,H2,b⟩;have q:Hid (Below w.heap.size w w2):=z.out.trans (b.mono z.out.size);have O:=vC Zd _ _ w2 H2 (U.out.below b) VX (M.out.below q.out (Nat.le_refl _));rw [←K.out] at O;clear b H2;go_wp2_with fail
 refine O.mono ?_;clear O;rintro e h (⟨Z,-,-⟩ | ⟨-,r,rfl,y⟩)
 ·rw [List.length_nil,un] at Z
  cases Z
 ·rw [VW] at y
  have E:Hid (Below w.heap.size w h):=q.out.trans (y.below.mono q.out.size);have G:=E.out.size;have HJ:Hid _:=y;have hl:=zj.lit h.heap.size h h yX (Below.refl _ _) (Nat.le_refl _) Vn;have B:=y.new (w1:=h.alloc (.cells (strC yX).toArray 9)) ((Below.refl _ _).alloc (Nat.le_refl _) _);have o:=YO _ _ yX yX r _ _ B.in hl.in Vm;rw [vE] at o;obtain ⟨nr,br,cr,rfl⟩:=Z1 y.row;have D:Below w.heap.size w (h.alloc (.cells (strC yX).toArray 9)):=E.out.alloc G _;have A:Hid (Below w.heap.size w (h.alloc (.cells (strC yX).toArray 9))):=D;clear y hl B D;go_wp2_with fail
  refine o.mono ?_;clear o;rintro e Y ⟨rfl,I⟩;have c:Hid (Below w.heap.size w Y):=A.out.trans (I.mono A.out.size);clear I;have u:=Z3 1 Y (M.out.below c.out (Nat.le_refl _));rw [show zN 1=[100,105,118,105,115,105,111,110] from rfl] at u
  go_wp2_with fail
  refine u.mono ?_;clear u;rintro e w6 ⟨rfl,rfl⟩;have m:=Z3 11 Y (M.out.below c.out (Nat.le_refl _));rw [show zN 11=[] from rfl] at m
  go_wp2_with fail
  refine m.mono ?_;clear m;rintro e w7 ⟨rfl,rfl⟩;go_wp2
  go_ret
  exact ⟨rfl,c.out⟩
end Go.Proofs.YtbjndgachcdbcaaGreatDoor
