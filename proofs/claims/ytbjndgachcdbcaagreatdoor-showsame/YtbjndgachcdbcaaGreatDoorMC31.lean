import Derived.Test.YtbjndgachcdbcaaGreatDoorMC17
import Derived.BigQuiet
import Derived.Test.YtbjndgachcdbcaaGreatDoorVBytes
namespace Go.Proofs.YtbjndgachcdbcaaGreatDoor
open Go.RowKit Go.Shelf
set_option maxHeartbeats 16000000
set_option maxRecDepth 100000
theorem xr (S T:Nat→Prop) (l m:List (List UInt8)) (v u:Value) (w:World) (hl:rowIn S w v 1 zY l) (hm:rowIn T w u 1 zY m) (hll:l.length≤1048576) :
  Calls Tryz.prog 17 #[v,u] w fun e w'=>e=.returned (.bool (decide (l=m)))∧Below w.heap.size w w':=by
 obtain ⟨b1,k1,rfl,-,-,q⟩:=hl.at
 obtain ⟨b2,k2,rfl,-,-,V⟩:=hm.at
 have H1:Hid (∀i (Z:i<l.length),∃b o,b1=some ⟨b,o,none⟩∧S b∧b<w.heap.size∧zY w b (o+i*1) l[i]):=q;have H2:Hid (∀i (Z:i<m.length),∃b o,b2=some ⟨b,o,none⟩∧T b∧b<w.heap.size∧zY w b (o+i*1) m[i]):=V;have B:Hid (Below w.heap.size w w):=Below.refl _ _;clear q V hl hm
 by_cases hlen:l.length=m.length
 ·have E:((l.length:Int)==(m.length:Int))=true:=by rw [hlen];simp
  have D:(l.length==m.length)=true:=by rw [hlen];simp
  obtain ⟨n,hn⟩:∃n,n=m.length:=⟨_,rfl⟩;have F:Hid (l.length=m.length):=hlen;rw [hlen];rw [hlen] at hll;have ab:(m.length:Int)≤1048576:=by omega
  clear E D hn hlen
  go_enter Tryz.func17,Tryz.ntmps17
  go_wp2
  go_loopw [5] (fun vi wr=>∃i:Nat,i≤m.length∧vi=.int .i64 (i:Int)∧Hid (l.take i=m.take i)∧Below w.heap.size w wr) (fun vi _=>m.length-(intOf vi).toNat)
  case atStart=>exact ⟨0,Nat.zero_le _,rfl,by show _=_;simp,B.out⟩
  case round =>
   obtain ⟨i,Z,rfl,W,z⟩:=hrel;have c:Hid (Below w.heap.size w wr):=z;clear z
   by_cases hlt:i<m.length
   ·have K:(i:Int)<m.length:=by omega
    have h:i<l.length:=by have:=F.out;omega
    obtain ⟨g1,o1,rfl,-,R,H⟩:=H1.out i h;obtain ⟨Y,X,rfl,-,U,A⟩:=H2.out i hlt;obtain ⟨x,O⟩:∃x,x=l[i]:=⟨_,rfl⟩;obtain ⟨y,J⟩:∃y,y=m[i]:=⟨_,rfl⟩
    have d1:wr.cell? ⟨g1,o1+i,none⟩=some (.string (za x)):=by
     have:=(zb (g:=g1) (j:=o1+i*1) c.out R).trans H
     rw [O]
     simpa only [Nat.mul_one] using this
    have d2:wr.cell? ⟨Y,X+i,none⟩=some (.string (za y)):=by
     have:=(zb (g:=Y) (j:=X+i*1) c.out U).trans A
     rw [J]
     simpa only [Nat.mul_one] using this
    have I:Hid (x=l[i]∧y=m[i]):=⟨O,J⟩;clear H A O J
    by_cases he:x=y
    ·subst he
     have M:Hid (l.take (i+1)=m.take (i+1)):=by
      have e1:l.take i++[l[i]]=l.take (i+1):=List.take_append_getElem h;have e2:m.take i++[m[i]]=m.take (i+1):=List.take_append_getElem hlt;show _=_
      rw [←e1,←e2,W.out,←I.out.1,←I.out.2]
     go_upto_region 6 with fail
     go_quiet (fail)
     go_wp2
     exact ⟨⟨i+1,by omega,by go_num,M,⟨c.out.os,c.out.tape,c.out.output,c.out.size,c.out.block⟩⟩,by simp [intOf];omega⟩
    ·have aa:(x==y)=false:=by rw [uV];exact decide_eq_false he
     have G:Hid (decide (l=m)=false):=decide_eq_false fun e=>he (by
      rw [I.out.1,I.out.2]
      simp only [e])
     clear he
     go_upto_region 6 with fail
     go_quiet (fail)
     go_wp2
     go_ret
     rw [G.out];exact ⟨rfl,⟨c.out.os,c.out.tape,c.out.output,c.out.size,c.out.block⟩⟩
   ·obtain rfl:i=m.length:=by omega
    have K:¬ (m.length:Int)<m.length:=by omega
    have G:Hid (decide (l=m)=true):=decide_eq_true (by
     have q:=W.out;rw [List.take_length,←F.out,List.take_length] at q
     exact q)
    go_wp2
    go_ret
    rw [G.out];exact ⟨rfl,c.out⟩
 ·have E:((l.length:Int)==(m.length:Int))=false:=by rw [beq_eq_false_iff_ne];omega
  have D:(l.length==m.length)=false:=by rw [beq_eq_false_iff_ne];exact hlen
  have G:Hid (decide (l=m)=false):=decide_eq_false fun e=>hlen (by rw [e])
  clear hlen
  go_enter Tryz.func17,Tryz.ntmps17
  go_wp2
  go_ret
  rw [G.out];exact ⟨rfl,B.out⟩
def vN (c:UInt8) (n:Int):Bn:=⟨[c],⟨1,n,[]⟩⟩
def Zg:Vw:=⟨⟨3,0,0,[⟨[109,97,105,110],8,[vN 105 0]⟩,⟨[102],2,[vN 110 1]⟩],[97,10]⟩,0,[⟨1,3,[110,32,62,32,48],[],false⟩],⟨0,1,[]⟩⟩
def YA:List (List UInt8):=[[97,116,32,51,32,114,117,110,110,105,110,103],[62,32,102,58,50,32,110,61,49],[32,32,109,97,105,110,58,56,32,105,61,48],[124,32,97],[35,49,32,108,105,110,101,32,51,32,105,102,32,110,32,62,32,48],[111,107,32,49]]
theorem Uo:ZC [] Zg=YA:=by
 have o:Lib.itoa 3=[51]:=by decide +kernel
 have i1:Lib.itoa 1=[49]:=by decide +kernel
 have i2:Lib.itoa 2=[50]:=by decide +kernel
 have u:Lib.itoa 8=[56]:=by decide +kernel
 have c:Lib.itoa 0=[48]:=by decide +kernel
 have b:∀n,Lib.itoa n=[48]∨Lib.itoa n=[49]→Za [] ⟨1,n,[]⟩=Lib.itoa n:=fun n hn=>by
  unfold Za
  have e:zy [] 2 ⟨1,n,[]⟩=Lib.itoa n:=by simp [zy,zX]
  rw [if_pos (by simp [rightV]),e]
  rcases hn with h | h <;> rw [h] <;> rfl
 have m:=(b 0 (.inl c)).trans c;have q:=(b 1 (.inr i1)).trans i1
 simp [ZC,Zg,Zm,uv,zn,ZB,vJ,zM,vN,Y1,uw,endsAt,Zl,XN,ZO,Y0,m,q,o,i1,i2,u,zG,Zz,Ys,YA]
theorem VU:decide (YA=YA)=true:=decide_eq_true rfl
theorem uB:YA.length≤1048576:=by decide
theorem uC:YA.length≤maxLen:=by decide
theorem UR:Yy 0 Zg=true:=by decide +kernel
theorem Vm:yg Zg:=by
 refine ⟨by simp [Zg,ZA],by simp [Zg,ZA],by simp [Zg,ZA],by simp [Zg],?_,by simp [Zg],by simp [Zg,ZA],by simp [Zg],?_,by simp [Zg,ZA],by simp [Zg,ZA],by simp [Zg]⟩
 ·intro f b
  simp [Zg] at b
  rcases b with rfl | rfl
  ·exact ⟨by simp,by simp [ZA],by simp,by simp [vN,zr]⟩
  ·exact ⟨by simp,by simp [ZA],by simp,by simp [vN,zr]⟩
 ·intro s c
  simp [Zg] at c
  subst c;exact ⟨by simp [ZA],by simp [ZA],by simp,by simp⟩
theorem xJ (nm:List UInt8) (n:Int) (w:World) :
  Calls Tryz.prog 32 #[.string (za nm),.int .i64 n] w fun e w'=>e=.returned (.slice (some ⟨w.heap.size,0,none⟩) 1 1)∧w'=w.alloc (.cells #[.string (za nm),.int .i64 1,.int .i64 n,.string ⟨#[]⟩] 58):=by
 go_enter Tryz.func32,Tryz.ntmps32
 go_wp2
 go_ret
 exact ⟨rfl,rfl⟩
theorem Yv (w:World) :
  Calls Tryz.prog 16 #[] w fun e w'=>∃bf bs:Option Addr,∃cf cs:Nat,e=.returned (uu (.slice bf 2 cf) (.slice bs 1 cs) Zg)∧zR (fun k=>w.heap.size≤k) w' Zg (.slice bf 2 cf) (.slice bs 1 cs)∧Below w.heap.size w w':=by
 go_enter Tryz.func16,Tryz.ntmps16
 go_wp2_with fail
 refine (xJ [105] 0 _).mono ?_;rintro e w2 ⟨rfl,rfl⟩;go_wp2_with fail
 refine (xJ [110] 1 _).mono ?_;rintro e w3 ⟨rfl,rfl⟩;go_wp2
 obtain ⟨W1,z,G,E,f1⟩:=yE w (.cells #[.int .i64 3,.int .i64 0,.int .i64 0,.slice (some ⟨w.heap.size+1+1+1,0,none⟩) 2 2,.string ⟨#[97,10]⟩,.int .i64 0,.slice (some ⟨w.heap.size+1+1+1+1,0,none⟩) 1 1,.int .i64 0,.int .i64 1,.string ⟨#[]⟩] 35);obtain ⟨V,q,y,R,Y⟩:=yE W1 (.cells #[.string (za [105]),.int .i64 1,.int .i64 0,.string ⟨#[]⟩] 58);obtain ⟨W3,B,o,K,X⟩:=yE V (.cells #[.string (za [110]),.int .i64 1,.int .i64 1,.string ⟨#[]⟩] 58);obtain ⟨W4,u,m,H,W⟩:=yE W3 (.cells #[.string ⟨#[109,97,105,110]⟩,.int .i64 8,.slice (some ⟨w.heap.size+1,0,none⟩) 1 1,.string ⟨#[102]⟩,.int .i64 2,.slice (some ⟨w.heap.size+1+1,0,none⟩) 1 1] 52);obtain ⟨W5,A,h,O,Z⟩:=yE W4 (.cells #[.int .i64 1,.int .i64 3,.string ⟨#[110,32,62,32,48]⟩,.string ⟨#[]⟩,.bool false] 82);rw [←z,←q,←B,←u,←A];have z1:W1.heap.size=w.heap.size+1:=E.out;have z2:V.heap.size=w.heap.size+1+1:=by have:=R.out;omega
 have z3:W3.heap.size=w.heap.size+1+1+1:=by have:=K.out;omega
 have z4:W4.heap.size=w.heap.size+1+1+1+1:=by have:=H.out;omega
 have z5:W5.heap.size=w.heap.size+1+1+1+1+1:=by have:=O.out;omega
 rw [z1] at Y;rw [z2] at X;rw [z3] at W;rw [z4] at Z;have g4:=(h.block _ (by omega)).trans W
 have g3:=(h.block _ (by omega)).trans ((m.block _ (by omega)).trans X)
 have g2:=(h.block _ (by omega)).trans ((m.block _ (by omega)).trans ((o.block _ (by omega)).trans Y))
 have g1:=(h.block _ (by omega)).trans ((m.block _ (by omega)).trans ((o.block _ (by omega)).trans ((y.block _ (by omega)).trans f1)))
 have hB:Below w.heap.size w W5:=(((G.trans (y.mono (by omega))).trans (o.mono (by omega))).trans (m.mono (by omega))).trans (h.mono (by omega))
 obtain ⟨p0,p1,p2,p3,p4,p5,p6,p7,p8,p9⟩:=zl g1
 have hV:zR (fun k=>w.heap.size≤k) W5 Zg (.slice (some ⟨w.heap.size+1+1+1,0,none⟩) 2 2) (.slice (some ⟨w.heap.size+1+1+1+1,0,none⟩) 1 1):=by
  have v1:YZ (fun k=>w.heap.size≤k) W5 (.slice (some ⟨w.heap.size+1,0,none⟩) 1 1) [vN 105 0]:=by
   obtain ⟨a,b,c,d⟩:=ym g2;refine ⟨_,1,rfl,by simp,by decide,.inr ⟨_,0,rfl,by omega,by omega,fun j hj=>?_⟩⟩
   obtain rfl:j=0:=by simpa using hj
   exact ⟨a,b,c,d⟩
  have v2:YZ (fun k=>w.heap.size≤k) W5 (.slice (some ⟨w.heap.size+1+1,0,none⟩) 1 1) [vN 110 1]:=by
   obtain ⟨a,b,c,d⟩:=ym g3;refine ⟨_,1,rfl,by simp,by decide,.inr ⟨_,0,rfl,by omega,by omega,fun j hj=>?_⟩⟩
   obtain rfl:j=0:=by simpa using hj
   exact ⟨a,b,c,d⟩
  constructor
  ·have c6:W5.cell? ⟨w.heap.size+1+1+1,0,none⟩=some (.string ⟨#[109,97,105,110]⟩)∧W5.cell? ⟨w.heap.size+1+1+1,1,none⟩=some (.int .i64 8)∧W5.cell? ⟨w.heap.size+1+1+1,2,none⟩=some (.slice (some ⟨w.heap.size+1,0,none⟩) 1 1)∧W5.cell? ⟨w.heap.size+1+1+1,3,none⟩=some (.string ⟨#[102]⟩)∧W5.cell? ⟨w.heap.size+1+1+1,4,none⟩=some (.int .i64 2)∧W5.cell? ⟨w.heap.size+1+1+1,5,none⟩=some (.slice (some ⟨w.heap.size+1+1,0,none⟩) 1 1):=by
    refine ⟨?_,?_,?_,?_,?_,?_⟩ <;> (simp only [World.cell?,g4];rfl)
   obtain ⟨J,I,D,T,F,a5⟩:=c6;refine ⟨_,2,rfl,by simp [Zg],by decide,.inr ⟨_,0,rfl,by omega,by omega,fun j hj=>?_⟩⟩
   have U:j<2:=hj;have M:j=0∨j=1:=by omega
   rcases M with rfl | rfl
   ·exact ⟨J,I,_,D,v1⟩
   ·exact ⟨T,F,_,a5,v2⟩
  ·obtain ⟨J,I,D,T,F⟩:=Zb Z
   refine ⟨_,1,rfl,by simp [Zg],by decide,.inr ⟨_,0,rfl,by omega,by omega,fun j hj=>?_⟩⟩
   have U:j<1:=hj;obtain rfl:j=0:=by omega
   exact ⟨J,I,D,T,F⟩
 clear z q B u A;exact bodyPost_ret (v:=.agg #[.int .i64 3,.int .i64 0,.int .i64 0,.slice (some ⟨w.heap.size+1+1+1,0,none⟩) 2 2,.string ⟨#[97,10]⟩,.int .i64 0,.slice (some ⟨w.heap.size+1+1+1+1,0,none⟩) 1 1,.int .i64 0,.int .i64 1,.string ⟨#[]⟩]) (by simp [results,Tryz.results16,go_sem,p0,p1,p2,p3,p4,p5,p6,p7,p8,p9]) rfl ⟨_,_,_,_,rfl,hV,hB⟩
theorem XX (w:World) (ht:Yz w) :
  Calls Tryz.prog 10 #[] w fun e w'=>e=.returned (.bool true)∧Below w.heap.size w w':=by
 have T:Hid (Yz w):=ht;clear ht;have ce:=Yv w
 go_enter Tryz.func10,Tryz.ntmps10
 go_wp2_with fail
 refine ce.mono ?_;clear ce;rintro e w1 ⟨R,U,K,W,rfl,D,B⟩;have V:Hid (zR (fun k=>w.heap.size≤k) w1 Zg (.slice R 2 K) (.slice U 1 W)):=D
 have A:Hid (Below w.heap.size w w1):=B;clear D B;have Z:=Vh 9 w1;rw [show mostN 9=9 from rfl] at Z
 obtain ⟨O,y⟩:∃O,O=uu (.slice R 2 K) (.slice U 1 W) Zg:=⟨_,rfl⟩;rw [←y];have Y:Hid (O=uu (.slice R 2 K) (.slice U 1 W) Zg):=y;clear y;go_wp2_with fail
 refine Z.mono ?_;clear Z;rintro e w2 ⟨rfl,H2,m⟩;have h:Hid (Below w.heap.size w w2):=A.out.trans (m.mono A.out.size);have X:=xI Zg _ _ w2 H2 (V.out.below m) Vm (T.out.below h.out (Nat.le_refl _));rw [←Y.out] at X;clear m H2;go_wp2_with fail
 refine X.mono ?_;clear X;rintro e b (⟨hf,-,-⟩ | ⟨-,r,rfl,z⟩)
 ·rw [List.length_nil,UR] at hf
  cases hf
 ·rw [Uo] at z
  have F:Hid (Below w.heap.size w b):=h.out.trans (z.below.mono h.out.size);have G:=F.out.size;have HJ:Hid _:=z;have hl:=zo.lit b.heap.size b b YA (Below.refl _ _) (Nat.le_refl _) uC;have H:=z.new (w1:=b.alloc (.cells (strC YA).toArray 9)) ((Below.refl _ _).alloc (Nat.le_refl _) _);have c:=xr _ _ YA YA r _ _ H.in hl.in uB;rw [VU] at c;obtain ⟨nr,br,cr,rfl⟩:=yn z.row;have J:Below w.heap.size w (b.alloc (.cells (strC YA).toArray 9)):=F.out.alloc G _;have E:Hid (Below w.heap.size w (b.alloc (.cells (strC YA).toArray 9))):=J;clear z hl H J;go_wp2_with fail
  refine c.mono ?_;clear c;rintro e M ⟨rfl,I⟩;have q:Hid (Below w.heap.size w M):=E.out.trans (I.mono E.out.size);clear I;have u:=yo 1 M (T.out.below q.out (Nat.le_refl _));rw [show zV 1=[100,105,118,105,115,105,111,110] from rfl] at u
  go_wp2_with fail
  refine u.mono ?_;clear u;rintro e w6 ⟨rfl,rfl⟩;have o:=yo 11 M (T.out.below q.out (Nat.le_refl _));rw [show zV 11=[] from rfl] at o
  go_wp2_with fail
  refine o.mono ?_;clear o;rintro e w7 ⟨rfl,rfl⟩;go_wp2
  go_ret
  exact ⟨rfl,q.out⟩
end Go.Proofs.YtbjndgachcdbcaaGreatDoor
