import Derived.Test.YtmbofhpmockmbaaGreatDoorMC46
namespace Go.Proofs.YtmbofhpmockmbaaGreatDoor
open Go.RowKit Go.Shelf
set_option maxHeartbeats 16000000
set_option maxRecDepth 100000
theorem uZ {l:List UInt8} {x:Ex} {a e:Nat} (f:Nat) (hl:l.length≤4096) (h:Xh f l=(x,a,e)) (hd:e≠99):zT l x a e:=by
 unfold zT
 rw [UZ hl]
 unfold Xh at h
 by_cases hc:(xj l).2.2≠0
 ·rw [if_pos hc] at h ⊢
  simp only [Prod.mk.injEq] at h;exact ⟨h.1.symm,h.2.1.symm,h.2.2.symm⟩
 ·rw [if_neg hc] at h ⊢
  cases hp:zh f 1 (xj l).1 with
  | none=>rw [hp] at h;simp only [Prod.mk.injEq] at h;exact absurd h.2.2.symm hd
  | some r2 =>
   rw [hp] at h;refine ⟨f,r2,hp,?_⟩;cases hw:Zx r2 with
   | error b =>
    simp only [hw,Prod.mk.injEq] at h ⊢;exact ⟨h.1.symm,h.2.1.symm,h.2.2.symm⟩
   | ok y =>
    simp only [hw] at h ⊢
    by_cases hdp:24<depthE y
    ·rw [if_pos hdp] at h ⊢
     simp only [Prod.mk.injEq] at h;exact ⟨h.1.symm,h.2.1.symm,h.2.2.symm⟩
    ·rw [if_neg hdp] at h ⊢
     simp only [Prod.mk.injEq] at h;exact ⟨h.1.symm,h.2.1.symm,h.2.2.symm⟩
def txA:List UInt8:=[97,32,62,32,49]
def txB:List UInt8:=[49,32,43]
theorem zbn:Zy txA:=⟨(Xh 60 txA).1,0,uZ 60 (by decide) (by kernel_rfl) (by decide)⟩
theorem zbo:¬ Zy txB:=fun ⟨x,a,h⟩=>by
 have o:(Xh 60 txB).2.2=6:=by kernel_rfl
 have e:=uz 60 (by decide) h (by rw [o];decide)
 rw [e] at o;cases o
theorem V5:¬ Zy []:=fun ⟨x,a,h⟩=>by
 have o:(Xh 60 []).2.2=6:=by kernel_rfl
 have e:=uz 60 (by decide) h (by rw [o];decide)
 rw [e] at o;cases o
def lv1:List UInt8:=[98,97,99,107,45,115,116,101,112]
def lv2:List UInt8:=[98,114,101,97,107,32,49,50,32,105,102,32,97,32,62,32,49]
def lv3:List UInt8:=[103,111,116,111,32,48]
def lv4:List UInt8:=[103,111,116,111,32,48,49]
def lv5:List UInt8:=[103,111,116,111]
def lv6:List UInt8:=[115,116,101,112,32,49]
def lv7:List UInt8:=[98,114,101,97,107,32,49,32,105,102]
def lv8:List UInt8:=[112,114,105,110,116,32,49,32,43]
theorem k5:ofKind 5=(5,lv1,false,0,false,[]):=by decide
theorem k10:ofKind 10=(10,[98,114,101,97,107],true,1,true,[105,102]):=by decide
theorem k9:ofKind 9=(9,[103,111,116,111],true,0,false,[]):=by decide
theorem k1:ofKind 1=(1,[115,116,101,112],false,0,false,[]):=by decide
theorem k17:ofKind 17=(17,[112,114,105,110,116],false,0,true,[]):=by decide
theorem i12:Lib.itoa 12=[49,50]:=by rw [xh 12 (by decide)];exact Lib.decDigits_two (by decide) (by decide)
theorem i0:Lib.itoa 0=[48]:=by rw [xh 0 (by decide)];exact Lib.decDigits_one (by decide)
theorem i1:Lib.itoa 1=[49]:=by rw [xh 1 (by decide)];exact Lib.decDigits_one (by decide)
theorem ok1:zZ lv1=(5,0,[])∧Zt Zy 5 0 []∧Zv 5 0 []=lv1:=by
 refine ⟨by decide,?_,by unfold Zv;rw [k5];rfl⟩
 unfold Zt;rw [k5]
 exact ⟨by decide,fun _=>rfl,fun _=>rfl,fun h=>(by cases h),fun h=>(by cases h)⟩
theorem ok2:zZ lv2=(10,12,txA)∧Zt Zy 10 12 txA∧Zv 10 12 txA=lv2:=by
 refine ⟨by decide,?_,by unfold Zv;rw [k10,i12];rfl⟩
 unfold Zt;rw [k10]
 exact ⟨by decide,fun h=>(by cases h),fun h=>(by cases h),fun _=>⟨by decide,by decide⟩,fun _=>.inr ⟨by decide,zbn⟩⟩
theorem ok3:zZ lv3=(9,0,[])∧Zt Zy 9 0 []∧Zv 9 0 []=lv3:=by
 refine ⟨by decide,?_,by unfold Zv;rw [k9,i0];rfl⟩
 unfold Zt;rw [k9]
 exact ⟨by decide,fun h=>(by cases h),fun _=>rfl,fun _=>⟨by decide,by decide⟩,fun h=>(by cases h)⟩
theorem Ua {l:List UInt8} {k n:Int} {s:List UInt8} (h:zZ l=(k,n,s)) (hn:¬ (Zt Zy k n s∧Zv k n s=l)):∀k n s,zZ l=(k,n,s)→¬ (Zt Zy k n s∧Zv k n s=l):=by
 intro y z o e;rw [h] at e;simp only [Prod.mk.injEq] at e;obtain ⟨rfl,rfl,rfl⟩:=e;exact hn
theorem no4:∀k n s,zZ lv4=(k,n,s)→¬ (Zt Zy k n s∧Zv k n s=lv4):=Ua (show zZ lv4=(9,1,[]) by decide) fun h=>by
 have:=h.2;unfold Zv at this;rw [k9,i1] at this;exact absurd this (by decide)
theorem no5:∀k n s,zZ lv5=(k,n,s)→¬ (Zt Zy k n s∧Zv k n s=lv5):=Ua (show zZ lv5=(9,0,[]) by decide) fun h=>by
 have:=h.2;unfold Zv at this;rw [k9,i0] at this;exact absurd this (by decide)
theorem no6:∀k n s,zZ lv6=(k,n,s)→¬ (Zt Zy k n s∧Zv k n s=lv6):=Ua (show zZ lv6=(1,0,[]) by decide) fun h=>by
 have:=h.2;unfold Zv at this;rw [k1] at this;exact absurd this (by decide)
theorem no7:∀k n s,zZ lv7=(k,n,s)→¬ (Zt Zy k n s∧Zv k n s=lv7):=Ua (show zZ lv7=(10,1,[]) by decide) fun h=>by
 have:=h.2;unfold Zv at this;rw [k10,i1] at this;exact absurd this (by decide)
theorem no8:∀k n s,zZ lv8=(k,n,s)→¬ (Zt Zy k n s∧Zv k n s=lv8):=Ua (show zZ lv8=(17,0,txB) by decide) fun h=>by
 have:=h.1.2.2.2.2
 rw [k17] at this;rcases this rfl with h | h
 ·exact absurd h.1 (by decide)
 ·exact zbo h.2
theorem Yf (l:List UInt8) (k n:Int) (s:List UInt8) (e:Int) (w:World) (hl:l.length≤10000000) (hQ:QT w)
  (h:(zZ l=(k,n,s)∧Zt Zy k n s∧Zv k n s=l∧e=0)∨((∀k n s,zZ l=(k,n,s)→¬ (Zt Zy k n s∧Zv k n s=l))∧k=0∧n=0∧s=[]∧e=6)) :
  Calls Tryz.prog 34 #[.string (za l),yJ k n s,.int .i64 e] w fun r w'=>r=.returned (.bool true)∧Below w.heap.size w w':=by
 obtain ⟨A,J,z,Q,Z⟩:=y8 w (.cells #[.int .i64 k,.int .i64 n,.string (za s)] 24 (0,0))
 have hm:∀(r:Ending) (w':World),((∃k n s,zZ l=(k,n,s)∧Zt Zy k n s∧Zv k n s=l∧r=.returned (.tuple #[yJ k n s,.int .i64 0]))∨(∀k n s,zZ l=(k,n,s)→¬ (Zt Zy k n s∧Zv k n s=l))∧r=.returned (.tuple #[yJ 0 0 [],.int .i64 6]))∧Below A.heap.size A w'→r=.returned (.tuple #[yJ k n s,.int .i64 e])∧Below A.heap.size A w':=by
  rintro r w' ⟨⟨k',n',s',E,h2,h3,rfl⟩ | ⟨E,rfl⟩,Y⟩
  ·rcases h with ⟨G,X,R,rfl⟩ | ⟨G,-⟩
   ·rw [G] at E
    simp only [Prod.mk.injEq] at E;obtain ⟨rfl,rfl,rfl⟩:=E;exact ⟨rfl,Y⟩
   ·exact absurd ⟨h2,h3⟩ (G _ _ _ E)
  ·rcases h with ⟨G,X,R,-⟩ | ⟨-,rfl,rfl,rfl,rfl⟩
   ·exact absurd ⟨X,R⟩ (E _ _ _ G)
   ·exact ⟨rfl,Y⟩
 have N:=(vy l A hl (hQ.below z)).mono hm;have K:Hid (Below w.heap.size w A∧A.heap[w.heap.size]?=some (.cells #[.int .i64 k,.int .i64 n,.string (za s)] 24 (0,0))):=⟨z,Z⟩
 unfold yJ at N ⊢
 have I:=J.symm;clear J z Q Z hQ h hl
 go_enter Tryz.func34,Tryz.ntmps34
 go_wp2_with fail
 refine N.mono ?_;clear N I;rintro r H ⟨rfl,D⟩;have y:=yb K.out.1 D;have L:H.heap[w.heap.size]?=_:=(D.block _ (y7 K.out.2)).trans K.out.2;have O:w.heap.size≠H.heap.size:=fun h=>by have:=y7 L;omega
 have M:∀j v,H.cell? ⟨w.heap.size,j,none⟩=some v→∀o,(H.alloc o).cell? ⟨w.heap.size,j,none⟩=some v:=fun j v h o=>by
  rw [World.cell?_alloc_lt _ _ _ (y7 L)];exact h
 obtain ⟨T,W,V,-⟩:=zw L;have r0:=M 0 _ T;have r1:=M 1 _ W;have r2:=M 2 _ V;have U:Hid (Below w.heap.size w H):=y;clear D K y L M T W V O;go_wp2
 go_ret
 exact ⟨rfl,U.out.alloc U.out.size _⟩
theorem Ub (w:World) (hQ:QT w) :
  Calls Tryz.prog 13 #[] w fun e w'=>e=.returned (.bool true)∧Below w.heap.size w w':=by
 have y:Hid (QT w):=hQ
 have Z:Calls Tryz.prog 9 #[.agg #[.int .i64 10,.int .i64 12,.string ⟨#[97,32,62,32,49]⟩]] w fun e w'=>e=.returned (.tuple #[.string ⟨#[98,114,101,97,107,32,49,50,32,105,102,32,97,32,62,32,49]⟩,.int .i64 0])∧Below w.heap.size w w' :=
  (vx 10 12 txA w hQ.1).mono fun e w' ⟨h,o⟩=>by
   rcases h with ⟨-,rfl⟩ | ⟨h,-⟩
   ·exact ⟨by rw [ok2.2.2];rfl,o⟩
   ·exact absurd ok2.2.1 h
 clear hQ
 go_enter Tryz.func13,Tryz.ntmps13
 go_wp2_with fail
 refine Z.mono ?_;clear Z;rintro e w0 ⟨rfl,K⟩;have H:Hid (Below w.heap.size w w0):=K;clear K;have X:Calls Tryz.prog 34 #[.string ⟨#[98,97,99,107,45,115,116,101,112]⟩,.agg #[.int .i64 5,.int .i64 0,.string ⟨#[]⟩],.int .i64 0] w0 fun r w'=>r=.returned (.bool true)∧Below w0.heap.size w0 w':=Yf lv1 5 0 [] 0 w0 (by decide) (y.out.below H.out) (.inl ⟨ok1.1,ok1.2.1,ok1.2.2,rfl⟩)
 go_wp2_with fail
 refine X.mono ?_;clear X;rintro e R ⟨rfl,o⟩;have D:Hid (Below w.heap.size w R):=yb H.out o;clear o H;have c2:Calls Tryz.prog 34 #[.string ⟨#[98,114,101,97,107,32,49,50,32,105,102,32,97,32,62,32,49]⟩,.agg #[.int .i64 10,.int .i64 12,.string ⟨#[97,32,62,32,49]⟩],.int .i64 0] R fun r w'=>r=.returned (.bool true)∧Below R.heap.size R w':=Yf lv2 10 12 txA 0 R (by decide) (y.out.below D.out) (.inl ⟨ok2.1,ok2.2.1,ok2.2.2,rfl⟩)
 go_wp2_with fail
 refine c2.mono ?_;clear c2;rintro e N ⟨rfl,o⟩;have G:Hid (Below w.heap.size w N):=yb D.out o;clear o D;have c3:Calls Tryz.prog 34 #[.string ⟨#[103,111,116,111,32,48]⟩,.agg #[.int .i64 9,.int .i64 0,.string ⟨#[]⟩],.int .i64 0] N fun r w'=>r=.returned (.bool true)∧Below N.heap.size N w':=Yf lv3 9 0 [] 0 N (by decide) (y.out.below G.out) (.inl ⟨ok3.1,ok3.2.1,ok3.2.2,rfl⟩)
 go_wp2_with fail
 refine c3.mono ?_;clear c3;rintro e Q ⟨rfl,o⟩;have E:Hid (Below w.heap.size w Q):=yb G.out o;clear o G;have c4:Calls Tryz.prog 34 #[.string ⟨#[103,111,116,111,32,48,49]⟩,.agg #[.int .i64 0,.int .i64 0,.string ⟨#[]⟩],.int .i64 6] Q fun r w'=>r=.returned (.bool true)∧Below Q.heap.size Q w':=Yf lv4 0 0 [] 6 Q (by decide) (y.out.below E.out) (.inr ⟨no4,rfl,rfl,rfl,rfl⟩)
 go_wp2_with fail
 refine c4.mono ?_;clear c4;rintro e M ⟨rfl,o⟩;have z:Hid (Below w.heap.size w M):=yb E.out o;clear o E;have Y:Calls Tryz.prog 34 #[.string ⟨#[103,111,116,111]⟩,.agg #[.int .i64 0,.int .i64 0,.string ⟨#[]⟩],.int .i64 6] M fun r w'=>r=.returned (.bool true)∧Below M.heap.size M w':=Yf lv5 0 0 [] 6 M (by decide) (y.out.below z.out) (.inr ⟨no5,rfl,rfl,rfl,rfl⟩)
 go_wp2_with fail
 refine Y.mono ?_;clear Y;rintro e T ⟨rfl,o⟩;have J:Hid (Below w.heap.size w T):=yb z.out o;clear o z;have V:Calls Tryz.prog 34 #[.string ⟨#[115,116,101,112,32,49]⟩,.agg #[.int .i64 0,.int .i64 0,.string ⟨#[]⟩],.int .i64 6] T fun r w'=>r=.returned (.bool true)∧Below T.heap.size T w':=Yf lv6 0 0 [] 6 T (by decide) (y.out.below J.out) (.inr ⟨no6,rfl,rfl,rfl,rfl⟩)
 go_wp2_with fail
 refine V.mono ?_;clear V;rintro e L ⟨rfl,o⟩;have I:Hid (Below w.heap.size w L):=yb J.out o;clear o J;have c7:Calls Tryz.prog 34 #[.string ⟨#[98,114,101,97,107,32,49,32,105,102]⟩,.agg #[.int .i64 0,.int .i64 0,.string ⟨#[]⟩],.int .i64 6] L fun r w'=>r=.returned (.bool true)∧Below L.heap.size L w':=Yf lv7 0 0 [] 6 L (by decide) (y.out.below I.out) (.inr ⟨no7,rfl,rfl,rfl,rfl⟩)
 go_wp2_with fail
 refine c7.mono ?_;clear c7;rintro e O ⟨rfl,o⟩;have A:Hid (Below w.heap.size w O):=yb I.out o;clear o I;have W:Calls Tryz.prog 34 #[.string ⟨#[112,114,105,110,116,32,49,32,43]⟩,.agg #[.int .i64 0,.int .i64 0,.string ⟨#[]⟩],.int .i64 6] O fun r w'=>r=.returned (.bool true)∧Below O.heap.size O w':=Yf lv8 0 0 [] 6 O (by decide) (y.out.below A.out) (.inr ⟨no8,rfl,rfl,rfl,rfl⟩)
 go_wp2_with fail
 refine W.mono ?_;clear W;rintro e w8 ⟨rfl,o⟩;have U:Hid (Below w.heap.size w w8):=yb A.out o;clear o A;go_wp2
 go_ret
 exact ⟨rfl,U.out⟩
end Go.Proofs.YtmbofhpmockmbaaGreatDoor
