import Derived.Test.YtmbofhpmockmbaaGreatDoorQParse
namespace Go.Proofs.YtmbofhpmockmbaaGreatDoor
open Go.RowKit Go.Shelf
set_option maxHeartbeats 16000000
set_option maxRecDepth 100000
theorem X6 {l:List UInt8} {x:Ex} {a e:Nat} (f:Nat) (hl:l.length≤4096) (h:xi f l=(x,a,e)) (hd:e≠99):zY l x a e:=by
 unfold zY
 rw [Vl hl]
 unfold xi at h
 by_cases hc:(yZ l).2.2≠0
 ·rw [if_pos hc] at h ⊢
  simp only [Prod.mk.injEq] at h;exact ⟨h.1.symm,h.2.1.symm,h.2.2.symm⟩
 ·rw [if_neg hc] at h ⊢
  cases hp:zd f 1 (yZ l).1 with
  | none=>rw [hp] at h;simp only [Prod.mk.injEq] at h;exact absurd h.2.2.symm hd
  | some r2 =>
   rw [hp] at h;refine ⟨f,r2,hp,?_⟩;cases hw:Zo r2 with
   | error b =>
    simp only [hw,Prod.mk.injEq] at h ⊢;exact ⟨h.1.symm,h.2.1.symm,h.2.2.symm⟩
   | ok y =>
    simp only [hw] at h ⊢
    by_cases hdp:24<zn y
    ·rw [if_pos hdp] at h ⊢
     simp only [Prod.mk.injEq] at h;exact ⟨h.1.symm,h.2.1.symm,h.2.2.symm⟩
    ·rw [if_neg hdp] at h ⊢
     simp only [Prod.mk.injEq] at h;exact ⟨h.1.symm,h.2.1.symm,h.2.2.symm⟩
def UG:List UInt8:=[97,32,62,32,49]
def qd:List UInt8:=[49,32,43]
theorem UW:yt UG:=⟨(xi 60 UG).1,0,X6 60 (by decide) (by kernel_rfl) (by decide)⟩
theorem UX:¬ yt qd:=fun ⟨x,a,h⟩=>by
 have o:(xi 60 qd).2.2=6:=by kernel_rfl
 have e:=uK 60 (by decide) h (by rw [o];decide)
 rw [e] at o;cases o
def U3:List UInt8:=[98,97,99,107,45,115,116,101,112]
def qe:List UInt8:=[98,114,101,97,107,32,49,50,32,105,102,32,97,32,62,32,49]
def qg:List UInt8:=[103,111,116,111,32,48]
def U4:List UInt8:=[103,111,116,111,32,48,49]
def U5:List UInt8:=[103,111,116,111]
def U6:List UInt8:=[115,116,101,112,32,49]
def U7:List UInt8:=[98,114,101,97,107,32,49,32,105,102]
def U8:List UInt8:=[112,114,105,110,116,32,49,32,43]
theorem k5:ofKind 5=(5,U3,false,0,false,[]):=by decide
theorem qh:ofKind 10=(10,[98,114,101,97,107],true,1,true,[105,102]):=by decide
theorem k9:ofKind 9=(9,[103,111,116,111],true,0,false,[]):=by decide
theorem k1:ofKind 1=(1,[115,116,101,112],false,0,false,[]):=by decide
theorem qo:ofKind 17=(17,[112,114,105,110,116],false,0,true,[]):=by decide
theorem qp:Lib.itoa 12=[49,50]:=by rw [ur 12 (by decide)];exact Lib.decDigits_two (by decide) (by decide)
theorem i0:Lib.itoa 0=[48]:=by rw [ur 0 (by decide)];exact Lib.decDigits_one (by decide)
theorem i1:Lib.itoa 1=[49]:=by rw [ur 1 (by decide)];exact Lib.decDigits_one (by decide)
theorem qi:z7 U3=(5,0,[])∧yG yt 5 0 []∧yJ 5 0 []=U3:=by
 refine ⟨by decide,?_,by unfold yJ;rw [k5];rfl⟩
 unfold yG;rw [k5]
 exact ⟨by decide,fun _=>rfl,fun _=>rfl,fun h=>(by cases h),fun h=>(by cases h)⟩
theorem UY:z7 qe=(10,12,UG)∧yG yt 10 12 UG∧yJ 10 12 UG=qe:=by
 refine ⟨by decide,?_,by unfold yJ;rw [qh,qp];rfl⟩
 unfold yG;rw [qh]
 exact ⟨by decide,fun h=>(by cases h),fun h=>(by cases h),fun _=>⟨by decide,by decide⟩,fun _=>.inr ⟨by decide,UW⟩⟩
theorem qj:z7 qg=(9,0,[])∧yG yt 9 0 []∧yJ 9 0 []=qg:=by
 refine ⟨by decide,?_,by unfold yJ;rw [k9,i0];rfl⟩
 unfold yG;rw [k9]
 exact ⟨by decide,fun h=>(by cases h),fun _=>rfl,fun _=>⟨by decide,by decide⟩,fun h=>(by cases h)⟩
theorem X7 {l:List UInt8} {k n:Int} {s:List UInt8} (h:z7 l=(k,n,s)) (hn:¬ (yG yt k n s∧yJ k n s=l)):∀k n s,z7 l=(k,n,s)→¬ (yG yt k n s∧yJ k n s=l):=by
 intro z o y e;rw [h] at e;simp only [Prod.mk.injEq] at e;obtain ⟨rfl,rfl,rfl⟩:=e;exact hn
theorem qq:∀k n s,z7 U4=(k,n,s)→¬ (yG yt k n s∧yJ k n s=U4):=X7 (show z7 U4=(9,1,[]) by decide) fun h=>by
 have:=h.2;unfold yJ at this;rw [k9,i1] at this;exact absurd this (by decide)
theorem qs:∀k n s,z7 U5=(k,n,s)→¬ (yG yt k n s∧yJ k n s=U5):=X7 (show z7 U5=(9,0,[]) by decide) fun h=>by
 have:=h.2;unfold yJ at this;rw [k9,i0] at this;exact absurd this (by decide)
theorem qt:∀k n s,z7 U6=(k,n,s)→¬ (yG yt k n s∧yJ k n s=U6):=X7 (show z7 U6=(1,0,[]) by decide) fun h=>by
 have:=h.2;unfold yJ at this;rw [k1] at this;exact absurd this (by decide)
theorem qu:∀k n s,z7 U7=(k,n,s)→¬ (yG yt k n s∧yJ k n s=U7):=X7 (show z7 U7=(10,1,[]) by decide) fun h=>by
 have:=h.2;unfold yJ at this;rw [qh,i1] at this;exact absurd this (by decide)
theorem qv:∀k n s,z7 U8=(k,n,s)→¬ (yG yt k n s∧yJ k n s=U8):=X7 (show z7 U8=(17,0,qd) by decide) fun h=>by
 have:=h.1.2.2.2.2
 rw [qo] at this;rcases this rfl with h | h
 ·exact absurd h.1 (by decide)
 ·exact UX h.2
theorem yf (l:List UInt8) (k n:Int) (s:List UInt8) (e:Int) (w:World) (hl:l.length≤10000000) (hQ:QT w)
  (h:(z7 l=(k,n,s)∧yG yt k n s∧yJ k n s=l∧e=0)∨((∀k n s,z7 l=(k,n,s)→¬ (yG yt k n s∧yJ k n s=l))∧k=0∧n=0∧s=[]∧e=6)) :
  Calls Tryz.prog 34 #[.string (za l),Zz k n s,.int .i64 e] w fun r w'=>r=.returned (.bool true)∧Below w.heap.size w w':=by
 obtain ⟨z,I,D,N,V⟩:=yn w (.cells #[.int .i64 k,.int .i64 n,.string (za s)] 24 (0,0))
 have hm:∀(r:Ending) (w':World),((∃k n s,z7 l=(k,n,s)∧yG yt k n s∧yJ k n s=l∧r=.returned (.tuple #[Zz k n s,.int .i64 0]))∨(∀k n s,z7 l=(k,n,s)→¬ (yG yt k n s∧yJ k n s=l))∧r=.returned (.tuple #[Zz 0 0 [],.int .i64 6]))∧Below z.heap.size z w'→r=.returned (.tuple #[Zz k n s,.int .i64 e])∧Below z.heap.size z w':=by
  rintro r w' ⟨⟨k',n',s',E,h2,h3,rfl⟩ | ⟨E,rfl⟩,W⟩
  ·rcases h with ⟨H,Z,Y,rfl⟩ | ⟨H,-⟩
   ·rw [H] at E
    simp only [Prod.mk.injEq] at E;obtain ⟨rfl,rfl,rfl⟩:=E;exact ⟨rfl,W⟩
   ·exact absurd ⟨h2,h3⟩ (H _ _ _ E)
  ·rcases h with ⟨H,Z,Y,-⟩ | ⟨-,rfl,rfl,rfl,rfl⟩
   ·exact absurd ⟨Z,Y⟩ (E _ _ _ H)
   ·exact ⟨rfl,W⟩
 have O:=(vN l z hl (hQ.below D)).mono hm;have K:Hid (Below w.heap.size w z∧z.heap[w.heap.size]?=some (.cells #[.int .i64 k,.int .i64 n,.string (za s)] 24 (0,0))):=⟨D,V⟩
 unfold Zz at O ⊢
 have J:=I.symm;clear I D N V hQ h hl
 go_enter Tryz.func34,Tryz.ntmps34
 go_wp2_with fail
 refine O.mono ?_;clear O J;rintro r G ⟨rfl,A⟩;have y:=Zw K.out.1 A;have M:G.heap[w.heap.size]?=_:=(A.block _ (ZW K.out.2)).trans K.out.2;have Q:w.heap.size≠G.heap.size:=fun h=>by have:=ZW M;omega
 have L:∀j v,G.cell? ⟨w.heap.size,j,none⟩=some v→∀o,(G.alloc o).cell? ⟨w.heap.size,j,none⟩=some v:=fun j v h o=>by
  rw [World.cell?_alloc_lt _ _ _ (ZW M)];exact h
 obtain ⟨X,T,U,-⟩:=zh M;have r0:=L 0 _ X;have r1:=L 1 _ T;have r2:=L 2 _ U;have R:Hid (Below w.heap.size w G):=y;clear A K y M L X T U Q;go_wp2
 go_ret
 exact ⟨rfl,R.out.alloc R.out.size _⟩
theorem yO (w:World) (hQ:QT w) :
  Calls Tryz.prog 13 #[] w fun e w'=>e=.returned (.bool true)∧Below w.heap.size w w':=by
 have y:Hid (QT w):=hQ
 have Z:Calls Tryz.prog 9 #[.agg #[.int .i64 10,.int .i64 12,.string ⟨#[97,32,62,32,49]⟩]] w fun e w'=>e=.returned (.tuple #[.string ⟨#[98,114,101,97,107,32,49,50,32,105,102,32,97,32,62,32,49]⟩,.int .i64 0])∧Below w.heap.size w w' :=
  (xk 10 12 UG w hQ.1).mono fun e w' ⟨h,o⟩=>by
   rcases h with ⟨-,rfl⟩ | ⟨h,-⟩
   ·exact ⟨by rw [UY.2.2];rfl,o⟩
   ·exact absurd UY.2.1 h
 clear hQ
 go_enter Tryz.func13,Tryz.ntmps13
 go_wp2_with fail
 refine Z.mono ?_;clear Z;rintro e w0 ⟨rfl,O⟩;have D:Hid (Below w.heap.size w w0):=O;clear O;have c1:Calls Tryz.prog 34 #[.string ⟨#[98,97,99,107,45,115,116,101,112]⟩,.agg #[.int .i64 5,.int .i64 0,.string ⟨#[]⟩],.int .i64 0] w0 fun r w'=>r=.returned (.bool true)∧Below w0.heap.size w0 w':=yf U3 5 0 [] 0 w0 (by decide) (y.out.below D.out) (.inl ⟨qi.1,qi.2.1,qi.2.2,rfl⟩)
 go_wp2_with fail
 refine c1.mono ?_;clear c1;rintro e T ⟨rfl,o⟩;have A:Hid (Below w.heap.size w T):=Zw D.out o;clear o D;have c2:Calls Tryz.prog 34 #[.string ⟨#[98,114,101,97,107,32,49,50,32,105,102,32,97,32,62,32,49]⟩,.agg #[.int .i64 10,.int .i64 12,.string ⟨#[97,32,62,32,49]⟩],.int .i64 0] T fun r w'=>r=.returned (.bool true)∧Below T.heap.size T w':=yf qe 10 12 UG 0 T (by decide) (y.out.below A.out) (.inl ⟨UY.1,UY.2.1,UY.2.2,rfl⟩)
 go_wp2_with fail
 refine c2.mono ?_;clear c2;rintro e L ⟨rfl,o⟩;have E:Hid (Below w.heap.size w L):=Zw A.out o;clear o A;have Y:Calls Tryz.prog 34 #[.string ⟨#[103,111,116,111,32,48]⟩,.agg #[.int .i64 9,.int .i64 0,.string ⟨#[]⟩],.int .i64 0] L fun r w'=>r=.returned (.bool true)∧Below L.heap.size L w':=yf qg 9 0 [] 0 L (by decide) (y.out.below E.out) (.inl ⟨qj.1,qj.2.1,qj.2.2,rfl⟩)
 go_wp2_with fail
 refine Y.mono ?_;clear Y;rintro e K ⟨rfl,o⟩;have H:Hid (Below w.heap.size w K):=Zw E.out o;clear o E;have c4:Calls Tryz.prog 34 #[.string ⟨#[103,111,116,111,32,48,49]⟩,.agg #[.int .i64 0,.int .i64 0,.string ⟨#[]⟩],.int .i64 6] K fun r w'=>r=.returned (.bool true)∧Below K.heap.size K w':=yf U4 0 0 [] 6 K (by decide) (y.out.below H.out) (.inr ⟨qq,rfl,rfl,rfl,rfl⟩)
 go_wp2_with fail
 refine c4.mono ?_;clear c4;rintro e M ⟨rfl,o⟩;have z:Hid (Below w.heap.size w M):=Zw H.out o;clear o H;have X:Calls Tryz.prog 34 #[.string ⟨#[103,111,116,111]⟩,.agg #[.int .i64 0,.int .i64 0,.string ⟨#[]⟩],.int .i64 6] M fun r w'=>r=.returned (.bool true)∧Below M.heap.size M w':=yf U5 0 0 [] 6 M (by decide) (y.out.below z.out) (.inr ⟨qs,rfl,rfl,rfl,rfl⟩)
 go_wp2_with fail
 refine X.mono ?_;clear X;rintro e Q ⟨rfl,o⟩;have J:Hid (Below w.heap.size w Q):=Zw z.out o;clear o z;have W:Calls Tryz.prog 34 #[.string ⟨#[115,116,101,112,32,49]⟩,.agg #[.int .i64 0,.int .i64 0,.string ⟨#[]⟩],.int .i64 6] Q fun r w'=>r=.returned (.bool true)∧Below Q.heap.size Q w':=yf U6 0 0 [] 6 Q (by decide) (y.out.below J.out) (.inr ⟨qt,rfl,rfl,rfl,rfl⟩)
 go_wp2_with fail
 refine W.mono ?_;clear W;rintro e N ⟨rfl,o⟩;have G:Hid (Below w.heap.size w N):=Zw J.out o;clear o J;have V:Calls Tryz.prog 34 #[.string ⟨#[98,114,101,97,107,32,49,32,105,102]⟩,.agg #[.int .i64 0,.int .i64 0,.string ⟨#[]⟩],.int .i64 6] N fun r w'=>r=.returned (.bool true)∧Below N.heap.size N w':=yf U7 0 0 [] 6 N (by decide) (y.out.below G.out) (.inr ⟨qu,rfl,rfl,rfl,rfl⟩)
 go_wp2_with fail
 refine V.mono ?_;clear V;rintro e R ⟨rfl,o⟩;have I:Hid (Below w.heap.size w R):=Zw G.out o;clear o G;have c8:Calls Tryz.prog 34 #[.string ⟨#[112,114,105,110,116,32,49,32,43]⟩,.agg #[.int .i64 0,.int .i64 0,.string ⟨#[]⟩],.int .i64 6] R fun r w'=>r=.returned (.bool true)∧Below R.heap.size R w':=yf U8 0 0 [] 6 R (by decide) (y.out.below I.out) (.inr ⟨qv,rfl,rfl,rfl,rfl⟩)
 go_wp2_with fail
 refine c8.mono ?_;clear c8;rintro e w8 ⟨rfl,o⟩;have U:Hid (Below w.heap.size w w8):=Zw I.out o;clear o I;go_wp2
 go_ret
 exact ⟨rfl,U.out⟩
end Go.Proofs.YtmbofhpmockmbaaGreatDoor
