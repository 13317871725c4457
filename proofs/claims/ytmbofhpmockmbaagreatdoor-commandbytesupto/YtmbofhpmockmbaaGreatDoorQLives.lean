import Derived.Test.YtmbofhpmockmbaaGreatDoorQParse
namespace Go.Proofs.YtmbofhpmockmbaaGreatDoor
open Go.RowKit Go.Shelf
set_option maxHeartbeats 16000000
set_option maxRecDepth 100000
theorem X6 {l:List UInt8} {x:Ex} {a e:Nat} (f:Nat) (hl:l.length≤4096) (h:xi f l=(x,a,e)) (hd:e≠99):zY l x a e:=by
 unfold zY
 rw [Vl hl]
 unfold xi at h
 by_cases hc:(yZ l).2.2≠0
 ·rw [if_pos hc] at h ⊢
  simp only [Prod.mk.injEq] at h;exact ⟨h.1.symm,h.2.1.symm,h.2.2.symm⟩
 ·rw [if_neg hc] at h ⊢
  cases hp:zd f 1 (yZ l).1 with
  | none=>rw [hp] at h;simp only [Prod.mk.injEq] at h;exact absurd h.2.2.symm hd
  | some r2 =>
   rw [hp] at h;refine ⟨f,r2,hp,?_⟩;cases hw:Zo r2 with
   | error b =>
    simp only [hw,Prod.mk.injEq] at h ⊢;exact ⟨h.1.symm,h.2.1.symm,h.2.2.symm⟩
   | ok y =>
    simp only [hw] at h ⊢
    by_cases hdp:24<zn y
    ·rw [if_pos hdp] at h ⊢
     simp only [Prod.mk.injEq] at h;exact ⟨h.1.symm,h.2.1.symm,h.2.2.symm⟩
    ·rw [if_neg hdp] at h ⊢
     simp only [Prod.mk.injEq] at h;exact ⟨h.1.symm,h.2.1.symm,h.2.2.symm⟩
def UL:List UInt8:=[97,32,62,32,49]
def qj:List UInt8:=[49,32,43]
theorem U1:yt UL:=⟨(xi 60 UL).1,0,X6 60 (by decide) (by kernel_rfl) (by decide)⟩
theorem U2:¬ yt qj:=fun ⟨x,a,h⟩=>by
 have o:(xi 60 qj).2.2=6:=by kernel_rfl
 have e:=uK 60 (by decide) h (by rw [o];decide)
 rw [e] at o;cases o
def U8:List UInt8:=[98,97,99,107,45,115,116,101,112]
def qk:List UInt8:=[98,114,101,97,107,32,49,50,32,105,102,32,97,32,62,32,49]
def ql:List UInt8:=[103,111,116,111,32,48]
def U9:List UInt8:=[103,111,116,111,32,48,49]
def qa:List UInt8:=[103,111,116,111]
def qb:List UInt8:=[115,116,101,112,32,49]
def qc:List UInt8:=[98,114,101,97,107,32,49,32,105,102]
def qd:List UInt8:=[112,114,105,110,116,32,49,32,43]
theorem k5:ofKind 5=(5,U8,false,0,false,[]):=by decide
theorem qm:ofKind 10=(10,[98,114,101,97,107],true,1,true,[105,102]):=by decide
theorem k9:ofKind 9=(9,[103,111,116,111],true,0,false,[]):=by decide
theorem k1:ofKind 1=(1,[115,116,101,112],false,0,false,[]):=by decide
theorem qu:ofKind 17=(17,[112,114,105,110,116],false,0,true,[]):=by decide
theorem qv:Lib.itoa 12=[49,50]:=by rw [ur 12 (by decide)];exact Lib.decDigits_two (by decide) (by decide)
theorem i0:Lib.itoa 0=[48]:=by rw [ur 0 (by decide)];exact Lib.decDigits_one (by decide)
theorem i1:Lib.itoa 1=[49]:=by rw [ur 1 (by decide)];exact Lib.decDigits_one (by decide)
theorem qn:z7 U8=(5,0,[])∧yG yt 5 0 []∧yJ 5 0 []=U8:=by
 refine ⟨by decide,?_,by unfold yJ;rw [k5];rfl⟩
 unfold yG;rw [k5]
 exact ⟨by decide,fun _=>rfl,fun _=>rfl,fun h=>(by cases h),fun h=>(by cases h)⟩
theorem U3:z7 qk=(10,12,UL)∧yG yt 10 12 UL∧yJ 10 12 UL=qk:=by
 refine ⟨by decide,?_,by unfold yJ;rw [qm,qv];rfl⟩
 unfold yG;rw [qm]
 exact ⟨by decide,fun h=>(by cases h),fun h=>(by cases h),fun _=>⟨by decide,by decide⟩,fun _=>.inr ⟨by decide,U1⟩⟩
theorem qo:z7 ql=(9,0,[])∧yG yt 9 0 []∧yJ 9 0 []=ql:=by
 refine ⟨by decide,?_,by unfold yJ;rw [k9,i0];rfl⟩
 unfold yG;rw [k9]
 exact ⟨by decide,fun h=>(by cases h),fun _=>rfl,fun _=>⟨by decide,by decide⟩,fun h=>(by cases h)⟩
theorem X7 {l:List UInt8} {k n:Int} {s:List UInt8} (h:z7 l=(k,n,s)) (hn:¬ (yG yt k n s∧yJ k n s=l)):∀k n s,z7 l=(k,n,s)→¬ (yG yt k n s∧yJ k n s=l):=by
 intro z o y e;rw [h] at e;simp only [Prod.mk.injEq] at e;obtain ⟨rfl,rfl,rfl⟩:=e;exact hn
theorem qw:∀k n s,z7 U9=(k,n,s)→¬ (yG yt k n s∧yJ k n s=U9):=X7 (show z7 U9=(9,1,[]) by decide) fun h=>by
 have:=h.2;unfold yJ at this;rw [k9,i1] at this;exact absurd this (by decide)
theorem qy:∀k n s,z7 qa=(k,n,s)→¬ (yG yt k n s∧yJ k n s=qa):=X7 (show z7 qa=(9,0,[]) by decide) fun h=>by
 have:=h.2;unfold yJ at this;rw [k9,i0] at this;exact absurd this (by decide)
theorem qz:∀k n s,z7 qb=(k,n,s)→¬ (yG yt k n s∧yJ k n s=qb):=X7 (show z7 qb=(1,0,[]) by decide) fun h=>by
 have:=h.2;unfold yJ at this;rw [k1] at this;exact absurd this (by decide)
theorem qA:∀k n s,z7 qc=(k,n,s)→¬ (yG yt k n s∧yJ k n s=qc):=X7 (show z7 qc=(10,1,[]) by decide) fun h=>by
 have:=h.2;unfold yJ at this;rw [qm,i1] at this;exact absurd this (by decide)
theorem qB:∀k n s,z7 qd=(k,n,s)→¬ (yG yt k n s∧yJ k n s=qd):=X7 (show z7 qd=(17,0,qj) by decide) fun h=>by
 have:=h.1.2.2.2.2
 rw [qu] at this;rcases this rfl with h | h
 ·exact absurd h.1 (by decide)
 ·exact U2 h.2
theorem yf (l:List UInt8) (k n:Int) (s:List UInt8) (e:Int) (w:World) (hl:l.length≤10000000) (hQ:QT w)
  (h:(z7 l=(k,n,s)∧yG yt k n s∧yJ k n s=l∧e=0)∨((∀k n s,z7 l=(k,n,s)→¬ (yG yt k n s∧yJ k n s=l))∧k=0∧n=0∧s=[]∧e=6)) :
  Calls Tryz.prog 34 #[.string (za l),Zz k n s,.int .i64 e] w fun r w'=>r=.returned (.bool true)∧Below w.heap.size w w':=by
 obtain ⟨z,I,A,Q,Y⟩:=yn w (.cells #[.int .i64 k,.int .i64 n,.string (za s)] 24 (0,0))
 have hm:∀(r:Ending) (w':World),((∃k n s,z7 l=(k,n,s)∧yG yt k n s∧yJ k n s=l∧r=.returned (.tuple #[Zz k n s,.int .i64 0]))∨(∀k n s,z7 l=(k,n,s)→¬ (yG yt k n s∧yJ k n s=l))∧r=.returned (.tuple #[Zz 0 0 [],.int .i64 6]))∧Below z.heap.size z w'→r=.returned (.tuple #[Zz k n s,.int .i64 e])∧Below z.heap.size z w':=by
  rintro r w' ⟨⟨k',n',s',E,h2,h3,rfl⟩ | ⟨E,rfl⟩,Z⟩
  ·rcases h with ⟨G,R,U,rfl⟩ | ⟨G,-⟩
   ·rw [G] at E
    simp only [Prod.mk.injEq] at E;obtain ⟨rfl,rfl,rfl⟩:=E;exact ⟨rfl,Z⟩
   ·exact absurd ⟨h2,h3⟩ (G _ _ _ E)
  ·rcases h with ⟨G,R,U,-⟩ | ⟨-,rfl,rfl,rfl,rfl⟩
   ·exact absurd ⟨R,U⟩ (E _ _ _ G)
   ·exact ⟨rfl,Z⟩
 have N:=(vN l z hl (hQ.below A)).mono hm;have L:Hid (Below w.heap.size w z∧z.heap[w.heap.size]?=some (.cells #[.int .i64 k,.int .i64 n,.string (za s)] 24 (0,0))):=⟨A,Y⟩
 unfold Zz at N ⊢
 have J:=I.symm;clear I A Q Y hQ h hl
 go_enter Tryz.func34,Tryz.ntmps34
 go_wp2_with fail
 refine N.mono ?_;clear N J;rintro r H ⟨rfl,D⟩;have y:=Zw L.out.1 D;have M:H.heap[w.heap.size]?=_:=(D.block _ (ZW L.out.2)).trans L.out.2;have O:w.heap.size≠H.heap.size:=fun h=>by have:=ZW M;omega
 have K:∀j v,H.cell? ⟨w.heap.size,j,none⟩=some v→∀o,(H.alloc o).cell? ⟨w.heap.size,j,none⟩=some v:=fun j v h o=>by
  rw [World.cell?_alloc_lt _ _ _ (ZW M)];exact h
 obtain ⟨V,W,X,-⟩:=zh M;have r0:=K 0 _ V;have r1:=K 1 _ W;have r2:=K 2 _ X;have T:Hid (Below w.heap.size w H):=y;clear D L y M K V W X O;go_wp2
 go_ret
 exact ⟨rfl,T.out.alloc T.out.size _⟩
theorem yO (w:World) (hQ:QT w) :
  Calls Tryz.prog 13 #[] w fun e w'=>e=.returned (.bool true)∧Below w.heap.size w w':=by
 have y:Hid (QT w):=hQ
 have Y:Calls Tryz.prog 9 #[.agg #[.int .i64 10,.int .i64 12,.string ⟨#[97,32,62,32,49]⟩]] w fun e w'=>e=.returned (.tuple #[.string ⟨#[98,114,101,97,107,32,49,50,32,105,102,32,97,32,62,32,49]⟩,.int .i64 0])∧Below w.heap.size w w' :=
  (xk 10 12 UL w hQ.1).mono fun e w' ⟨h,o⟩=>by
   rcases h with ⟨-,rfl⟩ | ⟨h,-⟩
   ·exact ⟨by rw [U3.2.2];rfl,o⟩
   ·exact absurd U3.2.1 h
 clear hQ
 go_enter Tryz.func13,Tryz.ntmps13
 go_wp2_with fail
 refine Y.mono ?_;clear Y;rintro e w0 ⟨rfl,M⟩;have z:Hid (Below w.heap.size w w0):=M;clear M;have X:Calls Tryz.prog 34 #[.string ⟨#[98,97,99,107,45,115,116,101,112]⟩,.agg #[.int .i64 5,.int .i64 0,.string ⟨#[]⟩],.int .i64 0] w0 fun r w'=>r=.returned (.bool true)∧Below w0.heap.size w0 w':=yf U8 5 0 [] 0 w0 (by decide) (y.out.below z.out) (.inl ⟨qn.1,qn.2.1,qn.2.2,rfl⟩)
 go_wp2_with fail
 refine X.mono ?_;clear X;rintro e N ⟨rfl,o⟩;have G:Hid (Below w.heap.size w N):=Zw z.out o;clear o z;have V:Calls Tryz.prog 34 #[.string ⟨#[98,114,101,97,107,32,49,50,32,105,102,32,97,32,62,32,49]⟩,.agg #[.int .i64 10,.int .i64 12,.string ⟨#[97,32,62,32,49]⟩],.int .i64 0] N fun r w'=>r=.returned (.bool true)∧Below N.heap.size N w':=yf qk 10 12 UL 0 N (by decide) (y.out.below G.out) (.inl ⟨U3.1,U3.2.1,U3.2.2,rfl⟩)
 go_wp2_with fail
 refine V.mono ?_;clear V;rintro e L ⟨rfl,o⟩;have J:Hid (Below w.heap.size w L):=Zw G.out o;clear o G;have c3:Calls Tryz.prog 34 #[.string ⟨#[103,111,116,111,32,48]⟩,.agg #[.int .i64 9,.int .i64 0,.string ⟨#[]⟩],.int .i64 0] L fun r w'=>r=.returned (.bool true)∧Below L.heap.size L w':=yf ql 9 0 [] 0 L (by decide) (y.out.below J.out) (.inl ⟨qo.1,qo.2.1,qo.2.2,rfl⟩)
 go_wp2_with fail
 refine c3.mono ?_;clear c3;rintro e R ⟨rfl,o⟩;have E:Hid (Below w.heap.size w R):=Zw J.out o;clear o J;have Z:Calls Tryz.prog 34 #[.string ⟨#[103,111,116,111,32,48,49]⟩,.agg #[.int .i64 0,.int .i64 0,.string ⟨#[]⟩],.int .i64 6] R fun r w'=>r=.returned (.bool true)∧Below R.heap.size R w':=yf U9 0 0 [] 6 R (by decide) (y.out.below E.out) (.inr ⟨qw,rfl,rfl,rfl,rfl⟩)
 go_wp2_with fail
 refine Z.mono ?_;clear Z;rintro e O ⟨rfl,o⟩;have D:Hid (Below w.heap.size w O):=Zw E.out o;clear o E;have c5:Calls Tryz.prog 34 #[.string ⟨#[103,111,116,111]⟩,.agg #[.int .i64 0,.int .i64 0,.string ⟨#[]⟩],.int .i64 6] O fun r w'=>r=.returned (.bool true)∧Below O.heap.size O w':=yf qa 0 0 [] 6 O (by decide) (y.out.below D.out) (.inr ⟨qy,rfl,rfl,rfl,rfl⟩)
 go_wp2_with fail
 refine c5.mono ?_;clear c5;rintro e T ⟨rfl,o⟩;have H:Hid (Below w.heap.size w T):=Zw D.out o;clear o D;have c6:Calls Tryz.prog 34 #[.string ⟨#[115,116,101,112,32,49]⟩,.agg #[.int .i64 0,.int .i64 0,.string ⟨#[]⟩],.int .i64 6] T fun r w'=>r=.returned (.bool true)∧Below T.heap.size T w':=yf qb 0 0 [] 6 T (by decide) (y.out.below H.out) (.inr ⟨qz,rfl,rfl,rfl,rfl⟩)
 go_wp2_with fail
 refine c6.mono ?_;clear c6;rintro e Q ⟨rfl,o⟩;have I:Hid (Below w.heap.size w Q):=Zw H.out o;clear o H;have W:Calls Tryz.prog 34 #[.string ⟨#[98,114,101,97,107,32,49,32,105,102]⟩,.agg #[.int .i64 0,.int .i64 0,.string ⟨#[]⟩],.int .i64 6] Q fun r w'=>r=.returned (.bool true)∧Below Q.heap.size Q w':=yf qc 0 0 [] 6 Q (by decide) (y.out.below I.out) (.inr ⟨qA,rfl,rfl,rfl,rfl⟩)
 go_wp2_with fail
 refine W.mono ?_;clear W;rintro e K ⟨rfl,o⟩;have A:Hid (Below w.heap.size w K):=Zw I.out o;clear o I;have c8:Calls Tryz.prog 34 #[.string ⟨#[112,114,105,110,116,32,49,32,43]⟩,.agg #[.int .i64 0,.int .i64 0,.string ⟨#[]⟩],.int .i64 6] K fun r w'=>r=.returned (.bool true)∧Below K.heap.size K w':=yf qd 0 0 [] 6 K (by decide) (y.out.below A.out) (.inr ⟨qB,rfl,rfl,rfl,rfl⟩)
 go_wp2_with fail
 refine c8.mono ?_;clear c8;rintro e w8 ⟨rfl,o⟩;have U:Hid (Below w.heap.size w w8):=Zw A.out o;clear o A;go_wp2
 go_ret
 exact ⟨rfl,U.out⟩
end Go.Proofs.YtmbofhpmockmbaaGreatDoor
