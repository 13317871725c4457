import Derived.Test.YtmbofhpmockmbaaGreatDoorQParse
namespace Go.Proofs.YtmbofhpmockmbaaGreatDoor
open Go.RowKit Go.Shelf
set_option maxHeartbeats 16000000
set_option maxRecDepth 100000
theorem XM {l:List UInt8} {x:Ex} {a e:Nat} (f:Nat) (hl:l.length≤4096) (h:YW f l=(x,a,e)) (hd:e≠99):zV l x a e:=by
 unfold zV
 rw [vO hl]
 unfold YW at h
 by_cases hc:(yM l).2.2≠0
 ·rw [if_pos hc] at h ⊢
  simp only [Prod.mk.injEq] at h;exact ⟨h.1.symm,h.2.1.symm,h.2.2.symm⟩
 ·rw [if_neg hc] at h ⊢
  cases hp:zd f 1 (yM l).1 with
  | none=>rw [hp] at h;simp only [Prod.mk.injEq] at h;exact absurd h.2.2.symm hd
  | some r2 =>
   rw [hp] at h;refine ⟨f,r2,hp,?_⟩;cases hw:Zk r2 with
   | error b =>
    simp only [hw,Prod.mk.injEq] at h ⊢;exact ⟨h.1.symm,h.2.1.symm,h.2.2.symm⟩
   | ok y =>
    simp only [hw] at h ⊢
    by_cases hdp:24<zn y
    ·rw [if_pos hdp] at h ⊢
     simp only [Prod.mk.injEq] at h;exact ⟨h.1.symm,h.2.1.symm,h.2.2.symm⟩
    ·rw [if_neg hdp] at h ⊢
     simp only [Prod.mk.injEq] at h;exact ⟨h.1.symm,h.2.1.symm,h.2.2.symm⟩
def Uf:List UInt8:=[97,32,62,32,49]
def UN:List UInt8:=[49,32,43]
theorem Uw:yi Uf:=⟨(YW 60 Uf).1,0,XM 60 (by decide) (by kernel_rfl) (by decide)⟩
theorem Ux:¬ yi UN:=fun ⟨x,a,h⟩=>by
 have o:(YW 60 UN).2.2=6:=by kernel_rfl
 have e:=ui 60 (by decide) h (by rw [o];decide)
 rw [e] at o;cases o
def UE:List UInt8:=[98,97,99,107,45,115,116,101,112]
def UO:List UInt8:=[98,114,101,97,107,32,49,50,32,105,102,32,97,32,62,32,49]
def UP:List UInt8:=[103,111,116,111,32,48]
def UF:List UInt8:=[103,111,116,111,32,48,49]
def UG:List UInt8:=[103,111,116,111]
def UH:List UInt8:=[115,116,101,112,32,49]
def UI:List UInt8:=[98,114,101,97,107,32,49,32,105,102]
def UJ:List UInt8:=[112,114,105,110,116,32,49,32,43]
theorem k5:ofKind 5=(5,UE,false,0,false,[]):=by decide
theorem UQ:ofKind 10=(10,[98,114,101,97,107],true,1,true,[105,102]):=by decide
theorem k9:ofKind 9=(9,[103,111,116,111],true,0,false,[]):=by decide
theorem k1:ofKind 1=(1,[115,116,101,112],false,0,false,[]):=by decide
theorem UY:ofKind 17=(17,[112,114,105,110,116],false,0,true,[]):=by decide
theorem UZ:Lib.itoa 12=[49,50]:=by rw [VY 12 (by decide)];exact Lib.decDigits_two (by decide) (by decide)
theorem i0:Lib.itoa 0=[48]:=by rw [VY 0 (by decide)];exact Lib.decDigits_one (by decide)
theorem i1:Lib.itoa 1=[49]:=by rw [VY 1 (by decide)];exact Lib.decDigits_one (by decide)
theorem UR:zX UE=(5,0,[])∧yw yi 5 0 []∧yz 5 0 []=UE:=by
 refine ⟨by decide,?_,by unfold yz;rw [k5];rfl⟩
 unfold yw;rw [k5]
 exact ⟨by decide,fun _=>rfl,fun _=>rfl,fun h=>(by cases h),fun h=>(by cases h)⟩
theorem Uy:zX UO=(10,12,Uf)∧yw yi 10 12 Uf∧yz 10 12 Uf=UO:=by
 refine ⟨by decide,?_,by unfold yz;rw [UQ,UZ];rfl⟩
 unfold yw;rw [UQ]
 exact ⟨by decide,fun h=>(by cases h),fun h=>(by cases h),fun _=>⟨by decide,by decide⟩,fun _=>.inr ⟨by decide,Uw⟩⟩
theorem US:zX UP=(9,0,[])∧yw yi 9 0 []∧yz 9 0 []=UP:=by
 refine ⟨by decide,?_,by unfold yz;rw [k9,i0];rfl⟩
 unfold yw;rw [k9]
 exact ⟨by decide,fun h=>(by cases h),fun _=>rfl,fun _=>⟨by decide,by decide⟩,fun h=>(by cases h)⟩
theorem XN {l:List UInt8} {k n:Int} {s:List UInt8} (h:zX l=(k,n,s)) (hn:¬ (yw yi k n s∧yz k n s=l)):∀k n s,zX l=(k,n,s)→¬ (yw yi k n s∧yz k n s=l):=by
 intro z y A o;rw [h] at o;simp only [Prod.mk.injEq] at o;obtain ⟨rfl,rfl,rfl⟩:=o;exact hn
theorem U0:∀k n s,zX UF=(k,n,s)→¬ (yw yi k n s∧yz k n s=UF):=XN (show zX UF=(9,1,[]) by decide) fun h=>by
 have:=h.2;unfold yz at this;rw [k9,i1] at this;exact absurd this (by decide)
theorem U1:∀k n s,zX UG=(k,n,s)→¬ (yw yi k n s∧yz k n s=UG):=XN (show zX UG=(9,0,[]) by decide) fun h=>by
 have:=h.2;unfold yz at this;rw [k9,i0] at this;exact absurd this (by decide)
theorem U2:∀k n s,zX UH=(k,n,s)→¬ (yw yi k n s∧yz k n s=UH):=XN (show zX UH=(1,0,[]) by decide) fun h=>by
 have:=h.2;unfold yz at this;rw [k1] at this;exact absurd this (by decide)
theorem U3:∀k n s,zX UI=(k,n,s)→¬ (yw yi k n s∧yz k n s=UI):=XN (show zX UI=(10,1,[]) by decide) fun h=>by
 have:=h.2;unfold yz at this;rw [UQ,i1] at this;exact absurd this (by decide)
theorem U4:∀k n s,zX UJ=(k,n,s)→¬ (yw yi k n s∧yz k n s=UJ):=XN (show zX UJ=(17,0,UN) by decide) fun h=>by
 have:=h.1.2.2.2.2
 rw [UY] at this;rcases this rfl with h | h
 ·exact absurd h.1 (by decide)
 ·exact Ux h.2
theorem Z7 (l:List UInt8) (k n:Int) (s:List UInt8) (e:Int) (w:World) (hl:l.length≤10000000) (hQ:QT w)
  (h:(zX l=(k,n,s)∧yw yi k n s∧yz k n s=l∧e=0)∨((∀k n s,zX l=(k,n,s)→¬ (yw yi k n s∧yz k n s=l))∧k=0∧n=0∧s=[]∧e=6)) :
  Calls Tryz.prog 34 #[.string (za l),ZJ k n s,.int .i64 e] w fun r w'=>r=.returned (.bool true)∧Below w.heap.size w w':=by
 obtain ⟨A,H,z,O,X⟩:=yd w (.cells #[.int .i64 k,.int .i64 n,.string (za s)] 24 (0,0))
 have Z:∀(r:Ending) (w':World),((∃k n s,zX l=(k,n,s)∧yw yi k n s∧yz k n s=l∧r=.returned (.tuple #[ZJ k n s,.int .i64 0]))∨(∀k n s,zX l=(k,n,s)→¬ (yw yi k n s∧yz k n s=l))∧r=.returned (.tuple #[ZJ 0 0 [],.int .i64 6]))∧Below A.heap.size A w'→r=.returned (.tuple #[ZJ k n s,.int .i64 e])∧Below A.heap.size A w':=by
  rintro r w' ⟨⟨k',n',s',E,h2,h3,rfl⟩ | ⟨E,rfl⟩,V⟩
  ·rcases h with ⟨G,W,Y,rfl⟩ | ⟨G,-⟩
   ·rw [G] at E
    simp only [Prod.mk.injEq] at E;obtain ⟨rfl,rfl,rfl⟩:=E;exact ⟨rfl,V⟩
   ·exact absurd ⟨h2,h3⟩ (G _ _ _ E)
  ·rcases h with ⟨G,W,Y,-⟩ | ⟨-,rfl,rfl,rfl,rfl⟩
   ·exact absurd ⟨W,Y⟩ (E _ _ _ G)
   ·exact ⟨rfl,V⟩
 have Q:=(vp l A hl (hQ.below z)).mono Z;have K:Hid (Below w.heap.size w A∧A.heap[w.heap.size]?=some (.cells #[.int .i64 k,.int .i64 n,.string (za s)] 24 (0,0))):=⟨z,X⟩
 unfold ZJ at Q ⊢
 have I:=H.symm;clear H z O X hQ h hl
 go_enter Tryz.func34,Tryz.ntmps34
 go_wp2_with fail
 refine Q.mono ?_;clear Q I;rintro r J ⟨rfl,D⟩;have y:=ZC K.out.1 D;have M:J.heap[w.heap.size]?=_:=(D.block _ (yj K.out.2)).trans K.out.2;have N:w.heap.size≠J.heap.size:=fun h=>by have:=yj M;omega
 have L:∀j v,J.cell? ⟨w.heap.size,j,none⟩=some v→∀o,(J.alloc o).cell? ⟨w.heap.size,j,none⟩=some v:=fun j v h o=>by
  rw [World.cell?_alloc_lt _ _ _ (yj M)];exact h
 obtain ⟨T,R,S,-⟩:=zl M;have r0:=L 0 _ T;have r1:=L 1 _ R;have r2:=L 2 _ S;have U:Hid (Below w.heap.size w J):=y;clear D K y M L T R S N;go_wp2
 go_ret
 exact ⟨rfl,U.out.alloc U.out.size _⟩
theorem XO (w:World) (hQ:QT w) :
  Calls Tryz.prog 13 #[] w fun e w'=>e=.returned (.bool true)∧Below w.heap.size w w':=by
 have y:Hid (QT w):=hQ
 have V:Calls Tryz.prog 9 #[.agg #[.int .i64 10,.int .i64 12,.string ⟨#[97,32,62,32,49]⟩]] w fun e w'=>e=.returned (.tuple #[.string ⟨#[98,114,101,97,107,32,49,50,32,105,102,32,97,32,62,32,49]⟩,.int .i64 0])∧Below w.heap.size w w' :=
  (YY 10 12 Uf w hQ.1).mono fun e w' ⟨h,o⟩=>by
   rcases h with ⟨-,rfl⟩ | ⟨h,-⟩
   ·exact ⟨by rw [Uy.2.2];rfl,o⟩
   ·exact absurd Uy.2.1 h
 clear hQ
 go_enter Tryz.func13,Tryz.ntmps13
 go_wp2_with fail
 refine V.mono ?_;clear V;rintro e w0 ⟨rfl,N⟩;have A:Hid (Below w.heap.size w w0):=N;clear N;have X:Calls Tryz.prog 34 #[.string ⟨#[98,97,99,107,45,115,116,101,112]⟩,.agg #[.int .i64 5,.int .i64 0,.string ⟨#[]⟩],.int .i64 0] w0 fun r w'=>r=.returned (.bool true)∧Below w0.heap.size w0 w':=Z7 UE 5 0 [] 0 w0 (by decide) (y.out.below A.out) (.inl ⟨UR.1,UR.2.1,UR.2.2,rfl⟩)
 go_wp2_with fail
 refine X.mono ?_;clear X;rintro e M ⟨rfl,o⟩;have G:Hid (Below w.heap.size w M):=ZC A.out o;clear o A;have U:Calls Tryz.prog 34 #[.string ⟨#[98,114,101,97,107,32,49,50,32,105,102,32,97,32,62,32,49]⟩,.agg #[.int .i64 10,.int .i64 12,.string ⟨#[97,32,62,32,49]⟩],.int .i64 0] M fun r w'=>r=.returned (.bool true)∧Below M.heap.size M w':=Z7 UO 10 12 Uf 0 M (by decide) (y.out.below G.out) (.inl ⟨Uy.1,Uy.2.1,Uy.2.2,rfl⟩)
 go_wp2_with fail
 refine U.mono ?_;clear U;rintro e K ⟨rfl,o⟩;have E:Hid (Below w.heap.size w K):=ZC G.out o;clear o G;have c3:Calls Tryz.prog 34 #[.string ⟨#[103,111,116,111,32,48]⟩,.agg #[.int .i64 9,.int .i64 0,.string ⟨#[]⟩],.int .i64 0] K fun r w'=>r=.returned (.bool true)∧Below K.heap.size K w':=Z7 UP 9 0 [] 0 K (by decide) (y.out.below E.out) (.inl ⟨US.1,US.2.1,US.2.2,rfl⟩)
 go_wp2_with fail
 refine c3.mono ?_;clear c3;rintro e Q ⟨rfl,o⟩;have z:Hid (Below w.heap.size w Q):=ZC E.out o;clear o E;have c4:Calls Tryz.prog 34 #[.string ⟨#[103,111,116,111,32,48,49]⟩,.agg #[.int .i64 0,.int .i64 0,.string ⟨#[]⟩],.int .i64 6] Q fun r w'=>r=.returned (.bool true)∧Below Q.heap.size Q w':=Z7 UF 0 0 [] 6 Q (by decide) (y.out.below z.out) (.inr ⟨U0,rfl,rfl,rfl,rfl⟩)
 go_wp2_with fail
 refine c4.mono ?_;clear c4;rintro e L ⟨rfl,o⟩;have J:Hid (Below w.heap.size w L):=ZC z.out o;clear o z;have c5:Calls Tryz.prog 34 #[.string ⟨#[103,111,116,111]⟩,.agg #[.int .i64 0,.int .i64 0,.string ⟨#[]⟩],.int .i64 6] L fun r w'=>r=.returned (.bool true)∧Below L.heap.size L w':=Z7 UG 0 0 [] 6 L (by decide) (y.out.below J.out) (.inr ⟨U1,rfl,rfl,rfl,rfl⟩)
 go_wp2_with fail
 refine c5.mono ?_;clear c5;rintro e S ⟨rfl,o⟩;have D:Hid (Below w.heap.size w S):=ZC J.out o;clear o J;have W:Calls Tryz.prog 34 #[.string ⟨#[115,116,101,112,32,49]⟩,.agg #[.int .i64 0,.int .i64 0,.string ⟨#[]⟩],.int .i64 6] S fun r w'=>r=.returned (.bool true)∧Below S.heap.size S w':=Z7 UH 0 0 [] 6 S (by decide) (y.out.below D.out) (.inr ⟨U2,rfl,rfl,rfl,rfl⟩)
 go_wp2_with fail
 refine W.mono ?_;clear W;rintro e R ⟨rfl,o⟩;have I:Hid (Below w.heap.size w R):=ZC D.out o;clear o D;have Z:Calls Tryz.prog 34 #[.string ⟨#[98,114,101,97,107,32,49,32,105,102]⟩,.agg #[.int .i64 0,.int .i64 0,.string ⟨#[]⟩],.int .i64 6] R fun r w'=>r=.returned (.bool true)∧Below R.heap.size R w':=Z7 UI 0 0 [] 6 R (by decide) (y.out.below I.out) (.inr ⟨U3,rfl,rfl,rfl,rfl⟩)
 go_wp2_with fail
 refine Z.mono ?_;clear Z;rintro e O ⟨rfl,o⟩;have H:Hid (Below w.heap.size w O):=ZC I.out o;clear o I;have Y:Calls Tryz.prog 34 #[.string ⟨#[112,114,105,110,116,32,49,32,43]⟩,.agg #[.int .i64 0,.int .i64 0,.string ⟨#[]⟩],.int .i64 6] O fun r w'=>r=.returned (.bool true)∧Below O.heap.size O w':=Z7 UJ 0 0 [] 6 O (by decide) (y.out.below H.out) (.inr ⟨U4,rfl,rfl,rfl,rfl⟩)
 go_wp2_with fail
 refine Y.mono ?_;clear Y;rintro e w8 ⟨rfl,o⟩;have T:Hid (Below w.heap.size w w8):=ZC H.out o;clear o H;go_wp2
 go_ret
 exact ⟨rfl,T.out⟩
end Go.Proofs.YtmbofhpmockmbaaGreatDoor
