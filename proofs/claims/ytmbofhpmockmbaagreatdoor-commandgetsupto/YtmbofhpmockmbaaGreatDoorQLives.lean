import Derived.Test.YtmbofhpmockmbaaGreatDoorQParse
namespace Go.Proofs.YtmbofhpmockmbaaGreatDoor
open Go.RowKit Go.Shelf
set_option maxHeartbeats 16000000
set_option maxRecDepth 100000
theorem vQ {l:List UInt8} {x:Ex} {a e:Nat} (f:Nat) (hl:l.length≤4096) (h:xM f l=(x,a,e)) (hd:e≠99):Zb l x a e:=by
 unfold Zb
 rw [VW hl]
 unfold xM at h
 by_cases hc:(Yj l).2.2≠0
 ·rw [if_pos hc] at h ⊢
  simp only [Prod.mk.injEq] at h;exact ⟨h.1.symm,h.2.1.symm,h.2.2.symm⟩
 ·rw [if_neg hc] at h ⊢
  cases hp:zd f 1 (Yj l).1 with
  | none=>rw [hp] at h;simp only [Prod.mk.injEq] at h;exact absurd h.2.2.symm hd
  | some r2 =>
   rw [hp] at h;refine ⟨f,r2,hp,?_⟩;cases hw:Zw r2 with
   | error b =>
    simp only [hw,Prod.mk.injEq] at h ⊢;exact ⟨h.1.symm,h.2.1.symm,h.2.2.symm⟩
   | ok y =>
    simp only [hw] at h ⊢
    by_cases hdp:24<zo y
    ·rw [if_pos hdp] at h ⊢
     simp only [Prod.mk.injEq] at h;exact ⟨h.1.symm,h.2.1.symm,h.2.2.symm⟩
    ·rw [if_neg hdp] at h ⊢
     simp only [Prod.mk.injEq] at h;exact ⟨h.1.symm,h.2.1.symm,h.2.2.symm⟩
def qq:List UInt8:=[97,32,62,32,49]
def qX:List UInt8:=[49,32,43]
theorem qH:yC qq:=⟨(xM 60 qq).1,0,vQ 60 (by decide) (by kernel_rfl) (by decide)⟩
theorem qI:¬ yC qX:=fun ⟨x,a,h⟩=>by
 have o:(xM 60 qX).2.2=6:=by kernel_rfl
 have e:=Uu 60 (by decide) h (by rw [o];decide)
 rw [e] at o;cases o
def qO:List UInt8:=[98,97,99,107,45,115,116,101,112]
def qY:List UInt8:=[98,114,101,97,107,32,49,50,32,105,102,32,97,32,62,32,49]
def qZ:List UInt8:=[103,111,116,111,32,48]
def qP:List UInt8:=[103,111,116,111,32,48,49]
def qQ:List UInt8:=[103,111,116,111]
def qR:List UInt8:=[115,116,101,112,32,49]
def qS:List UInt8:=[98,114,101,97,107,32,49,32,105,102]
def qT:List UInt8:=[112,114,105,110,116,32,49,32,43]
theorem k5:ofKind 5=(5,qO,false,0,false,[]):=by decide
theorem q6:ofKind 10=(10,[98,114,101,97,107],true,1,true,[105,102]):=by decide
theorem k9:ofKind 9=(9,[103,111,116,111],true,0,false,[]):=by decide
theorem k1:ofKind 1=(1,[115,116,101,112],false,0,false,[]):=by decide
theorem Qc:ofKind 17=(17,[112,114,105,110,116],false,0,true,[]):=by decide
theorem Qd:Lib.itoa 12=[49,50]:=by rw [Ub 12 (by decide)];exact Lib.decDigits_two (by decide) (by decide)
theorem i0:Lib.itoa 0=[48]:=by rw [Ub 0 (by decide)];exact Lib.decDigits_one (by decide)
theorem i1:Lib.itoa 1=[49]:=by rw [Ub 1 (by decide)];exact Lib.decDigits_one (by decide)
theorem q7:Zf qO=(5,0,[])∧yP yC 5 0 []∧yV 5 0 []=qO:=by
 refine ⟨by decide,?_,by unfold yV;rw [k5];rfl⟩
 unfold yP;rw [k5]
 exact ⟨by decide,fun _=>rfl,fun _=>rfl,fun h=>(by cases h),fun h=>(by cases h)⟩
theorem qJ:Zf qY=(10,12,qq)∧yP yC 10 12 qq∧yV 10 12 qq=qY:=by
 refine ⟨by decide,?_,by unfold yV;rw [q6,Qd];rfl⟩
 unfold yP;rw [q6]
 exact ⟨by decide,fun h=>(by cases h),fun h=>(by cases h),fun _=>⟨by decide,by decide⟩,fun _=>.inr ⟨by decide,qH⟩⟩
theorem q8:Zf qZ=(9,0,[])∧yP yC 9 0 []∧yV 9 0 []=qZ:=by
 refine ⟨by decide,?_,by unfold yV;rw [k9,i0];rfl⟩
 unfold yP;rw [k9]
 exact ⟨by decide,fun h=>(by cases h),fun _=>rfl,fun _=>⟨by decide,by decide⟩,fun h=>(by cases h)⟩
theorem vR {l:List UInt8} {k n:Int} {s:List UInt8} (h:Zf l=(k,n,s)) (hn:¬ (yP yC k n s∧yV k n s=l)):∀k n s,Zf l=(k,n,s)→¬ (yP yC k n s∧yV k n s=l):=by
 intro A y z o;rw [h] at o;simp only [Prod.mk.injEq] at o;obtain ⟨rfl,rfl,rfl⟩:=o;exact hn
theorem Qe:∀k n s,Zf qP=(k,n,s)→¬ (yP yC k n s∧yV k n s=qP):=vR (show Zf qP=(9,1,[]) by decide) fun h=>by
 have:=h.2;unfold yV at this;rw [k9,i1] at this;exact absurd this (by decide)
theorem Qf:∀k n s,Zf qQ=(k,n,s)→¬ (yP yC k n s∧yV k n s=qQ):=vR (show Zf qQ=(9,0,[]) by decide) fun h=>by
 have:=h.2;unfold yV at this;rw [k9,i0] at this;exact absurd this (by decide)
theorem Qg:∀k n s,Zf qR=(k,n,s)→¬ (yP yC k n s∧yV k n s=qR):=vR (show Zf qR=(1,0,[]) by decide) fun h=>by
 have:=h.2;unfold yV at this;rw [k1] at this;exact absurd this (by decide)
theorem Qh:∀k n s,Zf qS=(k,n,s)→¬ (yP yC k n s∧yV k n s=qS):=vR (show Zf qS=(10,1,[]) by decide) fun h=>by
 have:=h.2;unfold yV at this;rw [q6,i1] at this;exact absurd this (by decide)
theorem Qi:∀k n s,Zf qT=(k,n,s)→¬ (yP yC k n s∧yV k n s=qT):=vR (show Zf qT=(17,0,qX) by decide) fun h=>by
 have:=h.1.2.2.2.2
 rw [Qc] at this;rcases this rfl with h | h
 ·exact absurd h.1 (by decide)
 ·exact qI h.2
theorem yn (l:List UInt8) (k n:Int) (s:List UInt8) (e:Int) (w:World) (hl:l.length≤10000000) (hQ:QT w)
  (h:(Zf l=(k,n,s)∧yP yC k n s∧yV k n s=l∧e=0)∨((∀k n s,Zf l=(k,n,s)→¬ (yP yC k n s∧yV k n s=l))∧k=0∧n=0∧s=[]∧e=6)) :
  Calls Tryz.prog 34 #[.string (za l),ZH k n s,.int .i64 e] w fun r w'=>r=.returned (.bool true)∧Below w.heap.size w w':=by
 obtain ⟨A,G,D,O,T⟩:=ZY w (.cells #[.int .i64 k,.int .i64 n,.string (za s)] 24 (0,0))
 have hm:∀(r:Ending) (w':World),((∃k n s,Zf l=(k,n,s)∧yP yC k n s∧yV k n s=l∧r=.returned (.tuple #[ZH k n s,.int .i64 0]))∨(∀k n s,Zf l=(k,n,s)→¬ (yP yC k n s∧yV k n s=l))∧r=.returned (.tuple #[ZH 0 0 [],.int .i64 6]))∧Below A.heap.size A w'→r=.returned (.tuple #[ZH k n s,.int .i64 e])∧Below A.heap.size A w':=by
  rintro r w' ⟨⟨k',n',s',E,h2,h3,rfl⟩ | ⟨E,rfl⟩,U⟩
  ·rcases h with ⟨J,Y,Z,rfl⟩ | ⟨J,-⟩
   ·rw [J] at E
    simp only [Prod.mk.injEq] at E;obtain ⟨rfl,rfl,rfl⟩:=E;exact ⟨rfl,U⟩
   ·exact absurd ⟨h2,h3⟩ (J _ _ _ E)
  ·rcases h with ⟨J,Y,Z,-⟩ | ⟨-,rfl,rfl,rfl,rfl⟩
   ·exact absurd ⟨Y,Z⟩ (E _ _ _ J)
   ·exact ⟨rfl,U⟩
 have R:=(Vz l A hl (hQ.below D)).mono hm;have K:Hid (Below w.heap.size w A∧A.heap[w.heap.size]?=some (.cells #[.int .i64 k,.int .i64 n,.string (za s)] 24 (0,0))):=⟨D,T⟩
 unfold ZH at R ⊢
 have I:=G.symm;clear G D O T hQ h hl
 go_enter Tryz.func34,Tryz.ntmps34
 go_wp2_with fail
 refine R.mono ?_;clear R I;rintro r H ⟨rfl,z⟩;have y:=ZA K.out.1 z;have M:H.heap[w.heap.size]?=_:=(z.block _ (Zl K.out.2)).trans K.out.2;have Q:w.heap.size≠H.heap.size:=fun h=>by have:=Zl M;omega
 have L:∀j v,H.cell? ⟨w.heap.size,j,none⟩=some v→∀o,(H.alloc o).cell? ⟨w.heap.size,j,none⟩=some v:=fun j v h o=>by
  rw [World.cell?_alloc_lt _ _ _ (Zl M)];exact h
 obtain ⟨V,W,X,-⟩:=ze M;have r0:=L 0 _ V;have r1:=L 1 _ W;have r2:=L 2 _ X;have HB:Hid (Below w.heap.size w H):=y;clear z K y M L V W X Q;go_wp2
 go_ret
 exact ⟨rfl,HB.out.alloc HB.out.size _⟩
theorem vS (w:World) (hQ:QT w) :
  Calls Tryz.prog 13 #[] w fun e w'=>e=.returned (.bool true)∧Below w.heap.size w w':=by
 have y:Hid (QT w):=hQ
 have c0:Calls Tryz.prog 9 #[.agg #[.int .i64 10,.int .i64 12,.string ⟨#[97,32,62,32,49]⟩]] w fun e w'=>e=.returned (.tuple #[.string ⟨#[98,114,101,97,107,32,49,50,32,105,102,32,97,32,62,32,49]⟩,.int .i64 0])∧Below w.heap.size w w' :=
  (xO 10 12 qq w hQ.1).mono fun e w' ⟨h,o⟩=>by
   rcases h with ⟨-,rfl⟩ | ⟨h,-⟩
   ·exact ⟨by rw [qJ.2.2];rfl,o⟩
   ·exact absurd qJ.2.1 h
 clear hQ
 go_enter Tryz.func13,Tryz.ntmps13
 go_wp2_with fail
 refine c0.mono ?_;clear c0;rintro e w0 ⟨rfl,O⟩;have J:Hid (Below w.heap.size w w0):=O;clear O;have c1:Calls Tryz.prog 34 #[.string ⟨#[98,97,99,107,45,115,116,101,112]⟩,.agg #[.int .i64 5,.int .i64 0,.string ⟨#[]⟩],.int .i64 0] w0 fun r w'=>r=.returned (.bool true)∧Below w0.heap.size w0 w':=yn qO 5 0 [] 0 w0 (by decide) (y.out.below J.out) (.inl ⟨q7.1,q7.2.1,q7.2.2,rfl⟩)
 go_wp2_with fail
 refine c1.mono ?_;clear c1;rintro e K ⟨rfl,o⟩;have z:Hid (Below w.heap.size w K):=ZA J.out o;clear o J;have Y:Calls Tryz.prog 34 #[.string ⟨#[98,114,101,97,107,32,49,50,32,105,102,32,97,32,62,32,49]⟩,.agg #[.int .i64 10,.int .i64 12,.string ⟨#[97,32,62,32,49]⟩],.int .i64 0] K fun r w'=>r=.returned (.bool true)∧Below K.heap.size K w':=yn qY 10 12 qq 0 K (by decide) (y.out.below z.out) (.inl ⟨qJ.1,qJ.2.1,qJ.2.2,rfl⟩)
 go_wp2_with fail
 refine Y.mono ?_;clear Y;rintro e L ⟨rfl,o⟩;have G:Hid (Below w.heap.size w L):=ZA z.out o;clear o z;have c3:Calls Tryz.prog 34 #[.string ⟨#[103,111,116,111,32,48]⟩,.agg #[.int .i64 9,.int .i64 0,.string ⟨#[]⟩],.int .i64 0] L fun r w'=>r=.returned (.bool true)∧Below L.heap.size L w':=yn qZ 9 0 [] 0 L (by decide) (y.out.below G.out) (.inl ⟨q8.1,q8.2.1,q8.2.2,rfl⟩)
 go_wp2_with fail
 refine c3.mono ?_;clear c3;rintro e Q ⟨rfl,o⟩;have H:Hid (Below w.heap.size w Q):=ZA G.out o;clear o G;have c4:Calls Tryz.prog 34 #[.string ⟨#[103,111,116,111,32,48,49]⟩,.agg #[.int .i64 0,.int .i64 0,.string ⟨#[]⟩],.int .i64 6] Q fun r w'=>r=.returned (.bool true)∧Below Q.heap.size Q w':=yn qP 0 0 [] 6 Q (by decide) (y.out.below H.out) (.inr ⟨Qe,rfl,rfl,rfl,rfl⟩)
 go_wp2_with fail
 refine c4.mono ?_;clear c4;rintro e T ⟨rfl,o⟩;have E:Hid (Below w.heap.size w T):=ZA H.out o;clear o H;have c5:Calls Tryz.prog 34 #[.string ⟨#[103,111,116,111]⟩,.agg #[.int .i64 0,.int .i64 0,.string ⟨#[]⟩],.int .i64 6] T fun r w'=>r=.returned (.bool true)∧Below T.heap.size T w':=yn qQ 0 0 [] 6 T (by decide) (y.out.below E.out) (.inr ⟨Qf,rfl,rfl,rfl,rfl⟩)
 go_wp2_with fail
 refine c5.mono ?_;clear c5;rintro e U ⟨rfl,o⟩;have A:Hid (Below w.heap.size w U):=ZA E.out o;clear o E;have Z:Calls Tryz.prog 34 #[.string ⟨#[115,116,101,112,32,49]⟩,.agg #[.int .i64 0,.int .i64 0,.string ⟨#[]⟩],.int .i64 6] U fun r w'=>r=.returned (.bool true)∧Below U.heap.size U w':=yn qR 0 0 [] 6 U (by decide) (y.out.below A.out) (.inr ⟨Qg,rfl,rfl,rfl,rfl⟩)
 go_wp2_with fail
 refine Z.mono ?_;clear Z;rintro e R ⟨rfl,o⟩;have I:Hid (Below w.heap.size w R):=ZA A.out o;clear o A;have X:Calls Tryz.prog 34 #[.string ⟨#[98,114,101,97,107,32,49,32,105,102]⟩,.agg #[.int .i64 0,.int .i64 0,.string ⟨#[]⟩],.int .i64 6] R fun r w'=>r=.returned (.bool true)∧Below R.heap.size R w':=yn qS 0 0 [] 6 R (by decide) (y.out.below I.out) (.inr ⟨Qh,rfl,rfl,rfl,rfl⟩)
 go_wp2_with fail
 refine X.mono ?_;clear X;rintro e M ⟨rfl,o⟩;have D:Hid (Below w.heap.size w M):=ZA I.out o;clear o I;have W:Calls Tryz.prog 34 #[.string ⟨#[112,114,105,110,116,32,49,32,43]⟩,.agg #[.int .i64 0,.int .i64 0,.string ⟨#[]⟩],.int .i64 6] M fun r w'=>r=.returned (.bool true)∧Below M.heap.size M w':=yn qT 0 0 [] 6 M (by decide) (y.out.below D.out) (.inr ⟨Qi,rfl,rfl,rfl,rfl⟩)
 go_wp2_with fail
 refine W.mono ?_;clear W;rintro e w8 ⟨rfl,o⟩;have V:Hid (Below w.heap.size w w8):=ZA D.out o;clear o D;go_wp2
 go_ret
 exact ⟨rfl,V.out⟩
end Go.Proofs.YtmbofhpmockmbaaGreatDoor
