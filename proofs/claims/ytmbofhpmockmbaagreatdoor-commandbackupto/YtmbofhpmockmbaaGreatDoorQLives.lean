import Derived.Test.YtmbofhpmockmbaaGreatDoorQParse
namespace Go.Proofs.YtmbofhpmockmbaaGreatDoor
open Go.RowKit Go.Shelf
set_option maxHeartbeats 16000000
set_option maxRecDepth 100000
theorem xZ {l:List UInt8} {x:Ex} {a e:Nat} (f:Nat) (hl:l.length≤4096) (h:y1 f l=(x,a,e)) (hd:e≠99):zS l x a e:=by
 unfold zS
 rw [XV hl]
 unfold y1 at h
 by_cases hc:(yw l).2.2≠0
 ·rw [if_pos hc] at h ⊢
  simp only [Prod.mk.injEq] at h;exact ⟨h.1.symm,h.2.1.symm,h.2.2.symm⟩
 ·rw [if_neg hc] at h ⊢
  cases hp:zd f 1 (yw l).1 with
  | none=>rw [hp] at h;simp only [Prod.mk.injEq] at h;exact absurd h.2.2.symm hd
  | some r2 =>
   rw [hp] at h;refine ⟨f,r2,hp,?_⟩;cases hw:Zf r2 with
   | error b =>
    simp only [hw,Prod.mk.injEq] at h ⊢;exact ⟨h.1.symm,h.2.1.symm,h.2.2.symm⟩
   | ok y =>
    simp only [hw] at h ⊢
    by_cases hdp:24<zl y
    ·rw [if_pos hdp] at h ⊢
     simp only [Prod.mk.injEq] at h;exact ⟨h.1.symm,h.2.1.symm,h.2.2.symm⟩
    ·rw [if_neg hdp] at h ⊢
     simp only [Prod.mk.injEq] at h;exact ⟨h.1.symm,h.2.1.symm,h.2.2.symm⟩
def VV:List UInt8:=[97,32,62,32,49]
def um:List UInt8:=[49,32,43]
theorem V7:ZN VV:=⟨(y1 60 VV).1,0,xZ 60 (by decide) (by kernel_rfl) (by decide)⟩
theorem V8:¬ ZN um:=fun ⟨x,a,h⟩=>by
 have o:(y1 60 um).2.2=6:=by kernel_rfl
 have e:=xV 60 (by decide) h (by rw [o];decide)
 rw [e] at o;cases o
theorem VB:¬ ZN []:=fun ⟨x,a,h⟩=>by
 have o:(y1 60 []).2.2=6:=by kernel_rfl
 have e:=xV 60 (by decide) h (by rw [o];decide)
 rw [e] at o;cases o
def ud:List UInt8:=[98,97,99,107,45,115,116,101,112]
def un:List UInt8:=[98,114,101,97,107,32,49,50,32,105,102,32,97,32,62,32,49]
def uo:List UInt8:=[103,111,116,111,32,48]
def ue:List UInt8:=[103,111,116,111,32,48,49]
def uf:List UInt8:=[103,111,116,111]
def ug:List UInt8:=[115,116,101,112,32,49]
def uh:List UInt8:=[98,114,101,97,107,32,49,32,105,102]
def ui:List UInt8:=[112,114,105,110,116,32,49,32,43]
theorem k5:ofKind 5=(5,ud,false,0,false,[]):=by decide
theorem uq:ofKind 10=(10,[98,114,101,97,107],true,1,true,[105,102]):=by decide
theorem k9:ofKind 9=(9,[103,111,116,111],true,0,false,[]):=by decide
theorem k1:ofKind 1=(1,[115,116,101,112],false,0,false,[]):=by decide
theorem uy:ofKind 17=(17,[112,114,105,110,116],false,0,true,[]):=by decide
theorem uz:Lib.itoa 12=[49,50]:=by rw [YO 12 (by decide)];exact Lib.decDigits_two (by decide) (by decide)
theorem i0:Lib.itoa 0=[48]:=by rw [YO 0 (by decide)];exact Lib.decDigits_one (by decide)
theorem i1:Lib.itoa 1=[49]:=by rw [YO 1 (by decide)];exact Lib.decDigits_one (by decide)
theorem ur:zB ud=(5,0,[])∧ZG ZN 5 0 []∧Zt 5 0 []=ud:=by
 refine ⟨by decide,?_,by unfold Zt;rw [k5];rfl⟩
 unfold ZG;rw [k5]
 exact ⟨by decide,fun _=>rfl,fun _=>rfl,fun h=>(by cases h),fun h=>(by cases h)⟩
theorem V9:zB un=(10,12,VV)∧ZG ZN 10 12 VV∧Zt 10 12 VV=un:=by
 refine ⟨by decide,?_,by unfold Zt;rw [uq,uz];rfl⟩
 unfold ZG;rw [uq]
 exact ⟨by decide,fun h=>(by cases h),fun h=>(by cases h),fun _=>⟨by decide,by decide⟩,fun _=>.inr ⟨by decide,V7⟩⟩
theorem ut:zB uo=(9,0,[])∧ZG ZN 9 0 []∧Zt 9 0 []=uo:=by
 refine ⟨by decide,?_,by unfold Zt;rw [k9,i0];rfl⟩
 unfold ZG;rw [k9]
 exact ⟨by decide,fun h=>(by cases h),fun _=>rfl,fun _=>⟨by decide,by decide⟩,fun h=>(by cases h)⟩
theorem x6 {l:List UInt8} {k n:Int} {s:List UInt8} (h:zB l=(k,n,s)) (hn:¬ (ZG ZN k n s∧Zt k n s=l)):∀k n s,zB l=(k,n,s)→¬ (ZG ZN k n s∧Zt k n s=l):=by
 intro o x y e;rw [h] at e;simp only [Prod.mk.injEq] at e;obtain ⟨rfl,rfl,rfl⟩:=e;exact hn
theorem uA:∀k n s,zB ue=(k,n,s)→¬ (ZG ZN k n s∧Zt k n s=ue):=x6 (show zB ue=(9,1,[]) by decide) fun h=>by
 have:=h.2;unfold Zt at this;rw [k9,i1] at this;exact absurd this (by decide)
theorem uB:∀k n s,zB uf=(k,n,s)→¬ (ZG ZN k n s∧Zt k n s=uf):=x6 (show zB uf=(9,0,[]) by decide) fun h=>by
 have:=h.2;unfold Zt at this;rw [k9,i0] at this;exact absurd this (by decide)
theorem uC:∀k n s,zB ug=(k,n,s)→¬ (ZG ZN k n s∧Zt k n s=ug):=x6 (show zB ug=(1,0,[]) by decide) fun h=>by
 have:=h.2;unfold Zt at this;rw [k1] at this;exact absurd this (by decide)
theorem uD:∀k n s,zB uh=(k,n,s)→¬ (ZG ZN k n s∧Zt k n s=uh):=x6 (show zB uh=(10,1,[]) by decide) fun h=>by
 have:=h.2;unfold Zt at this;rw [uq,i1] at this;exact absurd this (by decide)
theorem uE:∀k n s,zB ui=(k,n,s)→¬ (ZG ZN k n s∧Zt k n s=ui):=x6 (show zB ui=(17,0,um) by decide) fun h=>by
 have:=h.1.2.2.2.2
 rw [uy] at this;rcases this rfl with h | h
 ·exact absurd h.1 (by decide)
 ·exact V8 h.2
theorem ZV (l:List UInt8) (k n:Int) (s:List UInt8) (e:Int) (w:World) (hl:l.length≤10000000) (hQ:QT w)
  (h:(zB l=(k,n,s)∧ZG ZN k n s∧Zt k n s=l∧e=0)∨((∀k n s,zB l=(k,n,s)→¬ (ZG ZN k n s∧Zt k n s=l))∧k=0∧n=0∧s=[]∧e=6)) :
  Calls Tryz.prog 34 #[.string (za l),ZS k n s,.int .i64 e] w fun r w'=>r=.returned (.bool true)∧Below w.heap.size w w':=by
 obtain ⟨y,E,A,O,W⟩:=yd w (.cells #[.int .i64 k,.int .i64 n,.string (za s)] 24 (0,0))
 have hm:∀(r:Ending) (w':World),((∃k n s,zB l=(k,n,s)∧ZG ZN k n s∧Zt k n s=l∧r=.returned (.tuple #[ZS k n s,.int .i64 0]))∨(∀k n s,zB l=(k,n,s)→¬ (ZG ZN k n s∧Zt k n s=l))∧r=.returned (.tuple #[ZS 0 0 [],.int .i64 6]))∧Below y.heap.size y w'→r=.returned (.tuple #[ZS k n s,.int .i64 e])∧Below y.heap.size y w':=by
  rintro r w' ⟨⟨k',n',s',D,Z,Y,rfl⟩ | ⟨D,rfl⟩,R⟩
  ·rcases h with ⟨I,S,X,rfl⟩ | ⟨I,-⟩
   ·rw [I] at D
    simp only [Prod.mk.injEq] at D;obtain ⟨rfl,rfl,rfl⟩:=D;exact ⟨rfl,R⟩
   ·exact absurd ⟨Z,Y⟩ (I _ _ _ D)
  ·rcases h with ⟨I,S,X,-⟩ | ⟨-,rfl,rfl,rfl,rfl⟩
   ·exact absurd ⟨S,X⟩ (D _ _ _ I)
   ·exact ⟨rfl,R⟩
 have N:=(yC l y hl (hQ.below A)).mono hm;have K:Hid (Below w.heap.size w y∧y.heap[w.heap.size]?=some (.cells #[.int .i64 k,.int .i64 n,.string (za s)] 24 (0,0))):=⟨A,W⟩
 unfold ZS at N ⊢
 have G:=E.symm;clear E A O W hQ h hl
 go_enter Tryz.func34,Tryz.ntmps34
 go_wp2_with fail
 refine N.mono ?_;clear N G;rintro r H ⟨rfl,z⟩;have x:=Zs K.out.1 z;have J:H.heap[w.heap.size]?=_:=(z.block _ (yq K.out.2)).trans K.out.2;have M:w.heap.size≠H.heap.size:=fun h=>by have:=yq J;omega
 have L:∀j v,H.cell? ⟨w.heap.size,j,none⟩=some v→∀o,(H.alloc o).cell? ⟨w.heap.size,j,none⟩=some v:=fun j v h o=>by
  rw [World.cell?_alloc_lt _ _ _ (yq J)];exact h
 obtain ⟨T,V,Q,-⟩:=zp J;have r0:=L 0 _ T;have r1:=L 1 _ V;have r2:=L 2 _ Q;have U:Hid (Below w.heap.size w H):=x;clear z K x J L T V Q M;go_wp2
 go_ret
 exact ⟨rfl,U.out.alloc U.out.size _⟩
theorem y2 (w:World) (hQ:QT w) :
  Calls Tryz.prog 13 #[] w fun e w'=>e=.returned (.bool true)∧Below w.heap.size w w':=by
 have x:Hid (QT w):=hQ
 have c0:Calls Tryz.prog 9 #[.agg #[.int .i64 10,.int .i64 12,.string ⟨#[97,32,62,32,49]⟩]] w fun e w'=>e=.returned (.tuple #[.string ⟨#[98,114,101,97,107,32,49,50,32,105,102,32,97,32,62,32,49]⟩,.int .i64 0])∧Below w.heap.size w w' :=
  (yb 10 12 VV w hQ.1).mono fun e w' ⟨h,o⟩=>by
   rcases h with ⟨-,rfl⟩ | ⟨h,-⟩
   ·exact ⟨by rw [V9.2.2];rfl,o⟩
   ·exact absurd V9.2.1 h
 clear hQ
 go_enter Tryz.func13,Tryz.ntmps13
 go_wp2_with fail
 refine c0.mono ?_;clear c0;rintro e w0 ⟨rfl,L⟩;have D:Hid (Below w.heap.size w w0):=L;clear L;have c1:Calls Tryz.prog 34 #[.string ⟨#[98,97,99,107,45,115,116,101,112]⟩,.agg #[.int .i64 5,.int .i64 0,.string ⟨#[]⟩],.int .i64 0] w0 fun r w'=>r=.returned (.bool true)∧Below w0.heap.size w0 w':=ZV ud 5 0 [] 0 w0 (by decide) (x.out.below D.out) (.inl ⟨ur.1,ur.2.1,ur.2.2,rfl⟩)
 go_wp2_with fail
 refine c1.mono ?_;clear c1;rintro e J ⟨rfl,o⟩;have E:Hid (Below w.heap.size w J):=Zs D.out o;clear o D;have Z:Calls Tryz.prog 34 #[.string ⟨#[98,114,101,97,107,32,49,50,32,105,102,32,97,32,62,32,49]⟩,.agg #[.int .i64 10,.int .i64 12,.string ⟨#[97,32,62,32,49]⟩],.int .i64 0] J fun r w'=>r=.returned (.bool true)∧Below J.heap.size J w':=ZV un 10 12 VV 0 J (by decide) (x.out.below E.out) (.inl ⟨V9.1,V9.2.1,V9.2.2,rfl⟩)
 go_wp2_with fail
 refine Z.mono ?_;clear Z;rintro e R ⟨rfl,o⟩;have A:Hid (Below w.heap.size w R):=Zs E.out o;clear o E;have V:Calls Tryz.prog 34 #[.string ⟨#[103,111,116,111,32,48]⟩,.agg #[.int .i64 9,.int .i64 0,.string ⟨#[]⟩],.int .i64 0] R fun r w'=>r=.returned (.bool true)∧Below R.heap.size R w':=ZV uo 9 0 [] 0 R (by decide) (x.out.below A.out) (.inl ⟨ut.1,ut.2.1,ut.2.2,rfl⟩)
 go_wp2_with fail
 refine V.mono ?_;clear V;rintro e K ⟨rfl,o⟩;have y:Hid (Below w.heap.size w K):=Zs A.out o;clear o A;have X:Calls Tryz.prog 34 #[.string ⟨#[103,111,116,111,32,48,49]⟩,.agg #[.int .i64 0,.int .i64 0,.string ⟨#[]⟩],.int .i64 6] K fun r w'=>r=.returned (.bool true)∧Below K.heap.size K w':=ZV ue 0 0 [] 6 K (by decide) (x.out.below y.out) (.inr ⟨uA,rfl,rfl,rfl,rfl⟩)
 go_wp2_with fail
 refine X.mono ?_;clear X;rintro e M ⟨rfl,o⟩;have H:Hid (Below w.heap.size w M):=Zs y.out o;clear o y;have U:Calls Tryz.prog 34 #[.string ⟨#[103,111,116,111]⟩,.agg #[.int .i64 0,.int .i64 0,.string ⟨#[]⟩],.int .i64 6] M fun r w'=>r=.returned (.bool true)∧Below M.heap.size M w':=ZV uf 0 0 [] 6 M (by decide) (x.out.below H.out) (.inr ⟨uB,rfl,rfl,rfl,rfl⟩)
 go_wp2_with fail
 refine U.mono ?_;clear U;rintro e Q ⟨rfl,o⟩;have z:Hid (Below w.heap.size w Q):=Zs H.out o;clear o H;have W:Calls Tryz.prog 34 #[.string ⟨#[115,116,101,112,32,49]⟩,.agg #[.int .i64 0,.int .i64 0,.string ⟨#[]⟩],.int .i64 6] Q fun r w'=>r=.returned (.bool true)∧Below Q.heap.size Q w':=ZV ug 0 0 [] 6 Q (by decide) (x.out.below z.out) (.inr ⟨uC,rfl,rfl,rfl,rfl⟩)
 go_wp2_with fail
 refine W.mono ?_;clear W;rintro e N ⟨rfl,o⟩;have G:Hid (Below w.heap.size w N):=Zs z.out o;clear o z;have Y:Calls Tryz.prog 34 #[.string ⟨#[98,114,101,97,107,32,49,32,105,102]⟩,.agg #[.int .i64 0,.int .i64 0,.string ⟨#[]⟩],.int .i64 6] N fun r w'=>r=.returned (.bool true)∧Below N.heap.size N w':=ZV uh 0 0 [] 6 N (by decide) (x.out.below G.out) (.inr ⟨uD,rfl,rfl,rfl,rfl⟩)
 go_wp2_with fail
 refine Y.mono ?_;clear Y;rintro e O ⟨rfl,o⟩;have I:Hid (Below w.heap.size w O):=Zs G.out o;clear o G;have T:Calls Tryz.prog 34 #[.string ⟨#[112,114,105,110,116,32,49,32,43]⟩,.agg #[.int .i64 0,.int .i64 0,.string ⟨#[]⟩],.int .i64 6] O fun r w'=>r=.returned (.bool true)∧Below O.heap.size O w':=ZV ui 0 0 [] 6 O (by decide) (x.out.below I.out) (.inr ⟨uE,rfl,rfl,rfl,rfl⟩)
 go_wp2_with fail
 refine T.mono ?_;clear T;rintro e w8 ⟨rfl,o⟩;have S:Hid (Below w.heap.size w w8):=Zs I.out o;clear o I;go_wp2
 go_ret
 exact ⟨rfl,S.out⟩
end Go.Proofs.YtmbofhpmockmbaaGreatDoor
