import Derived.Test.YtmbofhpmockmbaaGreatDoorMC47
namespace Go.Proofs.YtmbofhpmockmbaaGreatDoor
open Go.RowKit Go.Shelf
set_option maxHeartbeats 16000000
set_option maxRecDepth 100000
theorem uD {l:List UInt8} {x:Ex} {a e:Nat} (f:Nat) (hl:l.length≤4096) (h:x7 f l=(x,a,e)) (hd:e≠99):zR l x a e:=by
 unfold zR
 rw [UH hl]
 unfold x7 at h
 by_cases hc:(Y4 l).2.2≠0
 ·rw [if_pos hc] at h ⊢
  simp only [Prod.mk.injEq] at h;exact ⟨h.1.symm,h.2.1.symm,h.2.2.symm⟩
 ·rw [if_neg hc] at h ⊢
  cases hp:zg f 1 (Y4 l).1 with
  | none=>rw [hp] at h;simp only [Prod.mk.injEq] at h;exact absurd h.2.2.symm hd
  | some r2 =>
   rw [hp] at h;refine ⟨f,r2,hp,?_⟩;cases hw:Zs r2 with
   | error b =>
    simp only [hw,Prod.mk.injEq] at h ⊢;exact ⟨h.1.symm,h.2.1.symm,h.2.2.symm⟩
   | ok y =>
    simp only [hw] at h ⊢
    by_cases hdp:24<depthE y
    ·rw [if_pos hdp] at h ⊢
     simp only [Prod.mk.injEq] at h;exact ⟨h.1.symm,h.2.1.symm,h.2.2.symm⟩
    ·rw [if_neg hdp] at h ⊢
     simp only [Prod.mk.injEq] at h;exact ⟨h.1.symm,h.2.1.symm,h.2.2.symm⟩
def txA:List UInt8:=[97,32,62,32,49]
def txB:List UInt8:=[49,32,43]
theorem za0:ZE txA:=⟨(x7 60 txA).1,0,uD 60 (by decide) (by kernel_rfl) (by decide)⟩
theorem za1:¬ ZE txB:=fun ⟨x,a,h⟩=>by
 have o:(x7 60 txB).2.2=6:=by kernel_rfl
 have e:=V8 60 (by decide) h (by rw [o];decide)
 rw [e] at o;cases o
theorem zai:¬ ZE []:=fun ⟨x,a,h⟩=>by
 have o:(x7 60 []).2.2=6:=by kernel_rfl
 have e:=V8 60 (by decide) h (by rw [o];decide)
 rw [e] at o;cases o
def lv1:List UInt8:=[98,97,99,107,45,115,116,101,112]
def lv2:List UInt8:=[98,114,101,97,107,32,49,50,32,105,102,32,97,32,62,32,49]
def lv3:List UInt8:=[103,111,116,111,32,48]
def lv4:List UInt8:=[103,111,116,111,32,48,49]
def lv5:List UInt8:=[103,111,116,111]
def lv6:List UInt8:=[115,116,101,112,32,49]
def lv7:List UInt8:=[98,114,101,97,107,32,49,32,105,102]
def lv8:List UInt8:=[112,114,105,110,116,32,49,32,43]
theorem k5:ofKind 5=(5,lv1,false,0,false,[]):=by decide
theorem k10:ofKind 10=(10,[98,114,101,97,107],true,1,true,[105,102]):=by decide
theorem k9:ofKind 9=(9,[103,111,116,111],true,0,false,[]):=by decide
theorem k1:ofKind 1=(1,[115,116,101,112],false,0,false,[]):=by decide
theorem k17:ofKind 17=(17,[112,114,105,110,116],false,0,true,[]):=by decide
theorem i12:Lib.itoa 12=[49,50]:=by rw [UC 12 (by decide)];exact Lib.decDigits_two (by decide) (by decide)
theorem i0:Lib.itoa 0=[48]:=by rw [UC 0 (by decide)];exact Lib.decDigits_one (by decide)
theorem i1:Lib.itoa 1=[49]:=by rw [UC 1 (by decide)];exact Lib.decDigits_one (by decide)
theorem ok1:Zy lv1=(5,0,[])∧ZP ZE 5 0 []∧y7 5 0 []=lv1:=by
 refine ⟨by decide,?_,by unfold y7;rw [k5];rfl⟩
 unfold ZP;rw [k5]
 exact ⟨by decide,fun _=>rfl,fun _=>rfl,fun h=>(by cases h),fun h=>(by cases h)⟩
theorem ok2:Zy lv2=(10,12,txA)∧ZP ZE 10 12 txA∧y7 10 12 txA=lv2:=by
 refine ⟨by decide,?_,by unfold y7;rw [k10,i12];rfl⟩
 unfold ZP;rw [k10]
 exact ⟨by decide,fun h=>(by cases h),fun h=>(by cases h),fun _=>⟨by decide,by decide⟩,fun _=>.inr ⟨by decide,za0⟩⟩
theorem ok3:Zy lv3=(9,0,[])∧ZP ZE 9 0 []∧y7 9 0 []=lv3:=by
 refine ⟨by decide,?_,by unfold y7;rw [k9,i0];rfl⟩
 unfold ZP;rw [k9]
 exact ⟨by decide,fun h=>(by cases h),fun _=>rfl,fun _=>⟨by decide,by decide⟩,fun h=>(by cases h)⟩
theorem uE {l:List UInt8} {k n:Int} {s:List UInt8} (h:Zy l=(k,n,s)) (hn:¬ (ZP ZE k n s∧y7 k n s=l)):∀k n s,Zy l=(k,n,s)→¬ (ZP ZE k n s∧y7 k n s=l):=by
 intro y z o e;rw [h] at e;simp only [Prod.mk.injEq] at e;obtain ⟨rfl,rfl,rfl⟩:=e;exact hn
theorem no4:∀k n s,Zy lv4=(k,n,s)→¬ (ZP ZE k n s∧y7 k n s=lv4):=uE (show Zy lv4=(9,1,[]) by decide) fun h=>by
 have:=h.2;unfold y7 at this;rw [k9,i1] at this;exact absurd this (by decide)
theorem no5:∀k n s,Zy lv5=(k,n,s)→¬ (ZP ZE k n s∧y7 k n s=lv5):=uE (show Zy lv5=(9,0,[]) by decide) fun h=>by
 have:=h.2;unfold y7 at this;rw [k9,i0] at this;exact absurd this (by decide)
theorem no6:∀k n s,Zy lv6=(k,n,s)→¬ (ZP ZE k n s∧y7 k n s=lv6):=uE (show Zy lv6=(1,0,[]) by decide) fun h=>by
 have:=h.2;unfold y7 at this;rw [k1] at this;exact absurd this (by decide)
theorem no7:∀k n s,Zy lv7=(k,n,s)→¬ (ZP ZE k n s∧y7 k n s=lv7):=uE (show Zy lv7=(10,1,[]) by decide) fun h=>by
 have:=h.2;unfold y7 at this;rw [k10,i1] at this;exact absurd this (by decide)
theorem no8:∀k n s,Zy lv8=(k,n,s)→¬ (ZP ZE k n s∧y7 k n s=lv8):=uE (show Zy lv8=(17,0,txB) by decide) fun h=>by
 have:=h.1.2.2.2.2
 rw [k17] at this;rcases this rfl with h | h
 ·exact absurd h.1 (by decide)
 ·exact za1 h.2
theorem y6 (l:List UInt8) (k n:Int) (s:List UInt8) (e:Int) (w:World) (hl:l.length≤10000000) (hQ:QT w)
  (h:(Zy l=(k,n,s)∧ZP ZE k n s∧y7 k n s=l∧e=0)∨((∀k n s,Zy l=(k,n,s)→¬ (ZP ZE k n s∧y7 k n s=l))∧k=0∧n=0∧s=[]∧e=6)) :
  Calls Tryz.prog 34 #[.string (za l),yi k n s,.int .i64 e] w fun r w'=>r=.returned (.bool true)∧Below w.heap.size w w':=by
 obtain ⟨z,J,A,N,X⟩:=Yg w (.cells #[.int .i64 k,.int .i64 n,.string (za s)] 24 (0,0))
 have hm:∀(r:Ending) (w':World),((∃k n s,Zy l=(k,n,s)∧ZP ZE k n s∧y7 k n s=l∧r=.returned (.tuple #[yi k n s,.int .i64 0]))∨(∀k n s,Zy l=(k,n,s)→¬ (ZP ZE k n s∧y7 k n s=l))∧r=.returned (.tuple #[yi 0 0 [],.int .i64 6]))∧Below z.heap.size z w'→r=.returned (.tuple #[yi k n s,.int .i64 e])∧Below z.heap.size z w':=by
  rintro r w' ⟨⟨k',n',s',E,h2,h3,rfl⟩ | ⟨E,rfl⟩,U⟩
  ·rcases h with ⟨H,W,R,rfl⟩ | ⟨H,-⟩
   ·rw [H] at E
    simp only [Prod.mk.injEq] at E;obtain ⟨rfl,rfl,rfl⟩:=E;exact ⟨rfl,U⟩
   ·exact absurd ⟨h2,h3⟩ (H _ _ _ E)
  ·rcases h with ⟨H,W,R,-⟩ | ⟨-,rfl,rfl,rfl,rfl⟩
   ·exact absurd ⟨W,R⟩ (E _ _ _ H)
   ·exact ⟨rfl,U⟩
 have Q:=(UB l z hl (hQ.below A)).mono hm;have M:Hid (Below w.heap.size w z∧z.heap[w.heap.size]?=some (.cells #[.int .i64 k,.int .i64 n,.string (za s)] 24 (0,0))):=⟨A,X⟩
 unfold yi at Q ⊢
 have G:=J.symm;clear J A N X hQ h hl
 go_enter Tryz.func34,Tryz.ntmps34
 go_wp2_with fail
 refine Q.mono ?_;clear Q G;rintro r I ⟨rfl,D⟩;have y:=Z8 M.out.1 D;have L:I.heap[w.heap.size]?=_:=(D.block _ (Yf M.out.2)).trans M.out.2;have O:w.heap.size≠I.heap.size:=fun h=>by have:=Yf L;omega
 have K:∀j v,I.cell? ⟨w.heap.size,j,none⟩=some v→∀o,(I.alloc o).cell? ⟨w.heap.size,j,none⟩=some v:=fun j v h o=>by
  rw [World.cell?_alloc_lt _ _ _ (Yf L)];exact h
 obtain ⟨Z,Y,T,-⟩:=zv L;have r0:=K 0 _ Z;have r1:=K 1 _ Y;have r2:=K 2 _ T;have V:Hid (Below w.heap.size w I):=y;clear D M y L K Z Y T O;go_wp2
 go_ret
 exact ⟨rfl,V.out.alloc V.out.size _⟩
theorem uF (w:World) (hQ:QT w) :
  Calls Tryz.prog 13 #[] w fun e w'=>e=.returned (.bool true)∧Below w.heap.size w w':=by
 have y:Hid (QT w):=hQ
 have c0:Calls Tryz.prog 9 #[.agg #[.int .i64 10,.int .i64 12,.string ⟨#[97,32,62,32,49]⟩]] w fun e w'=>e=.returned (.tuple #[.string ⟨#[98,114,101,97,107,32,49,50,32,105,102,32,97,32,62,32,49]⟩,.int .i64 0])∧Below w.heap.size w w' :=
  (xt 10 12 txA w hQ.1).mono fun e w' ⟨h,o⟩=>by
   rcases h with ⟨-,rfl⟩ | ⟨h,-⟩
   ·exact ⟨by rw [ok2.2.2];rfl,o⟩
   ·exact absurd ok2.2.1 h
 clear hQ
 go_enter Tryz.func13,Tryz.ntmps13
 go_wp2_with fail
 refine c0.mono ?_;clear c0;rintro e w0 ⟨rfl,Q⟩;have J:Hid (Below w.heap.size w w0):=Q;clear Q;have W:Calls Tryz.prog 34 #[.string ⟨#[98,97,99,107,45,115,116,101,112]⟩,.agg #[.int .i64 5,.int .i64 0,.string ⟨#[]⟩],.int .i64 0] w0 fun r w'=>r=.returned (.bool true)∧Below w0.heap.size w0 w':=y6 lv1 5 0 [] 0 w0 (by decide) (y.out.below J.out) (.inl ⟨ok1.1,ok1.2.1,ok1.2.2,rfl⟩)
 go_wp2_with fail
 refine W.mono ?_;clear W;rintro e M ⟨rfl,o⟩;have z:Hid (Below w.heap.size w M):=Z8 J.out o;clear o J;have c2:Calls Tryz.prog 34 #[.string ⟨#[98,114,101,97,107,32,49,50,32,105,102,32,97,32,62,32,49]⟩,.agg #[.int .i64 10,.int .i64 12,.string ⟨#[97,32,62,32,49]⟩],.int .i64 0] M fun r w'=>r=.returned (.bool true)∧Below M.heap.size M w':=y6 lv2 10 12 txA 0 M (by decide) (y.out.below z.out) (.inl ⟨ok2.1,ok2.2.1,ok2.2.2,rfl⟩)
 go_wp2_with fail
 refine c2.mono ?_;clear c2;rintro e O ⟨rfl,o⟩;have I:Hid (Below w.heap.size w O):=Z8 z.out o;clear o z;have c3:Calls Tryz.prog 34 #[.string ⟨#[103,111,116,111,32,48]⟩,.agg #[.int .i64 9,.int .i64 0,.string ⟨#[]⟩],.int .i64 0] O fun r w'=>r=.returned (.bool true)∧Below O.heap.size O w':=y6 lv3 9 0 [] 0 O (by decide) (y.out.below I.out) (.inl ⟨ok3.1,ok3.2.1,ok3.2.2,rfl⟩)
 go_wp2_with fail
 refine c3.mono ?_;clear c3;rintro e T ⟨rfl,o⟩;have H:Hid (Below w.heap.size w T):=Z8 I.out o;clear o I;have c4:Calls Tryz.prog 34 #[.string ⟨#[103,111,116,111,32,48,49]⟩,.agg #[.int .i64 0,.int .i64 0,.string ⟨#[]⟩],.int .i64 6] T fun r w'=>r=.returned (.bool true)∧Below T.heap.size T w':=y6 lv4 0 0 [] 6 T (by decide) (y.out.below H.out) (.inr ⟨no4,rfl,rfl,rfl,rfl⟩)
 go_wp2_with fail
 refine c4.mono ?_;clear c4;rintro e K ⟨rfl,o⟩;have G:Hid (Below w.heap.size w K):=Z8 H.out o;clear o H;have X:Calls Tryz.prog 34 #[.string ⟨#[103,111,116,111]⟩,.agg #[.int .i64 0,.int .i64 0,.string ⟨#[]⟩],.int .i64 6] K fun r w'=>r=.returned (.bool true)∧Below K.heap.size K w':=y6 lv5 0 0 [] 6 K (by decide) (y.out.below G.out) (.inr ⟨no5,rfl,rfl,rfl,rfl⟩)
 go_wp2_with fail
 refine X.mono ?_;clear X;rintro e R ⟨rfl,o⟩;have D:Hid (Below w.heap.size w R):=Z8 G.out o;clear o G;have Y:Calls Tryz.prog 34 #[.string ⟨#[115,116,101,112,32,49]⟩,.agg #[.int .i64 0,.int .i64 0,.string ⟨#[]⟩],.int .i64 6] R fun r w'=>r=.returned (.bool true)∧Below R.heap.size R w':=y6 lv6 0 0 [] 6 R (by decide) (y.out.below D.out) (.inr ⟨no6,rfl,rfl,rfl,rfl⟩)
 go_wp2_with fail
 refine Y.mono ?_;clear Y;rintro e N ⟨rfl,o⟩;have E:Hid (Below w.heap.size w N):=Z8 D.out o;clear o D;have V:Calls Tryz.prog 34 #[.string ⟨#[98,114,101,97,107,32,49,32,105,102]⟩,.agg #[.int .i64 0,.int .i64 0,.string ⟨#[]⟩],.int .i64 6] N fun r w'=>r=.returned (.bool true)∧Below N.heap.size N w':=y6 lv7 0 0 [] 6 N (by decide) (y.out.below E.out) (.inr ⟨no7,rfl,rfl,rfl,rfl⟩)
 go_wp2_with fail
 refine V.mono ?_;clear V;rintro e L ⟨rfl,o⟩;have A:Hid (Below w.heap.size w L):=Z8 E.out o;clear o E;have Z:Calls Tryz.prog 34 #[.string ⟨#[112,114,105,110,116,32,49,32,43]⟩,.agg #[.int .i64 0,.int .i64 0,.string ⟨#[]⟩],.int .i64 6] L fun r w'=>r=.returned (.bool true)∧Below L.heap.size L w':=y6 lv8 0 0 [] 6 L (by decide) (y.out.below A.out) (.inr ⟨no8,rfl,rfl,rfl,rfl⟩)
 go_wp2_with fail
 refine Z.mono ?_;clear Z;rintro e w8 ⟨rfl,o⟩;have U:Hid (Below w.heap.size w w8):=Z8 A.out o;clear o A;go_wp2
 go_ret
 exact ⟨rfl,U.out⟩
end Go.Proofs.YtmbofhpmockmbaaGreatDoor
