import Derived.Test.YtmbofhpmockmbaaGreatDoorXRef4
import Derived.BigQuiet
namespace Go.Proofs.YtmbofhpmockmbaaGreatDoor
open Go.RowKit Go.Shelf
set_option maxHeartbeats 16000000
set_option maxRecDepth 100000
theorem V2 (w:World) :
  Calls Tryz.prog 133 #[] w fun e w'=>e=.returned (.slice (some ⟨w.heap.size,0,none⟩) 25 25)∧w'=w.alloc (.cells (refSigns.map fun x=>Value.string (za x)).toArray 9):=by
 go_enter Tryz.func133,Tryz.ntmps133
 go_wp2
 go_ret
 exact ⟨rfl,rfl⟩
def xu (K N' X E:Nat) (s:List UInt8):Value:=.tuple #[.agg #[.int .i64 K,.string (za s),.int .i64 N',.int .i64 0,.int .i64 0],.int .i64 X,.int .i64 E]
def rtR (a:Nat) (R:TR) (v:Value):Prop:=∃(K N' X:Nat) (s:List UInt8),v=xu K N' X R.e s∧(R.e=0→K=R.k∧s=R.s∧N'=R.n∧X=a+R.sz)
theorem xE {a:Nat} {R R':TR} (h:R=R'):rtR a R (xu R'.k R'.n (a+R'.sz) R'.e R'.s):=by
 subst h;exact ⟨_,_,_,_,rfl,fun _=>⟨rfl,rfl,rfl,rfl⟩⟩
theorem xO {a K X e:Nat} {R:TR} {s:List UInt8} (h:R.e=e) (he:e≠0):rtR a R (xu K 0 X e s):=by
 subst h;exact ⟨_,_,_,_,rfl,fun h=>absurd h he⟩
theorem Xc {p:UInt8→Bool} {l:List UInt8} {a k:Nat} (hk:a+k≤l.length) (h1:∀j (h:a+j<l.length),j<k→p l[a+j]=true) (h2:∀h:a+k<l.length,p l[a+k]=false):((l.drop a).takeWhile p).length=k:=by
 refine yr p (l.drop a) k (by rw [List.length_drop];omega) (fun j h hj=>?_) (fun h=>?_)
 ·rw [List.getElem_drop];exact h1 j (by rw [List.length_drop] at h;omega) hj
 ·rw [List.getElem_drop];exact h2 (by rw [List.length_drop] at h;omega)
theorem Xz {p:UInt8→Bool} {l:List UInt8} {a k:Nat} (h:((l.drop a).takeWhile p).length=k):(l.drop a).take k=(l.drop a).takeWhile p:=by
 rw [←h];exact Yo p _
theorem vR (l:List UInt8) (a:Nat) (w:World) (hl:l.length≤5000) (ha:a<l.length) (hk:zM (l[a]).toNat=true) :
  Calls Tryz.prog 111 #[.string (za l),.int .i64 (a:Nat)] w fun e w'=>(∃v,e=.returned v∧rtR a (Zo (l.drop a)) v)∧Below w.heap.size w w':=by
 have ab:(za l).size=l.length:=rfl;have hA:Below w.heap.size w (w.alloc Zi):=(Below.refl w.heap.size w).alloc (Nat.le_refl _) _;have HA:Hid (Below w.heap.size w (w.alloc Zi)):=hA;have y:=fun wx=>ZT wx l a ha
 obtain ⟨n,X⟩:∃n,n=(l[a]).toNat:=⟨_,rfl⟩;rw [←X] at y hk;have L:n<256:=by rw [X];exact UInt8.toNat_lt _
 have Z:=Z1 n (w.alloc Zi) L;rw [hk] at Z;clear hA X
 go_enter Tryz.func111,Tryz.ntmps111
 go_wp2_with fail
 refine Z.mono ?_;clear Z;rintro e w1 ⟨rfl,rfl⟩;go_wp2_with fail
 go_loopw [8] (fun v wr=>∃k:Nat,v=.int .i64 ((a:Int)+k)∧a+k≤l.length∧(∀j (h:a+j<l.length),j<k→ZK (l[a+j]).toNat=true)∧wr=w.alloc Zi) (fun v _=>l.length-(intOf v).toNat)
 case atStart=>exact ⟨0,by simp,by omega,fun j h hj=>by omega,rfl⟩
 case round =>
  obtain ⟨k,rfl,J,K,rfl⟩:=hrel;have I:Hid (∀j (h:a+j<l.length),j<k→ZK (l[a+j]).toNat=true):=K;clear K y
  by_cases hlt:a+k<l.length
  ·have y:=fun wx=>ZT wx l (a+k) hlt
   have e1:((a+k:Nat):Int)=(a:Int)+k:=by omega
   simp only [e1] at y;have Y:(a:Int)+k<l.length:=by omega
   obtain ⟨c,U⟩:∃c,c=(l[a+k]).toNat:=⟨_,rfl⟩;rw [←U] at y;have E:c<256:=by rw [U];exact UInt8.toNat_lt _
   have V:Hid (c=(l[a+k]).toNat):=U;clear U e1;have c2:=Z1 c (w.alloc Zi) E;have c3:=yi c (w.alloc Zi) E;go_wp2_with fail
   refine c2.mono ?_;clear c2;rintro e w1 ⟨rfl,rfl⟩;cases h1:zM c with
   | true =>
    go_wp2
    refine ⟨⟨k+1,by go_num,by omega,fun j h hj=>?_,by first | rfl | trivial⟩,by simp [intOf];omega⟩
    by_cases hji:j<k
    ·exact I.out j h hji
    ·obtain rfl:j=k:=by omega
     rw [←V.out];simp [ZK,h1]
   | false =>
    go_wp2_with fail
    refine c3.mono ?_;rintro e w1 ⟨rfl,rfl⟩;cases h2:zE c with
    | true =>
     go_wp2
     refine ⟨⟨k+1,by go_num,by omega,fun j h hj=>?_,by first | rfl | trivial⟩,by simp [intOf];omega⟩
     by_cases hji:j<k
     ·exact I.out j h hji
     ·obtain rfl:j=k:=by omega
      rw [←V.out];simp [ZK,h2]
    | false =>
     have R:Hid (((l.drop a).takeWhile fun c=>ZK c.toNat).length=k):=Xc J I.out (fun _=>by rw [←V.out];simp [ZK,h1,h2])
     clear y;have z:=fun wx=>Y5 wx l a k J
     have M:Hid ((l.drop a).take k=Zh (l.drop a)):=Xz R.out;rw [M.out] at z;obtain ⟨x,H⟩:∃x,x=Zh (l.drop a):=⟨_,rfl⟩;rw [←H] at z;have o:x.length=k:=by rw [H];exact R.out
     have T:(za x).size=k:=o;have O:Hid (x=Zh (l.drop a)):=H;have N:=Xm x (w.alloc Zi);rw [World.size_alloc] at N;clear H;go_wp2_with fail
     refine N.mono ?_;clear N;rintro e W ⟨rfl,D⟩;obtain ⟨A,aa⟩:=ZZ D;have Q:Hid (Below w.heap.size w W):=HA.out.trans (D.mono (by omega))
     clear D;cases hq:ZB x with
     | true =>
      have G:Hid (Zo (l.drop a)=⟨5,x,0,k,0⟩):=by unfold Zo;rw [←O.out,if_pos hq,o];rfl
      go_wp2
      exact bodyPost_ret (v:=xu 5 0 (a+k) 0 x) (by simp [results,Tryz.results111,go_sem,xu,A]) rfl ⟨⟨_,rfl,xE G.out⟩,zI Q.out _ _ _ _ _⟩
     | false =>
      by_cases h20:20<k
      ·have G:Hid (Zo (l.drop a)=⟨0,[],0,0,5⟩):=by unfold Zo;rw [←O.out,if_neg (by rw [hq];simp),if_pos (by rw [o];exact h20)];rfl
       go_wp2
       exact bodyPost_ret (v:=xu 0 0 0 5 []) (by simp [results,Tryz.results111,go_sem,xu,A]) rfl ⟨⟨_,rfl,xO (by rw [G.out]) (by decide)⟩,zI Q.out _ _ _ _ _⟩
      ·have G:Hid (Zo (l.drop a)=⟨1,x,0,k,0⟩):=by unfold Zo;rw [←O.out,if_neg (by rw [hq];simp),if_neg (by rw [o];exact h20),o];rfl
       go_wp2
       exact bodyPost_ret (v:=xu 1 0 (a+k) 0 x) (by simp [results,Tryz.results111,go_sem,xu,A]) rfl ⟨⟨_,rfl,xE G.out⟩,zI Q.out _ _ _ _ _⟩
  ·have Y:¬ (a:Int)+k<l.length:=by omega
   have R:Hid (((l.drop a).takeWhile fun c=>ZK c.toNat).length=k):=Xc J I.out (fun h=>absurd h (by omega))
   have z:=fun wx=>Y5 wx l a k J
   have M:Hid ((l.drop a).take k=Zh (l.drop a)):=Xz R.out;rw [M.out] at z;obtain ⟨x,H⟩:∃x,x=Zh (l.drop a):=⟨_,rfl⟩;rw [←H] at z;have o:x.length=k:=by rw [H];exact R.out
   have T:(za x).size=k:=o;have O:Hid (x=Zh (l.drop a)):=H;have N:=Xm x (w.alloc Zi);rw [World.size_alloc] at N;clear H;go_wp2_with fail
   refine N.mono ?_;clear N;rintro e W ⟨rfl,D⟩;obtain ⟨A,aa⟩:=ZZ D;have Q:Hid (Below w.heap.size w W):=HA.out.trans (D.mono (by omega))
   clear D;cases hq:ZB x with
   | true =>
    have G:Hid (Zo (l.drop a)=⟨5,x,0,k,0⟩):=by unfold Zo;rw [←O.out,if_pos hq,o];rfl
    go_wp2
    exact bodyPost_ret (v:=xu 5 0 (a+k) 0 x) (by simp [results,Tryz.results111,go_sem,xu,A]) rfl ⟨⟨_,rfl,xE G.out⟩,zI Q.out _ _ _ _ _⟩
   | false =>
    by_cases h20:20<k
    ·have G:Hid (Zo (l.drop a)=⟨0,[],0,0,5⟩):=by unfold Zo;rw [←O.out,if_neg (by rw [hq];simp),if_pos (by rw [o];exact h20)];rfl
     go_wp2
     exact bodyPost_ret (v:=xu 0 0 0 5 []) (by simp [results,Tryz.results111,go_sem,xu,A]) rfl ⟨⟨_,rfl,xO (by rw [G.out]) (by decide)⟩,zI Q.out _ _ _ _ _⟩
    ·have G:Hid (Zo (l.drop a)=⟨1,x,0,k,0⟩):=by unfold Zo;rw [←O.out,if_neg (by rw [hq];simp),if_neg (by rw [o];exact h20),o];rfl
     go_wp2
     exact bodyPost_ret (v:=xu 1 0 (a+k) 0 x) (by simp [results,Tryz.results111,go_sem,xu,A]) rfl ⟨⟨_,rfl,xE G.out⟩,zI Q.out _ _ _ _ _⟩
theorem V3 (l:List UInt8) (a:Nat) (w:World) (hl:l.length≤5000) (ha:a<l.length) (hk0:zM (l[a]).toNat=false) (hk:zE (l[a]).toNat=true) :
  Calls Tryz.prog 111 #[.string (za l),.int .i64 (a:Nat)] w fun e w'=>(∃v,e=.returned v∧rtR a (ym (l.drop a)) v)∧Below w.heap.size w w':=by
 have aa:(za l).size=l.length:=rfl;have hA:Below w.heap.size w (w.alloc Zi):=(Below.refl w.heap.size w).alloc (Nat.le_refl _) _;have H:Hid (Below w.heap.size w (w.alloc Zi)):=hA;have o:=fun wx=>ZT wx l a ha
 obtain ⟨n,W⟩:∃n,n=(l[a]).toNat:=⟨_,rfl⟩;rw [←W] at o hk hk0;have D:n<256:=by rw [W];exact UInt8.toNat_lt _
 have Y:=Z1 n (w.alloc Zi) D;have Z:=yi n (w.alloc Zi) D;rw [hk0] at Y;rw [hk] at Z;clear hA W
 go_enter Tryz.func111,Tryz.ntmps111
 go_wp2_with fail
 refine Y.mono ?_;clear Y;rintro e w1 ⟨rfl,rfl⟩;go_wp2_with fail
 refine Z.mono ?_;clear Z;rintro e w1 ⟨rfl,rfl⟩;go_wp2_with fail
 go_loopw [8] (fun v wr=>∃k:Nat,v=.int .i64 ((a:Int)+k)∧a+k≤l.length∧(∀j (h:a+j<l.length),j<k→zE (l[a+j]).toNat=true)∧wr=w.alloc Zi) (fun v _=>l.length-(intOf v).toNat)
 case atStart=>exact ⟨0,by simp,by omega,fun j h hj=>by omega,rfl⟩
 case round =>
  obtain ⟨k,rfl,G,I,rfl⟩:=hrel;have K:Hid (∀j (h:a+j<l.length),j<k→zE (l[a+j]).toNat=true):=I;clear I o
  by_cases hlt:a+k<l.length
  ·have o:=fun wx=>ZT wx l (a+k) hlt
   have e1:((a+k:Nat):Int)=(a:Int)+k:=by omega
   simp only [e1] at o;have X:(a:Int)+k<l.length:=by omega
   obtain ⟨c,U⟩:∃c,c=(l[a+k]).toNat:=⟨_,rfl⟩;rw [←U] at o;have J:c<256:=by rw [U];exact UInt8.toNat_lt _
   have HC:Hid (c=(l[a+k]).toNat):=U;clear U e1;have c3:=yi c (w.alloc Zi) J;go_wp2_with fail
   refine c3.mono ?_;clear c3;rintro e w1 ⟨rfl,rfl⟩;cases h2:zE c with
   | true =>
    go_wp2
    refine ⟨⟨k+1,by go_num,by omega,fun j h hj=>?_,by first | rfl | trivial⟩,by simp [intOf];omega⟩
    by_cases hji:j<k
    ·exact K.out j h hji
    ·obtain rfl:j=k:=by omega
     rw [←HC.out];exact h2
   | false =>
    have T:Hid (((l.drop a).takeWhile fun c=>zE c.toNat).length=k):=Xc G K.out (fun _=>by rw [←HC.out];exact h2)
    clear o;have z:=fun wx=>Y5 wx l a k G
    have L:Hid ((l.drop a).take k=digL (l.drop a)):=Xz T.out;rw [L.out] at z;have A:=XN (l.drop a);obtain ⟨x,E⟩:∃x,x=digL (l.drop a):=⟨_,rfl⟩;rw [←E] at z A;have M:x.length=k:=by rw [E];exact T.out
    have R:Hid (x=digL (l.drop a)):=E;have y:=xq x (w.alloc Zi) (by omega) A
    clear E A;obtain ⟨v,O⟩:∃v,v=valA 0 x:=⟨_,rfl⟩;have Q:Hid (v=valA 0 x):=O
    unfold QW at y
    rw [←O] at y;clear O
    by_cases h63:v<9223372036854775808
    ·rw [if_pos h63] at y
     have N:Hid (ym (l.drop a)=⟨2,[],v,k,0⟩):=by unfold ym;rw [←R.out,←Q.out,if_pos h63,M];rfl
     go_wp2_with fail
     refine y.mono ?_;clear y;rintro e V ⟨rfl,rfl⟩;go_wp2
     exact bodyPost_ret (v:=xu 2 v (a+k) 0 []) (by simp [results,Tryz.results111,go_sem,xu]) rfl ⟨⟨_,rfl,xE N.out⟩,by first | exact H.out | exact zI H.out _ _ _ _ _ | exact (Below.refl w.heap.size w).alloc (Nat.le_refl _) _⟩
    ·rw [if_neg h63] at y
     have N:Hid (ym (l.drop a)=⟨0,[],0,0,5⟩):=by unfold ym;rw [←R.out,←Q.out,if_neg h63];rfl
     go_wp2_with fail
     refine y.mono ?_;clear y;rintro e V ⟨rfl,rfl⟩;go_wp2
     exact bodyPost_ret (v:=xu 0 0 0 5 []) (by simp [results,Tryz.results111,go_sem,xu]) rfl ⟨⟨_,rfl,xO (by rw [N.out]) (by decide)⟩,by first | exact H.out | exact zI H.out _ _ _ _ _ | exact (Below.refl w.heap.size w).alloc (Nat.le_refl _) _⟩
  ·have X:¬ (a:Int)+k<l.length:=by omega
   have T:Hid (((l.drop a).takeWhile fun c=>zE c.toNat).length=k):=Xc G K.out (fun h=>absurd h (by omega))
   have z:=fun wx=>Y5 wx l a k G
   have L:Hid ((l.drop a).take k=digL (l.drop a)):=Xz T.out;rw [L.out] at z;have A:=XN (l.drop a);obtain ⟨x,E⟩:∃x,x=digL (l.drop a):=⟨_,rfl⟩;rw [←E] at z A;have M:x.length=k:=by rw [E];exact T.out
   have R:Hid (x=digL (l.drop a)):=E;have y:=xq x (w.alloc Zi) (by omega) A
   clear E A;obtain ⟨v,O⟩:∃v,v=valA 0 x:=⟨_,rfl⟩;have Q:Hid (v=valA 0 x):=O
   unfold QW at y
   rw [←O] at y;clear O
   by_cases h63:v<9223372036854775808
   ·rw [if_pos h63] at y
    have N:Hid (ym (l.drop a)=⟨2,[],v,k,0⟩):=by unfold ym;rw [←R.out,←Q.out,if_pos h63,M];rfl
    go_wp2_with fail
    refine y.mono ?_;clear y;rintro e V ⟨rfl,rfl⟩;go_wp2
    exact bodyPost_ret (v:=xu 2 v (a+k) 0 []) (by simp [results,Tryz.results111,go_sem,xu]) rfl ⟨⟨_,rfl,xE N.out⟩,by first | exact H.out | exact zI H.out _ _ _ _ _ | exact (Below.refl w.heap.size w).alloc (Nat.le_refl _) _⟩
   ·rw [if_neg h63] at y
    have N:Hid (ym (l.drop a)=⟨0,[],0,0,5⟩):=by unfold ym;rw [←R.out,←Q.out,if_neg h63];rfl
    go_wp2_with fail
    refine y.mono ?_;clear y;rintro e V ⟨rfl,rfl⟩;go_wp2
    exact bodyPost_ret (v:=xu 0 0 0 5 []) (by simp [results,Tryz.results111,go_sem,xu]) rfl ⟨⟨_,rfl,xO (by rw [N.out]) (by decide)⟩,by first | exact H.out | exact zI H.out _ _ _ _ _ | exact (Below.refl w.heap.size w).alloc (Nat.le_refl _) _⟩
theorem qb:∀(f:Nat) (meant:List UInt8) (at0:Nat) (r:List UInt8),(zz f meant at0 r).e=0→(zz f meant at0 r).k=3∧(zz f meant at0 r).n=0
 | 0,_,_,_,h=>by simp [zz] at h
 | _+1,_,_,[],h=>by simp [zz] at h
 | f+1,meant,at0,x::r,h=>by
  unfold zz at h ⊢
  by_cases h1:x.toNat=34
  ·rw [if_pos h1];exact ⟨rfl,rfl⟩
  ·rw [if_neg h1] at h ⊢
   by_cases h2:(Ym (x::r)).2=0
   ·rw [if_pos h2] at h;simp at h
   ·rw [if_neg h2] at h ⊢
    by_cases h3:meant.length=255
    ·rw [if_pos h3] at h;simp at h
    ·rw [if_neg h3] at h ⊢
     exact qb f _ _ _ h
theorem vS (l:List UInt8) (a:Nat) (w:World) (hl:l.length≤5000) (ha:a<l.length) (hk0:zM (l[a]).toNat=false) (hk:zE (l[a]).toNat=false) (h34:(l[a]).toNat=34) :
  Calls Tryz.prog 111 #[.string (za l),.int .i64 (a:Nat)] w fun e w'=>(∃v,e=.returned v∧rtR a (zQ (l.drop a)) v)∧Below w.heap.size w w':=by
 have N:(za l).size=l.length:=rfl;have M:Below w.heap.size w (w.alloc Zi):=(Below.refl w.heap.size w).alloc (Nat.le_refl _) _;have O:Hid (Below w.heap.size w (w.alloc Zi)):=M;have z:=fun wx=>ZT wx l a ha
 obtain ⟨n,D⟩:∃n,n=(l[a]).toNat:=⟨_,rfl⟩;rw [←D] at z hk hk0 h34;have h:n<256:=by rw [D];exact UInt8.toNat_lt _
 have E:=Z1 n (w.alloc Zi) h;have I:=yi n (w.alloc Zi) h;have y:=vQ l a (w.alloc Zi) hl ha;rw [hk0] at E;rw [hk] at I;rw [World.size_alloc] at y;obtain ⟨R,H⟩:∃R,R=zQ (l.drop a):=⟨_,rfl⟩;have J:Hid (R.e=0→R.k=3∧R.n=0):=by rw [H];exact qb _ _ _ _
 rw [←H] at y ⊢;obtain ⟨X,G⟩:∃X,X=(if R.e=0 then a+R.sz else 0:Nat):=⟨_,rfl⟩
 unfold qV at y
 rw [←G] at y;have A:Hid (X=(if R.e=0 then a+R.sz else 0:Nat)):=G
 clear M D H G;subst h34
 go_enter Tryz.func111,Tryz.ntmps111
 go_wp2_with fail
 refine E.mono ?_;clear E;rintro e V ⟨rfl,rfl⟩;go_wp2_with fail
 refine I.mono ?_;clear I;rintro e V ⟨rfl,rfl⟩;go_wp2_with fail
 refine y.mono ?_;clear y;rintro e T ⟨rfl,o⟩;obtain ⟨K,W⟩:=ZZ o;have U:Hid (Below w.heap.size w T):=O.out.trans (o.mono (by omega))
 clear o;go_wp2
 refine bodyPost_ret (v:=xu 3 0 X R.e R.s) (by simp [results,Tryz.results111,go_sem,xu,K]) rfl ⟨⟨_,rfl,3,0,X,R.s,rfl,fun he=>?_⟩,zI U.out _ _ _ _ _⟩
 obtain ⟨k1,Q⟩:=J.out he;have L:=A.out;rw [if_pos he] at L;exact ⟨k1.symm,rfl,Q.symm,L⟩
theorem uV {n:Nat} {w w':World} (h:Below n w w') (k:Nat):Below n w (w'.drewN k) :=
 h.trans (⟨rfl,rfl,rfl,Nat.le_refl _,fun _ _=>rfl⟩:Below n w' (w'.drewN k))
theorem vu {r x:List UInt8}:Lib.hasPrefix r x=decide (r.take x.length=x):=by
 unfold Lib.hasPrefix
 rw [Bool.eq_iff_iff,List.isPrefixOf_iff_prefix,List.prefix_iff_eq_take,decide_eq_true_eq];exact eq_comm
theorem vT (l:List UInt8) (a:Nat) (w:World) (hl:l.length≤5000) (ha:a<l.length) (hk0:zM (l[a]).toNat=false) (hk:zE (l[a]).toNat=false) (h34:(l[a]).toNat≠34) :
  Calls Tryz.prog 111 #[.string (za l),.int .i64 (a:Nat)] w fun e w'=>(∃v,e=.returned v∧rtR a (ZQ (l.drop a)) v)∧Below w.heap.size w w':=by
 have ai:(za l).size=l.length:=rfl;have hA:Below w.heap.size w (w.alloc Zi):=(Below.refl w.heap.size w).alloc (Nat.le_refl _) _;have HA:Hid (Below w.heap.size w (w.alloc Zi)):=hA;have G:=fun wx=>ZT wx l a ha
 obtain ⟨n,hn⟩:∃n,n=(l[a]).toNat:=⟨_,rfl⟩;rw [←hn] at G hk hk0 h34;have A:n<256:=by rw [hn];exact UInt8.toNat_lt _
 have c1:=Z1 n (w.alloc Zi) A;have c0:=yi n (w.alloc Zi) A;have cs:=V2 (w.alloc Zi);rw [World.size_alloc] at cs;rw [hk0] at c1;rw [hk] at c0;have ad:((n:Int)==34)=false:=by rw [beq_eq_false_iff_ne];omega
 clear hA hn
 go_enter Tryz.func111,Tryz.ntmps111
 go_wp2_with fail
 refine c1.mono ?_;clear c1;rintro e w1 ⟨rfl,rfl⟩;go_wp2_with fail
 refine c0.mono ?_;clear c0;rintro e w1 ⟨rfl,rfl⟩;go_wp2_with fail
 refine cs.mono ?_;clear cs;rintro e w2 ⟨rfl,E⟩
 have z:∀i (h:i<refSigns.length),w2.cell? ⟨w.heap.size+1,i,none⟩=some (.string (za (refSigns[i]'h))):=fun i h=>by
  have hh:=World.alloc_heap_new (w.alloc Zi) (.cells (refSigns.map fun x=>Value.string (za x)).toArray 9)
  rw [World.size_alloc] at hh;rw [E,cell_of_row _ _ _ _ _ _ hh]
  simp [h]
 have X:Below (w.heap.size+1) (w.alloc Zi) w2:=by
  rw [E];exact (Below.refl (w.heap.size+1) (w.alloc Zi)).alloc (by simp) _
 have M:w2.heap.size=w.heap.size+2:=by rw [E];simp
 have L:Hid (∀i (h:i<refSigns.length),w2.cell? ⟨w.heap.size+1,i,none⟩=some (.string (za (refSigns[i]'h)))):=z;have aa:Hid (Below (w.heap.size+1) (w.alloc Zi) w2):=X;have O:Hid (w2.heap.size=w.heap.size+2):=M;clear E z X M G;go_wp2
 go_loopw [15] (fun v wr=>∃i:Nat,i≤25∧v=.int .i64 i∧(∀x∈refSigns.take i,Lib.hasPrefix (l.drop a) x=false)∧Below w2.heap.size w2 wr) (fun v _=>25-(intOf v).toNat)
 case atStart=>exact ⟨0,Nat.zero_le _,rfl,fun x Q=>by simp at Q,Below.refl _ _⟩
 case round =>
  obtain ⟨i,hi,rfl,I,D⟩:=hrel;have J:Hid (∀x∈refSigns.take i,Lib.hasPrefix (l.drop a) x=false):=I;have K:Below (w.heap.size+1) (w.alloc Zi) wr:=aa.out.trans (D.mono (by rw [O.out];omega))
  obtain ⟨T,aj⟩:=ZZ K;have HB:Hid (Below w.heap.size w wr):=HA.out.trans (K.mono (by omega))
  have R:Hid (Below w2.heap.size w2 wr):=D;clear I K
  by_cases hlt:i<25
  ·have o:i<refSigns.length:=hlt
   have ab:=(XZ (j:=i) D (by rw [O.out];omega)).trans (L.out i o)
   have U:1≤(refSigns[i]'o).length∧(refSigns[i]'o).length≤2:=by
    have:∀x∈refSigns,1≤x.length∧x.length≤2:=by decide
    exact this _ (List.getElem_mem _)
   obtain ⟨x,Q⟩:∃x,x=refSigns[i]'o:=⟨_,rfl⟩;rw [←Q] at ab U;have Y:Hid (x=refSigns[i]'o):=Q;have ah:(za x).size=x.length:=rfl;obtain ⟨V,ag⟩:=U
   have N:Hid (Lib.hasPrefix (l.drop a) x=false→∀y∈refSigns.take (i+1),Lib.hasPrefix (l.drop a) y=false):=fun hf y H=>by
    rw [List.take_succ_eq_append_getElem o] at H;rcases List.mem_append.1 H with h | h
    ·exact J.out y h
    ·rw [List.mem_singleton] at h;rw [h,←Y.out];exact hf
   clear Q D;have ae:(i:Int)<25:=by omega
   by_cases hlen:a+x.length≤l.length
   ·have hd:decide ((a:Int)+(x.length:Int)≤(l.length:Int))=true:=by simp;omega
    have W:=fun wx=>Y5 wx l a x.length hlen
    obtain ⟨y,H⟩:∃y,y=(l.drop a).take x.length:=⟨_,rfl⟩;rw [←H] at W
    by_cases he:y=x
    ·have HP:Hid (Lib.hasPrefix (l.drop a) x=true):=by show _=true;rw [vu,←H];exact decide_eq_true he
     have Z:Hid (bestS (l.drop a) 25=x):=by
      have h:=QZ o J.out (by rw [←Y.out];exact HP.out)
      show _=x
      rw [h,←Y.out]
     have HR:Hid (ZQ (l.drop a)=⟨4,x,0,x.length,0⟩):=by
      show _=_
      unfold ZQ
      rw [Z.out,if_neg (fun e=>by rw [e] at V;simp at V)]
     clear H;subst he;go_wp2
     go_quiet (fail)
     go_wp2
     go_region
     all_goals go_wp2
     all_goals refine bodyPost_ret (v:=xu 4 0 (a+y.length) 0 y) (by simp [results,Tryz.results111,go_sem,xu,T]) rfl ⟨⟨_,rfl,xE HR.out⟩,?_⟩
     all_goals exact zI (uV HB.out _) _ _ _ _ _
    ·have af:(y==x)=false:=by rw [zaL];exact decide_eq_false he
     have HF:Hid (Lib.hasPrefix (l.drop a) x=false):=by show _=false;rw [vu,←H];exact decide_eq_false he
     clear H he;go_wp2
     go_quiet (fail)
     go_wp2
     refine ⟨⟨i+1,by omega,by go_num,N.out HF.out,R.out.trans (⟨rfl,rfl,rfl,Nat.le_refl _,fun _ _=>rfl⟩:Below w2.heap.size wr (wr.drewN nq))⟩,by simp [intOf];omega⟩
   ·have hd:decide ((a:Int)+(x.length:Int)≤(l.length:Int))=false:=by simp;omega
    have HF:Hid (Lib.hasPrefix (l.drop a) x=false):=by
     show _=false
     rw [vu];refine decide_eq_false (fun e=>?_)
     have:=congrArg List.length e
     rw [List.length_take,List.length_drop] at this;omega
    go_wp2
    go_quiet (fail)
    go_wp2
    refine ⟨⟨i+1,by omega,by go_num,N.out HF.out,R.out.trans (⟨rfl,rfl,rfl,Nat.le_refl _,fun _ _=>rfl⟩:Below w2.heap.size wr (wr.drewN nq))⟩,by simp [intOf];omega⟩
  ·obtain rfl:i=25:=by omega
   have HR:Hid (ZQ (l.drop a)=⟨0,[],0,0,6⟩):=by
    show _=_
    unfold ZQ
    rw [Qb J.out,if_pos rfl]
   clear D;go_wp2
   exact bodyPost_ret (v:=xu 0 0 0 6 []) (by simp [results,Tryz.results111,go_sem,xu,T]) rfl ⟨⟨_,rfl,xO (by rw [HR.out]) (by decide)⟩,zI HB.out _ _ _ _ _⟩
theorem YJ (l:List UInt8) (a:Nat) (w:World) (hl:l.length≤5000) (ha:a<l.length) :
  Calls Tryz.prog 111 #[.string (za l),.int .i64 (a:Nat)] w fun e w'=>(∃v,e=.returned v∧rtR a (zF (l.drop a)) v)∧Below w.heap.size w w':=by
 have hd:l.drop a=l[a]::l.drop (a+1):=List.drop_eq_getElem_cons ha
 have h:zF (l.drop a)=if zM (l[a]).toNat=true then Zo (l.drop a) else if zE (l[a]).toNat=true then ym (l.drop a) else if (l[a]).toNat=34 then zQ (l.drop a) else ZQ (l.drop a):=by
  rw [hd];rfl
 rw [h];cases h1:zM (l[a]).toNat with
 | true=>rw [if_pos rfl];exact vR l a w hl ha h1
 | false =>
  rw [if_neg (by simp)]
  cases h2:zE (l[a]).toNat with
  | true=>rw [if_pos rfl];exact V3 l a w hl ha h1 h2
  | false =>
   rw [if_neg (by simp)]
   by_cases h3:(l[a]).toNat=34
   ·rw [if_pos h3];exact vS l a w hl ha h1 h2 h3
   ·rw [if_neg h3];exact vT l a w hl ha h1 h2 h3
end Go.Proofs.YtmbofhpmockmbaaGreatDoor
