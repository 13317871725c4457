import Derived.Test.YtmbofhpmockmbaaGreatDoorXRef4
import Derived.BigQuiet
namespace Go.Proofs.YtmbofhpmockmbaaGreatDoor
open Go.RowKit Go.Shelf
set_option maxHeartbeats 16000000
set_option maxRecDepth 100000
theorem VI (w:World) :
  Calls Tryz.prog 133 #[] w fun e w'=>e=.returned (.slice (some ⟨w.heap.size,0,none⟩) 25 25)∧w'=w.alloc (.cells (refSigns.map fun x=>Value.string (za x)).toArray 9):=by
 go_enter Tryz.func133,Tryz.ntmps133
 go_wp2
 go_ret
 exact ⟨rfl,rfl⟩
def xh (K N' X E:Nat) (s:List UInt8):Value:=.tuple #[.agg #[.int .i64 K,.string (za s),.int .i64 N',.int .i64 0,.int .i64 0],.int .i64 X,.int .i64 E]
def rtR (a:Nat) (R:TR) (v:Value):Prop:=∃(K N' X:Nat) (s:List UInt8),v=xh K N' X R.e s∧(R.e=0→K=R.k∧s=R.s∧N'=R.n∧X=a+R.sz)
theorem xr {a:Nat} {R R':TR} (h:R=R'):rtR a R (xh R'.k R'.n (a+R'.sz) R'.e R'.s):=by
 subst h;exact ⟨_,_,_,_,rfl,fun _=>⟨rfl,rfl,rfl,rfl⟩⟩
theorem xD {a K X e:Nat} {R:TR} {s:List UInt8} (h:R.e=e) (he:e≠0):rtR a R (xh K 0 X e s):=by
 subst h;exact ⟨_,_,_,_,rfl,fun h=>absurd h he⟩
theorem xV {p:UInt8→Bool} {l:List UInt8} {a k:Nat} (hk:a+k≤l.length) (h1:∀j (h:a+j<l.length),j<k→p l[a+j]=true) (h2:∀h:a+k<l.length,p l[a+k]=false):((l.drop a).takeWhile p).length=k:=by
 refine yo p (l.drop a) k (by rw [List.length_drop];omega) (fun j h hj=>?_) (fun h=>?_)
 ·rw [List.getElem_drop];exact h1 j (by rw [List.length_drop] at h;omega) hj
 ·rw [List.getElem_drop];exact h2 (by rw [List.length_drop] at h;omega)
theorem Xp {p:UInt8→Bool} {l:List UInt8} {a k:Nat} (h:((l.drop a).takeWhile p).length=k):(l.drop a).take k=(l.drop a).takeWhile p:=by
 rw [←h];exact Yh p _
theorem vB (l:List UInt8) (a:Nat) (w:World) (hl:l.length≤5000) (ha:a<l.length) (hk:zK (l[a]).toNat=true) :
  Calls Tryz.prog 111 #[.string (za l),.int .i64 (a:Nat)] w fun e w'=>(∃v,e=.returned v∧rtR a (Zk (l.drop a)) v)∧Below w.heap.size w w':=by
 have aa:(za l).size=l.length:=rfl;have hA:Below w.heap.size w (w.alloc Zf):=(Below.refl w.heap.size w).alloc (Nat.le_refl _) _;have HA:Hid (Below w.heap.size w (w.alloc Zf)):=hA;have y:=fun wx=>ZU wx l a ha
 obtain ⟨n,W⟩:∃n,n=(l[a]).toNat:=⟨_,rfl⟩;rw [←W] at y hk;have L:n<256:=by rw [W];exact UInt8.toNat_lt _
 have V:=ZY n (w.alloc Zf) L;rw [hk] at V;clear hA W
 go_enter Tryz.func111,Tryz.ntmps111
 go_wp2_with fail
 refine V.mono ?_;clear V;rintro e w1 ⟨rfl,rfl⟩;go_wp2_with fail
 go_loopw [8] (fun v wr=>∃k:Nat,v=.int .i64 ((a:Int)+k)∧a+k≤l.length∧(∀j (h:a+j<l.length),j<k→ZG (l[a+j]).toNat=true)∧wr=w.alloc Zf) (fun v _=>l.length-(intOf v).toNat)
 case atStart=>exact ⟨0,by simp,by omega,fun j h hj=>by omega,rfl⟩
 case round =>
  obtain ⟨k,rfl,H,K,rfl⟩:=hrel;have I:Hid (∀j (h:a+j<l.length),j<k→ZG (l[a+j]).toNat=true):=K;clear K y
  by_cases hlt:a+k<l.length
  ·have y:=fun wx=>ZU wx l (a+k) hlt
   have e1:((a+k:Nat):Int)=(a:Int)+k:=by omega
   simp only [e1] at y;have Y:(a:Int)+k<l.length:=by omega
   obtain ⟨c,U⟩:∃c,c=(l[a+k]).toNat:=⟨_,rfl⟩;rw [←U] at y;have G:c<256:=by rw [U];exact UInt8.toNat_lt _
   have Z:Hid (c=(l[a+k]).toNat):=U;clear U e1;have c2:=ZY c (w.alloc Zf) G;have c3:=ye c (w.alloc Zf) G;go_wp2_with fail
   refine c2.mono ?_;clear c2;rintro e w1 ⟨rfl,rfl⟩;cases h1:zK c with
   | true =>
    go_wp2
    refine ⟨⟨k+1,by go_num,by omega,fun j h hj=>?_,by first | rfl | trivial⟩,by simp [intOf];omega⟩
    by_cases hji:j<k
    ·exact I.out j h hji
    ·obtain rfl:j=k:=by omega
     rw [←Z.out];simp [ZG,h1]
   | false =>
    go_wp2_with fail
    refine c3.mono ?_;rintro e w1 ⟨rfl,rfl⟩;cases h2:zC c with
    | true =>
     go_wp2
     refine ⟨⟨k+1,by go_num,by omega,fun j h hj=>?_,by first | rfl | trivial⟩,by simp [intOf];omega⟩
     by_cases hji:j<k
     ·exact I.out j h hji
     ·obtain rfl:j=k:=by omega
      rw [←Z.out];simp [ZG,h2]
    | false =>
     have T:Hid (((l.drop a).takeWhile fun c=>ZG c.toNat).length=k):=xV H I.out (fun _=>by rw [←Z.out];simp [ZG,h1,h2])
     clear y;have z:=fun wx=>YW wx l a k H
     have M:Hid ((l.drop a).take k=Ze (l.drop a)):=Xp T.out;rw [M.out] at z;obtain ⟨x,J⟩:∃x,x=Ze (l.drop a):=⟨_,rfl⟩;rw [←J] at z;have o:x.length=k:=by rw [J];exact T.out
     have R:(za x).size=k:=o;have O:Hid (x=Ze (l.drop a)):=J;have N:=Xc x (w.alloc Zf);rw [World.size_alloc] at N;clear J;go_wp2_with fail
     refine N.mono ?_;clear N;rintro e w2 ⟨rfl,A⟩;obtain ⟨D,X⟩:=ZW A;have Q:Hid (Below w.heap.size w w2):=HA.out.trans (A.mono (by omega))
     clear A;cases hq:Zv x with
     | true =>
      have E:Hid (Zk (l.drop a)=⟨5,x,0,k,0⟩):=by unfold Zk;rw [←O.out,if_pos hq,o];rfl
      go_wp2
      exact bodyPost_ret (v:=xh 5 0 (a+k) 0 x) (by simp [results,Tryz.results111,go_sem,xh,D]) rfl ⟨⟨_,rfl,xr E.out⟩,zG Q.out _ _ _ _ _⟩
     | false =>
      by_cases h20:20<k
      ·have E:Hid (Zk (l.drop a)=⟨0,[],0,0,5⟩):=by unfold Zk;rw [←O.out,if_neg (by rw [hq];simp),if_pos (by rw [o];exact h20)];rfl
       go_wp2
       exact bodyPost_ret (v:=xh 0 0 0 5 []) (by simp [results,Tryz.results111,go_sem,xh,D]) rfl ⟨⟨_,rfl,xD (by rw [E.out]) (by decide)⟩,zG Q.out _ _ _ _ _⟩
      ·have E:Hid (Zk (l.drop a)=⟨1,x,0,k,0⟩):=by unfold Zk;rw [←O.out,if_neg (by rw [hq];simp),if_neg (by rw [o];exact h20),o];rfl
       go_wp2
       exact bodyPost_ret (v:=xh 1 0 (a+k) 0 x) (by simp [results,Tryz.results111,go_sem,xh,D]) rfl ⟨⟨_,rfl,xr E.out⟩,zG Q.out _ _ _ _ _⟩
  ·have Y:¬ (a:Int)+k<l.length:=by omega
   have T:Hid (((l.drop a).takeWhile fun c=>ZG c.toNat).length=k):=xV H I.out (fun h=>absurd h (by omega))
   have z:=fun wx=>YW wx l a k H
   have M:Hid ((l.drop a).take k=Ze (l.drop a)):=Xp T.out;rw [M.out] at z;obtain ⟨x,J⟩:∃x,x=Ze (l.drop a):=⟨_,rfl⟩;rw [←J] at z;have o:x.length=k:=by rw [J];exact T.out
   have R:(za x).size=k:=o;have O:Hid (x=Ze (l.drop a)):=J;have N:=Xc x (w.alloc Zf);rw [World.size_alloc] at N;clear J;go_wp2_with fail
   refine N.mono ?_;clear N;rintro e w2 ⟨rfl,A⟩;obtain ⟨D,X⟩:=ZW A;have Q:Hid (Below w.heap.size w w2):=HA.out.trans (A.mono (by omega))
   clear A;cases hq:Zv x with
   | true =>
    have E:Hid (Zk (l.drop a)=⟨5,x,0,k,0⟩):=by unfold Zk;rw [←O.out,if_pos hq,o];rfl
    go_wp2
    exact bodyPost_ret (v:=xh 5 0 (a+k) 0 x) (by simp [results,Tryz.results111,go_sem,xh,D]) rfl ⟨⟨_,rfl,xr E.out⟩,zG Q.out _ _ _ _ _⟩
   | false =>
    by_cases h20:20<k
    ·have E:Hid (Zk (l.drop a)=⟨0,[],0,0,5⟩):=by unfold Zk;rw [←O.out,if_neg (by rw [hq];simp),if_pos (by rw [o];exact h20)];rfl
     go_wp2
     exact bodyPost_ret (v:=xh 0 0 0 5 []) (by simp [results,Tryz.results111,go_sem,xh,D]) rfl ⟨⟨_,rfl,xD (by rw [E.out]) (by decide)⟩,zG Q.out _ _ _ _ _⟩
    ·have E:Hid (Zk (l.drop a)=⟨1,x,0,k,0⟩):=by unfold Zk;rw [←O.out,if_neg (by rw [hq];simp),if_neg (by rw [o];exact h20),o];rfl
     go_wp2
     exact bodyPost_ret (v:=xh 1 0 (a+k) 0 x) (by simp [results,Tryz.results111,go_sem,xh,D]) rfl ⟨⟨_,rfl,xr E.out⟩,zG Q.out _ _ _ _ _⟩
theorem VJ (l:List UInt8) (a:Nat) (w:World) (hl:l.length≤5000) (ha:a<l.length) (hk0:zK (l[a]).toNat=false) (hk:zC (l[a]).toNat=true) :
  Calls Tryz.prog 111 #[.string (za l),.int .i64 (a:Nat)] w fun e w'=>(∃v,e=.returned v∧rtR a (yj (l.drop a)) v)∧Below w.heap.size w w':=by
 have aa:(za l).size=l.length:=rfl;have hA:Below w.heap.size w (w.alloc Zf):=(Below.refl w.heap.size w).alloc (Nat.le_refl _) _;have I:Hid (Below w.heap.size w (w.alloc Zf)):=hA;have o:=fun wx=>ZU wx l a ha
 obtain ⟨n,W⟩:∃n,n=(l[a]).toNat:=⟨_,rfl⟩;rw [←W] at o hk hk0;have D:n<256:=by rw [W];exact UInt8.toNat_lt _
 have V:=ZY n (w.alloc Zf) D;have Z:=ye n (w.alloc Zf) D;rw [hk0] at V;rw [hk] at Z;clear hA W
 go_enter Tryz.func111,Tryz.ntmps111
 go_wp2_with fail
 refine V.mono ?_;clear V;rintro e w1 ⟨rfl,rfl⟩;go_wp2_with fail
 refine Z.mono ?_;clear Z;rintro e w1 ⟨rfl,rfl⟩;go_wp2_with fail
 go_loopw [8] (fun v wr=>∃k:Nat,v=.int .i64 ((a:Int)+k)∧a+k≤l.length∧(∀j (h:a+j<l.length),j<k→zC (l[a+j]).toNat=true)∧wr=w.alloc Zf) (fun v _=>l.length-(intOf v).toNat)
 case atStart=>exact ⟨0,by simp,by omega,fun j h hj=>by omega,rfl⟩
 case round =>
  obtain ⟨k,rfl,E,H,rfl⟩:=hrel;have L:Hid (∀j (h:a+j<l.length),j<k→zC (l[a+j]).toNat=true):=H;clear H o
  by_cases hlt:a+k<l.length
  ·have o:=fun wx=>ZU wx l (a+k) hlt
   have e1:((a+k:Nat):Int)=(a:Int)+k:=by omega
   simp only [e1] at o;have X:(a:Int)+k<l.length:=by omega
   obtain ⟨c,U⟩:∃c,c=(l[a+k]).toNat:=⟨_,rfl⟩;rw [←U] at o;have O:c<256:=by rw [U];exact UInt8.toNat_lt _
   have HC:Hid (c=(l[a+k]).toNat):=U;clear U e1;have c3:=ye c (w.alloc Zf) O;go_wp2_with fail
   refine c3.mono ?_;clear c3;rintro e w1 ⟨rfl,rfl⟩;cases h2:zC c with
   | true =>
    go_wp2
    refine ⟨⟨k+1,by go_num,by omega,fun j h hj=>?_,by first | rfl | trivial⟩,by simp [intOf];omega⟩
    by_cases hji:j<k
    ·exact L.out j h hji
    ·obtain rfl:j=k:=by omega
     rw [←HC.out];exact h2
   | false =>
    have T:Hid (((l.drop a).takeWhile fun c=>zC c.toNat).length=k):=xV E L.out (fun _=>by rw [←HC.out];exact h2)
    clear o;have z:=fun wx=>YW wx l a k E
    have K:Hid ((l.drop a).take k=digL (l.drop a)):=Xp T.out;rw [K.out] at z;have A:=Xz (l.drop a);obtain ⟨x,G⟩:∃x,x=digL (l.drop a):=⟨_,rfl⟩;rw [←G] at z A;have M:x.length=k:=by rw [G];exact T.out
    have R:Hid (x=digL (l.drop a)):=G;have y:=xd x (w.alloc Zf) (by omega) A
    clear G A;obtain ⟨v,J⟩:∃v,v=valA 0 x:=⟨_,rfl⟩;have Q:Hid (v=valA 0 x):=J
    unfold Qy at y
    rw [←J] at y;clear J
    by_cases h63:v<9223372036854775808
    ·rw [if_pos h63] at y
     have N:Hid (yj (l.drop a)=⟨2,[],v,k,0⟩):=by unfold yj;rw [←R.out,←Q.out,if_pos h63,M];rfl
     go_wp2_with fail
     refine y.mono ?_;clear y;rintro e Y ⟨rfl,rfl⟩;go_wp2
     exact bodyPost_ret (v:=xh 2 v (a+k) 0 []) (by simp [results,Tryz.results111,go_sem,xh]) rfl ⟨⟨_,rfl,xr N.out⟩,by first | exact I.out | exact zG I.out _ _ _ _ _ | exact (Below.refl w.heap.size w).alloc (Nat.le_refl _) _⟩
    ·rw [if_neg h63] at y
     have N:Hid (yj (l.drop a)=⟨0,[],0,0,5⟩):=by unfold yj;rw [←R.out,←Q.out,if_neg h63];rfl
     go_wp2_with fail
     refine y.mono ?_;clear y;rintro e Y ⟨rfl,rfl⟩;go_wp2
     exact bodyPost_ret (v:=xh 0 0 0 5 []) (by simp [results,Tryz.results111,go_sem,xh]) rfl ⟨⟨_,rfl,xD (by rw [N.out]) (by decide)⟩,by first | exact I.out | exact zG I.out _ _ _ _ _ | exact (Below.refl w.heap.size w).alloc (Nat.le_refl _) _⟩
  ·have X:¬ (a:Int)+k<l.length:=by omega
   have T:Hid (((l.drop a).takeWhile fun c=>zC c.toNat).length=k):=xV E L.out (fun h=>absurd h (by omega))
   have z:=fun wx=>YW wx l a k E
   have K:Hid ((l.drop a).take k=digL (l.drop a)):=Xp T.out;rw [K.out] at z;have A:=Xz (l.drop a);obtain ⟨x,G⟩:∃x,x=digL (l.drop a):=⟨_,rfl⟩;rw [←G] at z A;have M:x.length=k:=by rw [G];exact T.out
   have R:Hid (x=digL (l.drop a)):=G;have y:=xd x (w.alloc Zf) (by omega) A
   clear G A;obtain ⟨v,J⟩:∃v,v=valA 0 x:=⟨_,rfl⟩;have Q:Hid (v=valA 0 x):=J
   unfold Qy at y
   rw [←J] at y;clear J
   by_cases h63:v<9223372036854775808
   ·rw [if_pos h63] at y
    have N:Hid (yj (l.drop a)=⟨2,[],v,k,0⟩):=by unfold yj;rw [←R.out,←Q.out,if_pos h63,M];rfl
    go_wp2_with fail
    refine y.mono ?_;clear y;rintro e Y ⟨rfl,rfl⟩;go_wp2
    exact bodyPost_ret (v:=xh 2 v (a+k) 0 []) (by simp [results,Tryz.results111,go_sem,xh]) rfl ⟨⟨_,rfl,xr N.out⟩,by first | exact I.out | exact zG I.out _ _ _ _ _ | exact (Below.refl w.heap.size w).alloc (Nat.le_refl _) _⟩
   ·rw [if_neg h63] at y
    have N:Hid (yj (l.drop a)=⟨0,[],0,0,5⟩):=by unfold yj;rw [←R.out,←Q.out,if_neg h63];rfl
    go_wp2_with fail
    refine y.mono ?_;clear y;rintro e Y ⟨rfl,rfl⟩;go_wp2
    exact bodyPost_ret (v:=xh 0 0 0 5 []) (by simp [results,Tryz.results111,go_sem,xh]) rfl ⟨⟨_,rfl,xD (by rw [N.out]) (by decide)⟩,by first | exact I.out | exact zG I.out _ _ _ _ _ | exact (Below.refl w.heap.size w).alloc (Nat.le_refl _) _⟩
theorem UT:∀(f:Nat) (meant:List UInt8) (at0:Nat) (r:List UInt8),(zx f meant at0 r).e=0→(zx f meant at0 r).k=3∧(zx f meant at0 r).n=0
 | 0,_,_,_,h=>by simp [zx] at h
 | _+1,_,_,[],h=>by simp [zx] at h
 | f+1,meant,at0,x::r,h=>by
  unfold zx at h ⊢
  by_cases h1:x.toNat=34
  ·rw [if_pos h1];exact ⟨rfl,rfl⟩
  ·rw [if_neg h1] at h ⊢
   by_cases h2:(Ye (x::r)).2=0
   ·rw [if_pos h2] at h;simp at h
   ·rw [if_neg h2] at h ⊢
    by_cases h3:meant.length=255
    ·rw [if_pos h3] at h;simp at h
    ·rw [if_neg h3] at h ⊢
     exact UT f _ _ _ h
theorem vC (l:List UInt8) (a:Nat) (w:World) (hl:l.length≤5000) (ha:a<l.length) (hk0:zK (l[a]).toNat=false) (hk:zC (l[a]).toNat=false) (h34:(l[a]).toNat=34) :
  Calls Tryz.prog 111 #[.string (za l),.int .i64 (a:Nat)] w fun e w'=>(∃v,e=.returned v∧rtR a (zO (l.drop a)) v)∧Below w.heap.size w w':=by
 have T:(za l).size=l.length:=rfl;have L:Below w.heap.size w (w.alloc Zf):=(Below.refl w.heap.size w).alloc (Nat.le_refl _) _;have W:Hid (Below w.heap.size w (w.alloc Zf)):=L;have z:=fun wx=>ZU wx l a ha
 obtain ⟨n,D⟩:∃n,n=(l[a]).toNat:=⟨_,rfl⟩;rw [←D] at z hk hk0 h34;have h:n<256:=by rw [D];exact UInt8.toNat_lt _
 have A:=ZY n (w.alloc Zf) h;have H:=ye n (w.alloc Zf) h;have y:=vA l a (w.alloc Zf) hl ha;rw [hk0] at A;rw [hk] at H;rw [World.size_alloc] at y;obtain ⟨R,I⟩:∃R,R=zO (l.drop a):=⟨_,rfl⟩;have K:Hid (R.e=0→R.k=3∧R.n=0):=by rw [I];exact UT _ _ _ _
 rw [←I] at y ⊢;obtain ⟨X,E⟩:∃X,X=(if R.e=0 then a+R.sz else 0:Nat):=⟨_,rfl⟩
 unfold qV at y
 rw [←E] at y;have G:Hid (X=(if R.e=0 then a+R.sz else 0:Nat)):=E
 clear L D I E;subst h34
 go_enter Tryz.func111,Tryz.ntmps111
 go_wp2_with fail
 refine A.mono ?_;clear A;rintro e O ⟨rfl,rfl⟩;go_wp2_with fail
 refine H.mono ?_;clear H;rintro e O ⟨rfl,rfl⟩;go_wp2_with fail
 refine y.mono ?_;clear y;rintro e V ⟨rfl,o⟩;obtain ⟨J,Q⟩:=ZW o;have U:Hid (Below w.heap.size w V):=W.out.trans (o.mono (by omega))
 clear o;go_wp2
 refine bodyPost_ret (v:=xh 3 0 X R.e R.s) (by simp [results,Tryz.results111,go_sem,xh,J]) rfl ⟨⟨_,rfl,3,0,X,R.s,rfl,fun he=>?_⟩,zG U.out _ _ _ _ _⟩
 obtain ⟨k1,N⟩:=K.out he;have M:=G.out;rw [if_pos he] at M;exact ⟨k1.symm,rfl,N.symm,M⟩
theorem uz {n:Nat} {w w':World} (h:Below n w w') (k:Nat):Below n w (w'.drewN k) :=
 h.trans (⟨rfl,rfl,rfl,Nat.le_refl _,fun _ _=>rfl⟩:Below n w' (w'.drewN k))
theorem X1 {r x:List UInt8}:Lib.hasPrefix r x=decide (r.take x.length=x):=by
 unfold Lib.hasPrefix
 rw [Bool.eq_iff_iff,List.isPrefixOf_iff_prefix,List.prefix_iff_eq_take,decide_eq_true_eq];exact eq_comm
theorem vD (l:List UInt8) (a:Nat) (w:World) (hl:l.length≤5000) (ha:a<l.length) (hk0:zK (l[a]).toNat=false) (hk:zC (l[a]).toNat=false) (h34:(l[a]).toNat≠34) :
  Calls Tryz.prog 111 #[.string (za l),.int .i64 (a:Nat)] w fun e w'=>(∃v,e=.returned v∧rtR a (ZM (l.drop a)) v)∧Below w.heap.size w w':=by
 have ak:(za l).size=l.length:=rfl;have hA:Below w.heap.size w (w.alloc Zf):=(Below.refl w.heap.size w).alloc (Nat.le_refl _) _;have HA:Hid (Below w.heap.size w (w.alloc Zf)):=hA;have H:=fun wx=>ZU wx l a ha
 obtain ⟨n,Z⟩:∃n,n=(l[a]).toNat:=⟨_,rfl⟩;rw [←Z] at H hk hk0 h34;have A:n<256:=by rw [Z];exact UInt8.toNat_lt _
 have Y:=ZY n (w.alloc Zf) A;have c0:=ye n (w.alloc Zf) A;have cs:=VI (w.alloc Zf);rw [World.size_alloc] at cs;rw [hk0] at Y;rw [hk] at c0;have ae:((n:Int)==34)=false:=by rw [beq_eq_false_iff_ne];omega
 clear hA Z
 go_enter Tryz.func111,Tryz.ntmps111
 go_wp2_with fail
 refine Y.mono ?_;clear Y;rintro e w1 ⟨rfl,rfl⟩;go_wp2_with fail
 refine c0.mono ?_;clear c0;rintro e w1 ⟨rfl,rfl⟩;go_wp2_with fail
 refine cs.mono ?_;clear cs;rintro e w2 ⟨rfl,E⟩
 have D:∀i (h:i<refSigns.length),w2.cell? ⟨w.heap.size+1,i,none⟩=some (.string (za (refSigns[i]'h))):=fun i h=>by
  have hh:=World.alloc_heap_new (w.alloc Zf) (.cells (refSigns.map fun x=>Value.string (za x)).toArray 9)
  rw [World.size_alloc] at hh;rw [E,cell_of_row _ _ _ _ _ _ hh]
  simp [h]
 have O:Below (w.heap.size+1) (w.alloc Zf) w2:=by
  rw [E];exact (Below.refl (w.heap.size+1) (w.alloc Zf)).alloc (by simp) _
 have T:w2.heap.size=w.heap.size+2:=by rw [E];simp
 have K:Hid (∀i (h:i<refSigns.length),w2.cell? ⟨w.heap.size+1,i,none⟩=some (.string (za (refSigns[i]'h)))):=D;have ad:Hid (Below (w.heap.size+1) (w.alloc Zf) w2):=O;have Q:Hid (w2.heap.size=w.heap.size+2):=T;clear E D O T H;go_wp2
 go_loopw [15] (fun v wr=>∃i:Nat,i≤25∧v=.int .i64 i∧(∀x∈refSigns.take i,Lib.hasPrefix (l.drop a) x=false)∧Below w2.heap.size w2 wr) (fun v _=>25-(intOf v).toNat)
 case atStart=>exact ⟨0,Nat.zero_le _,rfl,fun x V=>by simp at V,Below.refl _ _⟩
 case round =>
  obtain ⟨i,hi,rfl,G,z⟩:=hrel;have L:Hid (∀x∈refSigns.take i,Lib.hasPrefix (l.drop a) x=false):=G;have J:Below (w.heap.size+1) (w.alloc Zf) wr:=ad.out.trans (z.mono (by rw [Q.out];omega))
  obtain ⟨R,ag⟩:=ZW J;have HB:Hid (Below w.heap.size w wr):=HA.out.trans (J.mono (by omega))
  have M:Hid (Below w2.heap.size w2 wr):=z;clear G J
  by_cases hlt:i<25
  ·have o:i<refSigns.length:=hlt
   have ab:=(XL (j:=i) z (by rw [Q.out];omega)).trans (K.out i o)
   have N:1≤(refSigns[i]'o).length∧(refSigns[i]'o).length≤2:=by
    have:∀x∈refSigns,1≤x.length∧x.length≤2:=by decide
    exact this _ (List.getElem_mem _)
   obtain ⟨x,V⟩:∃x,x=refSigns[i]'o:=⟨_,rfl⟩;rw [←V] at ab N;have HX:Hid (x=refSigns[i]'o):=V;have aj:(za x).size=x.length:=rfl;obtain ⟨X,ah⟩:=N
   have U:Hid (Lib.hasPrefix (l.drop a) x=false→∀y∈refSigns.take (i+1),Lib.hasPrefix (l.drop a) y=false):=fun hf y I=>by
    rw [List.take_succ_eq_append_getElem o] at I;rcases List.mem_append.1 I with h | h
    ·exact L.out y h
    ·rw [List.mem_singleton] at h;rw [h,←HX.out];exact hf
   clear V z;have af:(i:Int)<25:=by omega
   by_cases hlen:a+x.length≤l.length
   ·have hd:decide ((a:Int)+(x.length:Int)≤(l.length:Int))=true:=by simp;omega
    have W:=fun wx=>YW wx l a x.length hlen
    obtain ⟨y,I⟩:∃y,y=(l.drop a).take x.length:=⟨_,rfl⟩;rw [←I] at W
    by_cases he:y=x
    ·have HP:Hid (Lib.hasPrefix (l.drop a) x=true):=by show _=true;rw [X1,←I];exact decide_eq_true he
     have aa:Hid (bestS (l.drop a) 25=x):=by
      have h:=QB o L.out (by rw [←HX.out];exact HP.out)
      show _=x
      rw [h,←HX.out]
     have HR:Hid (ZM (l.drop a)=⟨4,x,0,x.length,0⟩):=by
      show _=_
      unfold ZM
      rw [aa.out,if_neg (fun e=>by rw [e] at X;simp at X)]
     clear I;subst he;go_wp2
     go_quiet (fail)
     go_wp2
     go_region
     all_goals go_wp2
     all_goals refine bodyPost_ret (v:=xh 4 0 (a+y.length) 0 y) (by simp [results,Tryz.results111,go_sem,xh,R]) rfl ⟨⟨_,rfl,xr HR.out⟩,?_⟩
     all_goals exact zG (uz HB.out _) _ _ _ _ _
    ·have ai:(y==x)=false:=by rw [zao];exact decide_eq_false he
     have HF:Hid (Lib.hasPrefix (l.drop a) x=false):=by show _=false;rw [X1,←I];exact decide_eq_false he
     clear I he;go_wp2
     go_quiet (fail)
     go_wp2
     refine ⟨⟨i+1,by omega,by go_num,U.out HF.out,M.out.trans (⟨rfl,rfl,rfl,Nat.le_refl _,fun _ _=>rfl⟩:Below w2.heap.size wr (wr.drewN nq))⟩,by simp [intOf];omega⟩
   ·have hd:decide ((a:Int)+(x.length:Int)≤(l.length:Int))=false:=by simp;omega
    have HF:Hid (Lib.hasPrefix (l.drop a) x=false):=by
     show _=false
     rw [X1];refine decide_eq_false (fun e=>?_)
     have:=congrArg List.length e
     rw [List.length_take,List.length_drop] at this;omega
    go_wp2
    go_quiet (fail)
    go_wp2
    refine ⟨⟨i+1,by omega,by go_num,U.out HF.out,M.out.trans (⟨rfl,rfl,rfl,Nat.le_refl _,fun _ _=>rfl⟩:Below w2.heap.size wr (wr.drewN nq))⟩,by simp [intOf];omega⟩
  ·obtain rfl:i=25:=by omega
   have HR:Hid (ZM (l.drop a)=⟨0,[],0,0,6⟩):=by
    show _=_
    unfold ZM
    rw [qI L.out,if_pos rfl]
   clear z;go_wp2
   exact bodyPost_ret (v:=xh 0 0 0 6 []) (by simp [results,Tryz.results111,go_sem,xh,R]) rfl ⟨⟨_,rfl,xD (by rw [HR.out]) (by decide)⟩,zG HB.out _ _ _ _ _⟩
theorem YC (l:List UInt8) (a:Nat) (w:World) (hl:l.length≤5000) (ha:a<l.length) :
  Calls Tryz.prog 111 #[.string (za l),.int .i64 (a:Nat)] w fun e w'=>(∃v,e=.returned v∧rtR a (zD (l.drop a)) v)∧Below w.heap.size w w':=by
 have hd:l.drop a=l[a]::l.drop (a+1):=List.drop_eq_getElem_cons ha
 have h:zD (l.drop a)=if zK (l[a]).toNat=true then Zk (l.drop a) else if zC (l[a]).toNat=true then yj (l.drop a) else if (l[a]).toNat=34 then zO (l.drop a) else ZM (l.drop a):=by
  rw [hd];rfl
 rw [h];cases h1:zK (l[a]).toNat with
 | true=>rw [if_pos rfl];exact vB l a w hl ha h1
 | false =>
  rw [if_neg (by simp)]
  cases h2:zC (l[a]).toNat with
  | true=>rw [if_pos rfl];exact VJ l a w hl ha h1 h2
  | false =>
   rw [if_neg (by simp)]
   by_cases h3:(l[a]).toNat=34
   ·rw [if_pos h3];exact vC l a w hl ha h1 h2 h3
   ·rw [if_neg h3];exact vD l a w hl ha h1 h2 h3
end Go.Proofs.YtmbofhpmockmbaaGreatDoor
