import Derived.Test.YtmbofhpmockmbaaGreatDoorMC20
namespace Go.Proofs.YtmbofhpmockmbaaGreatDoor
open Go.RowKit Go.Shelf
theorem zm {α β:Type} {x:Option (PR α)} {k:α→List Tk→Option (PR β)} {p:β × List Tk} (h:zp x k=some (.ok p)):∃y us,x=some (.ok (y,us))∧k y us=some (.ok p):=by
 unfold zp at h
 cases x with
 | none=>cases h
 | some x =>
  cases x with
  | error a=>cases h
  | ok q=>exact ⟨q.1,q.2,rfl,h⟩
theorem ZR {ts:List Tk} (h:zk ts) (hk:(zT ts).k≠0):zk ts.tail:=by
 obtain ⟨t,o,rfl⟩:=h.cons;exact h.tail hk
theorem yd {ts:List Tk} {s:List UInt8} (h:zk ts) (hk:zq (zT ts) s=true):zk ts.tail:=ZR h (zi hk)
theorem ZS {s:List UInt8} {ts us:List Tk} {y:Unit} (h:Zr s ts=some (.ok (y,us))) (hE:zk ts):zk us:=by
 unfold Zr at h
 split at h
 ·rename_i o
  simp only [Option.some.injEq,Except.ok.injEq,Prod.mk.injEq] at h;rw [←h.2];exact yd hE o
 ·cases h
theorem xI {s:List UInt8} {ts us:List Tk} (h:YB ts=some (.ok (s,us))) (hE:zk ts):zk us:=by
 unfold YB at h
 split at h
 ·rename_i o
  simp only [Option.some.injEq,Except.ok.injEq,Prod.mk.injEq] at h;rw [←h.2];exact ZR hE (by omega)
 ·cases h
theorem zY {α:Type} {x y:α} {ts us:List Tk} (h:(some (.ok (x,ts)):Option (PR α))=some (.ok (y,us))) (hE:zk ts):zk us:=by
 simp only [Option.some.injEq,Except.ok.injEq,Prod.mk.injEq] at h;rw [←h.2];exact hE
theorem Zd (f:Nat) :
  (∀least ts x us,zd f least ts=some (.ok (x,us))→zk ts→zk us)∧(∀least e ts x us,z7 f least e ts=some (.ok (x,us))→zk ts→zk us) ∧
  (∀ts x us,Zc f ts=some (.ok (x,us))→zk ts→zk us)∧(∀e ts x us,zn f e ts=some (.ok (x,us))→zk ts→zk us)∧(∀ts x us,zx f ts=some (.ok (x,us))→zk ts→zk us) ∧
  (∀pre ts x us,ZQ f pre ts=some (.ok (x,us))→zk ts→zk us)∧(∀ts x us,zy f ts=some (.ok (x,us))→zk ts→zk us):=by
 induction f with
 | zero=>refine ⟨?_,?_,?_,?_,?_,?_,?_⟩ <;> intros <;> simp_all [zd,z7,Zc,zn,zx,ZQ,zy]
 | succ f ih =>
  obtain ⟨i1,i2,T,L,W,M,R⟩:=ih;refine ⟨fun least ts x us h hE=>?_,fun least e ts x us h hE=>?_,fun ts x us h hE=>?_,fun e ts x us h hE=>?_,fun ts x us h hE=>?_,fun pre ts x us h hE=>?_,fun ts x us h hE=>?_⟩
  ·rw [zd] at h
   split at h
   ·exact T _ _ _ h hE
   ·obtain ⟨y,E,A,o⟩:=zm h
    exact i2 _ _ _ _ _ o (i1 _ _ _ _ A hE)
  ·rw [z7] at h
   split at h
   ·rename_i D
    obtain ⟨y,E,A,o⟩:=zm h;exact i2 _ _ _ _ _ o (i1 _ _ _ _ A (ZR hE (by omega)))
   ·exact zY h hE
  ·rw [Zc] at h
   split at h
   ·rename_i D
    obtain ⟨y,E,A,o⟩:=zm h;exact zY o (T _ _ _ A (ZR hE (by omega)))
   ·obtain ⟨y,E,A,o⟩:=zm h
    exact L _ _ _ _ o (W _ _ _ A hE)
  ·rw [zn] at h
   split at h
   ·rename_i D
    obtain ⟨y,E,A,o⟩:=zm h;obtain ⟨z,J,G,H⟩:=zm o;exact L _ _ _ _ H (ZS G (i1 _ _ _ _ A (yd hE D)))
   ·split at h
    ·rename_i D
     obtain ⟨y,E,A,o⟩:=zm h;exact L _ _ _ _ o (xI A (yd hE D))
    ·exact zY h hE
  ·rw [zx] at h
   split at h
   ·rename_i D;exact zY h (ZR hE (by omega))
   split at h
   ·rename_i D;exact zY h (ZR hE (by omega))
   split at h
   ·rename_i D
    have U:=ZR hE (by omega)
    split at h
    ·obtain ⟨y,E,A,o⟩:=zm h
     exact zY o (R _ _ _ A U)
    ·exact zY h U
   split at h
   ·rename_i D;exact zY h (yd hE D)
   split at h
   ·rename_i D;exact zY h (yd hE D)
   split at h
   ·rename_i D
    obtain ⟨y,E,A,o⟩:=zm h;obtain ⟨z,J,G,H⟩:=zm o;exact zY H (R _ _ _ G (xI A (yd hE D)))
   split at h
   ·rename_i D
    obtain ⟨y,E,A,o⟩:=zm h;obtain ⟨z,J,G,H⟩:=zm o;exact zY H (ZS G (M _ _ _ _ A (yd hE D)))
   ·obtain ⟨y,E,A,o⟩:=zm h
    obtain ⟨z,J,G,H⟩:=zm o;obtain ⟨V,K,O,Q⟩:=zm H;exact zY Q (ZS O (i1 _ _ _ _ G (ZS A hE)))
  ·rw [ZQ] at h
   obtain ⟨y,E,A,o⟩:=zm h;have I:=i1 _ _ _ _ A hE
   split at o
   ·rename_i D;exact M _ _ _ _ o (yd I D)
   ·exact zY o I
  ·rw [zy] at h
   obtain ⟨y,E,A,o⟩:=zm h;have I:=ZS A hE
   split at o
   ·rename_i D;exact zY o (yd I D)
   ·obtain ⟨z,J,G,H⟩:=zm o
    obtain ⟨V,K,O,Q⟩:=zm H;exact zY Q (ZS O (M _ _ _ _ G I))
def ZD {α:Type} (p:Nat→Option (PR α)) (n:Nat):Prop:=∃f r,(∀k,p (f+k)=some r)∧∀x us,r=.ok (x,us)→us.length≤n
theorem yA {ts:List Tk} (h:(zT ts).k≠0):ts.tail.length+1=ts.length:=by
 cases ts with
 | nil=>exact absurd rfl h
 | cons t us=>simp
theorem Z3 {ts:List Tk} {s:List UInt8} (h:zq (zT ts) s=true):ts.tail.length+1=ts.length:=yA (zi h)
theorem ZD.then {α β:Type} {p:Nat→Option (PR α)} {q:Nat→α→List Tk→Option (PR β)} {n m:Nat} (h:ZD p n) (hq:∀x us,us.length≤n→ZD (fun f=>q f x us) m):ZD (fun f=>zp (p f) (q f)) m:=by
 obtain ⟨f,r,o,E⟩:=h;cases r with
 | error a=>exact ⟨f,.error a,fun k=>by simp [zp,o k],fun x us h=>by cases h⟩
 | ok y =>
  obtain ⟨g,s,D,G⟩:=hq y.1 y.2 (E _ _ rfl);refine ⟨f+g,s,fun k=>?_,G⟩
  have A:=o (g+k);have z:=D (f+k);rw [show f+(g+k)=f+g+k by omega] at A
  rw [show g+(f+k)=f+g+k by omega] at z
  simp only [zp,A];exact z
theorem zD {α:Type} (x:α) (us:List Tk) {n:Nat} (h:us.length≤n):ZD (fun _=>(some (.ok (x,us)):Option (PR α))) n:=⟨0,.ok (x,us),fun _=>rfl,fun y vs h'=>by cases h';exact h⟩
theorem yf (s:List UInt8) (ts:List Tk) {n:Nat} (h:ts.length≤n+1):ZD (fun _=>Zr s ts) n:=by
 refine ⟨0,_,fun _=>rfl,fun x us h'=>?_⟩
 split at h'
 ·rename_i o;have:=Z3 o;cases h';omega
 ·cases h'
theorem Xz (ts:List Tk) {n:Nat} (h:ts.length≤n+1):ZD (fun _=>YB ts) n:=by
 refine ⟨0,_,fun _=>rfl,fun x us h'=>?_⟩
 split at h'
 ·rename_i o;have:=yA (ts:=ts) (by omega);cases h';omega
 ·cases h'
theorem ZD.step {α:Type} {p q:Nat→Option (PR α)} {n:Nat} (h:ZD q n) (hp:∀f,p (f+1)=q f):ZD p n:=by
 obtain ⟨f,r,y,o⟩:=h;exact ⟨f+1,r,fun k=>by rw [show f+1+k=f+k+1 by omega,hp];exact y k,o⟩
theorem ZD.le {α:Type} {p:Nat→Option (PR α)} {n m:Nat} (h:ZD p n) (hm:n≤m):ZD p m:=by
 obtain ⟨f,r,y,o⟩:=h;exact ⟨f,r,y,fun x us h=>Nat.le_trans (o x us h) hm⟩
theorem xJ {α:Type} (a:Nat) (n:Nat):ZD (fun _=>(some (.error a):Option (PR α))) n:=⟨0,.error a,fun _=>rfl,fun _ _ h=>by cases h⟩
theorem Y1 (n:Nat):∀ts:List Tk,ts.length≤n→(∀o,ZD (fun f=>zd f o ts) (n-1))∧(∀pre,ZD (fun f=>ZQ f pre ts) (n-1))∧(∀o e,ZD (fun f=>z7 f o e ts) n)∧(∀e,ZD (fun f=>zn f e ts) n)∧ZD (fun f=>zy f ts) (n-1)∧ZD (fun f=>Zc f ts) (n-1):=by
 induction n with
 | zero =>
  intro ts E;obtain rfl:ts=[]:=List.length_eq_zero_iff.1 (by omega)
  have J:ZD (fun f=>zx f []) 0:=(xJ 0 0).step fun f=>by simp [zx,zT,zq,zp,Zr]
  have O:∀e,ZD (fun f=>zn f e []) 0:=fun e=>(zD e [] (n:=0) (by simp)).step fun f=>by simp [zn,zT,zq]
  have G:∀o e,ZD (fun f=>z7 f o e []) 0:=fun o e=>(zD e [] (n:=0) (by simp)).step fun f=>by simp [z7,zT]
  have A:ZD (fun f=>Zc f []) 0:=(J.then (q:=fun f e ts=>zn f e ts) (m:=0) fun e us hu=>by
   obtain rfl:us=[]:=List.length_eq_zero_iff.1 (by omega)
   exact O e).step fun f=>by simp [Zc,zT]
  have z:∀d o,7-o≤d→ZD (fun f=>zd f o []) 0:=fun d=>by
   induction d with
   | zero=>intro o D;exact A.step fun f=>by rw [zd,if_pos (by omega)]
   | succ d ih =>
    intro o D
    by_cases hc:6<o
    ·exact A.step fun f=>by rw [zd,if_pos hc]
    ·exact ((ih (o+1) (by omega)).then (q:=fun f e ts=>z7 f o e ts) (m:=0) fun e us hu=>by
      obtain rfl:us=[]:=List.length_eq_zero_iff.1 (by omega)
      exact G o e).step fun f=>by rw [zd,if_neg hc]
  refine ⟨fun o=>z _ o (Nat.le_refl _),fun pre=>?_,G,O,?_,A⟩
  ·exact ((z _ 1 (Nat.le_refl _)).then (q:=fun f e ts=>if zq (zT ts) [44]=true then ZQ f (pre++[e]) ts.tail else some (.ok (pre++[e],ts))) (m:=0) fun e us hu=>by
    obtain rfl:us=[]:=List.length_eq_zero_iff.1 (by omega)
    simpa [zT,zq] using zD (pre++[e]) [] (n:=0) (by simp)).step fun f=>by rw [ZQ]
  ·exact (xJ 0 0).step fun f=>by simp [zy,zT,zq,zp,Zr]
 | succ n ih =>
  intro ts E;have B:=fun ts h o=>(ih ts h).1 o
  have I:=fun ts h pre=>(ih ts h).2.1 pre
  have M:=fun ts h o e=>(ih ts h).2.2.1 o e
  have H:=fun ts h e=>(ih ts h).2.2.2.1 e
  have Q:=fun ts h=>(ih ts h).2.2.2.2.1
  have R:=fun ts h=>(ih ts h).2.2.2.2.2
  have L:ZD (fun f=>zy f ts) (n+1-1):=by
   refine ((yf [40] ts (n:=n) E).then (q:=fun f _ ts=>if zq (zT ts) [41]=true then some (.ok ([],ts.tail)) else zp (ZQ f [] ts) fun l ts=>zp (Zr [41] ts) fun _ ts=>some (.ok (l,ts))) (m:=n) fun _ us hu=>?_).step fun f=>by rw [zy]
   by_cases hc:zq (zT us) [41]=true
   ·simp only [if_pos hc];exact zD _ _ (by simp;omega)
   ·simp only [if_neg hc]
    exact (I us hu []).then (q:=fun _ l ts=>zp (Zr [41] ts) fun _ ts=>some (.ok (l,ts))) fun l vs hv=>(yf [41] vs (n:=n) (by omega)).then (q:=fun _ _ ts=>some (.ok (l,ts))) fun _ xs hx=>zD _ _ hx
  have G:∀o e,ZD (fun f=>z7 f o e ts) (n+1):=fun o e=>by
   by_cases hc:(zT ts).k=4∧levelOf (zT ts).s=o
   ·have y:=yA (ts:=ts) (by omega)
    exact ((B ts.tail (by omega) (o+1)).then (q:=fun f e2 ts'=>z7 f o (Ex.mk 7 (zT ts).s 0 [e,e2] e.line) ts') (m:=n+1) fun e2 us hu=>(M us (by omega) o _).le (by omega)).step fun f=>by rw [z7,if_pos hc]
   ·exact (zD e ts E).step fun f=>by rw [z7,if_neg hc]
  have K:∀e,ZD (fun f=>zn f e ts) (n+1):=fun e=>by
   by_cases hc:zq (zT ts) [91]=true
   ·have y:=Z3 hc
    exact ((B ts.tail (by omega) 1).then (q:=fun f i ts=>zp (Zr [93] ts) fun _ ts=>zn f (Ex.mk 8 [] 0 [e,i] e.line) ts) (m:=n+1) fun i us hu =>
     (yf [93] us (n:=n) (by omega)).then (q:=fun f _ ts=>zn f (Ex.mk 8 [] 0 [e,i] e.line) ts) fun _ vs hv=>(H vs hv _).le (by omega)).step fun f=>by rw [zn,if_pos hc]
   ·by_cases D:zq (zT ts) [46]=true
    ·have y:=Z3 D
     exact ((Xz ts.tail (n:=n) (by omega)).then (q:=fun f s ts=>zn f (Ex.mk 9 s 0 [e] e.line) ts) (m:=n+1) fun s us hu=>(H us hu _).le (by omega)).step fun f=>by rw [zn,if_neg hc,if_pos D]
    ·exact (zD e ts E).step fun f=>by rw [zn,if_neg hc,if_neg D]
  have J:ZD (fun f=>zx f ts) n:=by
   by_cases c1:(zT ts).k=2
   ·have y:=yA (ts:=ts) (by omega)
    exact (zD (Ex.mk 1 [] (zT ts).n [] (zT ts).line) ts.tail (n:=n) (by omega)).step fun f=>by rw [zx,if_pos c1]
   by_cases c2:(zT ts).k=3
   ·have y:=yA (ts:=ts) (by omega)
    exact (zD (Ex.mk 3 (zT ts).s 0 [] (zT ts).line) ts.tail (n:=n) (by omega)).step fun f=>by rw [zx,if_neg c1,if_pos c2]
   by_cases c3:(zT ts).k=1
   ·have y:=yA (ts:=ts) (by omega)
    by_cases d:zq (zT ts.tail) [40]=true
    ·exact ((Q ts.tail (by omega)).then (q:=fun _ l ts'=>some (.ok (Ex.mk 5 (zT ts).s 0 l (zT ts).line,ts'))) (m:=n) fun l us hu=>zD _ _ (by omega)).step fun f=>by rw [zx,if_neg c1,if_neg c2,if_pos c3,if_pos d]
    ·exact (zD (Ex.mk 4 (zT ts).s 0 [] (zT ts).line) ts.tail (n:=n) (by omega)).step fun f=>by rw [zx,if_neg c1,if_neg c2,if_pos c3,if_neg d]
   by_cases c4:zq (zT ts) [116,114,117,101]=true
   ·have y:=Z3 c4
    exact (zD (Ex.mk 2 [] 1 [] (zT ts).line) ts.tail (n:=n) (by omega)).step fun f=>by rw [zx,if_neg c1,if_neg c2,if_neg c3,if_pos c4]
   by_cases c5:zq (zT ts) [102,97,108,115,101]=true
   ·have y:=Z3 c5
    exact (zD (Ex.mk 2 [] 0 [] (zT ts).line) ts.tail (n:=n) (by omega)).step fun f=>by rw [zx,if_neg c1,if_neg c2,if_neg c3,if_neg c4,if_pos c5]
   by_cases c6:zq (zT ts) [110,101,119]=true
   ·have y:=Z3 c6
    exact ((Xz ts.tail (n:=n) (by omega)).then (q:=fun f s ts'=>zp (zy f ts') fun l ts'=>some (.ok (Ex.mk 11 s 0 l (zT ts).line,ts'))) (m:=n) fun s us hu =>
     (Q us hu).then (q:=fun _ l ts'=>some (.ok (Ex.mk 11 s 0 l (zT ts).line,ts'))) fun l vs hv=>zD _ _ (by omega)).step fun f=>by rw [zx,if_neg c1,if_neg c2,if_neg c3,if_neg c4,if_neg c5,if_pos c6]
   by_cases c7:zq (zT ts) [91]=true
   ·have y:=Z3 c7
    exact ((I ts.tail (by omega) []).then (q:=fun _ l ts'=>zp (Zr [93] ts') fun _ ts'=>some (.ok (Ex.mk 10 [] 0 l (zT ts).line,ts'))) (m:=n) fun l us hu =>
     (yf [93] us (n:=n) (by omega)).then (q:=fun _ _ ts'=>some (.ok (Ex.mk 10 [] 0 l (zT ts).line,ts'))) fun _ vs hv=>zD _ _ (by omega)).step fun f=>by rw [zx,if_neg c1,if_neg c2,if_neg c3,if_neg c4,if_neg c5,if_neg c6,if_pos c7]
   ·exact ((yf [40] ts (n:=n) E).then (q:=fun f _ ts=>zp (zd f 1 ts) fun e ts=>zp (Zr [41] ts) fun _ ts=>some (.ok (e,ts))) (m:=n) fun _ us hu =>
     (B us hu 1).then (q:=fun _ e ts=>zp (Zr [41] ts) fun _ ts=>some (.ok (e,ts))) fun e vs hv=>(yf [41] vs (n:=n) (by omega)).then (q:=fun _ _ ts=>some (.ok (e,ts))) fun _ xs hx=>zD _ _ hx).step fun f=>by rw [zx,if_neg c1,if_neg c2,if_neg c3,if_neg c4,if_neg c5,if_neg c6,if_neg c7]
  have A:ZD (fun f=>Zc f ts) n:=by
   by_cases hc:(zT ts).k=4∧((zT ts).s=[45]∨(zT ts).s=[33])
   ·have y:=yA (ts:=ts) (by omega)
    exact ((R ts.tail (by omega)).then (q:=fun _ e ts'=>some (.ok (Ex.mk 6 (zT ts).s 0 [e] (zT ts).line,ts'))) (m:=n) fun e us hu=>zD _ _ (by omega)).step fun f=>by rw [Zc,if_pos hc]
   ·exact (J.then (q:=fun f e ts=>zn f e ts) (m:=n) fun e us hu=>H us hu e).step fun f=>by rw [Zc,if_neg hc]
  have z:∀d o,7-o≤d→ZD (fun f=>zd f o ts) n:=fun d=>by
   induction d with
   | zero=>intro o D;exact A.step fun f=>by rw [zd,if_pos (by omega)]
   | succ d ih =>
    intro o D
    by_cases hc:6<o
    ·exact A.step fun f=>by rw [zd,if_pos hc]
    ·exact ((ih (o+1) (by omega)).then (q:=fun f e ts=>z7 f o e ts) (m:=n) fun e us hu=>M us hu o e).step fun f=>by rw [zd,if_neg hc]
  refine ⟨fun o=>z _ o (Nat.le_refl _),fun pre=>?_,G,K,L,A⟩
  refine ((z _ 1 (Nat.le_refl _)).then (q:=fun f e ts=>if zq (zT ts) [44]=true then ZQ f (pre++[e]) ts.tail else some (.ok (pre++[e],ts))) (m:=n) fun e us hu=>?_).step fun f=>by rw [ZQ]
  by_cases hc:zq (zT us) [44]=true
  ·simp only [if_pos hc]
   have y:=Z3 hc;exact (I us.tail (by omega) (pre++[e])).le (by omega)
  ·simp only [if_neg hc]
   exact zD _ _ hu
end Go.Proofs.YtmbofhpmockmbaaGreatDoor
