import Derived.Test.YtmbofhpmockmbaaGreatDoorMC11
namespace Go.Proofs.YtmbofhpmockmbaaGreatDoor
open Go.RowKit Go.Shelf
theorem zg {α β:Type} {x:Option (PR α)} {k:α→List Tk→Option (PR β)} {p:β × List Tk} (h:zq x k=some (.ok p)):∃y us,x=some (.ok (y,us))∧k y us=some (.ok p):=by
 unfold zq at h
 cases x with
 | none=>cases h
 | some x =>
  cases x with
  | error a=>cases h
  | ok q=>exact ⟨q.1,q.2,rfl,h⟩
theorem ZX {ts:List Tk} (h:zt ts) (hk:(zx ts).k≠0):zt ts.tail:=by
 obtain ⟨t,e,rfl⟩:=h.cons;exact h.tail hk
theorem yM {ts:List Tk} {s:List UInt8} (h:zt ts) (hk:zm (zx ts) s=true):zt ts.tail:=ZX h (zo hk)
theorem yo {s:List UInt8} {ts us:List Tk} {y:Unit} (h:Zj s ts=some (.ok (y,us))) (hE:zt ts):zt us:=by
 unfold Zj at h
 split at h
 ·rename_i e
  simp only [Option.some.injEq,Except.ok.injEq,Prod.mk.injEq] at h;rw [←h.2];exact yM hE e
 ·cases h
theorem XS {s:List UInt8} {ts us:List Tk} (h:yI ts=some (.ok (s,us))) (hE:zt ts):zt us:=by
 unfold yI at h
 split at h
 ·rename_i e
  simp only [Option.some.injEq,Except.ok.injEq,Prod.mk.injEq] at h;rw [←h.2];exact ZX hE (by omega)
 ·cases h
theorem Zu {α:Type} {x y:α} {ts us:List Tk} (h:(some (.ok (x,ts)):Option (PR α))=some (.ok (y,us))) (hE:zt ts):zt us:=by
 simp only [Option.some.injEq,Except.ok.injEq,Prod.mk.injEq] at h;rw [←h.2];exact hE
theorem ZC (f:Nat) :
  (∀least ts x us,zh f least ts=some (.ok (x,us))→zt ts→zt us)∧(∀least e ts x us,Za f least e ts=some (.ok (x,us))→zt ts→zt us) ∧
  (∀ts x us,zY f ts=some (.ok (x,us))→zt ts→zt us)∧(∀e ts x us,zr f e ts=some (.ok (x,us))→zt ts→zt us)∧(∀ts x us,zC f ts=some (.ok (x,us))→zt ts→zt us) ∧
  (∀pre ts x us,ZS f pre ts=some (.ok (x,us))→zt ts→zt us)∧(∀ts x us,zy f ts=some (.ok (x,us))→zt ts→zt us):=by
 induction f with
 | zero=>refine ⟨?_,?_,?_,?_,?_,?_,?_⟩ <;> intros <;> simp_all [zh,Za,zY,zr,zC,ZS,zy]
 | succ f ih =>
  obtain ⟨i1,Q,T,K,V,L,R⟩:=ih;refine ⟨fun least ts x us h hE=>?_,fun least e ts x us h hE=>?_,fun ts x us h hE=>?_,fun e ts x us h hE=>?_,fun ts x us h hE=>?_,fun pre ts x us h hE=>?_,fun ts x us h hE=>?_⟩
  ·rw [zh] at h
   split at h
   ·exact T _ _ _ h hE
   ·obtain ⟨y,E,A,o⟩:=zg h
    exact Q _ _ _ _ _ o (i1 _ _ _ _ A hE)
  ·rw [Za] at h
   split at h
   ·rename_i D
    obtain ⟨y,E,A,o⟩:=zg h;exact Q _ _ _ _ _ o (i1 _ _ _ _ A (ZX hE (by omega)))
   ·exact Zu h hE
  ·rw [zY] at h
   split at h
   ·rename_i D
    obtain ⟨y,E,A,o⟩:=zg h;exact Zu o (T _ _ _ A (ZX hE (by omega)))
   ·obtain ⟨y,E,A,o⟩:=zg h
    exact K _ _ _ _ o (V _ _ _ A hE)
  ·rw [zr] at h
   split at h
   ·rename_i D
    obtain ⟨y,E,A,o⟩:=zg h;obtain ⟨z,J,H,G⟩:=zg o;exact K _ _ _ _ G (yo H (i1 _ _ _ _ A (yM hE D)))
   ·split at h
    ·rename_i D
     obtain ⟨y,E,A,o⟩:=zg h;exact K _ _ _ _ o (XS A (yM hE D))
    ·exact Zu h hE
  ·rw [zC] at h
   split at h
   ·rename_i D;exact Zu h (ZX hE (by omega))
   split at h
   ·rename_i D;exact Zu h (ZX hE (by omega))
   split at h
   ·rename_i D
    have U:=ZX hE (by omega)
    split at h
    ·obtain ⟨y,E,A,o⟩:=zg h
     exact Zu o (R _ _ _ A U)
    ·exact Zu h U
   split at h
   ·rename_i D;exact Zu h (yM hE D)
   split at h
   ·rename_i D;exact Zu h (yM hE D)
   split at h
   ·rename_i D
    obtain ⟨y,E,A,o⟩:=zg h;obtain ⟨z,J,H,G⟩:=zg o;exact Zu G (R _ _ _ H (XS A (yM hE D)))
   split at h
   ·rename_i D
    obtain ⟨y,E,A,o⟩:=zg h;obtain ⟨z,J,H,G⟩:=zg o;exact Zu G (yo H (L _ _ _ _ A (yM hE D)))
   ·obtain ⟨y,E,A,o⟩:=zg h
    obtain ⟨z,J,H,G⟩:=zg o;obtain ⟨W,M,O,N⟩:=zg G;exact Zu N (yo O (i1 _ _ _ _ H (yo A hE)))
  ·rw [ZS] at h
   obtain ⟨y,E,A,o⟩:=zg h;have I:=i1 _ _ _ _ A hE
   split at o
   ·rename_i D;exact L _ _ _ _ o (yM I D)
   ·exact Zu o I
  ·rw [zy] at h
   obtain ⟨y,E,A,o⟩:=zg h;have I:=yo A hE
   split at o
   ·rename_i D;exact Zu o (yM I D)
   ·obtain ⟨z,J,H,G⟩:=zg o
    obtain ⟨W,M,O,N⟩:=zg G;exact Zu N (yo O (L _ _ _ _ H I))
def Z7 {α:Type} (p:Nat→Option (PR α)) (n:Nat):Prop:=∃f r,(∀k,p (f+k)=some r)∧∀x us,r=.ok (x,us)→us.length≤n
theorem yB {ts:List Tk} (h:(zx ts).k≠0):ts.tail.length+1=ts.length:=by
 cases ts with
 | nil=>exact absurd rfl h
 | cons t us=>simp
theorem yC {ts:List Tk} {s:List UInt8} (h:zm (zx ts) s=true):ts.tail.length+1=ts.length:=yB (zo h)
theorem Z7.then {α β:Type} {p:Nat→Option (PR α)} {q:Nat→α→List Tk→Option (PR β)} {n m:Nat} (h:Z7 p n) (hq:∀x us,us.length≤n→Z7 (fun f=>q f x us) m):Z7 (fun f=>zq (p f) (q f)) m:=by
 obtain ⟨f,r,o,D⟩:=h;cases r with
 | error a=>exact ⟨f,.error a,fun k=>by simp [zq,o k],fun x us h=>by cases h⟩
 | ok y =>
  obtain ⟨g,s,A,E⟩:=hq y.1 y.2 (D _ _ rfl);refine ⟨f+g,s,fun k=>?_,E⟩
  have z:=o (g+k);have e:=A (f+k);rw [show f+(g+k)=f+g+k by omega] at z
  rw [show g+(f+k)=f+g+k by omega] at e
  simp only [zq,z];exact e
theorem zV {α:Type} (x:α) (us:List Tk) {n:Nat} (h:us.length≤n):Z7 (fun _=>(some (.ok (x,us)):Option (PR α))) n:=⟨0,.ok (x,us),fun _=>rfl,fun y vs h'=>by cases h';exact h⟩
theorem yP (s:List UInt8) (ts:List Tk) {n:Nat} (h:ts.length≤n+1):Z7 (fun _=>Zj s ts) n:=by
 refine ⟨0,_,fun _=>rfl,fun x us h'=>?_⟩
 split at h'
 ·rename_i e;have:=yC e;cases h';omega
 ·cases h'
theorem Vo (ts:List Tk) {n:Nat} (h:ts.length≤n+1):Z7 (fun _=>yI ts) n:=by
 refine ⟨0,_,fun _=>rfl,fun x us h'=>?_⟩
 split at h'
 ·rename_i e;have:=yB (ts:=ts) (by omega);cases h';omega
 ·cases h'
theorem Z7.step {α:Type} {p q:Nat→Option (PR α)} {n:Nat} (h:Z7 q n) (hp:∀f,p (f+1)=q f):Z7 p n:=by
 obtain ⟨f,r,e,o⟩:=h;exact ⟨f+1,r,fun k=>by rw [show f+1+k=f+k+1 by omega,hp];exact e k,o⟩
theorem Z7.le {α:Type} {p:Nat→Option (PR α)} {n m:Nat} (h:Z7 p n) (hm:n≤m):Z7 p m:=by
 obtain ⟨f,r,e,o⟩:=h;exact ⟨f,r,e,fun x us h=>Nat.le_trans (o x us h) hm⟩
theorem XT {α:Type} (a:Nat) (n:Nat):Z7 (fun _=>(some (.error a):Option (PR α))) n:=⟨0,.error a,fun _=>rfl,fun _ _ h=>by cases h⟩
theorem YX (n:Nat):∀ts:List Tk,ts.length≤n→(∀o,Z7 (fun f=>zh f o ts) (n-1))∧(∀pre,Z7 (fun f=>ZS f pre ts) (n-1))∧(∀o e,Z7 (fun f=>Za f o e ts) n)∧(∀e,Z7 (fun f=>zr f e ts) n)∧Z7 (fun f=>zy f ts) (n-1)∧Z7 (fun f=>zY f ts) (n-1):=by
 induction n with
 | zero =>
  intro ts D;obtain rfl:ts=[]:=List.length_eq_zero_iff.1 (by omega)
  have J:Z7 (fun f=>zC f []) 0:=(XT 0 0).step fun f=>by simp [zC,zx,zm,zq,Zj]
  have N:∀e,Z7 (fun f=>zr f e []) 0:=fun e=>(zV e [] (n:=0) (by simp)).step fun f=>by simp [zr,zx,zm]
  have E:∀o e,Z7 (fun f=>Za f o e []) 0:=fun o e=>(zV e [] (n:=0) (by simp)).step fun f=>by simp [Za,zx]
  have A:Z7 (fun f=>zY f []) 0:=(J.then (q:=fun f e ts=>zr f e ts) (m:=0) fun e us hu=>by
   obtain rfl:us=[]:=List.length_eq_zero_iff.1 (by omega)
   exact N e).step fun f=>by simp [zY,zx]
  have z:∀d o,7-o≤d→Z7 (fun f=>zh f o []) 0:=fun d=>by
   induction d with
   | zero=>intro o hd;exact A.step fun f=>by rw [zh,if_pos (by omega)]
   | succ d ih =>
    intro o hd
    by_cases hc:6<o
    ·exact A.step fun f=>by rw [zh,if_pos hc]
    ·exact ((ih (o+1) (by omega)).then (q:=fun f e ts=>Za f o e ts) (m:=0) fun e us hu=>by
      obtain rfl:us=[]:=List.length_eq_zero_iff.1 (by omega)
      exact E o e).step fun f=>by rw [zh,if_neg hc]
  refine ⟨fun o=>z _ o (Nat.le_refl _),fun pre=>?_,E,N,?_,A⟩
  ·exact ((z _ 1 (Nat.le_refl _)).then (q:=fun f e ts=>if zm (zx ts) [44]=true then ZS f (pre++[e]) ts.tail else some (.ok (pre++[e],ts))) (m:=0) fun e us hu=>by
    obtain rfl:us=[]:=List.length_eq_zero_iff.1 (by omega)
    simpa [zx,zm] using zV (pre++[e]) [] (n:=0) (by simp)).step fun f=>by rw [ZS]
  ·exact (XT 0 0).step fun f=>by simp [zy,zx,zm,zq,Zj]
 | succ n ih =>
  intro ts D;have B:=fun ts h o=>(ih ts h).1 o
  have G:=fun ts h pre=>(ih ts h).2.1 pre
  have M:=fun ts h o e=>(ih ts h).2.2.1 o e
  have H:=fun ts h e=>(ih ts h).2.2.2.1 e
  have L:=fun ts h=>(ih ts h).2.2.2.2.1
  have O:=fun ts h=>(ih ts h).2.2.2.2.2
  have K:Z7 (fun f=>zy f ts) (n+1-1):=by
   refine ((yP [40] ts (n:=n) D).then (q:=fun f _ ts=>if zm (zx ts) [41]=true then some (.ok ([],ts.tail)) else zq (ZS f [] ts) fun l ts=>zq (Zj [41] ts) fun _ ts=>some (.ok (l,ts))) (m:=n) fun _ us hu=>?_).step fun f=>by rw [zy]
   by_cases hc:zm (zx us) [41]=true
   ·simp only [if_pos hc];exact zV _ _ (by simp;omega)
   ·simp only [if_neg hc]
    exact (G us hu []).then (q:=fun _ l ts=>zq (Zj [41] ts) fun _ ts=>some (.ok (l,ts))) fun l vs hv=>(yP [41] vs (n:=n) (by omega)).then (q:=fun _ _ ts=>some (.ok (l,ts))) fun _ xs hx=>zV _ _ hx
  have E:∀o e,Z7 (fun f=>Za f o e ts) (n+1):=fun o e=>by
   by_cases hc:(zx ts).k=4∧levelOf (zx ts).s=o
   ·have y:=yB (ts:=ts) (by omega)
    exact ((B ts.tail (by omega) (o+1)).then (q:=fun f e2 ts'=>Za f o (Ex.mk 7 (zx ts).s 0 [e,e2] e.line) ts') (m:=n+1) fun e2 us hu=>(M us (by omega) o _).le (by omega)).step fun f=>by rw [Za,if_pos hc]
   ·exact (zV e ts D).step fun f=>by rw [Za,if_neg hc]
  have I:∀e,Z7 (fun f=>zr f e ts) (n+1):=fun e=>by
   by_cases hc:zm (zx ts) [91]=true
   ·have y:=yC hc
    exact ((B ts.tail (by omega) 1).then (q:=fun f i ts=>zq (Zj [93] ts) fun _ ts=>zr f (Ex.mk 8 [] 0 [e,i] e.line) ts) (m:=n+1) fun i us hu =>
     (yP [93] us (n:=n) (by omega)).then (q:=fun f _ ts=>zr f (Ex.mk 8 [] 0 [e,i] e.line) ts) fun _ vs hv=>(H vs hv _).le (by omega)).step fun f=>by rw [zr,if_pos hc]
   ·by_cases hd:zm (zx ts) [46]=true
    ·have y:=yC hd
     exact ((Vo ts.tail (n:=n) (by omega)).then (q:=fun f s ts=>zr f (Ex.mk 9 s 0 [e] e.line) ts) (m:=n+1) fun s us hu=>(H us hu _).le (by omega)).step fun f=>by rw [zr,if_neg hc,if_pos hd]
    ·exact (zV e ts D).step fun f=>by rw [zr,if_neg hc,if_neg hd]
  have J:Z7 (fun f=>zC f ts) n:=by
   by_cases c1:(zx ts).k=2
   ·have y:=yB (ts:=ts) (by omega)
    exact (zV (Ex.mk 1 [] (zx ts).n [] (zx ts).line) ts.tail (n:=n) (by omega)).step fun f=>by rw [zC,if_pos c1]
   by_cases c2:(zx ts).k=3
   ·have y:=yB (ts:=ts) (by omega)
    exact (zV (Ex.mk 3 (zx ts).s 0 [] (zx ts).line) ts.tail (n:=n) (by omega)).step fun f=>by rw [zC,if_neg c1,if_pos c2]
   by_cases c3:(zx ts).k=1
   ·have y:=yB (ts:=ts) (by omega)
    by_cases d:zm (zx ts.tail) [40]=true
    ·exact ((L ts.tail (by omega)).then (q:=fun _ l ts'=>some (.ok (Ex.mk 5 (zx ts).s 0 l (zx ts).line,ts'))) (m:=n) fun l us hu=>zV _ _ (by omega)).step fun f=>by rw [zC,if_neg c1,if_neg c2,if_pos c3,if_pos d]
    ·exact (zV (Ex.mk 4 (zx ts).s 0 [] (zx ts).line) ts.tail (n:=n) (by omega)).step fun f=>by rw [zC,if_neg c1,if_neg c2,if_pos c3,if_neg d]
   by_cases c4:zm (zx ts) [116,114,117,101]=true
   ·have y:=yC c4
    exact (zV (Ex.mk 2 [] 1 [] (zx ts).line) ts.tail (n:=n) (by omega)).step fun f=>by rw [zC,if_neg c1,if_neg c2,if_neg c3,if_pos c4]
   by_cases c5:zm (zx ts) [102,97,108,115,101]=true
   ·have y:=yC c5
    exact (zV (Ex.mk 2 [] 0 [] (zx ts).line) ts.tail (n:=n) (by omega)).step fun f=>by rw [zC,if_neg c1,if_neg c2,if_neg c3,if_neg c4,if_pos c5]
   by_cases c6:zm (zx ts) [110,101,119]=true
   ·have y:=yC c6
    exact ((Vo ts.tail (n:=n) (by omega)).then (q:=fun f s ts'=>zq (zy f ts') fun l ts'=>some (.ok (Ex.mk 11 s 0 l (zx ts).line,ts'))) (m:=n) fun s us hu =>
     (L us hu).then (q:=fun _ l ts'=>some (.ok (Ex.mk 11 s 0 l (zx ts).line,ts'))) fun l vs hv=>zV _ _ (by omega)).step fun f=>by rw [zC,if_neg c1,if_neg c2,if_neg c3,if_neg c4,if_neg c5,if_pos c6]
   by_cases c7:zm (zx ts) [91]=true
   ·have y:=yC c7
    exact ((G ts.tail (by omega) []).then (q:=fun _ l ts'=>zq (Zj [93] ts') fun _ ts'=>some (.ok (Ex.mk 10 [] 0 l (zx ts).line,ts'))) (m:=n) fun l us hu =>
     (yP [93] us (n:=n) (by omega)).then (q:=fun _ _ ts'=>some (.ok (Ex.mk 10 [] 0 l (zx ts).line,ts'))) fun _ vs hv=>zV _ _ (by omega)).step fun f=>by rw [zC,if_neg c1,if_neg c2,if_neg c3,if_neg c4,if_neg c5,if_neg c6,if_pos c7]
   ·exact ((yP [40] ts (n:=n) D).then (q:=fun f _ ts=>zq (zh f 1 ts) fun e ts=>zq (Zj [41] ts) fun _ ts=>some (.ok (e,ts))) (m:=n) fun _ us hu =>
     (B us hu 1).then (q:=fun _ e ts=>zq (Zj [41] ts) fun _ ts=>some (.ok (e,ts))) fun e vs hv=>(yP [41] vs (n:=n) (by omega)).then (q:=fun _ _ ts=>some (.ok (e,ts))) fun _ xs hx=>zV _ _ hx).step fun f=>by rw [zC,if_neg c1,if_neg c2,if_neg c3,if_neg c4,if_neg c5,if_neg c6,if_neg c7]
  have A:Z7 (fun f=>zY f ts) n:=by
   by_cases hc:(zx ts).k=4∧((zx ts).s=[45]∨(zx ts).s=[33])
   ·have y:=yB (ts:=ts) (by omega)
    exact ((O ts.tail (by omega)).then (q:=fun _ e ts'=>some (.ok (Ex.mk 6 (zx ts).s 0 [e] (zx ts).line,ts'))) (m:=n) fun e us hu=>zV _ _ (by omega)).step fun f=>by rw [zY,if_pos hc]
   ·exact (J.then (q:=fun f e ts=>zr f e ts) (m:=n) fun e us hu=>H us hu e).step fun f=>by rw [zY,if_neg hc]
  have z:∀d o,7-o≤d→Z7 (fun f=>zh f o ts) n:=fun d=>by
   induction d with
   | zero=>intro o hd;exact A.step fun f=>by rw [zh,if_pos (by omega)]
   | succ d ih =>
    intro o hd
    by_cases hc:6<o
    ·exact A.step fun f=>by rw [zh,if_pos hc]
    ·exact ((ih (o+1) (by omega)).then (q:=fun f e ts=>Za f o e ts) (m:=n) fun e us hu=>M us hu o e).step fun f=>by rw [zh,if_neg hc]
  refine ⟨fun o=>z _ o (Nat.le_refl _),fun pre=>?_,E,I,K,A⟩
  refine ((z _ 1 (Nat.le_refl _)).then (q:=fun f e ts=>if zm (zx ts) [44]=true then ZS f (pre++[e]) ts.tail else some (.ok (pre++[e],ts))) (m:=n) fun e us hu=>?_).step fun f=>by rw [ZS]
  by_cases hc:zm (zx us) [44]=true
  ·simp only [if_pos hc]
   have y:=yC hc;exact (G us.tail (by omega) (pre++[e])).le (by omega)
  ·simp only [if_neg hc]
   exact zV _ _ hu
end Go.Proofs.YtmbofhpmockmbaaGreatDoor
