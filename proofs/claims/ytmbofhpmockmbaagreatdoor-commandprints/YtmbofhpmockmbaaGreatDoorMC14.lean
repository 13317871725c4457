import Derived.Test.YtmbofhpmockmbaaGreatDoorMC11
namespace Go.Proofs.YtmbofhpmockmbaaGreatDoor
open Go.RowKit Go.Shelf
theorem ze {α β:Type} {x:Option (PR α)} {k:α→List Tk→Option (PR β)} {p:β × List Tk} (h:zo x k=some (.ok p)):∃y us,x=some (.ok (y,us))∧k y us=some (.ok p):=by
 unfold zo at h
 cases x with
 | none=>cases h
 | some x =>
  cases x with
  | error a=>cases h
  | ok q=>exact ⟨q.1,q.2,rfl,h⟩
theorem ZT {ts:List Tk} (h:zq ts) (hk:(zu ts).k≠0):zq ts.tail:=by
 obtain ⟨t,e,rfl⟩:=h.cons;exact h.tail hk
theorem yG {ts:List Tk} {s:List UInt8} (h:zq ts) (hk:zk (zu ts) s=true):zq ts.tail:=ZT h (zm hk)
theorem yl {s:List UInt8} {ts us:List Tk} {y:Unit} (h:Zg s ts=some (.ok (y,us))) (hE:zq ts):zq us:=by
 unfold Zg at h
 split at h
 ·rename_i e
  simp only [Option.some.injEq,Except.ok.injEq,Prod.mk.injEq] at h;rw [←h.2];exact yG hE e
 ·cases h
theorem XE {s:List UInt8} {ts us:List Tk} (h:yD ts=some (.ok (s,us))) (hE:zq ts):zq us:=by
 unfold yD at h
 split at h
 ·rename_i e
  simp only [Option.some.injEq,Except.ok.injEq,Prod.mk.injEq] at h;rw [←h.2];exact ZT hE (by omega)
 ·cases h
theorem Zq {α:Type} {x y:α} {ts us:List Tk} (h:(some (.ok (x,ts)):Option (PR α))=some (.ok (y,us))) (hE:zq ts):zq us:=by
 simp only [Option.some.injEq,Except.ok.injEq,Prod.mk.injEq] at h;rw [←h.2];exact hE
theorem Zw (f:Nat) :
  (∀least ts x us,zg f least ts=some (.ok (x,us))→zq ts→zq us)∧(∀least e ts x us,zZ f least e ts=some (.ok (x,us))→zq ts→zq us) ∧
  (∀ts x us,zW f ts=some (.ok (x,us))→zq ts→zq us)∧(∀e ts x us,zp f e ts=some (.ok (x,us))→zq ts→zq us)∧(∀ts x us,zA f ts=some (.ok (x,us))→zq ts→zq us) ∧
  (∀pre ts x us,ZO f pre ts=some (.ok (x,us))→zq ts→zq us)∧(∀ts x us,zw f ts=some (.ok (x,us))→zq ts→zq us):=by
 induction f with
 | zero=>refine ⟨?_,?_,?_,?_,?_,?_,?_⟩ <;> intros <;> simp_all [zg,zZ,zW,zp,zA,ZO,zw]
 | succ f ih =>
  obtain ⟨i1,U,R,O,W,M,Q⟩:=ih;refine ⟨fun least ts x us h hE=>?_,fun least e ts x us h hE=>?_,fun ts x us h hE=>?_,fun e ts x us h hE=>?_,fun ts x us h hE=>?_,fun pre ts x us h hE=>?_,fun ts x us h hE=>?_⟩
  ·rw [zg] at h
   split at h
   ·exact R _ _ _ h hE
   ·obtain ⟨y,E,A,o⟩:=ze h
    exact U _ _ _ _ _ o (i1 _ _ _ _ A hE)
  ·rw [zZ] at h
   split at h
   ·rename_i D
    obtain ⟨y,E,A,o⟩:=ze h;exact U _ _ _ _ _ o (i1 _ _ _ _ A (ZT hE (by omega)))
   ·exact Zq h hE
  ·rw [zW] at h
   split at h
   ·rename_i D
    obtain ⟨y,E,A,o⟩:=ze h;exact Zq o (R _ _ _ A (ZT hE (by omega)))
   ·obtain ⟨y,E,A,o⟩:=ze h
    exact O _ _ _ _ o (W _ _ _ A hE)
  ·rw [zp] at h
   split at h
   ·rename_i D
    obtain ⟨y,E,A,o⟩:=ze h;obtain ⟨z,J,G,H⟩:=ze o;exact O _ _ _ _ H (yl G (i1 _ _ _ _ A (yG hE D)))
   ·split at h
    ·rename_i D
     obtain ⟨y,E,A,o⟩:=ze h;exact O _ _ _ _ o (XE A (yG hE D))
    ·exact Zq h hE
  ·rw [zA] at h
   split at h
   ·rename_i D;exact Zq h (ZT hE (by omega))
   split at h
   ·rename_i D;exact Zq h (ZT hE (by omega))
   split at h
   ·rename_i D
    have T:=ZT hE (by omega)
    split at h
    ·obtain ⟨y,E,A,o⟩:=ze h
     exact Zq o (Q _ _ _ A T)
    ·exact Zq h T
   split at h
   ·rename_i D;exact Zq h (yG hE D)
   split at h
   ·rename_i D;exact Zq h (yG hE D)
   split at h
   ·rename_i D
    obtain ⟨y,E,A,o⟩:=ze h;obtain ⟨z,J,G,H⟩:=ze o;exact Zq H (Q _ _ _ G (XE A (yG hE D)))
   split at h
   ·rename_i D
    obtain ⟨y,E,A,o⟩:=ze h;obtain ⟨z,J,G,H⟩:=ze o;exact Zq H (yl G (M _ _ _ _ A (yG hE D)))
   ·obtain ⟨y,E,A,o⟩:=ze h
    obtain ⟨z,J,G,H⟩:=ze o;obtain ⟨V,L,N,K⟩:=ze H;exact Zq K (yl N (i1 _ _ _ _ G (yl A hE)))
  ·rw [ZO] at h
   obtain ⟨y,E,A,o⟩:=ze h;have I:=i1 _ _ _ _ A hE
   split at o
   ·rename_i D;exact M _ _ _ _ o (yG I D)
   ·exact Zq o I
  ·rw [zw] at h
   obtain ⟨y,E,A,o⟩:=ze h;have I:=yl A hE
   split at o
   ·rename_i D;exact Zq o (yG I D)
   ·obtain ⟨z,J,G,H⟩:=ze o
    obtain ⟨V,L,N,K⟩:=ze H;exact Zq K (yl N (M _ _ _ _ G I))
def Z4 {α:Type} (p:Nat→Option (PR α)) (n:Nat):Prop:=∃f r,(∀k,p (f+k)=some r)∧∀x us,r=.ok (x,us)→us.length≤n
theorem yw {ts:List Tk} (h:(zu ts).k≠0):ts.tail.length+1=ts.length:=by
 cases ts with
 | nil=>exact absurd rfl h
 | cons t us=>simp
theorem yx {ts:List Tk} {s:List UInt8} (h:zk (zu ts) s=true):ts.tail.length+1=ts.length:=yw (zm h)
theorem Z4.then {α β:Type} {p:Nat→Option (PR α)} {q:Nat→α→List Tk→Option (PR β)} {n m:Nat} (h:Z4 p n) (hq:∀x us,us.length≤n→Z4 (fun f=>q f x us) m):Z4 (fun f=>zo (p f) (q f)) m:=by
 obtain ⟨f,r,o,D⟩:=h;cases r with
 | error a=>exact ⟨f,.error a,fun k=>by simp [zo,o k],fun x us h=>by cases h⟩
 | ok y =>
  obtain ⟨g,s,E,A⟩:=hq y.1 y.2 (D _ _ rfl);refine ⟨f+g,s,fun k=>?_,A⟩
  have z:=o (g+k);have e:=E (f+k);rw [show f+(g+k)=f+g+k by omega] at z
  rw [show g+(f+k)=f+g+k by omega] at e
  simp only [zo,z];exact e
theorem zT {α:Type} (x:α) (us:List Tk) {n:Nat} (h:us.length≤n):Z4 (fun _=>(some (.ok (x,us)):Option (PR α))) n:=⟨0,.ok (x,us),fun _=>rfl,fun y vs h'=>by cases h';exact h⟩
theorem yJ (s:List UInt8) (ts:List Tk) {n:Nat} (h:ts.length≤n+1):Z4 (fun _=>Zg s ts) n:=by
 refine ⟨0,_,fun _=>rfl,fun x us h'=>?_⟩
 split at h'
 ·rename_i e;have:=yx e;cases h';omega
 ·cases h'
theorem vY (ts:List Tk) {n:Nat} (h:ts.length≤n+1):Z4 (fun _=>yD ts) n:=by
 refine ⟨0,_,fun _=>rfl,fun x us h'=>?_⟩
 split at h'
 ·rename_i e;have:=yw (ts:=ts) (by omega);cases h';omega
 ·cases h'
theorem Z4.step {α:Type} {p q:Nat→Option (PR α)} {n:Nat} (h:Z4 q n) (hp:∀f,p (f+1)=q f):Z4 p n:=by
 obtain ⟨f,r,e,o⟩:=h;exact ⟨f+1,r,fun k=>by rw [show f+1+k=f+k+1 by omega,hp];exact e k,o⟩
theorem Z4.le {α:Type} {p:Nat→Option (PR α)} {n m:Nat} (h:Z4 p n) (hm:n≤m):Z4 p m:=by
 obtain ⟨f,r,e,o⟩:=h;exact ⟨f,r,e,fun x us h=>Nat.le_trans (o x us h) hm⟩
theorem XF {α:Type} (a:Nat) (n:Nat):Z4 (fun _=>(some (.error a):Option (PR α))) n:=⟨0,.error a,fun _=>rfl,fun _ _ h=>by cases h⟩
theorem YP (n:Nat):∀ts:List Tk,ts.length≤n→(∀o,Z4 (fun f=>zg f o ts) (n-1))∧(∀pre,Z4 (fun f=>ZO f pre ts) (n-1))∧(∀o e,Z4 (fun f=>zZ f o e ts) n)∧(∀e,Z4 (fun f=>zp f e ts) n)∧Z4 (fun f=>zw f ts) (n-1)∧Z4 (fun f=>zW f ts) (n-1):=by
 induction n with
 | zero =>
  intro ts D;obtain rfl:ts=[]:=List.length_eq_zero_iff.1 (by omega)
  have G:Z4 (fun f=>zA f []) 0:=(XF 0 0).step fun f=>by simp [zA,zu,zk,zo,Zg]
  have N:∀e,Z4 (fun f=>zp f e []) 0:=fun e=>(zT e [] (n:=0) (by simp)).step fun f=>by simp [zp,zu,zk]
  have E:∀o e,Z4 (fun f=>zZ f o e []) 0:=fun o e=>(zT e [] (n:=0) (by simp)).step fun f=>by simp [zZ,zu]
  have A:Z4 (fun f=>zW f []) 0:=(G.then (q:=fun f e ts=>zp f e ts) (m:=0) fun e us hu=>by
   obtain rfl:us=[]:=List.length_eq_zero_iff.1 (by omega)
   exact N e).step fun f=>by simp [zW,zu]
  have z:∀d o,7-o≤d→Z4 (fun f=>zg f o []) 0:=fun d=>by
   induction d with
   | zero=>intro o hd;exact A.step fun f=>by rw [zg,if_pos (by omega)]
   | succ d ih =>
    intro o hd
    by_cases hc:6<o
    ·exact A.step fun f=>by rw [zg,if_pos hc]
    ·exact ((ih (o+1) (by omega)).then (q:=fun f e ts=>zZ f o e ts) (m:=0) fun e us hu=>by
      obtain rfl:us=[]:=List.length_eq_zero_iff.1 (by omega)
      exact E o e).step fun f=>by rw [zg,if_neg hc]
  refine ⟨fun o=>z _ o (Nat.le_refl _),fun pre=>?_,E,N,?_,A⟩
  ·exact ((z _ 1 (Nat.le_refl _)).then (q:=fun f e ts=>if zk (zu ts) [44]=true then ZO f (pre++[e]) ts.tail else some (.ok (pre++[e],ts))) (m:=0) fun e us hu=>by
    obtain rfl:us=[]:=List.length_eq_zero_iff.1 (by omega)
    simpa [zu,zk] using zT (pre++[e]) [] (n:=0) (by simp)).step fun f=>by rw [ZO]
  ·exact (XF 0 0).step fun f=>by simp [zw,zu,zk,zo,Zg]
 | succ n ih =>
  intro ts D;have B:=fun ts h o=>(ih ts h).1 o
  have J:=fun ts h pre=>(ih ts h).2.1 pre
  have M:=fun ts h o e=>(ih ts h).2.2.1 o e
  have H:=fun ts h e=>(ih ts h).2.2.2.1 e
  have L:=fun ts h=>(ih ts h).2.2.2.2.1
  have O:=fun ts h=>(ih ts h).2.2.2.2.2
  have K:Z4 (fun f=>zw f ts) (n+1-1):=by
   refine ((yJ [40] ts (n:=n) D).then (q:=fun f _ ts=>if zk (zu ts) [41]=true then some (.ok ([],ts.tail)) else zo (ZO f [] ts) fun l ts=>zo (Zg [41] ts) fun _ ts=>some (.ok (l,ts))) (m:=n) fun _ us hu=>?_).step fun f=>by rw [zw]
   by_cases hc:zk (zu us) [41]=true
   ·simp only [if_pos hc];exact zT _ _ (by simp;omega)
   ·simp only [if_neg hc]
    exact (J us hu []).then (q:=fun _ l ts=>zo (Zg [41] ts) fun _ ts=>some (.ok (l,ts))) fun l vs hv=>(yJ [41] vs (n:=n) (by omega)).then (q:=fun _ _ ts=>some (.ok (l,ts))) fun _ xs hx=>zT _ _ hx
  have E:∀o e,Z4 (fun f=>zZ f o e ts) (n+1):=fun o e=>by
   by_cases hc:(zu ts).k=4∧levelOf (zu ts).s=o
   ·have y:=yw (ts:=ts) (by omega)
    exact ((B ts.tail (by omega) (o+1)).then (q:=fun f e2 ts'=>zZ f o (Ex.mk 7 (zu ts).s 0 [e,e2] e.line) ts') (m:=n+1) fun e2 us hu=>(M us (by omega) o _).le (by omega)).step fun f=>by rw [zZ,if_pos hc]
   ·exact (zT e ts D).step fun f=>by rw [zZ,if_neg hc]
  have I:∀e,Z4 (fun f=>zp f e ts) (n+1):=fun e=>by
   by_cases hc:zk (zu ts) [91]=true
   ·have y:=yx hc
    exact ((B ts.tail (by omega) 1).then (q:=fun f i ts=>zo (Zg [93] ts) fun _ ts=>zp f (Ex.mk 8 [] 0 [e,i] e.line) ts) (m:=n+1) fun i us hu =>
     (yJ [93] us (n:=n) (by omega)).then (q:=fun f _ ts=>zp f (Ex.mk 8 [] 0 [e,i] e.line) ts) fun _ vs hv=>(H vs hv _).le (by omega)).step fun f=>by rw [zp,if_pos hc]
   ·by_cases hd:zk (zu ts) [46]=true
    ·have y:=yx hd
     exact ((vY ts.tail (n:=n) (by omega)).then (q:=fun f s ts=>zp f (Ex.mk 9 s 0 [e] e.line) ts) (m:=n+1) fun s us hu=>(H us hu _).le (by omega)).step fun f=>by rw [zp,if_neg hc,if_pos hd]
    ·exact (zT e ts D).step fun f=>by rw [zp,if_neg hc,if_neg hd]
  have G:Z4 (fun f=>zA f ts) n:=by
   by_cases c1:(zu ts).k=2
   ·have y:=yw (ts:=ts) (by omega)
    exact (zT (Ex.mk 1 [] (zu ts).n [] (zu ts).line) ts.tail (n:=n) (by omega)).step fun f=>by rw [zA,if_pos c1]
   by_cases c2:(zu ts).k=3
   ·have y:=yw (ts:=ts) (by omega)
    exact (zT (Ex.mk 3 (zu ts).s 0 [] (zu ts).line) ts.tail (n:=n) (by omega)).step fun f=>by rw [zA,if_neg c1,if_pos c2]
   by_cases c3:(zu ts).k=1
   ·have y:=yw (ts:=ts) (by omega)
    by_cases d:zk (zu ts.tail) [40]=true
    ·exact ((L ts.tail (by omega)).then (q:=fun _ l ts'=>some (.ok (Ex.mk 5 (zu ts).s 0 l (zu ts).line,ts'))) (m:=n) fun l us hu=>zT _ _ (by omega)).step fun f=>by rw [zA,if_neg c1,if_neg c2,if_pos c3,if_pos d]
    ·exact (zT (Ex.mk 4 (zu ts).s 0 [] (zu ts).line) ts.tail (n:=n) (by omega)).step fun f=>by rw [zA,if_neg c1,if_neg c2,if_pos c3,if_neg d]
   by_cases c4:zk (zu ts) [116,114,117,101]=true
   ·have y:=yx c4
    exact (zT (Ex.mk 2 [] 1 [] (zu ts).line) ts.tail (n:=n) (by omega)).step fun f=>by rw [zA,if_neg c1,if_neg c2,if_neg c3,if_pos c4]
   by_cases c5:zk (zu ts) [102,97,108,115,101]=true
   ·have y:=yx c5
    exact (zT (Ex.mk 2 [] 0 [] (zu ts).line) ts.tail (n:=n) (by omega)).step fun f=>by rw [zA,if_neg c1,if_neg c2,if_neg c3,if_neg c4,if_pos c5]
   by_cases c6:zk (zu ts) [110,101,119]=true
   ·have y:=yx c6
    exact ((vY ts.tail (n:=n) (by omega)).then (q:=fun f s ts'=>zo (zw f ts') fun l ts'=>some (.ok (Ex.mk 11 s 0 l (zu ts).line,ts'))) (m:=n) fun s us hu =>
     (L us hu).then (q:=fun _ l ts'=>some (.ok (Ex.mk 11 s 0 l (zu ts).line,ts'))) fun l vs hv=>zT _ _ (by omega)).step fun f=>by rw [zA,if_neg c1,if_neg c2,if_neg c3,if_neg c4,if_neg c5,if_pos c6]
   by_cases c7:zk (zu ts) [91]=true
   ·have y:=yx c7
    exact ((J ts.tail (by omega) []).then (q:=fun _ l ts'=>zo (Zg [93] ts') fun _ ts'=>some (.ok (Ex.mk 10 [] 0 l (zu ts).line,ts'))) (m:=n) fun l us hu =>
     (yJ [93] us (n:=n) (by omega)).then (q:=fun _ _ ts'=>some (.ok (Ex.mk 10 [] 0 l (zu ts).line,ts'))) fun _ vs hv=>zT _ _ (by omega)).step fun f=>by rw [zA,if_neg c1,if_neg c2,if_neg c3,if_neg c4,if_neg c5,if_neg c6,if_pos c7]
   ·exact ((yJ [40] ts (n:=n) D).then (q:=fun f _ ts=>zo (zg f 1 ts) fun e ts=>zo (Zg [41] ts) fun _ ts=>some (.ok (e,ts))) (m:=n) fun _ us hu =>
     (B us hu 1).then (q:=fun _ e ts=>zo (Zg [41] ts) fun _ ts=>some (.ok (e,ts))) fun e vs hv=>(yJ [41] vs (n:=n) (by omega)).then (q:=fun _ _ ts=>some (.ok (e,ts))) fun _ xs hx=>zT _ _ hx).step fun f=>by rw [zA,if_neg c1,if_neg c2,if_neg c3,if_neg c4,if_neg c5,if_neg c6,if_neg c7]
  have A:Z4 (fun f=>zW f ts) n:=by
   by_cases hc:(zu ts).k=4∧((zu ts).s=[45]∨(zu ts).s=[33])
   ·have y:=yw (ts:=ts) (by omega)
    exact ((O ts.tail (by omega)).then (q:=fun _ e ts'=>some (.ok (Ex.mk 6 (zu ts).s 0 [e] (zu ts).line,ts'))) (m:=n) fun e us hu=>zT _ _ (by omega)).step fun f=>by rw [zW,if_pos hc]
   ·exact (G.then (q:=fun f e ts=>zp f e ts) (m:=n) fun e us hu=>H us hu e).step fun f=>by rw [zW,if_neg hc]
  have z:∀d o,7-o≤d→Z4 (fun f=>zg f o ts) n:=fun d=>by
   induction d with
   | zero=>intro o hd;exact A.step fun f=>by rw [zg,if_pos (by omega)]
   | succ d ih =>
    intro o hd
    by_cases hc:6<o
    ·exact A.step fun f=>by rw [zg,if_pos hc]
    ·exact ((ih (o+1) (by omega)).then (q:=fun f e ts=>zZ f o e ts) (m:=n) fun e us hu=>M us hu o e).step fun f=>by rw [zg,if_neg hc]
  refine ⟨fun o=>z _ o (Nat.le_refl _),fun pre=>?_,E,I,K,A⟩
  refine ((z _ 1 (Nat.le_refl _)).then (q:=fun f e ts=>if zk (zu ts) [44]=true then ZO f (pre++[e]) ts.tail else some (.ok (pre++[e],ts))) (m:=n) fun e us hu=>?_).step fun f=>by rw [ZO]
  by_cases hc:zk (zu us) [44]=true
  ·simp only [if_pos hc]
   have y:=yx hc;exact (J us.tail (by omega) (pre++[e])).le (by omega)
  ·simp only [if_neg hc]
   exact zT _ _ hu
end Go.Proofs.YtmbofhpmockmbaaGreatDoor
