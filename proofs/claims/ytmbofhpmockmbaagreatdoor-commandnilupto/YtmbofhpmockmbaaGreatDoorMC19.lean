import Derived.Test.YtmbofhpmockmbaaGreatDoorMC16
namespace Go.Proofs.YtmbofhpmockmbaaGreatDoor
open Go.RowKit Go.Shelf
theorem zk {α β:Type} {x:Option (PR α)} {k:α→List Tk→Option (PR β)} {p:β × List Tk} (h:zo x k=some (.ok p)):∃y us,x=some (.ok (y,us))∧k y us=some (.ok p):=by
 unfold zo at h
 cases x with
 | none=>cases h
 | some x =>
  cases x with
  | error a=>cases h
  | ok q=>exact ⟨q.1,q.2,rfl,h⟩
theorem ZF {ts:List Tk} (h:zi ts) (hk:(zK ts).k≠0):zi ts.tail:=by
 obtain ⟨t,o,rfl⟩:=h.cons;exact h.tail hk
theorem ZX {ts:List Tk} {s:List UInt8} (h:zi ts) (hk:zp (zK ts) s=true):zi ts.tail:=ZF h (zg hk)
theorem ZG {s:List UInt8} {ts us:List Tk} {y:Unit} (h:Zf s ts=some (.ok (y,us))) (hE:zi ts):zi us:=by
 unfold Zf at h
 split at h
 ·rename_i o
  simp only [Option.some.injEq,Except.ok.injEq,Prod.mk.injEq] at h;rw [←h.2];exact ZX hE o
 ·cases h
theorem YP {s:List UInt8} {ts us:List Tk} (h:yY ts=some (.ok (s,us))) (hE:zi ts):zi us:=by
 unfold yY at h
 split at h
 ·rename_i o
  simp only [Option.some.injEq,Except.ok.injEq,Prod.mk.injEq] at h;rw [←h.2];exact ZF hE (by omega)
 ·cases h
theorem zO {α:Type} {x y:α} {ts us:List Tk} (h:(some (.ok (x,ts)):Option (PR α))=some (.ok (y,us))) (hE:zi ts):zi us:=by
 simp only [Option.some.injEq,Except.ok.injEq,Prod.mk.injEq] at h;rw [←h.2];exact hE
theorem zU (f:Nat) :
  (∀least ts x us,zd f least ts=some (.ok (x,us))→zi ts→zi us)∧(∀least e ts x us,zR f least e ts=some (.ok (x,us))→zi ts→zi us) ∧
  (∀ts x us,zT f ts=some (.ok (x,us))→zi ts→zi us)∧(∀e ts x us,zm f e ts=some (.ok (x,us))→zi ts→zi us)∧(∀ts x us,zu f ts=some (.ok (x,us))→zi ts→zi us) ∧
  (∀pre ts x us,ZE f pre ts=some (.ok (x,us))→zi ts→zi us)∧(∀ts x us,zv f ts=some (.ok (x,us))→zi ts→zi us):=by
 induction f with
 | zero=>refine ⟨?_,?_,?_,?_,?_,?_,?_⟩ <;> intros <;> simp_all [zd,zR,zT,zm,zu,ZE,zv]
 | succ f ih =>
  obtain ⟨i1,T,Q,N,V,M,R⟩:=ih;refine ⟨fun least ts x us h hE=>?_,fun least e ts x us h hE=>?_,fun ts x us h hE=>?_,fun e ts x us h hE=>?_,fun ts x us h hE=>?_,fun pre ts x us h hE=>?_,fun ts x us h hE=>?_⟩
  ·rw [zd] at h
   split at h
   ·exact Q _ _ _ h hE
   ·obtain ⟨y,E,A,o⟩:=zk h
    exact T _ _ _ _ _ o (i1 _ _ _ _ A hE)
  ·rw [zR] at h
   split at h
   ·rename_i D
    obtain ⟨y,E,A,o⟩:=zk h;exact T _ _ _ _ _ o (i1 _ _ _ _ A (ZF hE (by omega)))
   ·exact zO h hE
  ·rw [zT] at h
   split at h
   ·rename_i D
    obtain ⟨y,E,A,o⟩:=zk h;exact zO o (Q _ _ _ A (ZF hE (by omega)))
   ·obtain ⟨y,E,A,o⟩:=zk h
    exact N _ _ _ _ o (V _ _ _ A hE)
  ·rw [zm] at h
   split at h
   ·rename_i D
    obtain ⟨y,E,A,o⟩:=zk h;obtain ⟨z,J,H,G⟩:=zk o;exact N _ _ _ _ G (ZG H (i1 _ _ _ _ A (ZX hE D)))
   ·split at h
    ·rename_i D
     obtain ⟨y,E,A,o⟩:=zk h;exact N _ _ _ _ o (YP A (ZX hE D))
    ·exact zO h hE
  ·rw [zu] at h
   split at h
   ·rename_i D;exact zO h (ZF hE (by omega))
   split at h
   ·rename_i D;exact zO h (ZF hE (by omega))
   split at h
   ·rename_i D
    have S:=ZF hE (by omega)
    split at h
    ·obtain ⟨y,E,A,o⟩:=zk h
     exact zO o (R _ _ _ A S)
    ·exact zO h S
   split at h
   ·rename_i D;exact zO h (ZX hE D)
   split at h
   ·rename_i D;exact zO h (ZX hE D)
   split at h
   ·rename_i D
    obtain ⟨y,E,A,o⟩:=zk h;obtain ⟨z,J,H,G⟩:=zk o;exact zO G (R _ _ _ H (YP A (ZX hE D)))
   split at h
   ·rename_i D
    obtain ⟨y,E,A,o⟩:=zk h;obtain ⟨z,J,H,G⟩:=zk o;exact zO G (ZG H (M _ _ _ _ A (ZX hE D)))
   ·obtain ⟨y,E,A,o⟩:=zk h
    obtain ⟨z,J,H,G⟩:=zk o;obtain ⟨U,K,O,L⟩:=zk G;exact zO L (ZG O (i1 _ _ _ _ H (ZG A hE)))
  ·rw [ZE] at h
   obtain ⟨y,E,A,o⟩:=zk h;have I:=i1 _ _ _ _ A hE
   split at o
   ·rename_i D;exact M _ _ _ _ o (ZX I D)
   ·exact zO o I
  ·rw [zv] at h
   obtain ⟨y,E,A,o⟩:=zk h;have I:=ZG A hE
   split at o
   ·rename_i D;exact zO o (ZX I D)
   ·obtain ⟨z,J,H,G⟩:=zk o
    obtain ⟨U,K,O,L⟩:=zk G;exact zO L (ZG O (M _ _ _ _ H I))
def Zq {α:Type} (p:Nat→Option (PR α)) (n:Nat):Prop:=∃f r,(∀k,p (f+k)=some r)∧∀x us,r=.ok (x,us)→us.length≤n
theorem yg {ts:List Tk} (h:(zK ts).k≠0):ts.tail.length+1=ts.length:=by
 cases ts with
 | nil=>exact absurd rfl h
 | cons t us=>simp
theorem ZP {ts:List Tk} {s:List UInt8} (h:zp (zK ts) s=true):ts.tail.length+1=ts.length:=yg (zg h)
theorem Zq.then {α β:Type} {p:Nat→Option (PR α)} {q:Nat→α→List Tk→Option (PR β)} {n m:Nat} (h:Zq p n) (hq:∀x us,us.length≤n→Zq (fun f=>q f x us) m):Zq (fun f=>zo (p f) (q f)) m:=by
 obtain ⟨f,r,z,E⟩:=h;cases r with
 | error a=>exact ⟨f,.error a,fun k=>by simp [zo,z k],fun x us h=>by cases h⟩
 | ok y =>
  obtain ⟨g,s,D,G⟩:=hq y.1 y.2 (E _ _ rfl);refine ⟨f+g,s,fun k=>?_,G⟩
  have A:=z (g+k);have o:=D (f+k);rw [show f+(g+k)=f+g+k by omega] at A
  rw [show g+(f+k)=f+g+k by omega] at o
  simp only [zo,A];exact o
theorem zB {α:Type} (x:α) (us:List Tk) {n:Nat} (h:us.length≤n):Zq (fun _=>(some (.ok (x,us)):Option (PR α))) n:=⟨0,.ok (x,us),fun _=>rfl,fun y vs h'=>by cases h';exact h⟩
theorem ZY (s:List UInt8) (ts:List Tk) {n:Nat} (h:ts.length≤n+1):Zq (fun _=>Zf s ts) n:=by
 refine ⟨0,_,fun _=>rfl,fun x us h'=>?_⟩
 split at h'
 ·rename_i o;have:=ZP o;cases h';omega
 ·cases h'
theorem xA (ts:List Tk) {n:Nat} (h:ts.length≤n+1):Zq (fun _=>yY ts) n:=by
 refine ⟨0,_,fun _=>rfl,fun x us h'=>?_⟩
 split at h'
 ·rename_i o;have:=yg (ts:=ts) (by omega);cases h';omega
 ·cases h'
theorem Zq.step {α:Type} {p q:Nat→Option (PR α)} {n:Nat} (h:Zq q n) (hp:∀f,p (f+1)=q f):Zq p n:=by
 obtain ⟨f,r,y,o⟩:=h;exact ⟨f+1,r,fun k=>by rw [show f+1+k=f+k+1 by omega,hp];exact y k,o⟩
theorem Zq.le {α:Type} {p:Nat→Option (PR α)} {n m:Nat} (h:Zq p n) (hm:n≤m):Zq p m:=by
 obtain ⟨f,r,y,o⟩:=h;exact ⟨f,r,y,fun x us h=>Nat.le_trans (o x us h) hm⟩
theorem YQ {α:Type} (a:Nat) (n:Nat):Zq (fun _=>(some (.error a):Option (PR α))) n:=⟨0,.error a,fun _=>rfl,fun _ _ h=>by cases h⟩
theorem Yj (n:Nat):∀ts:List Tk,ts.length≤n→(∀o,Zq (fun f=>zd f o ts) (n-1))∧(∀pre,Zq (fun f=>ZE f pre ts) (n-1))∧(∀o e,Zq (fun f=>zR f o e ts) n)∧(∀e,Zq (fun f=>zm f e ts) n)∧Zq (fun f=>zv f ts) (n-1)∧Zq (fun f=>zT f ts) (n-1):=by
 induction n with
 | zero =>
  intro ts E;obtain rfl:ts=[]:=List.length_eq_zero_iff.1 (by omega)
  have K:Zq (fun f=>zu f []) 0:=(YQ 0 0).step fun f=>by simp [zu,zK,zp,zo,Zf]
  have N:∀e,Zq (fun f=>zm f e []) 0:=fun e=>(zB e [] (n:=0) (by simp)).step fun f=>by simp [zm,zK,zp]
  have G:∀o e,Zq (fun f=>zR f o e []) 0:=fun o e=>(zB e [] (n:=0) (by simp)).step fun f=>by simp [zR,zK]
  have D:Zq (fun f=>zT f []) 0:=(K.then (q:=fun f e ts=>zm f e ts) (m:=0) fun e us hu=>by
   obtain rfl:us=[]:=List.length_eq_zero_iff.1 (by omega)
   exact N e).step fun f=>by simp [zT,zK]
  have z:∀d o,7-o≤d→Zq (fun f=>zd f o []) 0:=fun d=>by
   induction d with
   | zero=>intro o A;exact D.step fun f=>by rw [zd,if_pos (by omega)]
   | succ d ih =>
    intro o A
    by_cases hc:6<o
    ·exact D.step fun f=>by rw [zd,if_pos hc]
    ·exact ((ih (o+1) (by omega)).then (q:=fun f e ts=>zR f o e ts) (m:=0) fun e us hu=>by
      obtain rfl:us=[]:=List.length_eq_zero_iff.1 (by omega)
      exact G o e).step fun f=>by rw [zd,if_neg hc]
  refine ⟨fun o=>z _ o (Nat.le_refl _),fun pre=>?_,G,N,?_,D⟩
  ·exact ((z _ 1 (Nat.le_refl _)).then (q:=fun f e ts=>if zp (zK ts) [44]=true then ZE f (pre++[e]) ts.tail else some (.ok (pre++[e],ts))) (m:=0) fun e us hu=>by
    obtain rfl:us=[]:=List.length_eq_zero_iff.1 (by omega)
    simpa [zK,zp] using zB (pre++[e]) [] (n:=0) (by simp)).step fun f=>by rw [ZE]
  ·exact (YQ 0 0).step fun f=>by simp [zv,zK,zp,zo,Zf]
 | succ n ih =>
  intro ts E;have B:=fun ts h o=>(ih ts h).1 o
  have I:=fun ts h pre=>(ih ts h).2.1 pre
  have M:=fun ts h o e=>(ih ts h).2.2.1 o e
  have J:=fun ts h e=>(ih ts h).2.2.2.1 e
  have O:=fun ts h=>(ih ts h).2.2.2.2.1
  have Q:=fun ts h=>(ih ts h).2.2.2.2.2
  have H:Zq (fun f=>zv f ts) (n+1-1):=by
   refine ((ZY [40] ts (n:=n) E).then (q:=fun f _ ts=>if zp (zK ts) [41]=true then some (.ok ([],ts.tail)) else zo (ZE f [] ts) fun l ts=>zo (Zf [41] ts) fun _ ts=>some (.ok (l,ts))) (m:=n) fun _ us hu=>?_).step fun f=>by rw [zv]
   by_cases hc:zp (zK us) [41]=true
   ·simp only [if_pos hc];exact zB _ _ (by simp;omega)
   ·simp only [if_neg hc]
    exact (I us hu []).then (q:=fun _ l ts=>zo (Zf [41] ts) fun _ ts=>some (.ok (l,ts))) fun l vs hv=>(ZY [41] vs (n:=n) (by omega)).then (q:=fun _ _ ts=>some (.ok (l,ts))) fun _ xs hx=>zB _ _ hx
  have G:∀o e,Zq (fun f=>zR f o e ts) (n+1):=fun o e=>by
   by_cases hc:(zK ts).k=4∧levelOf (zK ts).s=o
   ·have y:=yg (ts:=ts) (by omega)
    exact ((B ts.tail (by omega) (o+1)).then (q:=fun f e2 ts'=>zR f o (Ex.mk 7 (zK ts).s 0 [e,e2] e.line) ts') (m:=n+1) fun e2 us hu=>(M us (by omega) o _).le (by omega)).step fun f=>by rw [zR,if_pos hc]
   ·exact (zB e ts E).step fun f=>by rw [zR,if_neg hc]
  have L:∀e,Zq (fun f=>zm f e ts) (n+1):=fun e=>by
   by_cases hc:zp (zK ts) [91]=true
   ·have y:=ZP hc
    exact ((B ts.tail (by omega) 1).then (q:=fun f i ts=>zo (Zf [93] ts) fun _ ts=>zm f (Ex.mk 8 [] 0 [e,i] e.line) ts) (m:=n+1) fun i us hu =>
     (ZY [93] us (n:=n) (by omega)).then (q:=fun f _ ts=>zm f (Ex.mk 8 [] 0 [e,i] e.line) ts) fun _ vs hv=>(J vs hv _).le (by omega)).step fun f=>by rw [zm,if_pos hc]
   ·by_cases A:zp (zK ts) [46]=true
    ·have y:=ZP A
     exact ((xA ts.tail (n:=n) (by omega)).then (q:=fun f s ts=>zm f (Ex.mk 9 s 0 [e] e.line) ts) (m:=n+1) fun s us hu=>(J us hu _).le (by omega)).step fun f=>by rw [zm,if_neg hc,if_pos A]
    ·exact (zB e ts E).step fun f=>by rw [zm,if_neg hc,if_neg A]
  have K:Zq (fun f=>zu f ts) n:=by
   by_cases c1:(zK ts).k=2
   ·have y:=yg (ts:=ts) (by omega)
    exact (zB (Ex.mk 1 [] (zK ts).n [] (zK ts).line) ts.tail (n:=n) (by omega)).step fun f=>by rw [zu,if_pos c1]
   by_cases c2:(zK ts).k=3
   ·have y:=yg (ts:=ts) (by omega)
    exact (zB (Ex.mk 3 (zK ts).s 0 [] (zK ts).line) ts.tail (n:=n) (by omega)).step fun f=>by rw [zu,if_neg c1,if_pos c2]
   by_cases c3:(zK ts).k=1
   ·have y:=yg (ts:=ts) (by omega)
    by_cases d:zp (zK ts.tail) [40]=true
    ·exact ((O ts.tail (by omega)).then (q:=fun _ l ts'=>some (.ok (Ex.mk 5 (zK ts).s 0 l (zK ts).line,ts'))) (m:=n) fun l us hu=>zB _ _ (by omega)).step fun f=>by rw [zu,if_neg c1,if_neg c2,if_pos c3,if_pos d]
    ·exact (zB (Ex.mk 4 (zK ts).s 0 [] (zK ts).line) ts.tail (n:=n) (by omega)).step fun f=>by rw [zu,if_neg c1,if_neg c2,if_pos c3,if_neg d]
   by_cases c4:zp (zK ts) [116,114,117,101]=true
   ·have y:=ZP c4
    exact (zB (Ex.mk 2 [] 1 [] (zK ts).line) ts.tail (n:=n) (by omega)).step fun f=>by rw [zu,if_neg c1,if_neg c2,if_neg c3,if_pos c4]
   by_cases c5:zp (zK ts) [102,97,108,115,101]=true
   ·have y:=ZP c5
    exact (zB (Ex.mk 2 [] 0 [] (zK ts).line) ts.tail (n:=n) (by omega)).step fun f=>by rw [zu,if_neg c1,if_neg c2,if_neg c3,if_neg c4,if_pos c5]
   by_cases c6:zp (zK ts) [110,101,119]=true
   ·have y:=ZP c6
    exact ((xA ts.tail (n:=n) (by omega)).then (q:=fun f s ts'=>zo (zv f ts') fun l ts'=>some (.ok (Ex.mk 11 s 0 l (zK ts).line,ts'))) (m:=n) fun s us hu =>
     (O us hu).then (q:=fun _ l ts'=>some (.ok (Ex.mk 11 s 0 l (zK ts).line,ts'))) fun l vs hv=>zB _ _ (by omega)).step fun f=>by rw [zu,if_neg c1,if_neg c2,if_neg c3,if_neg c4,if_neg c5,if_pos c6]
   by_cases c7:zp (zK ts) [91]=true
   ·have y:=ZP c7
    exact ((I ts.tail (by omega) []).then (q:=fun _ l ts'=>zo (Zf [93] ts') fun _ ts'=>some (.ok (Ex.mk 10 [] 0 l (zK ts).line,ts'))) (m:=n) fun l us hu =>
     (ZY [93] us (n:=n) (by omega)).then (q:=fun _ _ ts'=>some (.ok (Ex.mk 10 [] 0 l (zK ts).line,ts'))) fun _ vs hv=>zB _ _ (by omega)).step fun f=>by rw [zu,if_neg c1,if_neg c2,if_neg c3,if_neg c4,if_neg c5,if_neg c6,if_pos c7]
   ·exact ((ZY [40] ts (n:=n) E).then (q:=fun f _ ts=>zo (zd f 1 ts) fun e ts=>zo (Zf [41] ts) fun _ ts=>some (.ok (e,ts))) (m:=n) fun _ us hu =>
     (B us hu 1).then (q:=fun _ e ts=>zo (Zf [41] ts) fun _ ts=>some (.ok (e,ts))) fun e vs hv=>(ZY [41] vs (n:=n) (by omega)).then (q:=fun _ _ ts=>some (.ok (e,ts))) fun _ xs hx=>zB _ _ hx).step fun f=>by rw [zu,if_neg c1,if_neg c2,if_neg c3,if_neg c4,if_neg c5,if_neg c6,if_neg c7]
  have D:Zq (fun f=>zT f ts) n:=by
   by_cases hc:(zK ts).k=4∧((zK ts).s=[45]∨(zK ts).s=[33])
   ·have y:=yg (ts:=ts) (by omega)
    exact ((Q ts.tail (by omega)).then (q:=fun _ e ts'=>some (.ok (Ex.mk 6 (zK ts).s 0 [e] (zK ts).line,ts'))) (m:=n) fun e us hu=>zB _ _ (by omega)).step fun f=>by rw [zT,if_pos hc]
   ·exact (K.then (q:=fun f e ts=>zm f e ts) (m:=n) fun e us hu=>J us hu e).step fun f=>by rw [zT,if_neg hc]
  have z:∀d o,7-o≤d→Zq (fun f=>zd f o ts) n:=fun d=>by
   induction d with
   | zero=>intro o A;exact D.step fun f=>by rw [zd,if_pos (by omega)]
   | succ d ih =>
    intro o A
    by_cases hc:6<o
    ·exact D.step fun f=>by rw [zd,if_pos hc]
    ·exact ((ih (o+1) (by omega)).then (q:=fun f e ts=>zR f o e ts) (m:=n) fun e us hu=>M us hu o e).step fun f=>by rw [zd,if_neg hc]
  refine ⟨fun o=>z _ o (Nat.le_refl _),fun pre=>?_,G,L,H,D⟩
  refine ((z _ 1 (Nat.le_refl _)).then (q:=fun f e ts=>if zp (zK ts) [44]=true then ZE f (pre++[e]) ts.tail else some (.ok (pre++[e],ts))) (m:=n) fun e us hu=>?_).step fun f=>by rw [ZE]
  by_cases hc:zp (zK us) [44]=true
  ·simp only [if_pos hc]
   have y:=ZP hc;exact (I us.tail (by omega) (pre++[e])).le (by omega)
  ·simp only [if_neg hc]
   exact zB _ _ hu
end Go.Proofs.YtmbofhpmockmbaaGreatDoor
