import Derived.Test.YtmbofhpmockmbaaGreatDoorMC16
namespace Go.Proofs.YtmbofhpmockmbaaGreatDoor
open Go.RowKit Go.Shelf
theorem zl {α β:Type} {x:Option (PR α)} {k:α→List Tk→Option (PR β)} {p:β × List Tk} (h:zo x k=some (.ok p)):∃y us,x=some (.ok (y,us))∧k y us=some (.ok p):=by
 unfold zo at h
 cases x with
 | none=>cases h
 | some x =>
  cases x with
  | error a=>cases h
  | ok q=>exact ⟨q.1,q.2,rfl,h⟩
theorem ZK {ts:List Tk} (h:zj ts) (hk:(zM ts).k≠0):zj ts.tail:=by
 obtain ⟨t,e,rfl⟩:=h.cons;exact h.tail hk
theorem Z3 {ts:List Tk} {s:List UInt8} (h:zj ts) (hk:zp (zM ts) s=true):zj ts.tail:=ZK h (zf hk)
theorem ZL {s:List UInt8} {ts us:List Tk} {y:Unit} (h:Zj s ts=some (.ok (y,us))) (hE:zj ts):zj us:=by
 unfold Zj at h
 split at h
 ·rename_i e
  simp only [Option.some.injEq,Except.ok.injEq,Prod.mk.injEq] at h;rw [←h.2];exact Z3 hE e
 ·cases h
theorem Y8 {s:List UInt8} {ts us:List Tk} (h:Yg ts=some (.ok (s,us))) (hE:zj ts):zj us:=by
 unfold Yg at h
 split at h
 ·rename_i e
  simp only [Option.some.injEq,Except.ok.injEq,Prod.mk.injEq] at h;rw [←h.2];exact ZK hE (by omega)
 ·cases h
theorem zR {α:Type} {x y:α} {ts us:List Tk} (h:(some (.ok (x,ts)):Option (PR α))=some (.ok (y,us))) (hE:zj ts):zj us:=by
 simp only [Option.some.injEq,Except.ok.injEq,Prod.mk.injEq] at h;rw [←h.2];exact hE
theorem zX (f:Nat) :
  (∀least ts x us,zd f least ts=some (.ok (x,us))→zj ts→zj us)∧(∀least e ts x us,zV f least e ts=some (.ok (x,us))→zj ts→zj us) ∧
  (∀ts x us,zW f ts=some (.ok (x,us))→zj ts→zj us)∧(∀e ts x us,zm f e ts=some (.ok (x,us))→zj ts→zj us)∧(∀ts x us,zw f ts=some (.ok (x,us))→zj ts→zj us) ∧
  (∀pre ts x us,ZJ f pre ts=some (.ok (x,us))→zj ts→zj us)∧(∀ts x us,zx f ts=some (.ok (x,us))→zj ts→zj us):=by
 induction f with
 | zero=>refine ⟨?_,?_,?_,?_,?_,?_,?_⟩ <;> intros <;> simp_all [zd,zV,zW,zm,zw,ZJ,zx]
 | succ f ih =>
  obtain ⟨i1,T,R,M,V,L,Q⟩:=ih;refine ⟨fun least ts x us h hE=>?_,fun least e ts x us h hE=>?_,fun ts x us h hE=>?_,fun e ts x us h hE=>?_,fun ts x us h hE=>?_,fun pre ts x us h hE=>?_,fun ts x us h hE=>?_⟩
  ·rw [zd] at h
   split at h
   ·exact R _ _ _ h hE
   ·obtain ⟨y,E,A,o⟩:=zl h
    exact T _ _ _ _ _ o (i1 _ _ _ _ A hE)
  ·rw [zV] at h
   split at h
   ·rename_i D
    obtain ⟨y,E,A,o⟩:=zl h;exact T _ _ _ _ _ o (i1 _ _ _ _ A (ZK hE (by omega)))
   ·exact zR h hE
  ·rw [zW] at h
   split at h
   ·rename_i D
    obtain ⟨y,E,A,o⟩:=zl h;exact zR o (R _ _ _ A (ZK hE (by omega)))
   ·obtain ⟨y,E,A,o⟩:=zl h
    exact M _ _ _ _ o (V _ _ _ A hE)
  ·rw [zm] at h
   split at h
   ·rename_i D
    obtain ⟨y,E,A,o⟩:=zl h;obtain ⟨z,J,H,G⟩:=zl o;exact M _ _ _ _ G (ZL H (i1 _ _ _ _ A (Z3 hE D)))
   ·split at h
    ·rename_i D
     obtain ⟨y,E,A,o⟩:=zl h;exact M _ _ _ _ o (Y8 A (Z3 hE D))
    ·exact zR h hE
  ·rw [zw] at h
   split at h
   ·rename_i D;exact zR h (ZK hE (by omega))
   split at h
   ·rename_i D;exact zR h (ZK hE (by omega))
   split at h
   ·rename_i D
    have U:=ZK hE (by omega)
    split at h
    ·obtain ⟨y,E,A,o⟩:=zl h
     exact zR o (Q _ _ _ A U)
    ·exact zR h U
   split at h
   ·rename_i D;exact zR h (Z3 hE D)
   split at h
   ·rename_i D;exact zR h (Z3 hE D)
   split at h
   ·rename_i D
    obtain ⟨y,E,A,o⟩:=zl h;obtain ⟨z,J,H,G⟩:=zl o;exact zR G (Q _ _ _ H (Y8 A (Z3 hE D)))
   split at h
   ·rename_i D
    obtain ⟨y,E,A,o⟩:=zl h;obtain ⟨z,J,H,G⟩:=zl o;exact zR G (ZL H (L _ _ _ _ A (Z3 hE D)))
   ·obtain ⟨y,E,A,o⟩:=zl h
    obtain ⟨z,J,H,G⟩:=zl o;obtain ⟨W,N,O,K⟩:=zl G;exact zR K (ZL O (i1 _ _ _ _ H (ZL A hE)))
  ·rw [ZJ] at h
   obtain ⟨y,E,A,o⟩:=zl h;have I:=i1 _ _ _ _ A hE
   split at o
   ·rename_i D;exact L _ _ _ _ o (Z3 I D)
   ·exact zR o I
  ·rw [zx] at h
   obtain ⟨y,E,A,o⟩:=zl h;have I:=ZL A hE
   split at o
   ·rename_i D;exact zR o (Z3 I D)
   ·obtain ⟨z,J,H,G⟩:=zl o
    obtain ⟨W,N,O,K⟩:=zl G;exact zR K (ZL O (L _ _ _ _ H I))
def Zu {α:Type} (p:Nat→Option (PR α)) (n:Nat):Prop:=∃f r,(∀k,p (f+k)=some r)∧∀x us,r=.ok (x,us)→us.length≤n
theorem yq {ts:List Tk} (h:(zM ts).k≠0):ts.tail.length+1=ts.length:=by
 cases ts with
 | nil=>exact absurd rfl h
 | cons t us=>simp
theorem ZT {ts:List Tk} {s:List UInt8} (h:zp (zM ts) s=true):ts.tail.length+1=ts.length:=yq (zf h)
theorem Zu.then {α β:Type} {p:Nat→Option (PR α)} {q:Nat→α→List Tk→Option (PR β)} {n m:Nat} (h:Zu p n) (hq:∀x us,us.length≤n→Zu (fun f=>q f x us) m):Zu (fun f=>zo (p f) (q f)) m:=by
 obtain ⟨f,r,e,A⟩:=h;cases r with
 | error a=>exact ⟨f,.error a,fun k=>by simp [zo,e k],fun x us h=>by cases h⟩
 | ok y =>
  obtain ⟨g,s,D,E⟩:=hq y.1 y.2 (A _ _ rfl);refine ⟨f+g,s,fun k=>?_,E⟩
  have z:=e (g+k);have o:=D (f+k);rw [show f+(g+k)=f+g+k by omega] at z
  rw [show g+(f+k)=f+g+k by omega] at o
  simp only [zo,z];exact o
theorem zC {α:Type} (x:α) (us:List Tk) {n:Nat} (h:us.length≤n):Zu (fun _=>(some (.ok (x,us)):Option (PR α))) n:=⟨0,.ok (x,us),fun _=>rfl,fun y vs h'=>by cases h';exact h⟩
theorem Z4 (s:List UInt8) (ts:List Tk) {n:Nat} (h:ts.length≤n+1):Zu (fun _=>Zj s ts) n:=by
 refine ⟨0,_,fun _=>rfl,fun x us h'=>?_⟩
 split at h'
 ·rename_i e;have:=ZT e;cases h';omega
 ·cases h'
theorem xT (ts:List Tk) {n:Nat} (h:ts.length≤n+1):Zu (fun _=>Yg ts) n:=by
 refine ⟨0,_,fun _=>rfl,fun x us h'=>?_⟩
 split at h'
 ·rename_i e;have:=yq (ts:=ts) (by omega);cases h';omega
 ·cases h'
theorem Zu.step {α:Type} {p q:Nat→Option (PR α)} {n:Nat} (h:Zu q n) (hp:∀f,p (f+1)=q f):Zu p n:=by
 obtain ⟨f,r,e,o⟩:=h;exact ⟨f+1,r,fun k=>by rw [show f+1+k=f+k+1 by omega,hp];exact e k,o⟩
theorem Zu.le {α:Type} {p:Nat→Option (PR α)} {n m:Nat} (h:Zu p n) (hm:n≤m):Zu p m:=by
 obtain ⟨f,r,e,o⟩:=h;exact ⟨f,r,e,fun x us h=>Nat.le_trans (o x us h) hm⟩
theorem Y9 {α:Type} (a:Nat) (n:Nat):Zu (fun _=>(some (.error a):Option (PR α))) n:=⟨0,.error a,fun _=>rfl,fun _ _ h=>by cases h⟩
theorem YA (n:Nat):∀ts:List Tk,ts.length≤n→(∀o,Zu (fun f=>zd f o ts) (n-1))∧(∀pre,Zu (fun f=>ZJ f pre ts) (n-1))∧(∀o e,Zu (fun f=>zV f o e ts) n)∧(∀e,Zu (fun f=>zm f e ts) n)∧Zu (fun f=>zx f ts) (n-1)∧Zu (fun f=>zW f ts) (n-1):=by
 induction n with
 | zero =>
  intro ts E;obtain rfl:ts=[]:=List.length_eq_zero_iff.1 (by omega)
  have K:Zu (fun f=>zw f []) 0:=(Y9 0 0).step fun f=>by simp [zw,zM,zp,zo,Zj]
  have O:∀e,Zu (fun f=>zm f e []) 0:=fun e=>(zC e [] (n:=0) (by simp)).step fun f=>by simp [zm,zM,zp]
  have G:∀o e,Zu (fun f=>zV f o e []) 0:=fun o e=>(zC e [] (n:=0) (by simp)).step fun f=>by simp [zV,zM]
  have D:Zu (fun f=>zW f []) 0:=(K.then (q:=fun f e ts=>zm f e ts) (m:=0) fun e us hu=>by
   obtain rfl:us=[]:=List.length_eq_zero_iff.1 (by omega)
   exact O e).step fun f=>by simp [zW,zM]
  have z:∀d o,7-o≤d→Zu (fun f=>zd f o []) 0:=fun d=>by
   induction d with
   | zero=>intro o A;exact D.step fun f=>by rw [zd,if_pos (by omega)]
   | succ d ih =>
    intro o A
    by_cases hc:6<o
    ·exact D.step fun f=>by rw [zd,if_pos hc]
    ·exact ((ih (o+1) (by omega)).then (q:=fun f e ts=>zV f o e ts) (m:=0) fun e us hu=>by
      obtain rfl:us=[]:=List.length_eq_zero_iff.1 (by omega)
      exact G o e).step fun f=>by rw [zd,if_neg hc]
  refine ⟨fun o=>z _ o (Nat.le_refl _),fun pre=>?_,G,O,?_,D⟩
  ·exact ((z _ 1 (Nat.le_refl _)).then (q:=fun f e ts=>if zp (zM ts) [44]=true then ZJ f (pre++[e]) ts.tail else some (.ok (pre++[e],ts))) (m:=0) fun e us hu=>by
    obtain rfl:us=[]:=List.length_eq_zero_iff.1 (by omega)
    simpa [zM,zp] using zC (pre++[e]) [] (n:=0) (by simp)).step fun f=>by rw [ZJ]
  ·exact (Y9 0 0).step fun f=>by simp [zx,zM,zp,zo,Zj]
 | succ n ih =>
  intro ts E;have B:=fun ts h o=>(ih ts h).1 o
  have J:=fun ts h pre=>(ih ts h).2.1 pre
  have M:=fun ts h o e=>(ih ts h).2.2.1 o e
  have I:=fun ts h e=>(ih ts h).2.2.2.1 e
  have N:=fun ts h=>(ih ts h).2.2.2.2.1
  have Q:=fun ts h=>(ih ts h).2.2.2.2.2
  have H:Zu (fun f=>zx f ts) (n+1-1):=by
   refine ((Z4 [40] ts (n:=n) E).then (q:=fun f _ ts=>if zp (zM ts) [41]=true then some (.ok ([],ts.tail)) else zo (ZJ f [] ts) fun l ts=>zo (Zj [41] ts) fun _ ts=>some (.ok (l,ts))) (m:=n) fun _ us hu=>?_).step fun f=>by rw [zx]
   by_cases hc:zp (zM us) [41]=true
   ·simp only [if_pos hc];exact zC _ _ (by simp;omega)
   ·simp only [if_neg hc]
    exact (J us hu []).then (q:=fun _ l ts=>zo (Zj [41] ts) fun _ ts=>some (.ok (l,ts))) fun l vs hv=>(Z4 [41] vs (n:=n) (by omega)).then (q:=fun _ _ ts=>some (.ok (l,ts))) fun _ xs hx=>zC _ _ hx
  have G:∀o e,Zu (fun f=>zV f o e ts) (n+1):=fun o e=>by
   by_cases hc:(zM ts).k=4∧levelOf (zM ts).s=o
   ·have y:=yq (ts:=ts) (by omega)
    exact ((B ts.tail (by omega) (o+1)).then (q:=fun f e2 ts'=>zV f o (Ex.mk 7 (zM ts).s 0 [e,e2] e.line) ts') (m:=n+1) fun e2 us hu=>(M us (by omega) o _).le (by omega)).step fun f=>by rw [zV,if_pos hc]
   ·exact (zC e ts E).step fun f=>by rw [zV,if_neg hc]
  have L:∀e,Zu (fun f=>zm f e ts) (n+1):=fun e=>by
   by_cases hc:zp (zM ts) [91]=true
   ·have y:=ZT hc
    exact ((B ts.tail (by omega) 1).then (q:=fun f i ts=>zo (Zj [93] ts) fun _ ts=>zm f (Ex.mk 8 [] 0 [e,i] e.line) ts) (m:=n+1) fun i us hu =>
     (Z4 [93] us (n:=n) (by omega)).then (q:=fun f _ ts=>zm f (Ex.mk 8 [] 0 [e,i] e.line) ts) fun _ vs hv=>(I vs hv _).le (by omega)).step fun f=>by rw [zm,if_pos hc]
   ·by_cases A:zp (zM ts) [46]=true
    ·have y:=ZT A
     exact ((xT ts.tail (n:=n) (by omega)).then (q:=fun f s ts=>zm f (Ex.mk 9 s 0 [e] e.line) ts) (m:=n+1) fun s us hu=>(I us hu _).le (by omega)).step fun f=>by rw [zm,if_neg hc,if_pos A]
    ·exact (zC e ts E).step fun f=>by rw [zm,if_neg hc,if_neg A]
  have K:Zu (fun f=>zw f ts) n:=by
   by_cases c1:(zM ts).k=2
   ·have y:=yq (ts:=ts) (by omega)
    exact (zC (Ex.mk 1 [] (zM ts).n [] (zM ts).line) ts.tail (n:=n) (by omega)).step fun f=>by rw [zw,if_pos c1]
   by_cases c2:(zM ts).k=3
   ·have y:=yq (ts:=ts) (by omega)
    exact (zC (Ex.mk 3 (zM ts).s 0 [] (zM ts).line) ts.tail (n:=n) (by omega)).step fun f=>by rw [zw,if_neg c1,if_pos c2]
   by_cases c3:(zM ts).k=1
   ·have y:=yq (ts:=ts) (by omega)
    by_cases d:zp (zM ts.tail) [40]=true
    ·exact ((N ts.tail (by omega)).then (q:=fun _ l ts'=>some (.ok (Ex.mk 5 (zM ts).s 0 l (zM ts).line,ts'))) (m:=n) fun l us hu=>zC _ _ (by omega)).step fun f=>by rw [zw,if_neg c1,if_neg c2,if_pos c3,if_pos d]
    ·exact (zC (Ex.mk 4 (zM ts).s 0 [] (zM ts).line) ts.tail (n:=n) (by omega)).step fun f=>by rw [zw,if_neg c1,if_neg c2,if_pos c3,if_neg d]
   by_cases c4:zp (zM ts) [116,114,117,101]=true
   ·have y:=ZT c4
    exact (zC (Ex.mk 2 [] 1 [] (zM ts).line) ts.tail (n:=n) (by omega)).step fun f=>by rw [zw,if_neg c1,if_neg c2,if_neg c3,if_pos c4]
   by_cases c5:zp (zM ts) [102,97,108,115,101]=true
   ·have y:=ZT c5
    exact (zC (Ex.mk 2 [] 0 [] (zM ts).line) ts.tail (n:=n) (by omega)).step fun f=>by rw [zw,if_neg c1,if_neg c2,if_neg c3,if_neg c4,if_pos c5]
   by_cases c6:zp (zM ts) [110,101,119]=true
   ·have y:=ZT c6
    exact ((xT ts.tail (n:=n) (by omega)).then (q:=fun f s ts'=>zo (zx f ts') fun l ts'=>some (.ok (Ex.mk 11 s 0 l (zM ts).line,ts'))) (m:=n) fun s us hu =>
     (N us hu).then (q:=fun _ l ts'=>some (.ok (Ex.mk 11 s 0 l (zM ts).line,ts'))) fun l vs hv=>zC _ _ (by omega)).step fun f=>by rw [zw,if_neg c1,if_neg c2,if_neg c3,if_neg c4,if_neg c5,if_pos c6]
   by_cases c7:zp (zM ts) [91]=true
   ·have y:=ZT c7
    exact ((J ts.tail (by omega) []).then (q:=fun _ l ts'=>zo (Zj [93] ts') fun _ ts'=>some (.ok (Ex.mk 10 [] 0 l (zM ts).line,ts'))) (m:=n) fun l us hu =>
     (Z4 [93] us (n:=n) (by omega)).then (q:=fun _ _ ts'=>some (.ok (Ex.mk 10 [] 0 l (zM ts).line,ts'))) fun _ vs hv=>zC _ _ (by omega)).step fun f=>by rw [zw,if_neg c1,if_neg c2,if_neg c3,if_neg c4,if_neg c5,if_neg c6,if_pos c7]
   ·exact ((Z4 [40] ts (n:=n) E).then (q:=fun f _ ts=>zo (zd f 1 ts) fun e ts=>zo (Zj [41] ts) fun _ ts=>some (.ok (e,ts))) (m:=n) fun _ us hu =>
     (B us hu 1).then (q:=fun _ e ts=>zo (Zj [41] ts) fun _ ts=>some (.ok (e,ts))) fun e vs hv=>(Z4 [41] vs (n:=n) (by omega)).then (q:=fun _ _ ts=>some (.ok (e,ts))) fun _ xs hx=>zC _ _ hx).step fun f=>by rw [zw,if_neg c1,if_neg c2,if_neg c3,if_neg c4,if_neg c5,if_neg c6,if_neg c7]
  have D:Zu (fun f=>zW f ts) n:=by
   by_cases hc:(zM ts).k=4∧((zM ts).s=[45]∨(zM ts).s=[33])
   ·have y:=yq (ts:=ts) (by omega)
    exact ((Q ts.tail (by omega)).then (q:=fun _ e ts'=>some (.ok (Ex.mk 6 (zM ts).s 0 [e] (zM ts).line,ts'))) (m:=n) fun e us hu=>zC _ _ (by omega)).step fun f=>by rw [zW,if_pos hc]
   ·exact (K.then (q:=fun f e ts=>zm f e ts) (m:=n) fun e us hu=>I us hu e).step fun f=>by rw [zW,if_neg hc]
  have z:∀d o,7-o≤d→Zu (fun f=>zd f o ts) n:=fun d=>by
   induction d with
   | zero=>intro o A;exact D.step fun f=>by rw [zd,if_pos (by omega)]
   | succ d ih =>
    intro o A
    by_cases hc:6<o
    ·exact D.step fun f=>by rw [zd,if_pos hc]
    ·exact ((ih (o+1) (by omega)).then (q:=fun f e ts=>zV f o e ts) (m:=n) fun e us hu=>M us hu o e).step fun f=>by rw [zd,if_neg hc]
  refine ⟨fun o=>z _ o (Nat.le_refl _),fun pre=>?_,G,L,H,D⟩
  refine ((z _ 1 (Nat.le_refl _)).then (q:=fun f e ts=>if zp (zM ts) [44]=true then ZJ f (pre++[e]) ts.tail else some (.ok (pre++[e],ts))) (m:=n) fun e us hu=>?_).step fun f=>by rw [ZJ]
  by_cases hc:zp (zM us) [44]=true
  ·simp only [if_pos hc]
   have y:=ZT hc;exact (J us.tail (by omega) (pre++[e])).le (by omega)
  ·simp only [if_neg hc]
   exact zC _ _ hu
end Go.Proofs.YtmbofhpmockmbaaGreatDoor
