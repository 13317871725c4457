import Derived.Test.YtmbofhpmockmbaaGreatDoorMC15
namespace Go.Proofs.YtmbofhpmockmbaaGreatDoor
open Go.RowKit Go.Shelf
theorem zj {α β:Type} {x:Option (PR α)} {k:α→List Tk→Option (PR β)} {p:β × List Tk} (h:zm x k=some (.ok p)):∃y us,x=some (.ok (y,us))∧k y us=some (.ok p):=by
 unfold zm at h
 cases x with
 | none=>cases h
 | some x =>
  cases x with
  | error a=>cases h
  | ok q=>exact ⟨q.1,q.2,rfl,h⟩
theorem Zv {ts:List Tk} (h:zh ts) (hk:(zK ts).k≠0):zh ts.tail:=by
 obtain ⟨t,e,rfl⟩:=h.cons;exact h.tail hk
theorem ZM {ts:List Tk} {s:List UInt8} (h:zh ts) (hk:zn (zK ts) s=true):zh ts.tail:=Zv h (zf hk)
theorem Zw {s:List UInt8} {ts us:List Tk} {y:Unit} (h:Zb s ts=some (.ok (y,us))) (hE:zh ts):zh us:=by
 unfold Zb at h
 split at h
 ·rename_i e
  simp only [Option.some.injEq,Except.ok.injEq,Prod.mk.injEq] at h;rw [←h.2];exact ZM hE e
 ·cases h
theorem Yq {s:List UInt8} {ts us:List Tk} (h:yF ts=some (.ok (s,us))) (hE:zh ts):zh us:=by
 unfold yF at h
 split at h
 ·rename_i e
  simp only [Option.some.injEq,Except.ok.injEq,Prod.mk.injEq] at h;rw [←h.2];exact Zv hE (by omega)
 ·cases h
theorem zN {α:Type} {x y:α} {ts us:List Tk} (h:(some (.ok (x,ts)):Option (PR α))=some (.ok (y,us))) (hE:zh ts):zh us:=by
 simp only [Option.some.injEq,Except.ok.injEq,Prod.mk.injEq] at h;rw [←h.2];exact hE
theorem zR (f:Nat) :
  (∀least ts x us,zd f least ts=some (.ok (x,us))→zh ts→zh us)∧(∀least e ts x us,zP f least e ts=some (.ok (x,us))→zh ts→zh us) ∧
  (∀ts x us,zQ f ts=some (.ok (x,us))→zh ts→zh us)∧(∀e ts x us,zk f e ts=some (.ok (x,us))→zh ts→zh us)∧(∀ts x us,zt f ts=some (.ok (x,us))→zh ts→zh us) ∧
  (∀pre ts x us,Zu f pre ts=some (.ok (x,us))→zh ts→zh us)∧(∀ts x us,zu f ts=some (.ok (x,us))→zh ts→zh us):=by
 induction f with
 | zero=>refine ⟨?_,?_,?_,?_,?_,?_,?_⟩ <;> intros <;> simp_all [zd,zP,zQ,zk,zt,Zu,zu]
 | succ f ih =>
  obtain ⟨i1,Q,S,M,V,N,T⟩:=ih;refine ⟨fun least ts x us h hE=>?_,fun least e ts x us h hE=>?_,fun ts x us h hE=>?_,fun e ts x us h hE=>?_,fun ts x us h hE=>?_,fun pre ts x us h hE=>?_,fun ts x us h hE=>?_⟩
  ·rw [zd] at h
   split at h
   ·exact S _ _ _ h hE
   ·obtain ⟨y,E,A,o⟩:=zj h
    exact Q _ _ _ _ _ o (i1 _ _ _ _ A hE)
  ·rw [zP] at h
   split at h
   ·rename_i D
    obtain ⟨y,E,A,o⟩:=zj h;exact Q _ _ _ _ _ o (i1 _ _ _ _ A (Zv hE (by omega)))
   ·exact zN h hE
  ·rw [zQ] at h
   split at h
   ·rename_i D
    obtain ⟨y,E,A,o⟩:=zj h;exact zN o (S _ _ _ A (Zv hE (by omega)))
   ·obtain ⟨y,E,A,o⟩:=zj h
    exact M _ _ _ _ o (V _ _ _ A hE)
  ·rw [zk] at h
   split at h
   ·rename_i D
    obtain ⟨y,E,A,o⟩:=zj h;obtain ⟨z,J,G,H⟩:=zj o;exact M _ _ _ _ H (Zw G (i1 _ _ _ _ A (ZM hE D)))
   ·split at h
    ·rename_i D
     obtain ⟨y,E,A,o⟩:=zj h;exact M _ _ _ _ o (Yq A (ZM hE D))
    ·exact zN h hE
  ·rw [zt] at h
   split at h
   ·rename_i D;exact zN h (Zv hE (by omega))
   split at h
   ·rename_i D;exact zN h (Zv hE (by omega))
   split at h
   ·rename_i D
    have R:=Zv hE (by omega)
    split at h
    ·obtain ⟨y,E,A,o⟩:=zj h
     exact zN o (T _ _ _ A R)
    ·exact zN h R
   split at h
   ·rename_i D;exact zN h (ZM hE D)
   split at h
   ·rename_i D;exact zN h (ZM hE D)
   split at h
   ·rename_i D
    obtain ⟨y,E,A,o⟩:=zj h;obtain ⟨z,J,G,H⟩:=zj o;exact zN H (T _ _ _ G (Yq A (ZM hE D)))
   split at h
   ·rename_i D
    obtain ⟨y,E,A,o⟩:=zj h;obtain ⟨z,J,G,H⟩:=zj o;exact zN H (Zw G (N _ _ _ _ A (ZM hE D)))
   ·obtain ⟨y,E,A,o⟩:=zj h
    obtain ⟨z,J,G,H⟩:=zj o;obtain ⟨U,K,L,O⟩:=zj H;exact zN O (Zw L (i1 _ _ _ _ G (Zw A hE)))
  ·rw [Zu] at h
   obtain ⟨y,E,A,o⟩:=zj h;have I:=i1 _ _ _ _ A hE
   split at o
   ·rename_i D;exact N _ _ _ _ o (ZM I D)
   ·exact zN o I
  ·rw [zu] at h
   obtain ⟨y,E,A,o⟩:=zj h;have I:=Zw A hE
   split at o
   ·rename_i D;exact zN o (ZM I D)
   ·obtain ⟨z,J,G,H⟩:=zj o
    obtain ⟨U,K,L,O⟩:=zj H;exact zN O (Zw L (N _ _ _ _ G I))
def Zi {α:Type} (p:Nat→Option (PR α)) (n:Nat):Prop:=∃f r,(∀k,p (f+k)=some r)∧∀x us,r=.ok (x,us)→us.length≤n
theorem Z4 {ts:List Tk} (h:(zK ts).k≠0):ts.tail.length+1=ts.length:=by
 cases ts with
 | nil=>exact absurd rfl h
 | cons t us=>simp
theorem ZD {ts:List Tk} {s:List UInt8} (h:zn (zK ts) s=true):ts.tail.length+1=ts.length:=Z4 (zf h)
theorem Zi.then {α β:Type} {p:Nat→Option (PR α)} {q:Nat→α→List Tk→Option (PR β)} {n m:Nat} (h:Zi p n) (hq:∀x us,us.length≤n→Zi (fun f=>q f x us) m):Zi (fun f=>zm (p f) (q f)) m:=by
 obtain ⟨f,r,o,E⟩:=h;cases r with
 | error a=>exact ⟨f,.error a,fun k=>by simp [zm,o k],fun x us h=>by cases h⟩
 | ok y =>
  obtain ⟨g,s,D,A⟩:=hq y.1 y.2 (E _ _ rfl);refine ⟨f+g,s,fun k=>?_,A⟩
  have z:=o (g+k);have e:=D (f+k);rw [show f+(g+k)=f+g+k by omega] at z
  rw [show g+(f+k)=f+g+k by omega] at e
  simp only [zm,z];exact e
theorem zz {α:Type} (x:α) (us:List Tk) {n:Nat} (h:us.length≤n):Zi (fun _=>(some (.ok (x,us)):Option (PR α))) n:=⟨0,.ok (x,us),fun _=>rfl,fun y vs h'=>by cases h';exact h⟩
theorem ZO (s:List UInt8) (ts:List Tk) {n:Nat} (h:ts.length≤n+1):Zi (fun _=>Zb s ts) n:=by
 refine ⟨0,_,fun _=>rfl,fun x us h'=>?_⟩
 split at h'
 ·rename_i e;have:=ZD e;cases h';omega
 ·cases h'
theorem YY (ts:List Tk) {n:Nat} (h:ts.length≤n+1):Zi (fun _=>yF ts) n:=by
 refine ⟨0,_,fun _=>rfl,fun x us h'=>?_⟩
 split at h'
 ·rename_i e;have:=Z4 (ts:=ts) (by omega);cases h';omega
 ·cases h'
theorem Zi.step {α:Type} {p q:Nat→Option (PR α)} {n:Nat} (h:Zi q n) (hp:∀f,p (f+1)=q f):Zi p n:=by
 obtain ⟨f,r,o,e⟩:=h;exact ⟨f+1,r,fun k=>by rw [show f+1+k=f+k+1 by omega,hp];exact o k,e⟩
theorem Zi.le {α:Type} {p:Nat→Option (PR α)} {n m:Nat} (h:Zi p n) (hm:n≤m):Zi p m:=by
 obtain ⟨f,r,o,e⟩:=h;exact ⟨f,r,o,fun x us h=>Nat.le_trans (e x us h) hm⟩
theorem Yr {α:Type} (a:Nat) (n:Nat):Zi (fun _=>(some (.error a):Option (PR α))) n:=⟨0,.error a,fun _=>rfl,fun _ _ h=>by cases h⟩
theorem yY (n:Nat):∀ts:List Tk,ts.length≤n→(∀o,Zi (fun f=>zd f o ts) (n-1))∧(∀pre,Zi (fun f=>Zu f pre ts) (n-1))∧(∀o e,Zi (fun f=>zP f o e ts) n)∧(∀e,Zi (fun f=>zk f e ts) n)∧Zi (fun f=>zu f ts) (n-1)∧Zi (fun f=>zQ f ts) (n-1):=by
 induction n with
 | zero =>
  intro ts D;obtain rfl:ts=[]:=List.length_eq_zero_iff.1 (by omega)
  have G:Zi (fun f=>zt f []) 0:=(Yr 0 0).step fun f=>by simp [zt,zK,zn,zm,Zb]
  have N:∀e,Zi (fun f=>zk f e []) 0:=fun e=>(zz e [] (n:=0) (by simp)).step fun f=>by simp [zk,zK,zn]
  have E:∀o e,Zi (fun f=>zP f o e []) 0:=fun o e=>(zz e [] (n:=0) (by simp)).step fun f=>by simp [zP,zK]
  have A:Zi (fun f=>zQ f []) 0:=(G.then (q:=fun f e ts=>zk f e ts) (m:=0) fun e us hu=>by
   obtain rfl:us=[]:=List.length_eq_zero_iff.1 (by omega)
   exact N e).step fun f=>by simp [zQ,zK]
  have y:∀d o,7-o≤d→Zi (fun f=>zd f o []) 0:=fun d=>by
   induction d with
   | zero=>intro o z;exact A.step fun f=>by rw [zd,if_pos (by omega)]
   | succ d ih =>
    intro o z
    by_cases hc:6<o
    ·exact A.step fun f=>by rw [zd,if_pos hc]
    ·exact ((ih (o+1) (by omega)).then (q:=fun f e ts=>zP f o e ts) (m:=0) fun e us hu=>by
      obtain rfl:us=[]:=List.length_eq_zero_iff.1 (by omega)
      exact E o e).step fun f=>by rw [zd,if_neg hc]
  refine ⟨fun o=>y _ o (Nat.le_refl _),fun pre=>?_,E,N,?_,A⟩
  ·exact ((y _ 1 (Nat.le_refl _)).then (q:=fun f e ts=>if zn (zK ts) [44]=true then Zu f (pre++[e]) ts.tail else some (.ok (pre++[e],ts))) (m:=0) fun e us hu=>by
    obtain rfl:us=[]:=List.length_eq_zero_iff.1 (by omega)
    simpa [zK,zn] using zz (pre++[e]) [] (n:=0) (by simp)).step fun f=>by rw [Zu]
  ·exact (Yr 0 0).step fun f=>by simp [zu,zK,zn,zm,Zb]
 | succ n ih =>
  intro ts D;have B:=fun ts h o=>(ih ts h).1 o
  have J:=fun ts h pre=>(ih ts h).2.1 pre
  have M:=fun ts h o e=>(ih ts h).2.2.1 o e
  have K:=fun ts h e=>(ih ts h).2.2.2.1 e
  have L:=fun ts h=>(ih ts h).2.2.2.2.1
  have O:=fun ts h=>(ih ts h).2.2.2.2.2
  have H:Zi (fun f=>zu f ts) (n+1-1):=by
   refine ((ZO [40] ts (n:=n) D).then (q:=fun f _ ts=>if zn (zK ts) [41]=true then some (.ok ([],ts.tail)) else zm (Zu f [] ts) fun l ts=>zm (Zb [41] ts) fun _ ts=>some (.ok (l,ts))) (m:=n) fun _ us hu=>?_).step fun f=>by rw [zu]
   by_cases hc:zn (zK us) [41]=true
   ·simp only [if_pos hc];exact zz _ _ (by simp;omega)
   ·simp only [if_neg hc]
    exact (J us hu []).then (q:=fun _ l ts=>zm (Zb [41] ts) fun _ ts=>some (.ok (l,ts))) fun l vs hv=>(ZO [41] vs (n:=n) (by omega)).then (q:=fun _ _ ts=>some (.ok (l,ts))) fun _ xs hx=>zz _ _ hx
  have E:∀o e,Zi (fun f=>zP f o e ts) (n+1):=fun o e=>by
   by_cases hc:(zK ts).k=4∧levelOf (zK ts).s=o
   ·have x:=Z4 (ts:=ts) (by omega)
    exact ((B ts.tail (by omega) (o+1)).then (q:=fun f e2 ts'=>zP f o (Ex.mk 7 (zK ts).s 0 [e,e2] e.line) ts') (m:=n+1) fun e2 us hu=>(M us (by omega) o _).le (by omega)).step fun f=>by rw [zP,if_pos hc]
   ·exact (zz e ts D).step fun f=>by rw [zP,if_neg hc]
  have I:∀e,Zi (fun f=>zk f e ts) (n+1):=fun e=>by
   by_cases hc:zn (zK ts) [91]=true
   ·have x:=ZD hc
    exact ((B ts.tail (by omega) 1).then (q:=fun f i ts=>zm (Zb [93] ts) fun _ ts=>zk f (Ex.mk 8 [] 0 [e,i] e.line) ts) (m:=n+1) fun i us hu =>
     (ZO [93] us (n:=n) (by omega)).then (q:=fun f _ ts=>zk f (Ex.mk 8 [] 0 [e,i] e.line) ts) fun _ vs hv=>(K vs hv _).le (by omega)).step fun f=>by rw [zk,if_pos hc]
   ·by_cases z:zn (zK ts) [46]=true
    ·have x:=ZD z
     exact ((YY ts.tail (n:=n) (by omega)).then (q:=fun f s ts=>zk f (Ex.mk 9 s 0 [e] e.line) ts) (m:=n+1) fun s us hu=>(K us hu _).le (by omega)).step fun f=>by rw [zk,if_neg hc,if_pos z]
    ·exact (zz e ts D).step fun f=>by rw [zk,if_neg hc,if_neg z]
  have G:Zi (fun f=>zt f ts) n:=by
   by_cases c1:(zK ts).k=2
   ·have x:=Z4 (ts:=ts) (by omega)
    exact (zz (Ex.mk 1 [] (zK ts).n [] (zK ts).line) ts.tail (n:=n) (by omega)).step fun f=>by rw [zt,if_pos c1]
   by_cases c2:(zK ts).k=3
   ·have x:=Z4 (ts:=ts) (by omega)
    exact (zz (Ex.mk 3 (zK ts).s 0 [] (zK ts).line) ts.tail (n:=n) (by omega)).step fun f=>by rw [zt,if_neg c1,if_pos c2]
   by_cases c3:(zK ts).k=1
   ·have x:=Z4 (ts:=ts) (by omega)
    by_cases d:zn (zK ts.tail) [40]=true
    ·exact ((L ts.tail (by omega)).then (q:=fun _ l ts'=>some (.ok (Ex.mk 5 (zK ts).s 0 l (zK ts).line,ts'))) (m:=n) fun l us hu=>zz _ _ (by omega)).step fun f=>by rw [zt,if_neg c1,if_neg c2,if_pos c3,if_pos d]
    ·exact (zz (Ex.mk 4 (zK ts).s 0 [] (zK ts).line) ts.tail (n:=n) (by omega)).step fun f=>by rw [zt,if_neg c1,if_neg c2,if_pos c3,if_neg d]
   by_cases c4:zn (zK ts) [116,114,117,101]=true
   ·have x:=ZD c4
    exact (zz (Ex.mk 2 [] 1 [] (zK ts).line) ts.tail (n:=n) (by omega)).step fun f=>by rw [zt,if_neg c1,if_neg c2,if_neg c3,if_pos c4]
   by_cases c5:zn (zK ts) [102,97,108,115,101]=true
   ·have x:=ZD c5
    exact (zz (Ex.mk 2 [] 0 [] (zK ts).line) ts.tail (n:=n) (by omega)).step fun f=>by rw [zt,if_neg c1,if_neg c2,if_neg c3,if_neg c4,if_pos c5]
   by_cases c6:zn (zK ts) [110,101,119]=true
   ·have x:=ZD c6
    exact ((YY ts.tail (n:=n) (by omega)).then (q:=fun f s ts'=>zm (zu f ts') fun l ts'=>some (.ok (Ex.mk 11 s 0 l (zK ts).line,ts'))) (m:=n) fun s us hu =>
     (L us hu).then (q:=fun _ l ts'=>some (.ok (Ex.mk 11 s 0 l (zK ts).line,ts'))) fun l vs hv=>zz _ _ (by omega)).step fun f=>by rw [zt,if_neg c1,if_neg c2,if_neg c3,if_neg c4,if_neg c5,if_pos c6]
   by_cases c7:zn (zK ts) [91]=true
   ·have x:=ZD c7
    exact ((J ts.tail (by omega) []).then (q:=fun _ l ts'=>zm (Zb [93] ts') fun _ ts'=>some (.ok (Ex.mk 10 [] 0 l (zK ts).line,ts'))) (m:=n) fun l us hu =>
     (ZO [93] us (n:=n) (by omega)).then (q:=fun _ _ ts'=>some (.ok (Ex.mk 10 [] 0 l (zK ts).line,ts'))) fun _ vs hv=>zz _ _ (by omega)).step fun f=>by rw [zt,if_neg c1,if_neg c2,if_neg c3,if_neg c4,if_neg c5,if_neg c6,if_pos c7]
   ·exact ((ZO [40] ts (n:=n) D).then (q:=fun f _ ts=>zm (zd f 1 ts) fun e ts=>zm (Zb [41] ts) fun _ ts=>some (.ok (e,ts))) (m:=n) fun _ us hu =>
     (B us hu 1).then (q:=fun _ e ts=>zm (Zb [41] ts) fun _ ts=>some (.ok (e,ts))) fun e vs hv=>(ZO [41] vs (n:=n) (by omega)).then (q:=fun _ _ ts=>some (.ok (e,ts))) fun _ xs hx=>zz _ _ hx).step fun f=>by rw [zt,if_neg c1,if_neg c2,if_neg c3,if_neg c4,if_neg c5,if_neg c6,if_neg c7]
  have A:Zi (fun f=>zQ f ts) n:=by
   by_cases hc:(zK ts).k=4∧((zK ts).s=[45]∨(zK ts).s=[33])
   ·have x:=Z4 (ts:=ts) (by omega)
    exact ((O ts.tail (by omega)).then (q:=fun _ e ts'=>some (.ok (Ex.mk 6 (zK ts).s 0 [e] (zK ts).line,ts'))) (m:=n) fun e us hu=>zz _ _ (by omega)).step fun f=>by rw [zQ,if_pos hc]
   ·exact (G.then (q:=fun f e ts=>zk f e ts) (m:=n) fun e us hu=>K us hu e).step fun f=>by rw [zQ,if_neg hc]
  have y:∀d o,7-o≤d→Zi (fun f=>zd f o ts) n:=fun d=>by
   induction d with
   | zero=>intro o z;exact A.step fun f=>by rw [zd,if_pos (by omega)]
   | succ d ih =>
    intro o z
    by_cases hc:6<o
    ·exact A.step fun f=>by rw [zd,if_pos hc]
    ·exact ((ih (o+1) (by omega)).then (q:=fun f e ts=>zP f o e ts) (m:=n) fun e us hu=>M us hu o e).step fun f=>by rw [zd,if_neg hc]
  refine ⟨fun o=>y _ o (Nat.le_refl _),fun pre=>?_,E,I,H,A⟩
  refine ((y _ 1 (Nat.le_refl _)).then (q:=fun f e ts=>if zn (zK ts) [44]=true then Zu f (pre++[e]) ts.tail else some (.ok (pre++[e],ts))) (m:=n) fun e us hu=>?_).step fun f=>by rw [Zu]
  by_cases hc:zn (zK us) [44]=true
  ·simp only [if_pos hc]
   have x:=ZD hc;exact (J us.tail (by omega) (pre++[e])).le (by omega)
  ·simp only [if_neg hc]
   exact zz _ _ hu
end Go.Proofs.YtmbofhpmockmbaaGreatDoor
