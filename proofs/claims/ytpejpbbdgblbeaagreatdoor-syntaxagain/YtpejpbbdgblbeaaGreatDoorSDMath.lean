import Derived.Test.YtpejpbbdgblbeaaGreatDoorMC29
namespace Go.Proofs.YtpejpbbdgblbeaaGreatDoor
open Go.RowKit Go.Shelf
abbrev RS:=Bool × List Tk
def VP (s:List UInt8) (σ:RS):Bool:=!σ.1&&zm (zv σ.2) s
def vW (s:List UInt8) (σ:RS):RS:=if VP s σ=true then (false,σ.2.tail) else (true,σ.2)
def Qi (σ:RS):List UInt8 × RS:=if σ.1=false∧(zv σ.2).k=1 then ((zv σ.2).s,(false,σ.2.tail)) else ([],(true,σ.2))
mutual
def vt:Nat→Nat→RS→Option (Ex × RS)
 | 0,_,_=>none
 | f+1,line,σ=>if line=6 then zcg f σ else (vt f (line+1) σ).bind fun q=>zhs f line q.1 q.2
def zhs:Nat→Nat→Ex→RS→Option (Ex × RS)
 | 0,_,_,_=>none
 | f+1,line,e,σ=>if σ.1=false∧(zv σ.2).k=4∧levelOf (zv σ.2).s=line+1 then (vt f (line+1) (false,σ.2.tail)).bind fun q=>zhs f line (.mk 7 (zv σ.2).s 0 [e,q.1] e.line) q.2 else some (e,σ)
def zcg:Nat→RS→Option (Ex × RS)
 | 0,_=>none
 | f+1,σ =>
  if VP [45] σ=true then (zcg f (false,σ.2.tail)).bind fun q=>some (.mk 6 [45] 0 [q.1] (zv σ.2).line,q.2)
  else if VP [33] σ=true then (zcg f (false,σ.2.tail)).bind fun q=>some (.mk 6 [33] 0 [q.1] (zv σ.2).line,q.2)
  else (zgO f σ).bind fun q=>QX f q.1 q.2
def QX:Nat→Ex→RS→Option (Ex × RS)
 | 0,_,_=>none
 | f+1,e,σ =>
  if VP [91] σ=true then (vt f 0 (false,σ.2.tail)).bind fun q=>QX f (.mk 8 [] 0 [e,q.1] e.line) (vW [93] q.2)
  else if VP [46] σ=true then QX f (.mk 9 (Qi (false,σ.2.tail)).1 0 [e] e.line) (Qi (false,σ.2.tail)).2
  else some (e,σ)
def zgO:Nat→RS→Option (Ex × RS)
 | 0,_=>none
 | f+1,σ =>
  if σ.1=true then some (.mk 0 [] 0 [] (zv σ.2).line,σ)
  else if (zv σ.2).k=2 then some (.mk 1 [] (zv σ.2).n [] (zv σ.2).line,(false,σ.2.tail))
  else if (zv σ.2).k=3 then some (.mk 3 (zv σ.2).s 0 [] (zv σ.2).line,(false,σ.2.tail))
  else if zm (zv σ.2) [116,114,117,101]=true then some (.mk 2 [] 1 [] (zv σ.2).line,(false,σ.2.tail))
  else if zm (zv σ.2) [102,97,108,115,101]=true then some (.mk 2 [] 0 [] (zv σ.2).line,(false,σ.2.tail))
  else if zm (zv σ.2) [110,101,119]=true then (zfj f [41] false (vW [40] (Qi (false,σ.2.tail)).2)).bind fun l=>some (.mk 11 (Qi (false,σ.2.tail)).1 0 l.1 (zv σ.2).line,l.2)
  else if zm (zv σ.2) [91]=true then (zfj f [93] true (false,σ.2.tail)).bind fun l=>some (.mk 10 [] 0 l.1 (zv σ.2).line,l.2)
  else if zm (zv σ.2) [40]=true then (vt f 0 (false,σ.2.tail)).bind fun q=>some (q.1,vW [41] q.2)
  else if (zv σ.2).k=1 then
   if zm (zv σ.2.tail) [40]=true then (zfj f [41] false (false,σ.2.tail.tail)).bind fun l=>some (.mk 5 (zv σ.2).s 0 l.1 (zv σ.2).line,l.2)
   else some (.mk 4 (zv σ.2).s 0 [] (zv σ.2).line,(false,σ.2.tail))
  else some (.mk 0 [] 0 [] (zv σ.2).line,(true,σ.2))
def zfj:Nat→List UInt8→Bool→RS→Option (List Ex × RS)
 | 0,_,_,_=>none
 | f+1,end0,some0,σ=>if some0=false∧VP end0 σ=true then some ([],(false,σ.2.tail)) else (ziU f [] σ).bind fun l=>some (l.1,vW end0 l.2)
def ziU:Nat→List Ex→RS→Option (List Ex × RS)
 | 0,_,_=>none
 | f+1,pre,σ=>if σ.1=true then some (pre,σ) else (vt f 0 σ).bind fun q=>if VP [44] q.2=true then ziU f (pre++[q.1]) (false,q.2.2.tail) else some (pre++[q.1],q.2)
end
def WdT (t:Tk):Prop:=t.k=5→t.s≠[45]∧t.s≠[33]
def zfk (ts:List Tk):Prop:=∀t∈ts,WdT t
theorem zfk.tail {ts:List Tk} (h:zfk ts):zfk ts.tail:=fun t ht=>h t (List.mem_of_mem_tail ht)
theorem zfk.hd {ts:List Tk} (h:zfk ts):WdT (zv ts):=by
 cases ts with
 | nil=>intro o;simp [zv] at o
 | cons t us=>exact h t (List.mem_cons_self ..)
theorem Zb {s:List UInt8} {ts us:List Tk} {y:Unit} (h:zR s ts=some (.ok (y,us))) {P:Tk→Prop} (hE:∀t∈ts,P t):∀t∈us,P t:=by
 unfold zR at h
 split at h
 ·simp only [Option.some.injEq,Except.ok.injEq,Prod.mk.injEq] at h
  rw [←h.2];exact fun t ht=>hE t (List.mem_of_mem_tail ht)
 ·cases h
theorem Z9 {s:List UInt8} {ts us:List Tk} (h:Z3 ts=some (.ok (s,us))) {P:Tk→Prop} (hE:∀t∈ts,P t):∀t∈us,P t:=by
 unfold Z3 at h
 split at h
 ·simp only [Option.some.injEq,Except.ok.injEq,Prod.mk.injEq] at h
  rw [←h.2];exact fun t ht=>hE t (List.mem_of_mem_tail ht)
 ·cases h
theorem zt {ts:List Tk} {P:Tk→Prop} (hE:∀t∈ts,P t):∀t∈ts.tail,P t:=fun t ht=>hE t (List.mem_of_mem_tail ht)
theorem vu {P:Tk→Prop} (f:Nat) :
  (∀least ts x us,zf f least ts=some (.ok (x,us))→(∀t∈ts,P t)→∀t∈us,P t)∧(∀least e ts x us,Zp f least e ts=some (.ok (x,us))→(∀t∈ts,P t)→∀t∈us,P t) ∧
  (∀ts x us,Zg f ts=some (.ok (x,us))→(∀t∈ts,P t)→∀t∈us,P t)∧(∀e ts x us,zw f e ts=some (.ok (x,us))→(∀t∈ts,P t)→∀t∈us,P t)∧(∀ts x us,zC f ts=some (.ok (x,us))→(∀t∈ts,P t)→∀t∈us,P t) ∧
  (∀pre ts x us,ZY f pre ts=some (.ok (x,us))→(∀t∈ts,P t)→∀t∈us,P t)∧(∀ts x us,zA f ts=some (.ok (x,us))→(∀t∈ts,P t)→∀t∈us,P t):=by
 induction f with
 | zero=>refine ⟨?_,?_,?_,?_,?_,?_,?_⟩ <;> intros <;> simp_all [zf,Zp,Zg,zw,zC,ZY,zA]
 | succ f ih =>
  obtain ⟨J,V,U,R,Z,N,W⟩:=ih;refine ⟨fun least ts x us h hE=>?_,fun least e ts x us h hE=>?_,fun ts x us h hE=>?_,fun e ts x us h hE=>?_,fun ts x us h hE=>?_,fun pre ts x us h hE=>?_,fun ts x us h hE=>?_⟩
  ·rw [zf] at h
   split at h
   ·exact U _ _ _ h hE
   ·obtain ⟨y,D,A,o⟩:=za h
    exact V _ _ _ _ _ o (J _ _ _ _ A hE)
  ·rw [Zp] at h
   split at h
   ·obtain ⟨y,D,A,o⟩:=za h
    exact V _ _ _ _ _ o (J _ _ _ _ A (zt hE))
   ·obtain ⟨rfl,rfl⟩:=zk h;exact hE
  ·rw [Zg] at h
   split at h
   ·obtain ⟨y,D,A,o⟩:=za h
    obtain ⟨rfl,rfl⟩:=zk o;exact U _ _ _ A (zt hE)
   ·obtain ⟨y,D,A,o⟩:=za h
    exact R _ _ _ _ o (Z _ _ _ A hE)
  ·rw [zw] at h
   split at h
   ·obtain ⟨y,D,A,o⟩:=za h
    obtain ⟨z,L,H,G⟩:=za o;exact R _ _ _ _ G (Zb H (J _ _ _ _ A (zt hE)))
   split at h
   ·obtain ⟨y,D,A,o⟩:=za h
    exact R _ _ _ _ o (Z9 A (zt hE))
   ·obtain ⟨rfl,rfl⟩:=zk h;exact hE
  ·rw [zC] at h
   split at h
   ·obtain ⟨rfl,rfl⟩:=zk h;exact zt hE
   split at h
   ·obtain ⟨rfl,rfl⟩:=zk h;exact zt hE
   split at h
   ·split at h
    ·obtain ⟨y,D,A,o⟩:=za h
     obtain ⟨rfl,rfl⟩:=zk o;exact W _ _ _ A (zt hE)
    ·obtain ⟨rfl,rfl⟩:=zk h;exact zt hE
   split at h
   ·obtain ⟨rfl,rfl⟩:=zk h;exact zt hE
   split at h
   ·obtain ⟨rfl,rfl⟩:=zk h;exact zt hE
   split at h
   ·obtain ⟨y,D,A,o⟩:=za h
    obtain ⟨z,L,H,G⟩:=za o;obtain ⟨rfl,rfl⟩:=zk G;exact W _ _ _ H (Z9 A (zt hE))
   split at h
   ·obtain ⟨y,D,A,o⟩:=za h
    obtain ⟨z,L,H,G⟩:=za o;obtain ⟨rfl,rfl⟩:=zk G;exact Zb H (N _ _ _ _ A (zt hE))
   ·obtain ⟨y,D,A,o⟩:=za h
    obtain ⟨z,L,H,G⟩:=za o;obtain ⟨Y,Q,T,O⟩:=za G;obtain ⟨rfl,rfl⟩:=zk O;exact Zb T (J _ _ _ _ H (Zb A hE))
  ·rw [ZY] at h
   obtain ⟨y,D,A,o⟩:=za h;have I:=J _ _ _ _ A hE
   split at o
   ·exact N _ _ _ _ o (zt I)
   ·obtain ⟨rfl,rfl⟩:=zk o;exact I
  ·rw [zA] at h
   obtain ⟨y,D,A,o⟩:=za h;have I:=Zb A hE
   split at o
   ·obtain ⟨rfl,rfl⟩:=zk o;exact zt I
   ·obtain ⟨z,L,H,G⟩:=za o
    obtain ⟨Y,Q,T,O⟩:=za G;obtain ⟨rfl,rfl⟩:=zk O;exact Zb T (N _ _ _ _ H I)
theorem xR (ts:List Tk):ts.tail.length≤ts.length:=by simp
end Go.Proofs.YtpejpbbdgblbeaaGreatDoor
