import Derived.Test.YtcphojjpapgblaaGreatDoorMC27
namespace Go.Proofs.YtcphojjpapgblaaGreatDoor
open Go.RowKit Go.Shelf
abbrev RS:=Bool × List Tk
def VT (s:List UInt8) (σ:RS):Bool:=!σ.1&&zm (zu σ.2) s
def vW (s:List UInt8) (σ:RS):RS:=if VT s σ=true then (false,σ.2.tail) else (true,σ.2)
def QF (σ:RS):List UInt8 × RS:=if σ.1=false∧(zu σ.2).k=1 then ((zu σ.2).s,(false,σ.2.tail)) else ([],(true,σ.2))
mutual
def vu:Nat→Nat→RS→Option (Ex × RS)
 | 0,_,_=>none
 | f+1,line,σ=>if line=6 then zcM f σ else (vu f (line+1) σ).bind fun q=>zhM f line q.1 q.2
def zhM:Nat→Nat→Ex→RS→Option (Ex × RS)
 | 0,_,_,_=>none
 | f+1,line,e,σ=>if σ.1=false∧(zu σ.2).k=4∧levelOf (zu σ.2).s=line+1 then (vu f (line+1) (false,σ.2.tail)).bind fun q=>zhM f line (.mk 7 (zu σ.2).s 0 [e,q.1] e.line) q.2 else some (e,σ)
def zcM:Nat→RS→Option (Ex × RS)
 | 0,_=>none
 | f+1,σ =>
  if VT [45] σ=true then (zcM f (false,σ.2.tail)).bind fun q=>some (.mk 6 [45] 0 [q.1] (zu σ.2).line,q.2)
  else if VT [33] σ=true then (zcM f (false,σ.2.tail)).bind fun q=>some (.mk 6 [33] 0 [q.1] (zu σ.2).line,q.2)
  else (zhs f σ).bind fun q=>zap f q.1 q.2
def zap:Nat→Ex→RS→Option (Ex × RS)
 | 0,_,_=>none
 | f+1,e,σ =>
  if VT [91] σ=true then (vu f 0 (false,σ.2.tail)).bind fun q=>zap f (.mk 8 [] 0 [e,q.1] e.line) (vW [93] q.2)
  else if VT [46] σ=true then zap f (.mk 9 (QF (false,σ.2.tail)).1 0 [e] e.line) (QF (false,σ.2.tail)).2
  else some (e,σ)
def zhs:Nat→RS→Option (Ex × RS)
 | 0,_=>none
 | f+1,σ =>
  if σ.1=true then some (.mk 0 [] 0 [] (zu σ.2).line,σ)
  else if (zu σ.2).k=2 then some (.mk 1 [] (zu σ.2).n [] (zu σ.2).line,(false,σ.2.tail))
  else if (zu σ.2).k=3 then some (.mk 3 (zu σ.2).s 0 [] (zu σ.2).line,(false,σ.2.tail))
  else if zm (zu σ.2) [116,114,117,101]=true then some (.mk 2 [] 1 [] (zu σ.2).line,(false,σ.2.tail))
  else if zm (zu σ.2) [102,97,108,115,101]=true then some (.mk 2 [] 0 [] (zu σ.2).line,(false,σ.2.tail))
  else if zm (zu σ.2) [110,101,119]=true then (zf2 f [41] false (vW [40] (QF (false,σ.2.tail)).2)).bind fun l=>some (.mk 11 (QF (false,σ.2.tail)).1 0 l.1 (zu σ.2).line,l.2)
  else if zm (zu σ.2) [91]=true then (zf2 f [93] true (false,σ.2.tail)).bind fun l=>some (.mk 10 [] 0 l.1 (zu σ.2).line,l.2)
  else if zm (zu σ.2) [40]=true then (vu f 0 (false,σ.2.tail)).bind fun q=>some (q.1,vW [41] q.2)
  else if (zu σ.2).k=1 then
   if zm (zu σ.2.tail) [40]=true then (zf2 f [41] false (false,σ.2.tail.tail)).bind fun l=>some (.mk 5 (zu σ.2).s 0 l.1 (zu σ.2).line,l.2)
   else some (.mk 4 (zu σ.2).s 0 [] (zu σ.2).line,(false,σ.2.tail))
  else some (.mk 0 [] 0 [] (zu σ.2).line,(true,σ.2))
def zf2:Nat→List UInt8→Bool→RS→Option (List Ex × RS)
 | 0,_,_,_=>none
 | f+1,end0,some0,σ=>if some0=false∧VT end0 σ=true then some ([],(false,σ.2.tail)) else (zjh f [] σ).bind fun l=>some (l.1,vW end0 l.2)
def zjh:Nat→List Ex→RS→Option (List Ex × RS)
 | 0,_,_=>none
 | f+1,pre,σ=>if σ.1=true then some (pre,σ) else (vu f 0 σ).bind fun q=>if VT [44] q.2=true then zjh f (pre++[q.1]) (false,q.2.2.tail) else some (pre++[q.1],q.2)
end
def WdT (t:Tk):Prop:=t.k=5→t.s≠[45]∧t.s≠[33]
def zf3 (ts:List Tk):Prop:=∀t∈ts,WdT t
theorem zf3.tail {ts:List Tk} (h:zf3 ts):zf3 ts.tail:=fun t ht=>h t (List.mem_of_mem_tail ht)
theorem zf3.hd {ts:List Tk} (h:zf3 ts):WdT (zu ts):=by
 cases ts with
 | nil=>intro o;simp [zu] at o
 | cons t us=>exact h t (List.mem_cons_self ..)
theorem Zv {s:List UInt8} {ts us:List Tk} {y:Unit} (h:zR s ts=some (.ok (y,us))) {P:Tk→Prop} (hE:∀t∈ts,P t):∀t∈us,P t:=by
 unfold zR at h
 split at h
 ·simp only [Option.some.injEq,Except.ok.injEq,Prod.mk.injEq] at h
  rw [←h.2];exact fun t ht=>hE t (List.mem_of_mem_tail ht)
 ·cases h
theorem Yi {s:List UInt8} {ts us:List Tk} (h:Z6 ts=some (.ok (s,us))) {P:Tk→Prop} (hE:∀t∈ts,P t):∀t∈us,P t:=by
 unfold Z6 at h
 split at h
 ·simp only [Option.some.injEq,Except.ok.injEq,Prod.mk.injEq] at h
  rw [←h.2];exact fun t ht=>hE t (List.mem_of_mem_tail ht)
 ·cases h
theorem zz {ts:List Tk} {P:Tk→Prop} (hE:∀t∈ts,P t):∀t∈ts.tail,P t:=fun t ht=>hE t (List.mem_of_mem_tail ht)
theorem qi {P:Tk→Prop} (f:Nat) :
  (∀least ts x us,zg f least ts=some (.ok (x,us))→(∀t∈ts,P t)→∀t∈us,P t)∧(∀least e ts x us,Zs f least e ts=some (.ok (x,us))→(∀t∈ts,P t)→∀t∈us,P t) ∧
  (∀ts x us,Zm f ts=some (.ok (x,us))→(∀t∈ts,P t)→∀t∈us,P t)∧(∀e ts x us,zx f e ts=some (.ok (x,us))→(∀t∈ts,P t)→∀t∈us,P t)∧(∀ts x us,zH f ts=some (.ok (x,us))→(∀t∈ts,P t)→∀t∈us,P t) ∧
  (∀pre ts x us,Z1 f pre ts=some (.ok (x,us))→(∀t∈ts,P t)→∀t∈us,P t)∧(∀ts x us,zG f ts=some (.ok (x,us))→(∀t∈ts,P t)→∀t∈us,P t):=by
 induction f with
 | zero=>refine ⟨?_,?_,?_,?_,?_,?_,?_⟩ <;> intros <;> simp_all [zg,Zs,Zm,zx,zH,Z1,zG]
 | succ f ih =>
  obtain ⟨I,U,V,N,Y,T,W⟩:=ih;refine ⟨fun least ts x us h hE=>?_,fun least e ts x us h hE=>?_,fun ts x us h hE=>?_,fun e ts x us h hE=>?_,fun ts x us h hE=>?_,fun pre ts x us h hE=>?_,fun ts x us h hE=>?_⟩
  ·rw [zg] at h
   split at h
   ·exact V _ _ _ h hE
   ·obtain ⟨y,D,A,o⟩:=za h
    exact U _ _ _ _ _ o (I _ _ _ _ A hE)
  ·rw [Zs] at h
   split at h
   ·obtain ⟨y,D,A,o⟩:=za h
    exact U _ _ _ _ _ o (I _ _ _ _ A (zz hE))
   ·obtain ⟨rfl,rfl⟩:=zq h;exact hE
  ·rw [Zm] at h
   split at h
   ·obtain ⟨y,D,A,o⟩:=za h
    obtain ⟨rfl,rfl⟩:=zq o;exact V _ _ _ A (zz hE)
   ·obtain ⟨y,D,A,o⟩:=za h
    exact N _ _ _ _ o (Y _ _ _ A hE)
  ·rw [zx] at h
   split at h
   ·obtain ⟨y,D,A,o⟩:=za h
    obtain ⟨z,L,H,G⟩:=za o;exact N _ _ _ _ G (Zv H (I _ _ _ _ A (zz hE)))
   split at h
   ·obtain ⟨y,D,A,o⟩:=za h
    exact N _ _ _ _ o (Yi A (zz hE))
   ·obtain ⟨rfl,rfl⟩:=zq h;exact hE
  ·rw [zH] at h
   split at h
   ·obtain ⟨rfl,rfl⟩:=zq h;exact zz hE
   split at h
   ·obtain ⟨rfl,rfl⟩:=zq h;exact zz hE
   split at h
   ·split at h
    ·obtain ⟨y,D,A,o⟩:=za h
     obtain ⟨rfl,rfl⟩:=zq o;exact W _ _ _ A (zz hE)
    ·obtain ⟨rfl,rfl⟩:=zq h;exact zz hE
   split at h
   ·obtain ⟨rfl,rfl⟩:=zq h;exact zz hE
   split at h
   ·obtain ⟨rfl,rfl⟩:=zq h;exact zz hE
   split at h
   ·obtain ⟨y,D,A,o⟩:=za h
    obtain ⟨z,L,H,G⟩:=za o;obtain ⟨rfl,rfl⟩:=zq G;exact W _ _ _ H (Yi A (zz hE))
   split at h
   ·obtain ⟨y,D,A,o⟩:=za h
    obtain ⟨z,L,H,G⟩:=za o;obtain ⟨rfl,rfl⟩:=zq G;exact Zv H (T _ _ _ _ A (zz hE))
   ·obtain ⟨y,D,A,o⟩:=za h
    obtain ⟨z,L,H,G⟩:=za o;obtain ⟨X,O,Q,R⟩:=za G;obtain ⟨rfl,rfl⟩:=zq R;exact Zv Q (I _ _ _ _ H (Zv A hE))
  ·rw [Z1] at h
   obtain ⟨y,D,A,o⟩:=za h;have J:=I _ _ _ _ A hE
   split at o
   ·exact T _ _ _ _ o (zz J)
   ·obtain ⟨rfl,rfl⟩:=zq o;exact J
  ·rw [zG] at h
   obtain ⟨y,D,A,o⟩:=za h;have J:=Zv A hE
   split at o
   ·obtain ⟨rfl,rfl⟩:=zq o;exact zz J
   ·obtain ⟨z,L,H,G⟩:=za o
    obtain ⟨X,O,Q,R⟩:=za G;obtain ⟨rfl,rfl⟩:=zq R;exact Zv Q (T _ _ _ _ H J)
theorem xS (ts:List Tk):ts.tail.length≤ts.length:=by simp
end Go.Proofs.YtcphojjpapgblaaGreatDoor
