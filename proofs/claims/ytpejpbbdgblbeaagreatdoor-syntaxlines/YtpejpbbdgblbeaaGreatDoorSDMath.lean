import Derived.Test.YtpejpbbdgblbeaaGreatDoorMC29
namespace Go.Proofs.YtpejpbbdgblbeaaGreatDoor
open Go.RowKit Go.Shelf
abbrev RS:=Bool × List Tk
def Ve (s:List UInt8) (σ:RS):Bool:=!σ.1&&zo (zw σ.2) s
def vd (s:List UInt8) (σ:RS):RS:=if Ve s σ=true then (false,σ.2.tail) else (true,σ.2)
def qe (σ:RS):List UInt8 × RS:=if σ.1=false∧(zw σ.2).k=1 then ((zw σ.2).s,(false,σ.2.tail)) else ([],(true,σ.2))
mutual
def XM:Nat→Nat→RS→Option (Ex × RS)
 | 0,_,_=>none
 | f+1,line,σ=>if line=6 then zbf f σ else (XM f (line+1) σ).bind fun q=>zfr f line q.1 q.2
def zfr:Nat→Nat→Ex→RS→Option (Ex × RS)
 | 0,_,_,_=>none
 | f+1,line,e,σ=>if σ.1=false∧(zw σ.2).k=4∧levelOf (zw σ.2).s=line+1 then (XM f (line+1) (false,σ.2.tail)).bind fun q=>zfr f line (.mk 7 (zw σ.2).s 0 [e,q.1] e.line) q.2 else some (e,σ)
def zbf:Nat→RS→Option (Ex × RS)
 | 0,_=>none
 | f+1,σ =>
  if Ve [45] σ=true then (zbf f (false,σ.2.tail)).bind fun q=>some (.mk 6 [45] 0 [q.1] (zw σ.2).line,q.2)
  else if Ve [33] σ=true then (zbf f (false,σ.2.tail)).bind fun q=>some (.mk 6 [33] 0 [q.1] (zw σ.2).line,q.2)
  else (ze4 f σ).bind fun q=>qS f q.1 q.2
def qS:Nat→Ex→RS→Option (Ex × RS)
 | 0,_,_=>none
 | f+1,e,σ =>
  if Ve [91] σ=true then (XM f 0 (false,σ.2.tail)).bind fun q=>qS f (.mk 8 [] 0 [e,q.1] e.line) (vd [93] q.2)
  else if Ve [46] σ=true then qS f (.mk 9 (qe (false,σ.2.tail)).1 0 [e] e.line) (qe (false,σ.2.tail)).2
  else some (e,σ)
def ze4:Nat→RS→Option (Ex × RS)
 | 0,_=>none
 | f+1,σ =>
  if σ.1=true then some (.mk 0 [] 0 [] (zw σ.2).line,σ)
  else if (zw σ.2).k=2 then some (.mk 1 [] (zw σ.2).n [] (zw σ.2).line,(false,σ.2.tail))
  else if (zw σ.2).k=3 then some (.mk 3 (zw σ.2).s 0 [] (zw σ.2).line,(false,σ.2.tail))
  else if zo (zw σ.2) [116,114,117,101]=true then some (.mk 2 [] 1 [] (zw σ.2).line,(false,σ.2.tail))
  else if zo (zw σ.2) [102,97,108,115,101]=true then some (.mk 2 [] 0 [] (zw σ.2).line,(false,σ.2.tail))
  else if zo (zw σ.2) [110,101,119]=true then (zd2 f [41] false (vd [40] (qe (false,σ.2.tail)).2)).bind fun l=>some (.mk 11 (qe (false,σ.2.tail)).1 0 l.1 (zw σ.2).line,l.2)
  else if zo (zw σ.2) [91]=true then (zd2 f [93] true (false,σ.2.tail)).bind fun l=>some (.mk 10 [] 0 l.1 (zw σ.2).line,l.2)
  else if zo (zw σ.2) [40]=true then (XM f 0 (false,σ.2.tail)).bind fun q=>some (q.1,vd [41] q.2)
  else if (zw σ.2).k=1 then
   if zo (zw σ.2.tail) [40]=true then (zd2 f [41] false (false,σ.2.tail.tail)).bind fun l=>some (.mk 5 (zw σ.2).s 0 l.1 (zw σ.2).line,l.2)
   else some (.mk 4 (zw σ.2).s 0 [] (zw σ.2).line,(false,σ.2.tail))
  else some (.mk 0 [] 0 [] (zw σ.2).line,(true,σ.2))
def zd2:Nat→List UInt8→Bool→RS→Option (List Ex × RS)
 | 0,_,_,_=>none
 | f+1,end0,some0,σ=>if some0=false∧Ve end0 σ=true then some ([],(false,σ.2.tail)) else (zgS f [] σ).bind fun l=>some (l.1,vd end0 l.2)
def zgS:Nat→List Ex→RS→Option (List Ex × RS)
 | 0,_,_=>none
 | f+1,pre,σ=>if σ.1=true then some (pre,σ) else (XM f 0 σ).bind fun q=>if Ve [44] q.2=true then zgS f (pre++[q.1]) (false,q.2.2.tail) else some (pre++[q.1],q.2)
end
def WdT (t:Tk):Prop:=t.k=5→t.s≠[45]∧t.s≠[33]
def zd3 (ts:List Tk):Prop:=∀t∈ts,WdT t
theorem zd3.tail {ts:List Tk} (h:zd3 ts):zd3 ts.tail:=fun t ht=>h t (List.mem_of_mem_tail ht)
theorem zd3.hd {ts:List Tk} (h:zd3 ts):WdT (zw ts):=by
 cases ts with
 | nil=>intro o;simp [zw] at o
 | cons t us=>exact h t (List.mem_cons_self ..)
theorem Zr {s:List UInt8} {ts us:List Tk} {y:Unit} (h:zW s ts=some (.ok (y,us))) {P:Tk→Prop} (hE:∀t∈ts,P t):∀t∈us,P t:=by
 unfold zW at h
 split at h
 ·simp only [Option.some.injEq,Except.ok.injEq,Prod.mk.injEq] at h
  rw [←h.2];exact fun t ht=>hE t (List.mem_of_mem_tail ht)
 ·cases h
theorem yZ {s:List UInt8} {ts us:List Tk} (h:yo ts=some (.ok (s,us))) {P:Tk→Prop} (hE:∀t∈ts,P t):∀t∈us,P t:=by
 unfold yo at h
 split at h
 ·simp only [Option.some.injEq,Except.ok.injEq,Prod.mk.injEq] at h
  rw [←h.2];exact fun t ht=>hE t (List.mem_of_mem_tail ht)
 ·cases h
theorem zx {ts:List Tk} {P:Tk→Prop} (hE:∀t∈ts,P t):∀t∈ts.tail,P t:=fun t ht=>hE t (List.mem_of_mem_tail ht)
theorem Ue {P:Tk→Prop} (f:Nat) :
  (∀least ts x us,zh f least ts=some (.ok (x,us))→(∀t∈ts,P t)→∀t∈us,P t)∧(∀least e ts x us,ZD f least e ts=some (.ok (x,us))→(∀t∈ts,P t)→∀t∈us,P t) ∧
  (∀ts x us,Zp f ts=some (.ok (x,us))→(∀t∈ts,P t)→∀t∈us,P t)∧(∀e ts x us,zE f e ts=some (.ok (x,us))→(∀t∈ts,P t)→∀t∈us,P t)∧(∀ts x us,zQ f ts=some (.ok (x,us))→(∀t∈ts,P t)→∀t∈us,P t) ∧
  (∀pre ts x us,yp f pre ts=some (.ok (x,us))→(∀t∈ts,P t)→∀t∈us,P t)∧(∀ts x us,zK f ts=some (.ok (x,us))→(∀t∈ts,P t)→∀t∈us,P t):=by
 induction f with
 | zero=>refine ⟨?_,?_,?_,?_,?_,?_,?_⟩ <;> intros <;> simp_all [zh,ZD,Zp,zE,zQ,yp,zK]
 | succ f ih =>
  obtain ⟨H,U,T,K,W,N,R⟩:=ih;refine ⟨fun least ts x us h hE=>?_,fun least e ts x us h hE=>?_,fun ts x us h hE=>?_,fun e ts x us h hE=>?_,fun ts x us h hE=>?_,fun pre ts x us h hE=>?_,fun ts x us h hE=>?_⟩
  ·rw [zh] at h
   split at h
   ·exact T _ _ _ h hE
   ·obtain ⟨y,A,s,o⟩:=za h
    exact U _ _ _ _ _ o (H _ _ _ _ s hE)
  ·rw [ZD] at h
   split at h
   ·obtain ⟨y,A,s,o⟩:=za h
    exact U _ _ _ _ _ o (H _ _ _ _ s (zx hE))
   ·obtain ⟨rfl,rfl⟩:=zq h;exact hE
  ·rw [Zp] at h
   split at h
   ·obtain ⟨y,A,s,o⟩:=za h
    obtain ⟨rfl,rfl⟩:=zq o;exact T _ _ _ s (zx hE)
   ·obtain ⟨y,A,s,o⟩:=za h
    exact K _ _ _ _ o (W _ _ _ s hE)
  ·rw [zE] at h
   split at h
   ·obtain ⟨y,A,s,o⟩:=za h
    obtain ⟨z,J,G,D⟩:=za o;exact K _ _ _ _ D (Zr G (H _ _ _ _ s (zx hE)))
   split at h
   ·obtain ⟨y,A,s,o⟩:=za h
    exact K _ _ _ _ o (yZ s (zx hE))
   ·obtain ⟨rfl,rfl⟩:=zq h;exact hE
  ·rw [zQ] at h
   split at h
   ·obtain ⟨rfl,rfl⟩:=zq h;exact zx hE
   split at h
   ·obtain ⟨rfl,rfl⟩:=zq h;exact zx hE
   split at h
   ·split at h
    ·obtain ⟨y,A,s,o⟩:=za h
     obtain ⟨rfl,rfl⟩:=zq o;exact R _ _ _ s (zx hE)
    ·obtain ⟨rfl,rfl⟩:=zq h;exact zx hE
   split at h
   ·obtain ⟨rfl,rfl⟩:=zq h;exact zx hE
   split at h
   ·obtain ⟨rfl,rfl⟩:=zq h;exact zx hE
   split at h
   ·obtain ⟨y,A,s,o⟩:=za h
    obtain ⟨z,J,G,D⟩:=za o;obtain ⟨rfl,rfl⟩:=zq D;exact R _ _ _ G (yZ s (zx hE))
   split at h
   ·obtain ⟨y,A,s,o⟩:=za h
    obtain ⟨z,J,G,D⟩:=za o;obtain ⟨rfl,rfl⟩:=zq D;exact Zr G (N _ _ _ _ s (zx hE))
   ·obtain ⟨y,A,s,o⟩:=za h
    obtain ⟨z,J,G,D⟩:=za o;obtain ⟨V,O,Q,L⟩:=za D;obtain ⟨rfl,rfl⟩:=zq L;exact Zr Q (H _ _ _ _ G (Zr s hE))
  ·rw [yp] at h
   obtain ⟨y,A,s,o⟩:=za h;have I:=H _ _ _ _ s hE
   split at o
   ·exact N _ _ _ _ o (zx I)
   ·obtain ⟨rfl,rfl⟩:=zq o;exact I
  ·rw [zK] at h
   obtain ⟨y,A,s,o⟩:=za h;have I:=Zr s hE
   split at o
   ·obtain ⟨rfl,rfl⟩:=zq o;exact zx I
   ·obtain ⟨z,J,G,D⟩:=za o
    obtain ⟨V,O,Q,L⟩:=za D;obtain ⟨rfl,rfl⟩:=zq L;exact Zr Q (N _ _ _ _ G I)
theorem xD (ts:List Tk):ts.tail.length≤ts.length:=by simp
end Go.Proofs.YtpejpbbdgblbeaaGreatDoor
