import Derived.Test.YtpejpbbdgblbeaaGreatDoorSDMath
import Derived.Test.YtpejpbbdgblbeaaGreatDoorMC27
import Derived.Test.YtpejpbbdgblbeaaGreatDoorMC29
namespace Go.Proofs.YtpejpbbdgblbeaaGreatDoor
open Go.RowKit Go.Shelf
mutual
def ziV:Nat→RS→Option (St × RS)
 | 0,_=>none
 | f+1,σ =>
  if VP [108,101,116] σ=true then (vt f 0 (vW [61] (Qi (false,σ.2.tail)).2)).bind fun e=>some (.mk 1 (Qi (false,σ.2.tail)).1 [e.1] [] [] (zv σ.2).line,vW [59] e.2)
  else if VP [105,102] σ=true then (vt f 0 (false,σ.2.tail)).bind fun e=>(zch f e.2).bind fun b=>if VP [101,108,115,101] b.2=true then (zch f (false,b.2.2.tail)).bind fun c=>some (.mk 4 [] [e.1] b.1 c.1 (zv σ.2).line,c.2) else some (.mk 3 [] [e.1] b.1 [] (zv σ.2).line,b.2)
  else if VP [119,104,105,108,101] σ=true then (vt f 0 (false,σ.2.tail)).bind fun e=>(zch f e.2).bind fun b=>some (.mk 5 [] [e.1] b.1 [] (zv σ.2).line,b.2)
  else if VP [114,101,116,117,114,110] σ=true then if zm (zv σ.2.tail) [59]=true then some (.mk 6 [] [] [] [] (zv σ.2).line,(false,σ.2.tail.tail)) else (vt f 0 (false,σ.2.tail)).bind fun e=>some (.mk 6 [] [e.1] [] [] (zv σ.2).line,vW [59] e.2)
  else (vt f 0 σ).bind fun e=>if VP [61] e.2=true then (vt f 0 (if yX e.1=true then (false,e.2.2.tail) else (true,e.2.2))).bind fun e2=>some (.mk 2 [] [e.1,e2.1] [] [] (zv σ.2).line,vW [59] e2.2) else some (.mk 7 [] [e.1] [] [] (zv σ.2).line,vW [59] e.2)
def zch:Nat→RS→Option (List St × RS)
 | 0,_=>none
 | f+1,σ=>zfl f [] (vW [123] σ)
def zfl:Nat→List St→RS→Option (List St × RS)
 | 0,_,_=>none
 | f+1,pre,σ=>if σ.1=true then some (pre,σ) else if VP [125] σ=true then some (pre,(false,σ.2.tail)) else (ziV f σ).bind fun q=>zfl f (pre++[q.1]) q.2
end
theorem zdX {P:Tk→Prop} {n:Nat}:∀{ts o:List Tk},ZS n ts=.ok o→(∀t∈ts,P t)→∀t∈o,P t:=by
 induction n with
 | zero=>intro ts o h y;cases h;exact y
 | succ n ih =>
  intro ts o h y;rw [ZS] at h
  split at h
  ·exact ih h (zt y)
  ·cases h
theorem vv {P:Tk→Prop}:∀(ts:List Tk) (k:Nat) (s:List UInt8) (us:List Tk),ZB k ts=.ok (s,us)→(∀t∈ts,P t)→∀t∈us,P t
 | [],k,s,us,h,hP=>by simp [ZB] at h
 | t::ts,k,s,us,h,hP=>by
  rw [ZB] at h
  split at h
  ·exact vv ts (k+1) s us h fun x hx=>hP x (List.mem_cons_of_mem _ hx)
  ·split at h
   ·cases hc:ZS k ts with
    | error a=>rw [hc] at h;simp [Xg] at h
    | ok vs =>
     rw [hc] at h;simp only [Xg,Except.ok.injEq,Prod.mk.injEq] at h;obtain ⟨-,rfl⟩:=h;exact zdX hc fun x hx=>hP x (List.mem_cons_of_mem _ hx)
   ·cases h
theorem UP {P:Tk→Prop}:∀(f:Nat) (o l:List Pm) (ts y:List Tk),zN f o ts=some (.ok (l,y))→(∀t∈ts,P t)→∀t∈y,P t:=by
 intro f
 induction f with
 | zero=>intro o l ts y h;simp [zN] at h
 | succ f ih =>
  intro o l ts y h A;rw [zN] at h
  unfold Z8 at h
  by_cases h1:(zv ts).k=1
  ·rw [if_pos h1] at h
   by_cases h2:zm (zv ts.tail) [58]=true
   ·rw [if_pos h2] at h
    cases hs:ZB 0 ts.tail.tail with
    | error a=>rw [hs] at h;simp at h
    | ok p =>
     obtain ⟨s,D⟩:=p;rw [hs] at h;have z:=vv _ _ _ _ hs (zt (zt A));simp only at h
     split at h
     ·exact ih _ _ _ _ h (zt z)
     ·obtain ⟨-,rfl⟩:=zk h
      exact z
   ·rw [if_neg h2] at h
    simp at h
  ·rw [if_neg h1] at h
   simp at h
theorem UQ {P:Tk→Prop} {f:Nat} {ts us:List Tk} {l:List Pm} (h:yo f ts=some (.ok (l,us))) (hP:∀t∈ts,P t):∀t∈us,P t:=by
 unfold yo at h
 obtain ⟨_,A,G,h⟩:=za h;have o:=Zb G hP
 split at h
 ·obtain ⟨rfl,rfl⟩:=zk h
  exact zt o
 ·obtain ⟨_,H,y,h⟩:=za h
  obtain ⟨_,D,z,h⟩:=za h;obtain ⟨rfl,rfl⟩:=zk h;exact Zb z (UP _ _ _ _ _ y o)
theorem QY {P:Tk→Prop} {ts us:List Tk} {s:List UInt8} (h:xK ts=some (.ok (s,us))) (hP:∀t∈ts,P t):∀t∈us,P t:=by
 unfold xK at h
 split at h
 ·exact vv _ _ _ _ (Option.some.inj h) (zt hP)
 ·obtain ⟨rfl,rfl⟩:=zk h
  exact hP
theorem UR {P:Tk→Prop} {f line:Nat} {ts us:List Tk} {x:Rc} (h:Zl f line ts=some (.ok (x,us))) (hP:∀t∈ts,P t):∀t∈us,P t:=by
 unfold Zl at h
 obtain ⟨_,_,A,h⟩:=za h;obtain ⟨_,_,o,h⟩:=za h;obtain ⟨_,_,y,h⟩:=za h;obtain ⟨_,_,z,h⟩:=za h;obtain ⟨rfl,rfl⟩:=zk h;exact Zb z (UP _ _ _ _ _ y (Zb o (Z9 A hP)))
end Go.Proofs.YtpejpbbdgblbeaaGreatDoor
