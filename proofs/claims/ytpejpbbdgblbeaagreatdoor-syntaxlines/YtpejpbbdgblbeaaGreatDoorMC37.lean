import Derived.Test.YtpejpbbdgblbeaaGreatDoorSDMath
import Derived.Test.YtpejpbbdgblbeaaGreatDoorMC27
import Derived.Test.YtpejpbbdgblbeaaGreatDoorMC29
namespace Go.Proofs.YtpejpbbdgblbeaaGreatDoor
open Go.RowKit Go.Shelf
mutual
def zgT:Nat→RS→Option (St × RS)
 | 0,_=>none
 | f+1,σ =>
  if Ve [108,101,116] σ=true then (XM f 0 (vd [61] (qe (false,σ.2.tail)).2)).bind fun e=>some (.mk 1 (qe (false,σ.2.tail)).1 [e.1] [] [] (zw σ.2).line,vd [59] e.2)
  else if Ve [105,102] σ=true then (XM f 0 (false,σ.2.tail)).bind fun e=>(zbg f e.2).bind fun b=>if Ve [101,108,115,101] b.2=true then (zbg f (false,b.2.2.tail)).bind fun c=>some (.mk 4 [] [e.1] b.1 c.1 (zw σ.2).line,c.2) else some (.mk 3 [] [e.1] b.1 [] (zw σ.2).line,b.2)
  else if Ve [119,104,105,108,101] σ=true then (XM f 0 (false,σ.2.tail)).bind fun e=>(zbg f e.2).bind fun b=>some (.mk 5 [] [e.1] b.1 [] (zw σ.2).line,b.2)
  else if Ve [114,101,116,117,114,110] σ=true then if zo (zw σ.2.tail) [59]=true then some (.mk 6 [] [] [] [] (zw σ.2).line,(false,σ.2.tail.tail)) else (XM f 0 (false,σ.2.tail)).bind fun e=>some (.mk 6 [] [e.1] [] [] (zw σ.2).line,vd [59] e.2)
  else (XM f 0 σ).bind fun e=>if Ve [61] e.2=true then (XM f 0 (if Yy e.1=true then (false,e.2.2.tail) else (true,e.2.2))).bind fun e2=>some (.mk 2 [] [e.1,e2.1] [] [] (zw σ.2).line,vd [59] e2.2) else some (.mk 7 [] [e.1] [] [] (zw σ.2).line,vd [59] e.2)
def zbg:Nat→RS→Option (List St × RS)
 | 0,_=>none
 | f+1,σ=>zd4 f [] (vd [123] σ)
def zd4:Nat→List St→RS→Option (List St × RS)
 | 0,_,_=>none
 | f+1,pre,σ=>if σ.1=true then some (pre,σ) else if Ve [125] σ=true then some (pre,(false,σ.2.tail)) else (zgT f σ).bind fun q=>zd4 f (pre++[q.1]) q.2
end
theorem zcJ {P:Tk→Prop} {n:Nat}:∀{ts o:List Tk},Z0 n ts=.ok o→(∀t∈ts,P t)→∀t∈o,P t:=by
 induction n with
 | zero=>intro ts o h s;cases h;exact s
 | succ n ih =>
  intro ts o h s;rw [Z0] at h
  split at h
  ·exact ih h (zx s)
  ·cases h
theorem Vf {P:Tk→Prop}:∀(ts:List Tk) (k:Nat) (s:List UInt8) (us:List Tk),ZW k ts=.ok (s,us)→(∀t∈ts,P t)→∀t∈us,P t
 | [],k,s,us,h,hP=>by simp [ZW] at h
 | t::ts,k,s,us,h,hP=>by
  rw [ZW] at h
  split at h
  ·exact Vf ts (k+1) s us h fun x hx=>hP x (List.mem_cons_of_mem _ hx)
  ·split at h
   ·cases hc:Z0 k ts with
    | error a=>rw [hc] at h;simp [XA] at h
    | ok vs =>
     rw [hc] at h;simp only [XA,Except.ok.injEq,Prod.mk.injEq] at h;obtain ⟨-,rfl⟩:=h;exact zcJ hc fun x hx=>hP x (List.mem_cons_of_mem _ hx)
   ·cases h
theorem Uf {P:Tk→Prop}:∀(f:Nat) (o l:List Pm) (ts y:List Tk),zZ f o ts=some (.ok (l,y))→(∀t∈ts,P t)→∀t∈y,P t:=by
 intro f
 induction f with
 | zero=>intro o l ts y h;simp [zZ] at h
 | succ f ih =>
  intro o l ts y h A;rw [zZ] at h
  unfold yq at h
  by_cases h1:(zw ts).k=1
  ·rw [if_pos h1] at h
   by_cases h2:zo (zw ts.tail) [58]=true
   ·rw [if_pos h2] at h
    cases hs:ZW 0 ts.tail.tail with
    | error a=>rw [hs] at h;simp at h
    | ok p =>
     obtain ⟨s,D⟩:=p;rw [hs] at h;have z:=Vf _ _ _ _ hs (zx (zx A));simp only at h
     split at h
     ·exact ih _ _ _ _ h (zx z)
     ·obtain ⟨-,rfl⟩:=zq h
      exact z
   ·rw [if_neg h2] at h
    simp at h
  ·rw [if_neg h1] at h
   simp at h
theorem zab {P:Tk→Prop} {f:Nat} {ts us:List Tk} {l:List Pm} (h:yY f ts=some (.ok (l,us))) (hP:∀t∈ts,P t):∀t∈us,P t:=by
 unfold yY at h
 obtain ⟨_,y,A,h⟩:=za h;have o:=Zr A hP
 split at h
 ·obtain ⟨rfl,rfl⟩:=zq h
  exact zx o
 ·obtain ⟨_,z,G,h⟩:=za h
  obtain ⟨_,s,D,h⟩:=za h;obtain ⟨rfl,rfl⟩:=zq h;exact Zr D (Uf _ _ _ _ _ G o)
theorem zbJ {P:Tk→Prop} {ts us:List Tk} {s:List UInt8} (h:Xs ts=some (.ok (s,us))) (hP:∀t∈ts,P t):∀t∈us,P t:=by
 unfold Xs at h
 split at h
 ·exact Vf _ _ _ _ (Option.some.inj h) (zx hP)
 ·obtain ⟨rfl,rfl⟩:=zq h
  exact hP
theorem zbh {P:Tk→Prop} {f line:Nat} {ts us:List Tk} {x:Rc} (h:Zx f line ts=some (.ok (x,us))) (hP:∀t∈ts,P t):∀t∈us,P t:=by
 unfold Zx at h
 obtain ⟨_,_,s,h⟩:=za h;obtain ⟨_,_,z,h⟩:=za h;obtain ⟨_,_,y,h⟩:=za h;obtain ⟨_,_,o,h⟩:=za h;obtain ⟨rfl,rfl⟩:=zq h;exact Zr o (Uf _ _ _ _ _ y (Zr z (yZ s hP)))
end Go.Proofs.YtpejpbbdgblbeaaGreatDoor
