import Derived.Test.YtcphojjpapgblaaGreatDoorSDMath
import Derived.Test.YtcphojjpapgblaaGreatDoorMC25
import Derived.Test.YtcphojjpapgblaaGreatDoorMC27
namespace Go.Proofs.YtcphojjpapgblaaGreatDoor
open Go.RowKit Go.Shelf
mutual
def zji:Nat→RS→Option (St × RS)
 | 0,_=>none
 | f+1,σ =>
  if VT [108,101,116] σ=true then (vu f 0 (vW [61] (QF (false,σ.2.tail)).2)).bind fun e=>some (.mk 1 (QF (false,σ.2.tail)).1 [e.1] [] [] (zu σ.2).line,vW [59] e.2)
  else if VT [105,102] σ=true then (vu f 0 (false,σ.2.tail)).bind fun e=>(zcN f e.2).bind fun b=>if VT [101,108,115,101] b.2=true then (zcN f (false,b.2.2.tail)).bind fun c=>some (.mk 4 [] [e.1] b.1 c.1 (zu σ.2).line,c.2) else some (.mk 3 [] [e.1] b.1 [] (zu σ.2).line,b.2)
  else if VT [119,104,105,108,101] σ=true then (vu f 0 (false,σ.2.tail)).bind fun e=>(zcN f e.2).bind fun b=>some (.mk 5 [] [e.1] b.1 [] (zu σ.2).line,b.2)
  else if VT [114,101,116,117,114,110] σ=true then if zm (zu σ.2.tail) [59]=true then some (.mk 6 [] [] [] [] (zu σ.2).line,(false,σ.2.tail.tail)) else (vu f 0 (false,σ.2.tail)).bind fun e=>some (.mk 6 [] [e.1] [] [] (zu σ.2).line,vW [59] e.2)
  else (vu f 0 σ).bind fun e=>if VT [61] e.2=true then (vu f 0 (if Ym e.1=true then (false,e.2.2.tail) else (true,e.2.2))).bind fun e2=>some (.mk 2 [] [e.1,e2.1] [] [] (zu σ.2).line,vW [59] e2.2) else some (.mk 7 [] [e.1] [] [] (zu σ.2).line,vW [59] e.2)
def zcN:Nat→RS→Option (List St × RS)
 | 0,_=>none
 | f+1,σ=>zf4 f [] (vW [123] σ)
def zf4:Nat→List St→RS→Option (List St × RS)
 | 0,_,_=>none
 | f+1,pre,σ=>if σ.1=true then some (pre,σ) else if VT [125] σ=true then some (pre,(false,σ.2.tail)) else (zji f σ).bind fun q=>zf4 f (pre++[q.1]) q.2
end
theorem zev {P:Tk→Prop} {n:Nat}:∀{ts o:List Tk},ZT n ts=.ok o→(∀t∈ts,P t)→∀t∈o,P t:=by
 induction n with
 | zero=>intro ts o h y;cases h;exact y
 | succ n ih =>
  intro ts o h y;rw [ZT] at h
  split at h
  ·exact ih h (zz y)
  ·cases h
theorem VU {P:Tk→Prop}:∀(ts:List Tk) (k:Nat) (s:List UInt8) (us:List Tk),ZK k ts=.ok (s,us)→(∀t∈ts,P t)→∀t∈us,P t
 | [],k,s,us,h,hP=>by simp [ZK] at h
 | t::ts,k,s,us,h,hP=>by
  rw [ZK] at h
  split at h
  ·exact VU ts (k+1) s us h fun x hx=>hP x (List.mem_cons_of_mem _ hx)
  ·split at h
   ·cases hc:ZT k ts with
    | error a=>rw [hc] at h;simp [XV] at h
    | ok vs =>
     rw [hc] at h;simp only [XV,Except.ok.injEq,Prod.mk.injEq] at h;obtain ⟨-,rfl⟩:=h;exact zev hc fun x hx=>hP x (List.mem_cons_of_mem _ hx)
   ·cases h
theorem qj {P:Tk→Prop}:∀(f:Nat) (o l:List Pm) (ts y:List Tk),zP f o ts=some (.ok (l,y))→(∀t∈ts,P t)→∀t∈y,P t:=by
 intro f
 induction f with
 | zero=>intro o l ts y h;simp [zP] at h
 | succ f ih =>
  intro o l ts y h A;rw [zP] at h
  unfold Z9 at h
  by_cases h1:(zu ts).k=1
  ·rw [if_pos h1] at h
   by_cases h2:zm (zu ts.tail) [58]=true
   ·rw [if_pos h2] at h
    cases hs:ZK 0 ts.tail.tail with
    | error a=>rw [hs] at h;simp at h
    | ok p =>
     obtain ⟨s,D⟩:=p;rw [hs] at h;have z:=VU _ _ _ _ hs (zz (zz A));simp only at h
     split at h
     ·exact ih _ _ _ _ h (zz z)
     ·obtain ⟨-,rfl⟩:=zq h
      exact z
   ·rw [if_neg h2] at h
    simp at h
  ·rw [if_neg h1] at h
   simp at h
theorem zbK {P:Tk→Prop} {f:Nat} {ts us:List Tk} {l:List Pm} (h:yw f ts=some (.ok (l,us))) (hP:∀t∈ts,P t):∀t∈us,P t:=by
 unfold yw at h
 obtain ⟨_,y,A,h⟩:=za h;have o:=Zv A hP
 split at h
 ·obtain ⟨rfl,rfl⟩:=zq h
  exact zz o
 ·obtain ⟨_,D,z,h⟩:=za h
  obtain ⟨_,G,H,h⟩:=za h;obtain ⟨rfl,rfl⟩:=zq h;exact Zv H (qj _ _ _ _ _ z o)
theorem zdA {P:Tk→Prop} {ts us:List Tk} {s:List UInt8} (h:Xk ts=some (.ok (s,us))) (hP:∀t∈ts,P t):∀t∈us,P t:=by
 unfold Xk at h
 split at h
 ·exact VU _ _ _ _ (Option.some.inj h) (zz hP)
 ·obtain ⟨rfl,rfl⟩:=zq h
  exact hP
theorem zcO {P:Tk→Prop} {f line:Nat} {ts us:List Tk} {x:Rc} (h:Zq f line ts=some (.ok (x,us))) (hP:∀t∈ts,P t):∀t∈us,P t:=by
 unfold Zq at h
 obtain ⟨_,_,y,h⟩:=za h;obtain ⟨_,_,o,h⟩:=za h;obtain ⟨_,_,A,h⟩:=za h;obtain ⟨_,_,z,h⟩:=za h;obtain ⟨rfl,rfl⟩:=zq h;exact Zv z (qj _ _ _ _ _ A (Zv o (Yi y hP)))
end Go.Proofs.YtcphojjpapgblaaGreatDoor
