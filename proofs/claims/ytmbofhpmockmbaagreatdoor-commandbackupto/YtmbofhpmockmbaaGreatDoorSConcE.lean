import Derived.Test.YtmbofhpmockmbaaGreatDoorSReadX
import Derived.Test.YtmbofhpmockmbaaGreatDoorMC11
namespace Go.Proofs.YtmbofhpmockmbaaGreatDoor
open Go.RowKit Go.Shelf
def y1 (f:Nat) (l:List UInt8):Ex × Nat × Nat :=
 if (yw l).2.2≠0 then (yf,(yw l).2.1,(yw l).2.2) else
 match zd f 1 (yw l).1 with
 | none=>(yf,0,99)
 | some res=>match Zf res with
  | .error a=>(yf,a,6)
  | .ok y=>if 24<zl y then (yf,0,7) else (y,0,0)
theorem xV {l:List UInt8} {x:Ex} {a e:Nat} (f:Nat) (hl:l.length≤4096) (h:zS l x a e) (hd:(y1 f l).2.2≠99):y1 f l=(x,a,e):=by
 unfold zS at h
 rw [XV hl] at h
 unfold y1 at hd ⊢
 by_cases hc:(yw l).2.2≠0
 ·rw [if_pos hc] at h ⊢
  obtain ⟨rfl,rfl,rfl⟩:=h
  rfl
 ·rw [if_neg hc] at h hd ⊢
  obtain ⟨A,res,z,o⟩:=h;cases hp:zd f 1 (yw l).1 with
  | none=>rw [hp] at hd;exact absurd rfl hd
  | some r2 =>
   obtain rfl:=ZZ hp z;cases hw:Zf r2 with
   | error a=>rw [hw] at o;obtain ⟨rfl,rfl,rfl⟩:=o;simp only [hw]
   | ok y =>
    rw [hw] at o;simp only [hw] at o ⊢
    by_cases hdp:24<zl y
    ·rw [if_pos hdp] at o ⊢;obtain ⟨rfl,rfl,rfl⟩:=o;rfl
    ·rw [if_neg hdp] at o ⊢;obtain ⟨rfl,rfl,rfl⟩:=o;rfl
theorem xW {l:List UInt8} {x x':Ex} {a a' e e':Nat} (h:zS l x a e) (h':zS l x' a' e'):x=x'∧a=a'∧e=e':=by
 unfold zS at h h'
 by_cases hc:(zJ l).2.2≠0
 ·rw [if_pos hc] at h h'
  exact ⟨h.1.trans h'.1.symm,h.2.1.trans h'.2.1.symm,h.2.2.trans h'.2.2.symm⟩
 ·rw [if_neg hc] at h h'
  obtain ⟨f,r,D,z⟩:=h;obtain ⟨G,E,A,o⟩:=h';obtain rfl:=ZZ D A;cases hw:Zf r with
  | error b =>
   rw [hw] at z o;exact ⟨z.1.trans o.1.symm,z.2.1.trans o.2.1.symm,z.2.2.trans o.2.2.symm⟩
  | ok y =>
   rw [hw] at z o;simp only at z o
   by_cases hd:24<zl y
   ·rw [if_pos hd] at z o
    exact ⟨z.1.trans o.1.symm,z.2.1.trans o.2.1.symm,z.2.2.trans o.2.2.symm⟩
   ·rw [if_neg hd] at z o
    exact ⟨z.1.trans o.1.symm,z.2.1.trans o.2.1.symm,z.2.2.trans o.2.2.symm⟩
end Go.Proofs.YtmbofhpmockmbaaGreatDoor
