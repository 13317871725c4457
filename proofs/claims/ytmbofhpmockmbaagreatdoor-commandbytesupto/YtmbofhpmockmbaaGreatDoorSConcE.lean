import Derived.Test.YtmbofhpmockmbaaGreatDoorSReadX
import Derived.Test.YtmbofhpmockmbaaGreatDoorMC12
namespace Go.Proofs.YtmbofhpmockmbaaGreatDoor
open Go.RowKit Go.Shelf
def xi (f:Nat) (l:List UInt8):Ex × Nat × Nat :=
 if (yZ l).2.2≠0 then (yF,(yZ l).2.1,(yZ l).2.2) else
 match zd f 1 (yZ l).1 with
 | none=>(yF,0,99)
 | some res=>match Zo res with
  | .error a=>(yF,a,6)
  | .ok y=>if 24<zn y then (yF,0,7) else (y,0,0)
theorem uK {l:List UInt8} {x:Ex} {a e:Nat} (f:Nat) (hl:l.length≤4096) (h:zY l x a e) (hd:(xi f l).2.2≠99):xi f l=(x,a,e):=by
 unfold zY at h
 rw [Vl hl] at h
 unfold xi at hd ⊢
 by_cases hc:(yZ l).2.2≠0
 ·rw [if_pos hc] at h ⊢
  obtain ⟨rfl,rfl,rfl⟩:=h
  rfl
 ·rw [if_neg hc] at h hd ⊢
  obtain ⟨A,res,z,o⟩:=h;cases hp:zd f 1 (yZ l).1 with
  | none=>rw [hp] at hd;exact absurd rfl hd
  | some r2 =>
   obtain rfl:=yk hp z;cases hw:Zo r2 with
   | error a=>rw [hw] at o;obtain ⟨rfl,rfl,rfl⟩:=o;simp only [hw]
   | ok y =>
    rw [hw] at o;simp only [hw] at o ⊢
    by_cases hdp:24<zn y
    ·rw [if_pos hdp] at o ⊢;obtain ⟨rfl,rfl,rfl⟩:=o;rfl
    ·rw [if_neg hdp] at o ⊢;obtain ⟨rfl,rfl,rfl⟩:=o;rfl
theorem X4 {l:List UInt8} {x x':Ex} {a a' e e':Nat} (h:zY l x a e) (h':zY l x' a' e'):x=x'∧a=a'∧e=e':=by
 unfold zY at h h'
 by_cases hc:(zL l).2.2≠0
 ·rw [if_pos hc] at h h'
  exact ⟨h.1.trans h'.1.symm,h.2.1.trans h'.2.1.symm,h.2.2.trans h'.2.2.symm⟩
 ·rw [if_neg hc] at h h'
  obtain ⟨f,r,D,z⟩:=h;obtain ⟨G,E,A,o⟩:=h';obtain rfl:=yk D A;cases hw:Zo r with
  | error b =>
   rw [hw] at z o;exact ⟨z.1.trans o.1.symm,z.2.1.trans o.2.1.symm,z.2.2.trans o.2.2.symm⟩
  | ok y =>
   rw [hw] at z o;simp only at z o
   by_cases hd:24<zn y
   ·rw [if_pos hd] at z o
    exact ⟨z.1.trans o.1.symm,z.2.1.trans o.2.1.symm,z.2.2.trans o.2.2.symm⟩
   ·rw [if_neg hd] at z o
    exact ⟨z.1.trans o.1.symm,z.2.1.trans o.2.1.symm,z.2.2.trans o.2.2.symm⟩
end Go.Proofs.YtmbofhpmockmbaaGreatDoor
