import Derived.Test.YtmbofhpmockmbaaGreatDoorSReadX
import Derived.Test.YtmbofhpmockmbaaGreatDoorMC12
namespace Go.Proofs.YtmbofhpmockmbaaGreatDoor
open Go.RowKit Go.Shelf
def YW (f:Nat) (l:List UInt8):Ex × Nat × Nat :=
 if (yM l).2.2≠0 then (yv,(yM l).2.1,(yM l).2.2) else
 match zd f 1 (yM l).1 with
 | none=>(yv,0,99)
 | some res=>match Zk res with
  | .error a=>(yv,a,6)
  | .ok y=>if 24<zn y then (yv,0,7) else (y,0,0)
theorem ui {l:List UInt8} {x:Ex} {a e:Nat} (f:Nat) (hl:l.length≤4096) (h:zV l x a e) (hd:(YW f l).2.2≠99):YW f l=(x,a,e):=by
 unfold zV at h
 rw [vO hl] at h
 unfold YW at hd ⊢
 by_cases hc:(yM l).2.2≠0
 ·rw [if_pos hc] at h ⊢
  obtain ⟨rfl,rfl,rfl⟩:=h
  rfl
 ·rw [if_neg hc] at h hd ⊢
  obtain ⟨A,res,z,o⟩:=h;cases hp:zd f 1 (yM l).1 with
  | none=>rw [hp] at hd;exact absurd rfl hd
  | some r2 =>
   obtain rfl:=yb hp z;cases hw:Zk r2 with
   | error a=>rw [hw] at o;obtain ⟨rfl,rfl,rfl⟩:=o;simp only [hw]
   | ok y =>
    rw [hw] at o;simp only [hw] at o ⊢
    by_cases hdp:24<zn y
    ·rw [if_pos hdp] at o ⊢;obtain ⟨rfl,rfl,rfl⟩:=o;rfl
    ·rw [if_neg hdp] at o ⊢;obtain ⟨rfl,rfl,rfl⟩:=o;rfl
theorem XJ {l:List UInt8} {x x':Ex} {a a' e e':Nat} (h:zV l x a e) (h':zV l x' a' e'):x=x'∧a=a'∧e=e':=by
 unfold zV at h h'
 by_cases hc:(zJ l).2.2≠0
 ·rw [if_pos hc] at h h'
  exact ⟨h.1.trans h'.1.symm,h.2.1.trans h'.2.1.symm,h.2.2.trans h'.2.2.symm⟩
 ·rw [if_neg hc] at h h'
  obtain ⟨f,r,D,z⟩:=h;obtain ⟨G,E,A,o⟩:=h';obtain rfl:=yb D A;cases hw:Zk r with
  | error b =>
   rw [hw] at z o;exact ⟨z.1.trans o.1.symm,z.2.1.trans o.2.1.symm,z.2.2.trans o.2.2.symm⟩
  | ok y =>
   rw [hw] at z o;simp only at z o
   by_cases hd:24<zn y
   ·rw [if_pos hd] at z o
    exact ⟨z.1.trans o.1.symm,z.2.1.trans o.2.1.symm,z.2.2.trans o.2.2.symm⟩
   ·rw [if_neg hd] at z o
    exact ⟨z.1.trans o.1.symm,z.2.1.trans o.2.1.symm,z.2.2.trans o.2.2.symm⟩
end Go.Proofs.YtmbofhpmockmbaaGreatDoor
