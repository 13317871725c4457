import Derived.Test.YtmbofhpmockmbaaGreatDoorMC9
import Derived.Test.YtmbofhpmockmbaaGreatDoorMC7
import Derived.Lib.AppendIntMem
import Derived.Lib.Builder
import Derived.Lib.AppendStr
import Derived.Shelf.Strings.Builder1
import Derived.Test.YtmbofhpmockmbaaGreatDoorMC39
namespace Go.Proofs.YtmbofhpmockmbaaGreatDoor
open Go.RowKit Go.Shelf
theorem qw {w:World} {B e sz n:Nat} {v:Value} {xs:List Value} (h:w.ownsRow B e sz v n xs) (hn:1≤n):∃g o,v=.slice (some ⟨g,0,none⟩) n o∧B≤g∧g<w.heap.size∧n≤o∧∀j u,xs[j]?=some u→w.cell? ⟨g,j,none⟩=some u:=by
 obtain ⟨-,⟨-,G⟩ | ⟨g,o,E,rfl,z,y,D,-,-,A⟩⟩:=h
 ·omega
 ·refine ⟨g,o,rfl,z,(Array.getElem?_eq_some_iff.1 y).1,D,fun j u hj=>?_⟩
  rw [cell_of_row _ _ _ _ _ _ y];rw [←A,List.getElem?_take] at hj
  split at hj
  ·rw [Array.getElem?_toList] at hj;exact hj
  ·cases hj
theorem XL {n:Nat} {w w':World} (h:Below n w w') {g j:Nat} (hg:g<n):w'.cell? ⟨g,j,none⟩=w.cell? ⟨g,j,none⟩:=World.cell?_of_block (h.block g hg)
def Zj (c:UInt8):List UInt8:=if c.toNat=92 then [92,92] else if c.toNat=34 then [92,34] else if c.toNat=10 then [92,110] else [c]
def ZV (s:List UInt8):List UInt8:=34::(s.flatMap Zj++[34])
theorem Q7 (c:UInt8):(Zj c).length≤2:=by
 unfold Zj
 split
 ·simp
 ·split
  ·simp
  ·split <;> simp
theorem Qr (s:List UInt8):(s.flatMap Zj).length≤2*s.length:=by
 induction s with
 | nil=>simp
 | cons x s ih =>
  have:=Q7 x
  rw [List.flatMap_cons,List.length_append,List.length_cons];omega
def uh (w : World) : Prop := Z1 w ∧ Lib.TabIs Tryz.prog w "internal/strconv.uint64pow10" .u64 Lib.pow10Tab
theorem uh.below {w w':World} {B:Nat} (h:uh w) (hb:Below B w w') (hB:w.heap.size≤B):uh w' :=
 ⟨h.1.below hb hB,Lib.tabBelow_of_tabIs h.2 w' (hb.mono hB)⟩
def uH (k n:Int) (s:List UInt8):List UInt8:=if k=2 then Lib.itoa n else if k=3 then ZV s else s
def Y9 (k n:Int) (s:List UInt8):Prop:=(zD (uH k n s)).e=0∧((zD (uH k n s)).k:Int)=k∧(zD (uH k n s)).s=s∧((zD (uH k n s)).n:Int)=n
instance (k n:Int) (s:List UInt8):Decidable (Y9 k n s):=by unfold Y9;infer_instance
theorem Q8 (k n:Int) (s:List UInt8) (hn0:-9223372036854775808≤n) (hn1:n≤9223372036854775807):(uH k n s).length≤2*s.length+30:=by
 have e:∀u:Nat,u≤9223372036854775808→(Lib.decDigits u).length≤20:=fun u hu=>by
  rw [Lib.decDigits_length];rcases Nat.lt_or_ge (Lib.nDigits u) 21 with h | h
  ·omega
  ·exfalso
   have z:=Lib.nDigits_pos u
   have:∀(j u:Nat),j+1≤Lib.nDigits u→10 ^ j≤u∨j=0:=by
    intro j
    induction j with
    | zero=>intro u _;exact .inr rfl
    | succ j ih =>
     intro u y
     by_cases hu:u<10
     ·rw [Lib.nDigits_small hu] at y;omega
     ·rw [Lib.nDigits_big hu] at y
      left
      rcases ih (u / 10) (by omega) with o | o
      ·rw [Nat.pow_succ];omega
      ·subst o;omega
   rcases this 19 u (by omega) with o | o
   ·have:(10:Nat) ^ 19=10000000000000000000:=by decide
    omega
   ·omega
 unfold uH
 split
 ·unfold Lib.itoa
  split
  ·have:=e n.natAbs (by omega)
   rw [List.length_cons];omega
  ·have:=e n.toNat (by omega)
   omega
 ·split
  ·unfold ZV
   have:=Qr s
   rw [List.length_cons,List.length_append,List.length_singleton];omega
  ·omega
structure Yz (r:Nat) (q:Option Nat) (w:World) (q':Option Nat) (w':World):Prop where
 os:w'.os=w.os
 tape:w'.tape=w.tape
 output:w'.output=w.output
 size:w.heap.size≤w'.heap.size
 block:∀k,k<w.heap.size→k≠r→q≠some k→w'.heap[k]?=w.heap[k]?
 row:q'=q∨∀k,q'=some k→w.heap.size≤k
theorem Yz.refl (r:Nat) (q:Option Nat) (w:World):Yz r q w q w:=⟨rfl,rfl,rfl,Nat.le_refl _,fun _ _ _ _=>rfl,.inl rfl⟩
theorem Yz.trans {r:Nat} {q q1 q2:Option Nat} {w w1 w2:World} (h:Yz r q w q1 w1) (h2:Yz r q1 w1 q2 w2):Yz r q w q2 w2:=by
 refine ⟨h2.os.trans h.os,h2.tape.trans h.tape,h2.output.trans h.output,Nat.le_trans h.size h2.size,fun k hk hr hq=>?_,?_⟩
 ·refine (h2.block k (Nat.lt_of_lt_of_le hk h.size) hr fun e=>?_).trans (h.block k hk hr hq)
  rcases h.row with o | o
  ·exact hq (o ▸ e)
  ·have:=o k e;omega
 ·rcases h2.row with e | e
  ·rw [e];exact h.row
  ·exact .inr fun k hk=>Nat.le_trans h.size (e k hk)
theorem Yz.alloc {r:Nat} {q q':Option Nat} {w w':World} (h:Yz r q w q' w') (ob:Obj):Yz r q w q' (w'.alloc ob) :=
 ⟨h.os,h.tape,h.output,by have:=h.size;simp;omega,fun k hk hr hq=>(Below.heap_alloc _ _ _ (Nat.lt_of_lt_of_le hk h.size)).trans (h.block k hk hr hq),h.row⟩
theorem Yz.below {r:Nat} {q:Option Nat} {w w':World} (h:Below w.heap.size w w'):Yz r q w q w':=⟨h.os,h.tape,h.output,h.size,fun k hk _ _=>h.block k hk,.inl rfl⟩
theorem Yz.set {r P j:Nat} {q q':Option Nat} {w w':World} (h:Yz r q w q' w') (hP:w.heap.size≤P) (v:Value):Yz r q w q' (w'.setCell ⟨P,j,none⟩ v) :=
 ⟨h.os,h.tape,h.output,by have:=h.size;simpa using this,fun k hk hr hq=>(Below.heap_setCell _ _ _ _ (by simp;omega)).trans (h.block k hk hr hq),h.row⟩
theorem Yz.own {r j:Nat} {q q':Option Nat} {w w':World} (h:Yz r q w q' w') (v:Value):Yz r q w q' (w'.setCell ⟨r,j,none⟩ v) :=
 ⟨h.os,h.tape,h.output,by have:=h.size;simpa using this,fun k hk hr hq=>(Below.heap_setCell _ _ _ _ (by simpa using hr)).trans (h.block k hk hr hq),h.row⟩
abbrev zbk:Ending:=.panicked [{ v:=Vg 2 0,recovered:=false }]
theorem ui (a b:List UInt8):za a++za b=za (a++b):=by
 apply ByteArray.ext
 rw [ByteArray.data_append]
 unfold za
 simp
end Go.Proofs.YtmbofhpmockmbaaGreatDoor
