import Derived.Test.YtmbofhpmockmbaaGreatDoorMC9
import Derived.Test.YtmbofhpmockmbaaGreatDoorMC7
import Derived.Lib.AppendIntMem
import Derived.Lib.Builder
import Derived.Lib.AppendStr
import Derived.Shelf.Strings.Builder1
import Derived.Test.YtmbofhpmockmbaaGreatDoorMC38
namespace Go.Proofs.YtmbofhpmockmbaaGreatDoor
open Go.RowKit Go.Shelf
theorem qT {w:World} {B e sz n:Nat} {v:Value} {xs:List Value} (h:w.ownsRow B e sz v n xs) (hn:1≤n):∃g o,v=.slice (some ⟨g,0,none⟩) n o∧B≤g∧g<w.heap.size∧n≤o∧∀j u,xs[j]?=some u→w.cell? ⟨g,j,none⟩=some u:=by
 obtain ⟨-,⟨-,G⟩ | ⟨g,o,A,rfl,E,y,z,-,-,D⟩⟩:=h
 ·omega
 ·refine ⟨g,o,rfl,E,(Array.getElem?_eq_some_iff.1 y).1,z,fun j u hj=>?_⟩
  rw [cell_of_row _ _ _ _ _ _ y];rw [←D,List.getElem?_take] at hj
  split at hj
  ·rw [Array.getElem?_toList] at hj;exact hj
  ·cases hj
theorem XZ {n:Nat} {w w':World} (h:Below n w w') {g j:Nat} (hg:g<n):w'.cell? ⟨g,j,none⟩=w.cell? ⟨g,j,none⟩:=World.cell?_of_block (h.block g hg)
def Zn (c:UInt8):List UInt8:=if c.toNat=92 then [92,92] else if c.toNat=34 then [92,34] else if c.toNat=10 then [92,110] else [c]
def ZY (s:List UInt8):List UInt8:=34::(s.flatMap Zn++[34])
theorem zax (c:UInt8):(Zn c).length≤2:=by
 unfold Zn
 split
 ·simp
 ·split
  ·simp
  ·split <;> simp
theorem QP (s:List UInt8):(s.flatMap Zn).length≤2*s.length:=by
 induction s with
 | nil=>simp
 | cons x s ih =>
  have:=zax x
  rw [List.flatMap_cons,List.length_append,List.length_cons];omega
def uH (w : World) : Prop := Z4 w ∧ Lib.TabIs Tryz.prog w "internal/strconv.uint64pow10" .u64 Lib.pow10Tab
theorem uH.below {w w':World} {B:Nat} (h:uH w) (hb:Below B w w') (hB:w.heap.size≤B):uH w' :=
 ⟨h.1.below hb hB,Lib.tabBelow_of_tabIs h.2 w' (hb.mono hB)⟩
def Ue (k n:Int) (s:List UInt8):List UInt8:=if k=2 then Lib.itoa n else if k=3 then ZY s else s
def xp (k n:Int) (s:List UInt8):Prop:=(zF (Ue k n s)).e=0∧((zF (Ue k n s)).k:Int)=k∧(zF (Ue k n s)).s=s∧((zF (Ue k n s)).n:Int)=n
instance (k n:Int) (s:List UInt8):Decidable (xp k n s):=by unfold xp;infer_instance
theorem zay (k n:Int) (s:List UInt8) (hn0:-9223372036854775808≤n) (hn1:n≤9223372036854775807):(Ue k n s).length≤2*s.length+30:=by
 have e:∀u:Nat,u≤9223372036854775808→(Lib.decDigits u).length≤20:=fun u hu=>by
  rw [Lib.decDigits_length];rcases Nat.lt_or_ge (Lib.nDigits u) 21 with h | h
  ·omega
  ·exfalso
   have z:=Lib.nDigits_pos u
   have:∀(j u:Nat),j+1≤Lib.nDigits u→10 ^ j≤u∨j=0:=by
    intro j
    induction j with
    | zero=>intro u _;exact .inr rfl
    | succ j ih =>
     intro u y
     by_cases hu:u<10
     ·rw [Lib.nDigits_small hu] at y;omega
     ·rw [Lib.nDigits_big hu] at y
      left
      rcases ih (u / 10) (by omega) with o | o
      ·rw [Nat.pow_succ];omega
      ·subst o;omega
   rcases this 19 u (by omega) with o | o
   ·have:(10:Nat) ^ 19=10000000000000000000:=by decide
    omega
   ·omega
 unfold Ue
 split
 ·unfold Lib.itoa
  split
  ·have:=e n.natAbs (by omega)
   rw [List.length_cons];omega
  ·have:=e n.toNat (by omega)
   omega
 ·split
  ·unfold ZY
   have:=QP s
   rw [List.length_cons,List.length_append,List.length_singleton];omega
  ·omega
structure YG (r:Nat) (q:Option Nat) (w:World) (q':Option Nat) (w':World):Prop where
 os:w'.os=w.os
 tape:w'.tape=w.tape
 output:w'.output=w.output
 size:w.heap.size≤w'.heap.size
 block:∀k,k<w.heap.size→k≠r→q≠some k→w'.heap[k]?=w.heap[k]?
 row:q'=q∨∀k,q'=some k→w.heap.size≤k
theorem YG.refl (r:Nat) (q:Option Nat) (w:World):YG r q w q w:=⟨rfl,rfl,rfl,Nat.le_refl _,fun _ _ _ _=>rfl,.inl rfl⟩
theorem YG.trans {r:Nat} {q q1 q2:Option Nat} {w w1 w2:World} (h:YG r q w q1 w1) (h2:YG r q1 w1 q2 w2):YG r q w q2 w2:=by
 refine ⟨h2.os.trans h.os,h2.tape.trans h.tape,h2.output.trans h.output,Nat.le_trans h.size h2.size,fun k hk hr hq=>?_,?_⟩
 ·refine (h2.block k (Nat.lt_of_lt_of_le hk h.size) hr fun e=>?_).trans (h.block k hk hr hq)
  rcases h.row with o | o
  ·exact hq (o ▸ e)
  ·have:=o k e;omega
 ·rcases h2.row with e | e
  ·rw [e];exact h.row
  ·exact .inr fun k hk=>Nat.le_trans h.size (e k hk)
theorem YG.alloc {r:Nat} {q q':Option Nat} {w w':World} (h:YG r q w q' w') (ob:Obj):YG r q w q' (w'.alloc ob) :=
 ⟨h.os,h.tape,h.output,by have:=h.size;simp;omega,fun k hk hr hq=>(Below.heap_alloc _ _ _ (Nat.lt_of_lt_of_le hk h.size)).trans (h.block k hk hr hq),h.row⟩
theorem YG.below {r:Nat} {q:Option Nat} {w w':World} (h:Below w.heap.size w w'):YG r q w q w':=⟨h.os,h.tape,h.output,h.size,fun k hk _ _=>h.block k hk,.inl rfl⟩
theorem YG.set {r P j:Nat} {q q':Option Nat} {w w':World} (h:YG r q w q' w') (hP:w.heap.size≤P) (v:Value):YG r q w q' (w'.setCell ⟨P,j,none⟩ v) :=
 ⟨h.os,h.tape,h.output,by have:=h.size;simpa using this,fun k hk hr hq=>(Below.heap_setCell _ _ _ _ (by simp;omega)).trans (h.block k hk hr hq),h.row⟩
theorem YG.own {r j:Nat} {q q':Option Nat} {w w':World} (h:YG r q w q' w') (v:Value):YG r q w q' (w'.setCell ⟨r,j,none⟩ v) :=
 ⟨h.os,h.tape,h.output,by have:=h.size;simpa using this,fun k hk hr hq=>(Below.heap_setCell _ _ _ _ (by simpa using hr)).trans (h.block k hk hr hq),h.row⟩
abbrev zbH:Ending:=.panicked [{ v:=Vz 2 0,recovered:=false }]
theorem uI (a b:List UInt8):za a++za b=za (a++b):=by
 apply ByteArray.ext
 rw [ByteArray.data_append]
 unfold za
 simp
end Go.Proofs.YtmbofhpmockmbaaGreatDoor
