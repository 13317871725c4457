import Derived.Test.YtbjndgachcdbcaaGreatDoorPBase
import Derived.Test.YtbjndgachcdbcaaGreatDoorHAll
namespace Go.Proofs.YtbjndgachcdbcaaGreatDoor
open Go.RowKit Go.Shelf
structure Uf where
 unit:Int
 at0:Int
 mark:Int
 slots:List Vl
 stack:List Vl
structure Sn where
 pos:Int
 st:Int
 ft:Int
 calls:List Uf
 heap:List Ob
 out:List UInt8
 rd:Int
def Ug (w:World) (b o:Nat) (x:Vl):Prop:=w.cell? ⟨b,o,none⟩=some (.int .i64 x.k)∧w.cell? ⟨b,o+1,none⟩=some (.int .i64 x.n)∧w.cell? ⟨b,o+2,none⟩=some (.string (za x.s))
def vH (S:Nat→Prop) (w:World) (v:Value) (l:List Vl):Prop:=rowIn S w v 3 Ug l
def uN (S:Nat→Prop) (w:World) (b o:Nat) (x:Uf):Prop :=
 w.cell? ⟨b,o,none⟩=some (.int .i64 x.unit)∧w.cell? ⟨b,o+1,none⟩=some (.int .i64 x.at0)∧w.cell? ⟨b,o+2,none⟩=some (.int .i64 x.mark) ∧
  (∃u,w.cell? ⟨b,o+3,none⟩=some u∧vH S w u x.slots)∧∃u,w.cell? ⟨b,o+4,none⟩=some u∧vH S w u x.stack
def Up (S:Nat→Prop) (w:World) (v:Value) (l:List Uf):Prop:=rowIn S w v 5 (uN S) l
def V5 (S:Nat→Prop) (w:World) (b o:Nat) (x:Ob):Prop:=w.cell? ⟨b,o,none⟩=some (.string (za x.1))∧∃u,w.cell? ⟨b,o+1,none⟩=some u∧vH S w u x.2
def uT (S:Nat→Prop) (w:World) (v:Value) (l:List Ob):Prop:=rowIn S w v 2 (V5 S) l
structure Yr (S:Nat→Prop) (w:World) (s:Sn) (vc vh:Value):Prop where
 calls:Up S w vc s.calls
 heap:uT S w vh s.heap
theorem yD (S:Nat→Prop):yx S Ug:=fun _ _ _ _ _ _ hb hS hlt ⟨a,b,c⟩=>⟨(World.cell?_of_block (hb _ hS hlt)).trans a,(World.cell?_of_block (hb _ hS hlt)).trans b,(World.cell?_of_block (hb _ hS hlt)).trans c⟩
theorem vd (S:Nat→Prop):yx S (uN S):=fun _ _ _ _ _ hs hb hS hlt ⟨a,b,c,⟨u,f,g⟩,y,h,i⟩ =>
 ⟨(World.cell?_of_block (hb _ hS hlt)).trans a,(World.cell?_of_block (hb _ hS hlt)).trans b,(World.cell?_of_block (hb _ hS hlt)).trans c,
  ⟨u,(World.cell?_of_block (hb _ hS hlt)).trans f,rowIn.kept g (yD S) hs hb⟩,y,(World.cell?_of_block (hb _ hS hlt)).trans h,rowIn.kept i (yD S) hs hb⟩
theorem ve (S:Nat→Prop):yx S (V5 S):=fun _ _ _ _ _ hs hb hS hlt ⟨a,u,b,c⟩=>⟨(World.cell?_of_block (hb _ hS hlt)).trans a,u,(World.cell?_of_block (hb _ hS hlt)).trans b,rowIn.kept c (yD S) hs hb⟩
theorem Yr.kept {S:Nat→Prop} {w w':World} {s:Sn} {vc vh:Value} (h:Yr S w s vc vh) (hs:w.heap.size≤w'.heap.size) (hb:∀q,S q→q<w.heap.size→w'.heap[q]?=w.heap[q]?):Yr S w' s vc vh :=
 ⟨rowIn.kept h.calls (vd S) hs hb,rowIn.kept h.heap (ve S) hs hb⟩
theorem Yr.below {S:Nat→Prop} {w w':World} {s:Sn} {vc vh:Value} (h:Yr S w s vc vh) (hb:Below w.heap.size w w'):Yr S w' s vc vh:=h.kept hb.size fun q _ hq=>hb.block q hq
theorem Vp {S S':Nat→Prop} {w:World} (hS:∀q,q<w.heap.size→S q→S' q) (b o:Nat) (x:Uf) (h:uN S w b o x):uN S' w b o x:=by
 obtain ⟨y,c,e,⟨u,B,z⟩,u2,m,A⟩:=h;exact ⟨y,c,e,⟨u,B,rowIn.wide z hS fun _ _ _ h=>h⟩,u2,m,rowIn.wide A hS fun _ _ _ h=>h⟩
theorem Vq {S S':Nat→Prop} {w:World} (hS:∀q,q<w.heap.size→S q→S' q) (b o:Nat) (x:Ob) (h:V5 S w b o x):V5 S' w b o x:=by
 obtain ⟨c,u,m,e⟩:=h;exact ⟨c,u,m,rowIn.wide e hS fun _ _ _ h=>h⟩
theorem Yr.wide {S S':Nat→Prop} {w:World} {s:Sn} {vc vh:Value} (h:Yr S w s vc vh) (hS:∀q,q<w.heap.size→S q→S' q):Yr S' w s vc vh :=
 ⟨rowIn.wide h.calls hS (Vp hS),rowIn.wide h.heap hS (Vq hS)⟩
theorem Yr.low {S:Nat→Prop} {w:World} {s:Sn} {vc vh:Value} (h:Yr S w s vc vh):Yr (fun q=>q<w.heap.size) w s vc vh:=h.wide fun _ hq _=>hq
theorem Vr {S:Nat→Prop} {w:World} {v:Value} {l:List Vl} (h:vH S w v l):zp S w v l:=by
 obtain ⟨base,y,K,M,J,q⟩:=h;refine ⟨base,y,K,M,J,?_⟩;rcases q with q | ⟨b,o,e,H,A,O⟩
 ·exact .inl q
 ·refine .inr ⟨b,o,e,H,A,fun j u hj=>?_⟩
  have I:j<l.length*3:=by rw [←Yx];exact (List.getElem?_eq_some_iff.1 hj).1
  have B:j / 3<l.length:=by omega
  obtain ⟨G,E,F⟩:=XP l (j / 3) B;obtain ⟨D,T,R⟩:=O (j / 3) B;have m:j % 3=0∨j % 3=1∨j % 3=2:=by omega
  rcases m with m | m | m
  ·have c:j=j / 3*3:=by omega
   rw [←c] at G D;rw [G] at hj;rw [D,hj]
  ·have c:j=j / 3*3+1:=by omega
   rw [←c] at E;rw [E] at hj;have z:o+j=o+j / 3*3+1:=by omega
   rw [z,T,hj]
  ·have c:j=j / 3*3+2:=by omega
   rw [←c] at F;rw [F] at hj;have z:o+j=o+j / 3*3+2:=by omega
   rw [z,R,hj]
theorem Vs {S:Nat→Prop} {w:World} {v:Value} {l:List Ob} (h:uT S w v l):Zc S w v l:=by
 obtain ⟨base,q,A,E,y,c⟩:=h;refine ⟨base,q,A,E,y,?_⟩;rcases c with c | ⟨b,o,e,z,m,F⟩
 ·exact .inl c
 ·refine .inr ⟨b,o,e,z,m,fun j hj=>?_⟩
  obtain ⟨B,u,G,D⟩:=F j hj;exact ⟨u,B,G,Vr D⟩
abbrev UB (x:Uf) (u1 u2:Value):Value:=.agg #[.int .i64 x.unit,.int .i64 x.at0,.int .i64 x.mark,u1,u2]
abbrev UC (x:Ob) (u:Value):Value:=.agg #[.string (za x.1),u]
abbrev UD (x:Sn) (u1 u2:Value):Value:=.agg #[.int .i64 x.pos,.int .i64 x.st,.int .i64 x.ft,u1,u2,.string (za x.out),.int .i64 x.rd]
def Uh (c:Uf):Prop:=(Vy c.unit∧Vy c.at0∧Vy c.mark)∧((∀v∈c.slots,zq v∧Vy v.k)∧c.slots.length≤1048576)∧(∀v∈c.stack,zq v∧Vy v.k)∧c.stack.length≤1048576
def vI (o:Ob):Prop:=o.1.length≤1048576∧(∀v∈o.2,zq v∧Vy v.k)∧o.2.length≤1048576
structure Uv (s:Sn):Prop where
 nums:Vy s.pos∧Vy s.st∧Vy s.ft∧Vy s.rd
 out:s.out.length≤1048576
 calls:(∀c∈s.calls,Uh c)∧s.calls.length≤1048576
 heap:(∀o∈s.heap,vI o)∧s.heap.length≤1048576
end Go.Proofs.YtbjndgachcdbcaaGreatDoor
