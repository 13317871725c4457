import Derived.Test.YtbjndgachcdbcaaGreatDoorPBase
import Derived.Test.YtbjndgachcdbcaaGreatDoorHAll
namespace Go.Proofs.YtbjndgachcdbcaaGreatDoor
open Go.RowKit Go.Shelf
structure UJ where
 unit:Int
 at0:Int
 mark:Int
 slots:List Vl
 stack:List Vl
structure Sn where
 pos:Int
 st:Int
 ft:Int
 calls:List UJ
 heap:List Ob
 out:List UInt8
 rd:Int
def UK (w:World) (b o:Nat) (x:Vl):Prop:=w.cell? ⟨b,o,none⟩=some (.int .i64 x.k)∧w.cell? ⟨b,o+1,none⟩=some (.int .i64 x.n)∧w.cell? ⟨b,o+2,none⟩=some (.string (za x.s))
def Vq (S:Nat→Prop) (w:World) (v:Value) (l:List Vl):Prop:=rowIn S w v 3 UK l
def Ur (S:Nat→Prop) (w:World) (b o:Nat) (x:UJ):Prop :=
 w.cell? ⟨b,o,none⟩=some (.int .i64 x.unit)∧w.cell? ⟨b,o+1,none⟩=some (.int .i64 x.at0)∧w.cell? ⟨b,o+2,none⟩=some (.int .i64 x.mark) ∧
  (∃u,w.cell? ⟨b,o+3,none⟩=some u∧Vq S w u x.slots)∧∃u,w.cell? ⟨b,o+4,none⟩=some u∧Vq S w u x.stack
def US (S:Nat→Prop) (w:World) (v:Value) (l:List UJ):Prop:=rowIn S w v 5 (Ur S) l
def uH (S:Nat→Prop) (w:World) (b o:Nat) (x:Ob):Prop:=w.cell? ⟨b,o,none⟩=some (.string (za x.1))∧∃u,w.cell? ⟨b,o+1,none⟩=some u∧Vq S w u x.2
def Ux (S:Nat→Prop) (w:World) (v:Value) (l:List Ob):Prop:=rowIn S w v 2 (uH S) l
structure YB (S:Nat→Prop) (w:World) (s:Sn) (vc vh:Value):Prop where
 calls:US S w vc s.calls
 heap:Ux S w vh s.heap
theorem yJ (S:Nat→Prop):ye S UK:=fun _ _ _ _ _ _ hb hS hlt ⟨a,b,c⟩=>⟨(World.cell?_of_block (hb _ hS hlt)).trans a,(World.cell?_of_block (hb _ hS hlt)).trans b,(World.cell?_of_block (hb _ hS hlt)).trans c⟩
theorem vS (S:Nat→Prop):ye S (Ur S):=fun _ _ _ _ _ hs hb hS hlt ⟨a,b,c,⟨u,f,g⟩,y,h,i⟩ =>
 ⟨(World.cell?_of_block (hb _ hS hlt)).trans a,(World.cell?_of_block (hb _ hS hlt)).trans b,(World.cell?_of_block (hb _ hS hlt)).trans c,
  ⟨u,(World.cell?_of_block (hb _ hS hlt)).trans f,rowIn.kept g (yJ S) hs hb⟩,y,(World.cell?_of_block (hb _ hS hlt)).trans h,rowIn.kept i (yJ S) hs hb⟩
theorem vT (S:Nat→Prop):ye S (uH S):=fun _ _ _ _ _ hs hb hS hlt ⟨a,u,b,c⟩=>⟨(World.cell?_of_block (hb _ hS hlt)).trans a,u,(World.cell?_of_block (hb _ hS hlt)).trans b,rowIn.kept c (yJ S) hs hb⟩
theorem YB.kept {S:Nat→Prop} {w w':World} {s:Sn} {vc vh:Value} (h:YB S w s vc vh) (hs:w.heap.size≤w'.heap.size) (hb:∀q,S q→q<w.heap.size→w'.heap[q]?=w.heap[q]?):YB S w' s vc vh :=
 ⟨rowIn.kept h.calls (vS S) hs hb,rowIn.kept h.heap (vT S) hs hb⟩
theorem YB.below {S:Nat→Prop} {w w':World} {s:Sn} {vc vh:Value} (h:YB S w s vc vh) (hb:Below w.heap.size w w'):YB S w' s vc vh:=h.kept hb.size fun q _ hq=>hb.block q hq
theorem VZ {S S':Nat→Prop} {w:World} (hS:∀q,q<w.heap.size→S q→S' q) (b o:Nat) (x:UJ) (h:Ur S w b o x):Ur S' w b o x:=by
 obtain ⟨c,e,z,⟨u,B,y⟩,u2,m,A⟩:=h;exact ⟨c,e,z,⟨u,B,rowIn.wide y hS fun _ _ _ h=>h⟩,u2,m,rowIn.wide A hS fun _ _ _ h=>h⟩
theorem V0 {S S':Nat→Prop} {w:World} (hS:∀q,q<w.heap.size→S q→S' q) (b o:Nat) (x:Ob) (h:uH S w b o x):uH S' w b o x:=by
 obtain ⟨e,u,c,m⟩:=h;exact ⟨e,u,c,rowIn.wide m hS fun _ _ _ h=>h⟩
theorem YB.wide {S S':Nat→Prop} {w:World} {s:Sn} {vc vh:Value} (h:YB S w s vc vh) (hS:∀q,q<w.heap.size→S q→S' q):YB S' w s vc vh :=
 ⟨rowIn.wide h.calls hS (VZ hS),rowIn.wide h.heap hS (V0 hS)⟩
theorem YB.low {S:Nat→Prop} {w:World} {s:Sn} {vc vh:Value} (h:YB S w s vc vh):YB (fun q=>q<w.heap.size) w s vc vh:=h.wide fun _ hq _=>hq
theorem xO {S:Nat→Prop} {w:World} {v:Value} {l:List Vl} (h:Vq S w v l):zk S w v l:=by
 obtain ⟨base,q,I,O,R,z⟩:=h;refine ⟨base,q,I,O,R,?_⟩;rcases z with z | ⟨b,o,e,J,y,H⟩
 ·exact .inl z
 ·refine .inr ⟨b,o,e,J,y,fun j u hj=>?_⟩
  have M:j<l.length*3:=by rw [←YH];exact (List.getElem?_eq_some_iff.1 hj).1
  have B:j / 3<l.length:=by omega
  obtain ⟨G,E,D⟩:=vw l (j / 3) B;obtain ⟨F,K,T⟩:=H (j / 3) B;have m:j % 3=0∨j % 3=1∨j % 3=2:=by omega
  rcases m with m | m | m
  ·have c:j=j / 3*3:=by omega
   rw [←c] at G F;rw [G] at hj;rw [F,hj]
  ·have c:j=j / 3*3+1:=by omega
   rw [←c] at E;rw [E] at hj;have A:o+j=o+j / 3*3+1:=by omega
   rw [A,K,hj]
  ·have c:j=j / 3*3+2:=by omega
   rw [←c] at D;rw [D] at hj;have A:o+j=o+j / 3*3+2:=by omega
   rw [A,T,hj]
theorem V1 {S:Nat→Prop} {w:World} {v:Value} {l:List Ob} (h:Ux S w v l):zD S w v l:=by
 obtain ⟨base,c,B,G,y,q⟩:=h;refine ⟨base,c,B,G,y,?_⟩;rcases q with q | ⟨b,o,e,D,m,A⟩
 ·exact .inl q
 ·refine .inr ⟨b,o,e,D,m,fun j hj=>?_⟩
  obtain ⟨z,u,F,E⟩:=A j hj;exact ⟨u,z,F,xO E⟩
abbrev U3 (x:UJ) (u1 u2:Value):Value:=.agg #[.int .i64 x.unit,.int .i64 x.at0,.int .i64 x.mark,u1,u2]
abbrev U4 (x:Ob) (u:Value):Value:=.agg #[.string (za x.1),u]
abbrev U5 (x:Sn) (u1 u2:Value):Value:=.agg #[.int .i64 x.pos,.int .i64 x.st,.int .i64 x.ft,u1,u2,.string (za x.out),.int .i64 x.rd]
def UL (c:UJ):Prop:=(V7 c.unit∧V7 c.at0∧V7 c.mark)∧((∀v∈c.slots,zr v∧V7 v.k)∧c.slots.length≤1048576)∧(∀v∈c.stack,zr v∧V7 v.k)∧c.stack.length≤1048576
def YK (o:Ob):Prop:=o.1.length≤1048576∧(∀v∈o.2,zr v∧V7 v.k)∧o.2.length≤1048576
structure UX (s:Sn):Prop where
 nums:V7 s.pos∧V7 s.st∧V7 s.ft∧V7 s.rd
 out:s.out.length≤1048576
 calls:(∀c∈s.calls,UL c)∧s.calls.length≤1048576
 heap:(∀o∈s.heap,YK o)∧s.heap.length≤1048576
end Go.Proofs.YtbjndgachcdbcaaGreatDoor
