import Derived.Test.YtbjndgachcdbcaaGreatDoorPBase
import Derived.Test.YtbjndgachcdbcaaGreatDoorHAll
namespace Go.Proofs.YtbjndgachcdbcaaGreatDoor
open Go.RowKit Go.Shelf
structure Ul where
 unit:Int
 at0:Int
 mark:Int
 slots:List Vl
 stack:List Vl
structure Sn where
 pos:Int
 st:Int
 ft:Int
 calls:List Ul
 heap:List Ob
 out:List UInt8
 rd:Int
def Um (w:World) (b o:Nat) (x:Vl):Prop:=w.cell? ⟨b,o,none⟩=some (.int .i64 x.k)∧w.cell? ⟨b,o+1,none⟩=some (.int .i64 x.n)∧w.cell? ⟨b,o+2,none⟩=some (.string (za x.s))
def vP (S:Nat→Prop) (w:World) (v:Value) (l:List Vl):Prop:=rowIn S w v 3 Um l
def uU (S:Nat→Prop) (w:World) (b o:Nat) (x:Ul):Prop :=
 w.cell? ⟨b,o,none⟩=some (.int .i64 x.unit)∧w.cell? ⟨b,o+1,none⟩=some (.int .i64 x.at0)∧w.cell? ⟨b,o+2,none⟩=some (.int .i64 x.mark) ∧
  (∃u,w.cell? ⟨b,o+3,none⟩=some u∧vP S w u x.slots)∧∃u,w.cell? ⟨b,o+4,none⟩=some u∧vP S w u x.stack
def Uw (S:Nat→Prop) (w:World) (v:Value) (l:List Ul):Prop:=rowIn S w v 5 (uU S) l
def ue (S:Nat→Prop) (w:World) (b o:Nat) (x:Ob):Prop:=w.cell? ⟨b,o,none⟩=some (.string (za x.1))∧∃u,w.cell? ⟨b,o+1,none⟩=some u∧vP S w u x.2
def uZ (S:Nat→Prop) (w:World) (v:Value) (l:List Ob):Prop:=rowIn S w v 2 (ue S) l
structure Yt (S:Nat→Prop) (w:World) (s:Sn) (vc vh:Value):Prop where
 calls:Uw S w vc s.calls
 heap:uZ S w vh s.heap
theorem yE (S:Nat→Prop):yB S Um:=fun _ _ _ _ _ _ hb hS hlt ⟨a,b,c⟩=>⟨(World.cell?_of_block (hb _ hS hlt)).trans a,(World.cell?_of_block (hb _ hS hlt)).trans b,(World.cell?_of_block (hb _ hS hlt)).trans c⟩
theorem vv (S:Nat→Prop):yB S (uU S):=fun _ _ _ _ _ hs hb hS hlt ⟨a,b,c,⟨u,f,g⟩,y,h,i⟩ =>
 ⟨(World.cell?_of_block (hb _ hS hlt)).trans a,(World.cell?_of_block (hb _ hS hlt)).trans b,(World.cell?_of_block (hb _ hS hlt)).trans c,
  ⟨u,(World.cell?_of_block (hb _ hS hlt)).trans f,rowIn.kept g (yE S) hs hb⟩,y,(World.cell?_of_block (hb _ hS hlt)).trans h,rowIn.kept i (yE S) hs hb⟩
theorem vw (S:Nat→Prop):yB S (ue S):=fun _ _ _ _ _ hs hb hS hlt ⟨a,u,b,c⟩=>⟨(World.cell?_of_block (hb _ hS hlt)).trans a,u,(World.cell?_of_block (hb _ hS hlt)).trans b,rowIn.kept c (yE S) hs hb⟩
theorem Yt.kept {S:Nat→Prop} {w w':World} {s:Sn} {vc vh:Value} (h:Yt S w s vc vh) (hs:w.heap.size≤w'.heap.size) (hb:∀q,S q→q<w.heap.size→w'.heap[q]?=w.heap[q]?):Yt S w' s vc vh :=
 ⟨rowIn.kept h.calls (vv S) hs hb,rowIn.kept h.heap (vw S) hs hb⟩
theorem Yt.below {S:Nat→Prop} {w w':World} {s:Sn} {vc vh:Value} (h:Yt S w s vc vh) (hb:Below w.heap.size w w'):Yt S w' s vc vh:=h.kept hb.size fun q _ hq=>hb.block q hq
theorem Vy {S S':Nat→Prop} {w:World} (hS:∀q,q<w.heap.size→S q→S' q) (b o:Nat) (x:Ul) (h:uU S w b o x):uU S' w b o x:=by
 obtain ⟨e,B,c,⟨u,z,m⟩,u2,y,A⟩:=h;exact ⟨e,B,c,⟨u,z,rowIn.wide m hS fun _ _ _ h=>h⟩,u2,y,rowIn.wide A hS fun _ _ _ h=>h⟩
theorem Vz {S S':Nat→Prop} {w:World} (hS:∀q,q<w.heap.size→S q→S' q) (b o:Nat) (x:Ob) (h:ue S w b o x):ue S' w b o x:=by
 obtain ⟨m,u,e,c⟩:=h;exact ⟨m,u,e,rowIn.wide c hS fun _ _ _ h=>h⟩
theorem Yt.wide {S S':Nat→Prop} {w:World} {s:Sn} {vc vh:Value} (h:Yt S w s vc vh) (hS:∀q,q<w.heap.size→S q→S' q):Yt S' w s vc vh :=
 ⟨rowIn.wide h.calls hS (Vy hS),rowIn.wide h.heap hS (Vz hS)⟩
theorem Yt.low {S:Nat→Prop} {w:World} {s:Sn} {vc vh:Value} (h:Yt S w s vc vh):Yt (fun q=>q<w.heap.size) w s vc vh:=h.wide fun _ hq _=>hq
theorem VA {S:Nat→Prop} {w:World} {v:Value} {l:List Vl} (h:vP S w v l):zp S w v l:=by
 obtain ⟨base,A,I,R,K,z⟩:=h;refine ⟨base,A,I,R,K,?_⟩;rcases z with z | ⟨b,o,e,M,q,T⟩
 ·exact .inl z
 ·refine .inr ⟨b,o,e,M,q,fun j u hj=>?_⟩
  have J:j<l.length*3:=by rw [←Yy];exact (List.getElem?_eq_some_iff.1 hj).1
  have G:j / 3<l.length:=by omega
  obtain ⟨E,D,F⟩:=XW l (j / 3) G;obtain ⟨B,O,H⟩:=T (j / 3) G;have m:j % 3=0∨j % 3=1∨j % 3=2:=by omega
  rcases m with m | m | m
  ·have c:j=j / 3*3:=by omega
   rw [←c] at E B;rw [E] at hj;rw [B,hj]
  ·have c:j=j / 3*3+1:=by omega
   rw [←c] at D;rw [D] at hj;have y:o+j=o+j / 3*3+1:=by omega
   rw [y,O,hj]
  ·have c:j=j / 3*3+2:=by omega
   rw [←c] at F;rw [F] at hj;have y:o+j=o+j / 3*3+2:=by omega
   rw [y,H,hj]
theorem VB {S:Nat→Prop} {w:World} {v:Value} {l:List Ob} (h:uZ S w v l):z8 S w v l:=by
 obtain ⟨base,m,A,E,y,c⟩:=h;refine ⟨base,m,A,E,y,?_⟩;rcases c with c | ⟨b,o,e,z,q,F⟩
 ·exact .inl c
 ·refine .inr ⟨b,o,e,z,q,fun j hj=>?_⟩
  obtain ⟨G,u,D,B⟩:=F j hj;exact ⟨u,G,D,VA B⟩
abbrev UI (x:Ul) (u1 u2:Value):Value:=.agg #[.int .i64 x.unit,.int .i64 x.at0,.int .i64 x.mark,u1,u2]
abbrev UJ (x:Ob) (u:Value):Value:=.agg #[.string (za x.1),u]
abbrev UK (x:Sn) (u1 u2:Value):Value:=.agg #[.int .i64 x.pos,.int .i64 x.st,.int .i64 x.ft,u1,u2,.string (za x.out),.int .i64 x.rd]
def Un (c:Ul):Prop:=(VG c.unit∧VG c.at0∧VG c.mark)∧((∀v∈c.slots,zq v∧VG v.k)∧c.slots.length≤1048576)∧(∀v∈c.stack,zq v∧VG v.k)∧c.stack.length≤1048576
def vQ (o:Ob):Prop:=o.1.length≤1048576∧(∀v∈o.2,zq v∧VG v.k)∧o.2.length≤1048576
structure UC (s:Sn):Prop where
 nums:VG s.pos∧VG s.st∧VG s.ft∧VG s.rd
 out:s.out.length≤1048576
 calls:(∀c∈s.calls,Un c)∧s.calls.length≤1048576
 heap:(∀o∈s.heap,vQ o)∧s.heap.length≤1048576
end Go.Proofs.YtbjndgachcdbcaaGreatDoor
