import Derived.Test.YtbjndgachcdbcaaGreatDoorPBase
import Derived.Test.YtbjndgachcdbcaaGreatDoorHAll
namespace Go.Proofs.YtbjndgachcdbcaaGreatDoor
open Go.RowKit Go.Shelf
structure uf where
 unit:Int
 at0:Int
 mark:Int
 slots:List Vl
 stack:List Vl
structure Sn where
 pos:Int
 st:Int
 ft:Int
 calls:List uf
 heap:List Ob
 out:List UInt8
 rd:Int
def uq (w:World) (b o:Nat) (x:Vl):Prop:=w.cell? ⟨b,o,none⟩=some (.int .i64 x.k)∧w.cell? ⟨b,o+1,none⟩=some (.int .i64 x.n)∧w.cell? ⟨b,o+2,none⟩=some (.string (za x.s))
def Vp (S:Nat→Prop) (w:World) (v:Value) (l:List Vl):Prop:=rowIn S w v 3 uq l
def VZ (S:Nat→Prop) (w:World) (b o:Nat) (x:uf):Prop :=
 w.cell? ⟨b,o,none⟩=some (.int .i64 x.unit)∧w.cell? ⟨b,o+1,none⟩=some (.int .i64 x.at0)∧w.cell? ⟨b,o+2,none⟩=some (.int .i64 x.mark) ∧
  (∃u,w.cell? ⟨b,o+3,none⟩=some u∧Vp S w u x.slots)∧∃u,w.cell? ⟨b,o+4,none⟩=some u∧Vp S w u x.stack
def ur (S:Nat→Prop) (w:World) (v:Value) (l:List uf):Prop:=rowIn S w v 5 (VZ S) l
def V0 (S:Nat→Prop) (w:World) (b o:Nat) (x:Ob):Prop:=w.cell? ⟨b,o,none⟩=some (.string (za x.1))∧∃u,w.cell? ⟨b,o+1,none⟩=some u∧Vp S w u x.2
def ut (S:Nat→Prop) (w:World) (v:Value) (l:List Ob):Prop:=rowIn S w v 2 (V0 S) l
structure yY (S:Nat→Prop) (w:World) (s:Sn) (vc vh:Value):Prop where
 calls:ur S w vc s.calls
 heap:ut S w vh s.heap
theorem yi (S:Nat→Prop):yc S uq:=fun _ _ _ _ _ _ hb hS hlt ⟨a,b,c⟩=>⟨(World.cell?_of_block (hb _ hS hlt)).trans a,(World.cell?_of_block (hb _ hS hlt)).trans b,(World.cell?_of_block (hb _ hS hlt)).trans c⟩
theorem XJ (S:Nat→Prop):yc S (VZ S):=fun _ _ _ _ _ hs hb hS hlt ⟨a,b,c,⟨u,f,g⟩,y,h,i⟩ =>
 ⟨(World.cell?_of_block (hb _ hS hlt)).trans a,(World.cell?_of_block (hb _ hS hlt)).trans b,(World.cell?_of_block (hb _ hS hlt)).trans c,
  ⟨u,(World.cell?_of_block (hb _ hS hlt)).trans f,rowIn.kept g (yi S) hs hb⟩,y,(World.cell?_of_block (hb _ hS hlt)).trans h,rowIn.kept i (yi S) hs hb⟩
theorem XK (S:Nat→Prop):yc S (V0 S):=fun _ _ _ _ _ hs hb hS hlt ⟨a,u,b,c⟩=>⟨(World.cell?_of_block (hb _ hS hlt)).trans a,u,(World.cell?_of_block (hb _ hS hlt)).trans b,rowIn.kept c (yi S) hs hb⟩
theorem yY.kept {S:Nat→Prop} {w w':World} {s:Sn} {vc vh:Value} (h:yY S w s vc vh) (hs:w.heap.size≤w'.heap.size) (hb:∀q,S q→q<w.heap.size→w'.heap[q]?=w.heap[q]?):yY S w' s vc vh :=
 ⟨rowIn.kept h.calls (XJ S) hs hb,rowIn.kept h.heap (XK S) hs hb⟩
theorem yY.below {S:Nat→Prop} {w w':World} {s:Sn} {vc vh:Value} (h:yY S w s vc vh) (hb:Below w.heap.size w w'):yY S w' s vc vh:=h.kept hb.size fun q _ hq=>hb.block q hq
theorem vI {S S':Nat→Prop} {w:World} (hS:∀q,q<w.heap.size→S q→S' q) (b o:Nat) (x:uf) (h:VZ S w b o x):VZ S' w b o x:=by
 obtain ⟨y,B,m,⟨u,A,c⟩,u2,e,z⟩:=h;exact ⟨y,B,m,⟨u,A,rowIn.wide c hS fun _ _ _ h=>h⟩,u2,e,rowIn.wide z hS fun _ _ _ h=>h⟩
theorem vJ {S S':Nat→Prop} {w:World} (hS:∀q,q<w.heap.size→S q→S' q) (b o:Nat) (x:Ob) (h:V0 S w b o x):V0 S' w b o x:=by
 obtain ⟨m,u,e,c⟩:=h;exact ⟨m,u,e,rowIn.wide c hS fun _ _ _ h=>h⟩
theorem yY.wide {S S':Nat→Prop} {w:World} {s:Sn} {vc vh:Value} (h:yY S w s vc vh) (hS:∀q,q<w.heap.size→S q→S' q):yY S' w s vc vh :=
 ⟨rowIn.wide h.calls hS (vI hS),rowIn.wide h.heap hS (vJ hS)⟩
theorem yY.low {S:Nat→Prop} {w:World} {s:Sn} {vc vh:Value} (h:yY S w s vc vh):yY (fun q=>q<w.heap.size) w s vc vh:=h.wide fun _ hq _=>hq
abbrev uI (x:uf) (u1 u2:Value):Value:=.agg #[.int .i64 x.unit,.int .i64 x.at0,.int .i64 x.mark,u1,u2]
abbrev uJ (x:Ob) (u:Value):Value:=.agg #[.string (za x.1),u]
abbrev uK (x:Sn) (u1 u2:Value):Value:=.agg #[.int .i64 x.pos,.int .i64 x.st,.int .i64 x.ft,u1,u2,.string (za x.out),.int .i64 x.rd]
def ug (c:uf):Prop:=(vZ c.unit∧vZ c.at0∧vZ c.mark)∧((∀v∈c.slots,zw v∧vZ v.k)∧c.slots.length≤1048576)∧(∀v∈c.stack,zw v∧vZ v.k)∧c.stack.length≤1048576
def V1 (o:Ob):Prop:=o.1.length≤1048576∧(∀v∈o.2,zw v∧vZ v.k)∧o.2.length≤1048576
structure uC (s:Sn):Prop where
 nums:vZ s.pos∧vZ s.st∧vZ s.ft∧vZ s.rd
 out:s.out.length≤1048576
 calls:(∀c∈s.calls,ug c)∧s.calls.length≤1048576
 heap:(∀o∈s.heap,V1 o)∧s.heap.length≤1048576
end Go.Proofs.YtbjndgachcdbcaaGreatDoor
