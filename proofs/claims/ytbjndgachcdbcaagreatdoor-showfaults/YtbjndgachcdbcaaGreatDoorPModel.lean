import Derived.Test.YtbjndgachcdbcaaGreatDoorPBase
import Derived.Test.YtbjndgachcdbcaaGreatDoorHAll
namespace Go.Proofs.YtbjndgachcdbcaaGreatDoor
open Go.RowKit Go.Shelf
structure VD where
 unit:Int
 at0:Int
 mark:Int
 slots:List Vl
 stack:List Vl
structure Sn where
 pos:Int
 st:Int
 ft:Int
 calls:List VD
 heap:List Ob
 out:List UInt8
 rd:Int
def VM (w:World) (b o:Nat) (x:Vl):Prop:=w.cell? ⟨b,o,none⟩=some (.int .i64 x.k)∧w.cell? ⟨b,o+1,none⟩=some (.int .i64 x.n)∧w.cell? ⟨b,o+2,none⟩=some (.string (za x.s))
def vO (S:Nat→Prop) (w:World) (v:Value) (l:List Vl):Prop:=rowIn S w v 3 VM l
def Vq (S:Nat→Prop) (w:World) (b o:Nat) (x:VD):Prop :=
 w.cell? ⟨b,o,none⟩=some (.int .i64 x.unit)∧w.cell? ⟨b,o+1,none⟩=some (.int .i64 x.at0)∧w.cell? ⟨b,o+2,none⟩=some (.int .i64 x.mark) ∧
  (∃u,w.cell? ⟨b,o+3,none⟩=some u∧vO S w u x.slots)∧∃u,w.cell? ⟨b,o+4,none⟩=some u∧vO S w u x.stack
def VN (S:Nat→Prop) (w:World) (v:Value) (l:List VD):Prop:=rowIn S w v 5 (Vq S) l
def Vr (S:Nat→Prop) (w:World) (b o:Nat) (x:Ob):Prop:=w.cell? ⟨b,o,none⟩=some (.string (za x.1))∧∃u,w.cell? ⟨b,o+1,none⟩=some u∧vO S w u x.2
def VO (S:Nat→Prop) (w:World) (v:Value) (l:List Ob):Prop:=rowIn S w v 2 (Vr S) l
structure yQ (S:Nat→Prop) (w:World) (s:Sn) (vc vh:Value):Prop where
 calls:VN S w vc s.calls
 heap:VO S w vh s.heap
theorem yf (S:Nat→Prop):Z9 S VM:=fun _ _ _ _ _ _ hb hS hlt ⟨a,b,c⟩=>⟨(World.cell?_of_block (hb _ hS hlt)).trans a,(World.cell?_of_block (hb _ hS hlt)).trans b,(World.cell?_of_block (hb _ hS hlt)).trans c⟩
theorem Xq (S:Nat→Prop):Z9 S (Vq S):=fun _ _ _ _ _ hs hb hS hlt ⟨a,b,c,⟨u,f,g⟩,y,h,i⟩ =>
 ⟨(World.cell?_of_block (hb _ hS hlt)).trans a,(World.cell?_of_block (hb _ hS hlt)).trans b,(World.cell?_of_block (hb _ hS hlt)).trans c,
  ⟨u,(World.cell?_of_block (hb _ hS hlt)).trans f,rowIn.kept g (yf S) hs hb⟩,y,(World.cell?_of_block (hb _ hS hlt)).trans h,rowIn.kept i (yf S) hs hb⟩
theorem Xr (S:Nat→Prop):Z9 S (Vr S):=fun _ _ _ _ _ hs hb hS hlt ⟨a,u,b,c⟩=>⟨(World.cell?_of_block (hb _ hS hlt)).trans a,u,(World.cell?_of_block (hb _ hS hlt)).trans b,rowIn.kept c (yf S) hs hb⟩
theorem yQ.kept {S:Nat→Prop} {w w':World} {s:Sn} {vc vh:Value} (h:yQ S w s vc vh) (hs:w.heap.size≤w'.heap.size) (hb:∀q,S q→q<w.heap.size→w'.heap[q]?=w.heap[q]?):yQ S w' s vc vh :=
 ⟨rowIn.kept h.calls (Xq S) hs hb,rowIn.kept h.heap (Xr S) hs hb⟩
theorem yQ.below {S:Nat→Prop} {w w':World} {s:Sn} {vc vh:Value} (h:yQ S w s vc vh) (hb:Below w.heap.size w w'):yQ S w' s vc vh:=h.kept hb.size fun q _ hq=>hb.block q hq
theorem X9 {S S':Nat→Prop} {w:World} (hS:∀q,q<w.heap.size→S q→S' q) (b o:Nat) (x:VD) (h:Vq S w b o x):Vq S' w b o x:=by
 obtain ⟨e,B,z,⟨u,y,m⟩,u2,c,A⟩:=h;exact ⟨e,B,z,⟨u,y,rowIn.wide m hS fun _ _ _ h=>h⟩,u2,c,rowIn.wide A hS fun _ _ _ h=>h⟩
theorem vd {S S':Nat→Prop} {w:World} (hS:∀q,q<w.heap.size→S q→S' q) (b o:Nat) (x:Ob) (h:Vr S w b o x):Vr S' w b o x:=by
 obtain ⟨c,u,m,e⟩:=h;exact ⟨c,u,m,rowIn.wide e hS fun _ _ _ h=>h⟩
theorem yQ.wide {S S':Nat→Prop} {w:World} {s:Sn} {vc vh:Value} (h:yQ S w s vc vh) (hS:∀q,q<w.heap.size→S q→S' q):yQ S' w s vc vh :=
 ⟨rowIn.wide h.calls hS (X9 hS),rowIn.wide h.heap hS (vd hS)⟩
theorem yQ.low {S:Nat→Prop} {w:World} {s:Sn} {vc vh:Value} (h:yQ S w s vc vh):yQ (fun q=>q<w.heap.size) w s vc vh:=h.wide fun _ hq _=>hq
abbrev V4 (x:VD) (u1 u2:Value):Value:=.agg #[.int .i64 x.unit,.int .i64 x.at0,.int .i64 x.mark,u1,u2]
abbrev V5 (x:Ob) (u:Value):Value:=.agg #[.string (za x.1),u]
abbrev V6 (x:Sn) (u1 u2:Value):Value:=.agg #[.int .i64 x.pos,.int .i64 x.st,.int .i64 x.ft,u1,u2,.string (za x.out),.int .i64 x.rd]
def VE (c:VD):Prop:=(vQ c.unit∧vQ c.at0∧vQ c.mark)∧((∀v∈c.slots,zv v∧vQ v.k)∧c.slots.length≤1048576)∧(∀v∈c.stack,zv v∧vQ v.k)∧c.stack.length≤1048576
def Vs (o:Ob):Prop:=o.1.length≤1048576∧(∀v∈o.2,zv v∧vQ v.k)∧o.2.length≤1048576
structure VY (s:Sn):Prop where
 nums:vQ s.pos∧vQ s.st∧vQ s.ft∧vQ s.rd
 out:s.out.length≤1048576
 calls:(∀c∈s.calls,VE c)∧s.calls.length≤1048576
 heap:(∀o∈s.heap,Vs o)∧s.heap.length≤1048576
end Go.Proofs.YtbjndgachcdbcaaGreatDoor
