import Derived.Test.YtbjndgachcdbcaaGreatDoorMC6
import Derived.Test.YtbjndgachcdbcaaGreatDoorMC7
import Derived.Maps.AppendAt
import Derived.Deep.DeepCutAuto
import Derived.BigQuiet
namespace Go.Proofs.YtbjndgachcdbcaaGreatDoor
open Go.RowKit Go.Shelf
def rowIn {α:Type} (S:Nat→Prop) (w:World) (v:Value) (k:Nat) (E:World→Nat→Nat→α→Prop) (l:List α):Prop :=
 ∃base cap,v=.slice base l.length cap∧l.length≤cap∧cap≤maxLen ∧
  (l=[]∨∃b o,base=some ⟨b,o,none⟩∧S b∧b<w.heap.size∧∀j (hj:j<l.length),E w b (o+j*k) l[j])
def ye {α:Type} (S:Nat→Prop) (E:World→Nat→Nat→α→Prop):Prop :=
 ∀w w' b o x,w.heap.size≤w'.heap.size→(∀q,S q→q<w.heap.size→w'.heap[q]?=w.heap[q]?)→S b→b<w.heap.size→E w b o x→E w' b o x
theorem rowIn.kept {α:Type} {S:Nat→Prop} {w w':World} {v:Value} {k:Nat} {E:World→Nat→Nat→α→Prop} {l:List α} (h:rowIn S w v k E l) (hE:ye S E) (hs:w.heap.size≤w'.heap.size) (hb:∀q,S q→q<w.heap.size→w'.heap[q]?=w.heap[q]?):rowIn S w' v k E l:=by
 obtain ⟨base,m,B,D,z,u⟩:=h;refine ⟨base,m,B,D,z,?_⟩;rcases u with u | ⟨b,o,e,y,c,A⟩
 ·exact .inl u
 ·exact .inr ⟨b,o,e,y,Nat.lt_of_lt_of_le c hs,fun j hj=>hE w w' b _ _ hs hb y c (A j hj)⟩
theorem rowIn.at {α:Type} {S:Nat→Prop} {w:World} {v:Value} {k:Nat} {E:World→Nat→Nat→α→Prop} {l:List α} (h:rowIn S w v k E l):∃base c,v=.slice base l.length c∧l.length≤c∧c≤maxLen∧∀i (hi:i<l.length),∃b o,base=some ⟨b,o,none⟩∧S b∧b<w.heap.size∧E w b (o+i*k) l[i]:=by
 obtain ⟨base,c,z,B,u,q⟩:=h;refine ⟨base,c,z,B,u,fun i hi=>?_⟩
 rcases q with q | ⟨b,o,e,A,m,y⟩
 ·subst q;simp at hi
 ·exact ⟨b,o,e,A,m,y i hi⟩
theorem rowIn.wide {α:Type} {S S':Nat→Prop} {w:World} {v:Value} {k:Nat} {E E':World→Nat→Nat→α→Prop} {l:List α} (h:rowIn S w v k E l) (hS:∀q,q<w.heap.size→S q→S' q) (hE:∀b o x,E w b o x→E' w b o x):rowIn S' w v k E' l:=by
 obtain ⟨base,m,A,D,y,u⟩:=h;refine ⟨base,m,A,D,y,?_⟩;rcases u with u | ⟨b,o,e,B,c,z⟩
 ·exact .inl u
 ·exact .inr ⟨b,o,e,hS b c B,c,fun j hj=>hE _ _ _ (z j hj)⟩
theorem yE (w:World) (A:Obj):∃w1,w1=w.alloc A∧Below w.heap.size w w1∧Hid (w1.heap.size=w.heap.size+1)∧w1.heap[w.heap.size]?=some A :=
 ⟨_,rfl,(Below.refl _ _).alloc (Nat.le_refl _) _,by show _=_;simp,World.alloc_heap_new _ _⟩
theorem UO (w:World) (A B:Obj):∃w1,w1=(w.alloc A).alloc B∧Below w.heap.size w w1∧Hid (w1.heap.size=w.heap.size+2)∧w1.heap[w.heap.size]?=some A∧w1.heap[w.heap.size+1]?=some B :=
 ⟨_,rfl,((Below.refl _ _).alloc (Nat.le_refl _) _).alloc (by simp) _,by show _=_;simp,by rw [Below.heap_alloc _ _ _ (by simp)];exact World.alloc_heap_new _ _,by
  have:=World.alloc_heap_new (w.alloc A) B
  simpa using this⟩
theorem xX {w:World} {N:Nat} {x0 x1:Value} {ty:TypeId} (h:w.heap[N]?=some (.cells #[x0,x1] ty (0,0))):w.cell? ⟨N,0,none⟩=some x0∧w.cell? ⟨N,1,none⟩=some x1:=by
 refine ⟨?_,?_⟩ <;> (simp only [World.cell?,h];rfl)
theorem ym {w:World} {N:Nat} {x0 x1 x2 x3:Value} {ty:TypeId} (h:w.heap[N]?=some (.cells #[x0,x1,x2,x3] ty (0,0))):w.cell? ⟨N,0,none⟩=some x0∧w.cell? ⟨N,1,none⟩=some x1∧w.cell? ⟨N,2,none⟩=some x2∧w.cell? ⟨N,3,none⟩=some x3:=by
 refine ⟨?_,?_,?_,?_⟩ <;> (simp only [World.cell?,h];rfl)
theorem zc {w:World} {g:Nat} {o:Obj} (h:w.heap[g]?=some o):g<w.heap.size:=(Array.getElem?_eq_some_iff.1 h).1
structure Yr (B:Nat) (w:World) (v:Value) (w':World) (v':Value) (us':List UInt8):Prop where
 row:w'.ownsRow B 5 1 v' us'.length (Lib.byteCells us')
 grown:w.grownBy w' v.ownBlock
 loc:v'.ownBlock=v.ownBlock∨∃k,v'.ownBlock=some k∧w.heap.size≤k
theorem Yr.refl {B:Nat} {w:World} {v:Value} {us:List UInt8} (h:w.ownsRow B 5 1 v us.length (Lib.byteCells us)):Yr B w v w v us:=⟨h,Z3 _ _,.inl rfl⟩
theorem Yr.trans {B:Nat} {w w1 w2:World} {v v1 v2:Value} {us1 us2:List UInt8} (h:Yr B w v w1 v1 us1) (h2:Yr B w1 v1 w2 v2 us2):Yr B w v w2 v2 us2:=by
 refine ⟨h2.row,⟨h2.grown.os.trans h.grown.os,h2.grown.tape.trans h.grown.tape,h2.grown.output.trans h.grown.output,Nat.le_trans h.grown.size h2.grown.size,fun k hk hne=>?_⟩,?_⟩
 ·refine (h2.grown.block k (Nat.lt_of_lt_of_le hk h.grown.size) fun e=>?_).trans (h.grown.block k hk hne)
  rcases h.loc with b | ⟨q,b,m⟩
  ·exact hne (e.trans b)
  ·rw [b] at e;cases e;omega
 ·rcases h2.loc with c | ⟨q,c,m⟩
  ·rcases h.loc with b | ⟨q,b,m⟩
   ·exact .inl (c.trans b)
   ·exact .inr ⟨q,c.trans b,m⟩
  ·exact .inr ⟨q,c,Nat.le_trans h.grown.size m⟩
theorem Zs {w:World} {B e sz n k:Nat} {v:Value} {xs:List Value} (h:w.ownsRow B e sz v n xs) (hk:v.ownBlock=some k):∃b,w.heap[k]?=some (.cells b e (0,0)):=by
 rcases h.2 with ⟨rfl,_⟩ | ⟨g,m,b,rfl,_,c,_⟩
 ·simp [Value.ownBlock] at hk
 ·simp [Value.ownBlock] at hk
  subst hk;exact ⟨b,c⟩
theorem Yr.low {B:Nat} {w w':World} {v v':Value} {us us':List UInt8} (h:Yr B w v w' v' us') (ho:w.ownsRow B 5 1 v us.length (Lib.byteCells us)) (hB:B≤w.heap.size):Below B w w' :=
 ⟨h.grown.os,h.grown.tape,h.grown.output,h.grown.size,fun k hk=>h.grown.block k (by omega) fun e=>by have:=(ho.lt k e.symm).1;omega⟩
theorem um {w w':World} {B e n:Nat} {v:Value} {xs:List Value} (h:w.ownsRow B e 1 v n xs) (hb:Below w.heap.size w w'):w'.ownsRow B e 1 v n xs:=by
 obtain ⟨z,b⟩:=h;refine ⟨z,?_⟩;rcases b with b | ⟨g,c,m,q,u,o,y⟩
 ·exact .inl b
 ·exact .inr ⟨g,c,m,q,u,(hb.block g (zc o)).trans o,y⟩
theorem VJ {w:World} {B e n:Nat} {v:Value} {xs:List Value} (h:w.ownsRow B e 1 v n xs):∃base cap,v=.slice base n cap:=by
 rcases h.2 with ⟨rfl,b⟩ | ⟨g,cap,c,rfl,_⟩
 ·exact ⟨none,0,by rw [b]⟩
 ·exact ⟨_,_,rfl⟩
theorem yn {w:World} {B e n:Nat} {v:Value} {xs:List Value} (h:w.ownsRow B e 1 v n xs):∃n0 base cap,v=.slice base n0 cap:=by
 obtain ⟨b,c,h⟩:=VJ h;exact ⟨_,b,c,h⟩
structure Ug {α:Type} (k:Nat) (CO:(Nat→Prop)→World→α→List Value→Prop):Prop where
 len:∀S w x cs,CO S w x cs→cs.length=k
 one:∀S w x cs,CO S w x cs→∀u∈cs,u.oneCell'=true
 keep:∀S w w' x cs,CO S w x cs→w.heap.size≤w'.heap.size→(∀q,S q→q<w.heap.size→w'.heap[q]?=w.heap[q]?)→CO S w' x cs
 wide:∀(S S':Nat→Prop) w x cs,CO S w x cs→(∀q,q<w.heap.size→S q→S' q)→CO S' w x cs
def SV (N p:Nat) (v:Value) (b:Nat):Prop:=N≤b∧b≠p∧v.ownBlock≠some b
structure UP {α:Type} (CO:(Nat→Prop)→World→α→List Value→Prop) (k N p:Nat) (ty:TypeId) (w0:World) (base:Option Addr) (cap:Nat) (bs:List UInt8) (v:Value) (wr:World) (l:List α) (css:List (List Value)) (a r:Nat):Prop where
 rd:zZ wr p base cap bs a r
 kept:w0.grownBy wr (some p)
 len:css.length=l.length
 co:∀i (h:i<l.length) (h':i<css.length),CO (SV N p v) wr l[i] css[i]
 row:wr.ownsRow N ty k v l.length css.flatten
 hN:N=w0.heap.size
 low:N≤wr.heap.size
 plt:p<N
 blt:∀x,base=some x→x.block<N
theorem XE {k:Nat} {css:List (List Value)} (h:∀cs∈css,cs.length=k):css.flatten.length=css.length*k:=by
 induction css with
 | nil=>simp
 | cons c t ih =>
  rw [List.flatten_cons,List.length_append,ih fun cs hcs=>h cs (by simp [hcs]),h c (by simp),List.length_cons,Nat.add_mul,Nat.one_mul,Nat.add_comm]
theorem UP.rowIn {α:Type} {CO:(Nat→Prop)→World→α→List Value→Prop} {k N p:Nat} (law:Ug k CO) {ty:TypeId} {w0:World} {base:Option Addr} {cap:Nat} {bs:List UInt8} {v:Value} {wr:World} {l:List α} {css:List (List Value)} {a r:Nat} (h:UP CO k N p ty w0 base cap bs v wr l css a r) {E:World→Nat→Nat→α→Prop}
  (hE:∀x cs b o,CO (fun b=>N≤b∧b≠p) wr x cs→(∀j (hj:j<cs.length),wr.cell? ⟨b,o+j,none⟩=some cs[j])→E wr b o x):rowIn (fun b=>N≤b∧b≠p) wr v k E l:=by
 have H:=h.plt;rcases h.row.2 with ⟨y,I⟩ | ⟨g,U,M,y,J,R,D,z,K,A⟩
 ·refine ⟨none,0,by rw [y,I],by omega,by decide,.inl (List.length_eq_zero_iff.1 I)⟩
 ·refine ⟨some ⟨g,0,none⟩,U,y,D,z,.inr ⟨g,0,rfl,⟨J,by omega⟩,zc R,fun i hi=>?_⟩⟩
  have e:i<css.length:=by rw [h.len];exact hi
  have B:=h.co i hi e;refine hE l[i] css[i] g _ (law.wide _ _ _ _ _ B fun q _ hS=>⟨hS.1,hS.2.1⟩) fun j hj=>?_
  have c:∀cs∈css,cs.length=k:=fun cs hcs'=>by
   obtain ⟨q,G,rfl⟩:=List.getElem_of_mem hcs';exact law.len _ _ _ _ (h.co q (by rw [←h.len];exact G) G)
  have O:j<k:=by rw [←c css[i] (List.getElem_mem e)];exact hj
  have u:css.flatten[i*k+j]?=some css[i][j]:=by
   have T:css=css.take i++css[i]::css.drop (i+1):=by rw [List.getElem_cons_drop,List.take_append_drop]
   have F:(css.take i).flatten.length=i*k:=by
    rw [XE fun cs hcs'=>c cs (List.mem_of_mem_take hcs'),List.length_take,Nat.min_eq_left (Nat.le_of_lt e)]
   conv=>lhs;rw [T]
   rw [List.flatten_append,List.flatten_cons,List.getElem?_append_right (by omega),F,Nat.add_sub_cancel_left,List.getElem?_append_left hj,List.getElem?_eq_getElem hj]
  have m:=h.row.cells (g:=g) (by rw [y];rfl) (i*k+j) css[i][j] u
  rw [show (⟨g,0+i*k+j,none⟩:Addr)=(⟨g,0,none⟩:Addr).add (i*k+j) by rw [yi];simp]
  exact m
theorem yF (w:World) (l:List Value) (ty:TypeId):∀j u,l[j]?=some u→(w.alloc (.cells l.toArray ty)).cell? ((⟨w.heap.size,0,none⟩:Addr).add j)=some u:=fun j u h=>by
 rw [yi];have b:(w.alloc (.cells l.toArray ty)).heap[w.heap.size]?=some (.cells l.toArray ty (0,0)):=World.alloc_heap_new _ _;simp only [World.cell?,b]
 simpa using h
theorem xY {w:World} {N:Nat} {xs:Array Value} {ty:TypeId} (h:w.heap[N]?=some (.cells xs ty (0,0))) (j:Nat):w.frozen? ⟨N,j,none⟩=false:=by simp only [World.frozen?,h];simp
structure un (w W:World) (p:Nat) (base:Option Addr) (cap:Nat) (bs:List UInt8) (a r:Nat) (ty:TypeId) (zero cur:Array Value):Prop where
 rd:zZ W p base cap bs a r
 X:W.heap[w.heap.size+1]?=some (.cells cur ty (0,0))
 Y:W.heap[w.heap.size]?=some (.cells zero ty (0,0))
 G:w.grownBy W (some p)
 plt:p<w.heap.size
 blt:∀x,base=some x→x.block<w.heap.size
theorem un.call {w W W1:World} {p:Nat} {base:Option Addr} {cap:Nat} {bs:List UInt8} {a r a1 r1:Nat} {ty:TypeId} {zero cur:Array Value} (h:un w W p base cap bs a r ty zero cur) (hr:zZ W1 p base cap bs a1 r1) (hg:W.grownBy W1 (some p)):un w W1 p base cap bs a1 r1 ty zero cur:=by
 have b:=h.plt;have c:=zc h.X;refine ⟨hr,(hg.block _ c (by simp;omega)).trans h.X,(hg.block _ (by omega) (by simp;omega)).trans h.Y,⟨hg.os.trans h.G.os,hg.tape.trans h.G.tape,hg.output.trans h.G.output,Nat.le_trans h.G.size hg.size,fun k hk hne=>(hg.block k (Nat.lt_of_lt_of_le hk h.G.size) hne).trans (h.G.block k hk hne)⟩,h.plt,h.blt⟩
def V7 (n:Int):Prop:=-9223372036854775808≤n∧n≤9223372036854775807
end Go.Proofs.YtbjndgachcdbcaaGreatDoor
