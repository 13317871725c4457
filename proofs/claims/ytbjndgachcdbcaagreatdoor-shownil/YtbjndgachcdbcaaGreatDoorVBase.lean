import Derived.Test.YtbjndgachcdbcaaGreatDoorPBase
import Derived.Test.YtbjndgachcdbcaaGreatDoorHShow2
import Derived.Laws.OwnMore
namespace Go.Proofs.YtbjndgachcdbcaaGreatDoor
open Go.RowKit Go.Shelf
set_option maxRecDepth 100000
def xS (w:World) (b o:Nat) (s:List UInt8):Prop:=w.cell? ⟨b,o,none⟩=some (.string (za s))
def strC (l:List (List UInt8)):List Value:=l.map fun s=>Value.string (za s)
theorem v8 (l m:List (List UInt8)):strC (l++m)=strC l++strC m:=by simp [strC]
theorem ZJ (l:List (List UInt8)):(strC l).length=l.length:=by simp [strC]
theorem Yo (l:List (List UInt8)):∀u∈strC l,u.oneCell'=true:=by
 intro u b
 unfold strC at b
 rw [List.mem_map] at b;obtain ⟨s,_,rfl⟩:=b
 rfl
theorem Yp:(Tryz.prog.info? 9).map (fun i=>(i.zero,i.size,i.bytes))=some (some (.string ⟨#[]⟩),1,16):=by kernel_rfl
structure zj (B:Nat) (w0 wr:World) (v:Value) (l:List (List UInt8)):Prop where
 row:wr.ownsRow B 9 1 v l.length (strC l)
 below:Below B w0 wr
 low:B≤wr.heap.size
theorem zj.nil (B:Nat) (w0 w:World) (hb:Below B w0 w) (h:B≤w.heap.size):zj B w0 w (.slice none 0 0) []:=⟨World.ownsRow_nil _ _ _ _,hb,h⟩
theorem zj.new {B:Nat} {w0 wr w1:World} {v:Value} {l:List (List UInt8)} (h:zj B w0 wr v l) (hb:Below wr.heap.size wr w1):zj B w0 w1 v l:=⟨vX h.row hb,h.below.trans (hb.mono h.low),Nat.le_trans h.low hb.size⟩
theorem Va (w:World) (l:List (List UInt8)) (hl:l.length≤maxLen):(w.alloc (.cells (strC l).toArray 9)).ownsRow w.heap.size 9 1 (.slice (some ⟨w.heap.size,0,none⟩) l.length l.length) l.length (strC l) :=
 ⟨by rw [ZJ,Nat.mul_one],.inr ⟨w.heap.size,l.length,(strC l).toArray,rfl,Nat.le_refl _,World.alloc_heap_new _ _,Nat.le_refl _,hl,by simp [ZJ],by simp [ZJ,List.take_of_length_le]⟩⟩
theorem zj.lit (B:Nat) (w0 w:World) (l:List (List UInt8)) (hb:Below B w0 w) (h:B≤w.heap.size) (hl:l.length≤maxLen):zj B w0 (w.alloc (.cells (strC l).toArray 9)) (.slice (some ⟨w.heap.size,0,none⟩) l.length l.length) l:=by
 obtain ⟨m,e⟩:=Va w l hl;refine ⟨⟨m,?_⟩,hb.alloc h _,by simp;omega⟩
 rcases e with e | ⟨g,b,c,o,q,rest⟩
 ·exact .inl e
 ·exact .inr ⟨g,b,c,o,by omega,rest⟩
theorem zj.app {B:Nat} {w0 wr w2 w3:World} {v v':Value} {l m:List (List UInt8)} (h:zj B w0 wr v l) (h2:Below wr.heap.size wr w2) (hr:w3.ownsRow B 9 1 v' (l.length+m.length) (strC l++strC m)) (hg:w2.grownBy w3 v.ownBlock):zj B w0 w3 v' (l++m):=by
 have o:=h2.size;have c:=hg.size;have b:=h.low;refine ⟨by rw [v8,List.length_append];exact hr,⟨?_,?_,?_,by have:=h.below.size;omega,fun k hk=>?_⟩,by omega⟩
 ·rw [hg.os,h2.os];exact h.below.os
 ·rw [hg.tape,h2.tape];exact h.below.tape
 ·rw [hg.output,h2.output];exact h.below.output
 ·rw [hg.block k (by omega) (fun e=>by have:=(h.row.lt k e.symm).1;omega),h2.block k (by omega)]
  exact h.below.block k hk
theorem zj.in {B:Nat} {w0 wr:World} {v:Value} {l:List (List UInt8)} (h:zj B w0 wr v l):rowIn (fun k=>B≤k) wr v 1 xS l:=by
 rcases h.row.2 with ⟨b,q⟩ | ⟨g,z,A,b,y,u,m,c,x,e⟩
 ·exact ⟨none,0,by rw [b,q],by omega,Nat.zero_le _,.inl (List.length_eq_zero_iff.1 q)⟩
 ·refine ⟨some ⟨g,0,none⟩,z,b,m,c,.inr ⟨g,0,rfl,y,zc u,fun j hj=>?_⟩⟩
  have o:=h.row.cells (g:=g) (by rw [b];rfl) j (.string (za l[j])) (by unfold strC;rw [List.getElem?_map,List.getElem?_eq_getElem hj];rfl)
  rw [ZX] at o;show wr.cell? _=_
  rw [Nat.zero_add,Nat.mul_one];exact o
theorem zk {B:Nat} {w2 w3:World} {v:Value} {n:Nat} {xs:List Value} (hr:w2.ownsRow B 9 1 v n xs) (hg:w2.grownBy w3 v.ownBlock) {q:Nat} {ys:Array Value} {ty:TypeId} {z:Nat × Nat} (hq:w2.heap[q]?=some (.cells ys ty z)) (hne:ty≠9):w3.heap[q]?=some (.cells ys ty z):=by
 refine (hg.block q (zc hq) fun e=>?_).trans hq
 obtain ⟨c,b⟩:=Zh hr e.symm;rw [hq] at b;cases b
 exact hne rfl
theorem ZQ {P:Program} {ops:Array Oper} {o:Oper} {a:Act} {w:World} {K:Act→World→Prop} {Q:Exit→Act→World→Prop} {E:Prop} (s x:Operand) (t:TypeId)
  (ho:o.op=.call { callee:=.builtin .append,args:=#[s,x],argTypes:=#[t,t] }) (hw:Region.wanted o (yielded ops a.tmps)=true)
  (base:Nat) (e:TypeId) (i:TypeInfo) (z:Value) (size bytes:Nat) (ht:P.underlying t=some (.slice e)) (hi:P.info? e=some i) (hz:i.zero=some z)
  (hsize:i.size=size) (hby:i.bytes=bytes) (hzs:z.cells.size=size) (hsz:0<size)
  (v:Value) (n:Nat) (xs:List Value) (hs:a.eval s=v) (hown:w.ownsRow base e size v n xs)
  (ad:Addr) (m c:Nat) (news:List Value) (hx:a.eval x=.slice (some ad) m c) (hl:news.length=m*size) (hnews:∀j u,news[j]?=some u→w.cell? (ad.add j)=some u) (h1:∀u∈news,u.oneCell'=true)
  (h63:n+m≤maxLen) (hbytes:(n+m)*bytes≤140737488355328) (hbase:base≤w.heap.size)
  (h:∀b q,q.ownsRow base e size b (n+m) (xs++news)→w.grownBy q v.ownBlock→(b.ownBlock=v.ownBlock∨b.ownBlock=some w.heap.size)→K (a.put o.dst b) q) :
  if Region.wanted o (yielded ops a.tmps)=true then Oper.wp P o a w K Q else E:=by
 rw [if_pos hw];obtain ⟨b,q,y,B,A,-,D⟩:=run_append_own_at (P:=P) w base t o.type e i z size bytes ht hi hz hsize hby hzs hsz v n xs hown ad m c news hl hnews h1 h63 hbytes hbase
 unfold Oper.wp
 simp [execOp,ho,resolve,invoke,builtin,hs,hx,y,Result.andThen]
 exact h b q B A D
theorem Za {ops:Array Oper} {rest:List Oper} {o:Oper} {a:Act} {w:World} {Q:Exit→Act→World→Prop} (hgd:o.guard=none) (s x:Operand)
  (ho:o.op=.call { callee:=.builtin .append,args:=#[s,x],argTypes:=#[41,41] })
  (B:Nat) (v:Value) (l m:List (List UInt8)) (hs:a.eval s=v) (w1:World) (w0:World) (hj:zj B w0 w1 v l) (hw:w=w1.alloc (.cells (strC m).toArray 9)) (hx:a.eval x=.slice (some ⟨w1.heap.size,0,none⟩) m.length m.length)
  (hb:l.length+m.length≤4294967296)
  (h:∀e c,zj B w0 c e (l++m)→w.grownBy c v.ownBlock→wpList Tryz.prog ops Q rest (a.put o.dst e) c):wpList Tryz.prog ops Q (o::rest) a w:=by
 obtain ⟨D,E,u,z,y⟩:=info_parts Yp;subst hw;have A:=hj.low;refine wpList_append_own_at _ hgd s x 41 ho B 9 D (.string ⟨#[]⟩) 1 16 Tryz.underlying41 E u z y rfl (by decide) v l.length _ hs (hj.row.alloc _) ⟨w1.heap.size,0,none⟩ m.length m.length (strC m) hx (by rw [ZJ,Nat.mul_one]) (yd _ _ _) (Yo m) (by unfold maxLen;omega) (by omega) (by simp;omega) ?_
 intro e c q b _ _;exact h e c (hj.app ((Below.refl _ _).alloc (Nat.le_refl _) _) q b) b
theorem zY {ops:Array Oper} {o:Oper} {a:Act} {w:World} {K:Act→World→Prop} {Q:Exit→Act→World→Prop} {E:Prop} (s x:Operand)
  (ho:o.op=.call { callee:=.builtin .append,args:=#[s,x],argTypes:=#[41,41] }) (hw:Region.wanted o (yielded ops a.tmps)=true)
  (B:Nat) (v:Value) (l m:List (List UInt8)) (hs:a.eval s=v) (w1:World) (w0:World) (hj:zj B w0 w1 v l) (hw1:w=w1.alloc (.cells (strC m).toArray 9)) (hx:a.eval x=.slice (some ⟨w1.heap.size,0,none⟩) m.length m.length)
  (hb:l.length+m.length≤4294967296)
  (h:∀e c,zj B w0 c e (l++m)→w.grownBy c v.ownBlock→K (a.put o.dst e) c) :
  if Region.wanted o (yielded ops a.tmps)=true then Oper.wp Tryz.prog o a w K Q else E:=by
 obtain ⟨D,F,u,z,y⟩:=info_parts Yp;subst hw1;have A:=hj.low;refine ZQ s x 41 ho hw B 9 D (.string ⟨#[]⟩) 1 16 Tryz.underlying41 F u z y rfl (by decide) v l.length _ hs (hj.row.alloc _) ⟨w1.heap.size,0,none⟩ m.length m.length (strC m) hx (by rw [ZJ,Nat.mul_one]) (yd _ _ _) (Yo m) (by unfold maxLen;omega) (by omega) (by simp;omega) ?_
 intro e c q b _;exact h e c (hj.app ((Below.refl _ _).alloc (Nat.le_refl _) _) q b) b
theorem YG (ys:List UInt8) (k:Nat) (z:UInt8):(Lib.byteCells ys).set k (.int .u8 (z.toNat:Int))=Lib.byteCells (ys.set k z):=by
 unfold Lib.byteCells
 rw [List.map_set]
theorem VM {w:World} {B:Nat} {bx:Option Addr} {n cx:Nat} {ys:List UInt8} (h:zf B w (.slice bx n cx) ys) {k:Nat} (hk:k<ys.length):∃g,bx=some ⟨g,0,none⟩∧B≤g∧w.cell? ⟨g,k,none⟩=some (.int .u8 ((ys[k]).toNat:Int))∧w.frozen? ⟨g,k,none⟩=false ∧
  ∀z:UInt8,zf B (w.setCell ⟨g,k,none⟩ (.int .u8 (z.toNat:Int))) (.slice bx n cx) (ys.set k z):=by
 rcases h.own.2 with ⟨b,x⟩ | ⟨g,o,u,b,m,q,_⟩
 ·omega
 ·cases b
  have e:=World.ownsRow.cells h (g:=g) rfl k (.int .u8 ((ys[k]).toNat:Int)) (by unfold Lib.byteCells;rw [List.getElem?_map,List.getElem?_eq_getElem hk];rfl)
  rw [ZX] at e;refine ⟨g,rfl,m,e,?_,fun z=>?_⟩
  ·simp only [World.frozen?,q];simp
  ·have c:=(World.ownsRow.stored h k (.int .u8 (z.toNat:Int))).1
   rw [YG] at c;show World.ownsRow _ _ _ _ _ _ _
   rw [List.length_set];exact c
end Go.Proofs.YtbjndgachcdbcaaGreatDoor
