import Derived.Test.YtmbofhpmockmbaaGreatDoorMC10
import Derived.Test.YtmbofhpmockmbaaGreatDoorShelf
import Derived.Deep.RegionWith
namespace Go.Proofs.YtmbofhpmockmbaaGreatDoor
open Go.RowKit Go.Shelf
inductive Ez where
 | mk (k:Int) (s:List UInt8) (n:Int) (kids:List Ez) (line:Int)
inductive YE (B:Nat) (w:World):Ez→Value→Prop where
 | mk (k:Int) (s:List UInt8) (n:Int) (kids:List Ez) (line:Int) (base:Option Addr) (cap b o:Nat) (us:List (List Value)) (hs:s.length≤100000000) (hn0:-9223372036854775808≤n) (hn1:n≤9223372036854775807)
   (hbase:kids≠[]→base=some ⟨b,o,none⟩∧b<B∧b<w.heap.size) (hlen:us.length=kids.length) (hc:kids.length≤cap) (hm:cap≤maxLen)
   (hcell:∀j u,us.flatten[j]?=some u→w.cell? ⟨b,o+j,none⟩=some u) (hfive:∀c∈us,c.length=5)
   (hk:∀(j:Nat) (x:Ez) (c:List Value),kids[j]?=some x→us[j]?=some c→YE B w x (.agg c.toArray)) :
   YE B w (.mk k s n kids line) (ezV k s n base kids.length cap line)
theorem YE.kept {B:Nat} {w w':World} {x:Ez} {v:Value} (h:YE B w x v) (hb:Below B w w'):YE B w' x v:=by
 induction h with
 | mk k s n kids line base cap b o us hs hn0 hn1 hbase hlen hc hm hcell hfive _ ih =>
  refine .mk k s n kids line base cap b o us hs hn0 hn1 (fun h=>⟨(hbase h).1,(hbase h).2.1,Nat.lt_of_lt_of_le (hbase h).2.2 hb.size⟩) hlen hc hm (fun j u hj=>?_) hfive ih
  have e:kids≠[]:=by
   rintro rfl
   have:us=[]:=List.eq_nil_of_length_eq_zero hlen
   subst this
   simp at hj
  rw [World.cell?_of_block (hb.block b (hbase e).2.1)];exact hcell j u hj
def lvE:Ez→Nat
 | .mk k s _ _ _=>if k=7 then levelOf s else if k=6 then 7 else 8
theorem zaG {sz:Nat} {us:List (List Value)} (hfive:∀c∈us,c.length=sz) {i j:Nat} {c:List Value} (hc:us[i]?=some c) (hj:j<sz):us.flatten[i*sz+j]?=c[j]?:=by
 induction us generalizing i with
 | nil=>simp at hc
 | cons d us ih =>
  have hd:d.length=sz:=hfive d (by simp)
  cases i with
  | zero =>
   simp only [List.getElem?_cons_zero,Option.some.injEq] at hc;subst hc;rw [List.flatten_cons,List.getElem?_append_left (by omega)]
   simp
  | succ i =>
   have e:(i+1)*sz=i*sz+sz:=Nat.succ_mul i sz;rw [List.flatten_cons,List.getElem?_append_right (by omega)]
   rw [show (i+1)*sz+j-d.length=i*sz+j by omega]
   exact ih (fun c hc=>hfive c (by simp [hc])) (by simpa using hc)
theorem YE.kid {B:Nat} {w:World} {k:Int} {s:List UInt8} {n:Int} {kids:List Ez} {line:Int} {v:Value} (h:YE B w (.mk k s n kids line) v):∃base cap,v=ezV k s n base kids.length cap line∧kids.length≤cap∧cap≤maxLen∧s.length≤100000000∧-9223372036854775808≤n∧n≤9223372036854775807 ∧
  ∀i x,kids[i]?=some x→∃b o D E z A y G a7,base=some ⟨b,o,none⟩∧b<B∧b<w.heap.size∧YE B w x (ezV D E z A y G a7) ∧
   w.cell? ⟨b,o+i*5,none⟩=some (.int .i64 D)∧w.cell? ⟨b,o+i*5+1,none⟩=some (.string (za E))∧w.cell? ⟨b,o+i*5+2,none⟩=some (.int .i64 z)∧w.cell? ⟨b,o+i*5+3,none⟩=some (.slice A y G)∧w.cell? ⟨b,o+i*5+4,none⟩=some (.int .i64 a7):=by
 cases h with
 | mk k s n kids line base cap b o us hs hn0 hn1 hbase hlen hc hm hcell hfive hk =>
  refine ⟨base,cap,rfl,hc,hm,hs,hn0,hn1,fun i x hx=>?_⟩
  have Q:i<kids.length:=(List.getElem?_eq_some_iff.1 hx).1;have M:kids≠[]:=by rintro rfl;simp at Q
  obtain ⟨L,O,N⟩:=hbase M;obtain ⟨c,I⟩:∃c,us[i]?=some c:=⟨us[i]'(by omega),List.getElem?_eq_getElem (by omega)⟩
  have H:=hk i x c hx I
  obtain ⟨D,E,z,A,y,G,a7,J⟩:∃D E z A y G a7,Value.agg c.toArray=ezV D E z A y G a7:=by
   generalize Value.agg c.toArray=V at H;cases H with
   | mk=>exact ⟨_,_,_,_,_,_,_,rfl⟩
  have K:c=[.int .i64 D,.string (za E),.int .i64 z,.slice A y G,.int .i64 a7]:=by
   have:=congrArg (fun v=>match v with | .agg a=>a.toList | _=>[]) J
   simpa using this
  subst K
  have e:∀j u,j<5→([.int .i64 D,.string (za E),.int .i64 z,.slice A y G,.int .i64 a7]:List Value)[j]?=some u→w.cell? ⟨b,o+i*5+j,none⟩=some u:=fun j u hj hu=>by
   rw [Nat.add_assoc];exact hcell _ _ ((zaG hfive I hj).trans hu)
  exact ⟨b,o,D,E,z,A,y,G,a7,L,O,N,H,e 0 _ (by omega) rfl,e 1 _ (by omega) rfl,e 2 _ (by omega) rfl,e 3 _ (by omega) rfl,e 4 _ (by omega) rfl⟩
structure zaQ (r:Nat) (q0:Option Nat) (w w1:World) (q:Option Nat) (W:World):Prop where
 unto:YG r q0 w q W
 hr:r<w.heap.size
 block:∀k,w.heap.size≤k→k<w1.heap.size→W.heap[k]?=w1.heap[k]?
 hq:∀k,q=some k→k<w.heap.size∨w1.heap.size≤k
 size:w1.heap.size≤W.heap.size
theorem zaQ.step {r:Nat} {q0 q q':Option Nat} {w w1 W W':World} (h:zaQ r q0 w w1 q W) (ht:YG r q W q' W'):zaQ r q0 w w1 q' W':=by
 refine ⟨h.unto.trans ht,h.hr,fun k h1 h2=>?_,fun k hk=>?_,Nat.le_trans h.size ht.size⟩
 ·refine (ht.block k (Nat.lt_of_lt_of_le h2 h.size) (by have:=h.hr;omega) fun e=>?_).trans (h.block k h1 h2)
  rcases h.hq k e with o | o <;> omega
 ·rcases ht.row with e | e
  ·exact h.hq k (e ▸ hk)
  ·exact .inr (Nat.le_trans h.size (e k hk))
theorem QL {w:World} {N:Nat} {k:Int} {s:List UInt8} {n:Int} {base:Option Addr} {m cap:Nat} {line:Int} (p:w.heap[N]?=some (ezO k s n base m cap line)) :
  w.cell? ⟨N,0,none⟩=some (.int .i64 k)∧w.cell? ⟨N,1,none⟩=some (.string (za s))∧w.cell? ⟨N,2,none⟩=some (.int .i64 n)∧w.cell? ⟨N,3,none⟩=some (.slice base m cap)∧w.cell? ⟨N,4,none⟩=some (.int .i64 line):=by
 refine ⟨?_,?_,?_,?_,?_⟩ <;> (simp only [World.cell?,p];rfl)
structure zbP (w0:World) (b p:Nat) (a1:Int) (a2:List UInt8) (a3:Int) (a4:Option Addr) (a5 a6:Nat) (a7:Int):Prop where
 lt:b<w0.heap.size
 c0:w0.cell? ⟨b,p,none⟩=some (.int .i64 a1)
 c1:w0.cell? ⟨b,p+1,none⟩=some (.string (za a2))
 c2:w0.cell? ⟨b,p+2,none⟩=some (.int .i64 a3)
 c3:w0.cell? ⟨b,p+3,none⟩=some (.slice a4 a5 a6)
 c4:w0.cell? ⟨b,p+4,none⟩=some (.int .i64 a7)
abbrev rzV (s:List UInt8) (base:Option Addr) (m cap:Nat) (line:Int):Value:=.agg #[.string (za s),.slice base m cap,.int .i64 line]
end Go.Proofs.YtmbofhpmockmbaaGreatDoor
