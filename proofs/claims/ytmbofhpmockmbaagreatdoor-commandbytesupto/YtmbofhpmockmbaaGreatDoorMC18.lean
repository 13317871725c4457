import Derived.Test.YtmbofhpmockmbaaGreatDoorMC17
import Derived.Test.YtmbofhpmockmbaaGreatDoorMC19
import Derived.Maps.AppendAt
namespace Go.Proofs.YtmbofhpmockmbaaGreatDoor
open Go.RowKit Go.Shelf
set_option maxHeartbeats 16000000
set_option maxRecDepth 100000
theorem zG (t:Tk) (ts:List Tk):zM (t::ts)=t:=by unfold zM;rfl
def Zy (t:Tk) (ts:List Tk) (res:PR (List Ex)):PR (List Ex) :=
 if zp t [40]=true then
  if zp (zM ts) [41]=true then .ok ([],ts.tail) else
  match res with
  | .error a=>.error a
  | .ok (l,us)=>if zp (zM us) [41]=true then .ok (l,us.tail) else .error (zM us).at0
 else .error t.at0
theorem y8 (r g o cap:Nat) (f:Value) (t:Tk) (ts:List Tk) (w:World) (res:PR (List Ex)) (h:zc r g o cap (t::ts) w) (hE:zj (t::ts)) (hEnd:∀l us,res=.ok (l,us)→zj us)
  (hrow:zp t [40]=true→zp (zM ts) [41]=false→∀D o1 cap1,zc r g o1 cap1 ts D→zb r w D→Calls Tryz.prog 178 #[.pointer (some ⟨r,0,none⟩),f] D (y3 r g D res)) :
  Calls Tryz.prog 177 #[.pointer (some ⟨r,0,none⟩),f] w (y3 r g w (Zy t ts res)):=by
 have hr:=h.lt.1;have J:=Yo r g o cap t ts [40] w h (fun hi=>(hE.tail (zf hi)).ne)
 clear h
 unfold Zy
 by_cases hi:zp t [40]=true
 ·simp only [if_pos hi] at J ⊢
  have O:=hE.tail (zf hi);obtain ⟨t1,I,rfl⟩:=O.cons;simp only [zG,List.tail_cons] at hrow ⊢
  by_cases hj:zp t1 [41]=true
  ·simp only [if_pos hj]
   clear hrow hEnd
   go_enter Tryz.func177,Tryz.ntmps177
   go_wp2_with fail
   refine J.mono ?_;clear J;rintro e D ⟨y,rfl,h1⟩;have N:=Zb r g _ _ t1 I [41] D h1 (fun hi=>(O.tail (zf hi)).ne)
   have R:Hid (zb r w D):=y;rw [hj] at N;clear h1 y;go_wp2_with fail
   refine N.mono ?_;clear N;rintro e w2 ⟨rfl,E,T⟩;have H:Hid (zb r w w2):=R.out.trans E;have Z:zc r g (o+5+5) (cap-1-1) I w2:=by simpa using T
   have af:Hid (zc r g (o+5+5) (cap-1-1) I w2):=Z;clear T Z E;go_wp2
   refine bodyPost_ret (v:=.slice none 0 0) (by simp [results,Tryz.results177,go_sem]) rfl ⟨H.out,_,_,_,rfl,.inl ⟨rfl,rfl⟩,af.out⟩
  ·have ab:zp t1 [41]=false:=by simpa using hj
   simp only [if_neg hj]
   go_enter Tryz.func177,Tryz.ntmps177
   go_wp2_with fail
   refine J.mono ?_;clear J;rintro e D ⟨y,rfl,h1⟩;have N:=Zb r g _ _ t1 I [41] D h1 (fun hi=>(O.tail (zf hi)).ne)
   have R:Hid (zb r w D):=y;rw [ab] at N;clear h1 y;go_wp2_with fail
   refine N.mono ?_;clear N;rintro e w2 ⟨rfl,E,T⟩;have L:zb r w w2:=R.out.trans E;have H:Hid (zb r w w2):=L;have cr:=hrow hi ab w2 _ _ (by simpa using T) L
   clear T E L hrow;go_wp2_with fail
   refine cr.mono ?_;clear cr;rintro e w3 ⟨U,G⟩;have M:Hid (zb r w w3):=H.out.trans U;rcases res with a | ⟨l,us⟩
   ·obtain rfl:=G
    exact ⟨rfl,M.out,rfl⟩
   ·obtain ⟨v,o3,K,rfl,V,aa⟩:=G
    have W:=hEnd l us rfl;obtain ⟨t3,Y,rfl⟩:=W.cons;have A:=Yo r g o3 K t3 Y [41] w3 aa (fun hi=>(W.tail (zf hi)).ne)
    have ae:w.heap.size≤w2.heap.size:=H.out.size;have ai:r<w2.heap.size:=by omega
    have X:Hid (Zr w2.heap.size w3 l v):=V;clear aa V U hEnd
    by_cases hm:zp t3 [41]=true
    ·simp only [if_pos hm] at A
     go_wp2_with fail
     refine A.mono ?_;clear A;rintro e w4 ⟨z,rfl,h4⟩;have ad:Hid (zb r w w4):=M.out.trans z;have Q:Hid (Zr w2.heap.size w4 l v):=X.out.kept z.size fun k hB hlt=>z.block k hlt (by omega)
     have ah:Hid (zc r g (o3+5) (K-1) Y w4):=h4;clear z h4;go_wp2
     refine bodyPost_ret (v:=v) (by simp [results,Tryz.results177,go_sem]) rfl ⟨ad.out,_,_,_,rfl,Q.out.mono ae,ah.out⟩
    ·simp only [if_neg hm] at A
     have ag:zp t3 [41]=false:=by simpa using hm
     go_wp2_with fail
     refine A.mono ?_;clear A;rintro e w4 ⟨z,rfl⟩;refine ⟨rfl,M.out.trans z,?_⟩;simp only [zG,ag,Bool.false_eq_true,if_false]
 ·simp only [if_neg hi] at J ⊢
  clear hrow hEnd
  go_enter Tryz.func177,Tryz.ntmps177
  go_wp2_with fail
  refine J.mono ?_;clear J;rintro e D ⟨y,rfl⟩;exact ⟨rfl,y,rfl⟩
structure YI {α:Type} (E:(Nat→Prop)→World→α→List Value→Prop):Prop where
 kept:∀{S:Nat→Prop} {w w':World} {x:α} {c:List Value},E S w x c→w.heap.size≤w'.heap.size→(∀k,S k→k<w.heap.size→w'.heap[k]?=w.heap[k]?)→E S w' x c
 wide:∀{S S':Nat→Prop} {w:World} {x:α} {c:List Value},E S w x c→(∀k,S k→S' k)→E S' w x c
 low:∀{S:Nat→Prop} {w:World} {x:α} {c:List Value},E S w x c→E (fun k=>S k∧k<w.heap.size) w x c
structure Zi {α:Type} (E:(Nat→Prop)→World→α→List Value→Prop) (sz ty B:Nat) (w:World) (l:List α) (v:Value) (g cap:Nat) (us:List (List Value)):Prop where
 val:v=.slice (some ⟨g,0,none⟩) l.length cap
 ne:l≠[]
 own:w.ownsRow B ty sz v l.length us.flatten
 len:us.length=l.length
 wid:∀c∈us,c.length=sz
 kids:∀(j:Nat) (x:α) (c:List Value),l[j]?=some x→us[j]?=some c→E (fun k=>B≤k∧k≠g) w x c
theorem Zi.block {α:Type} {E:(Nat→Prop)→World→α→List Value→Prop} {sz ty B:Nat} {w:World} {l:List α} {v:Value} {g cap:Nat} {us:List (List Value)} (h:Zi E sz ty B w l v g cap us):B≤g∧g<w.heap.size∧l.length≤cap∧cap≤maxLen:=by
 have y:=h.own.lt g (by rw [h.val];rfl)
 refine ⟨y.1,y.2,?_⟩;rcases h.own.2 with ⟨e,_⟩ | ⟨G,o,A,e,_,_,D,z,_⟩
 ·rw [h.val] at e;cases e
 ·rw [h.val] at e
  cases e
  exact ⟨D,z⟩
theorem Zi.kept {α:Type} {E:(Nat→Prop)→World→α→List Value→Prop} (L:YI E) {sz ty B:Nat} {w w':World} {l:List α} {v:Value} {g cap:Nat} {us:List (List Value)} (h:Zi E sz ty B w l v g cap us)
  (hs:w.heap.size≤w'.heap.size) (hb:∀k,B≤k→k<w.heap.size→w'.heap[k]?=w.heap[k]?):Zi E sz ty B w' l v g cap us where
 val:=h.val
 ne:=h.ne
 own:=by
  refine ⟨h.own.1,?_⟩;rcases h.own.2 with o | ⟨D,e,y,o,A,z,G⟩
  ·exact .inl o
  ·exact .inr ⟨D,e,y,o,A,(hb D A (Array.getElem?_eq_some_iff.1 z).1).trans z,G⟩
 len:=h.len
 wid:=h.wid
 kids:=fun j x c hx hc=>L.kept (h.kids j x c hx hc) hs fun k hk hlt=>hb k hk.1 hlt
theorem Zi.first {α:Type} {E:(Nat→Prop)→World→α→List Value→Prop} (L:YI E) {sz ty B:Nat} {w:World} {x:α} {c:List Value} (hx:E (fun k=>B≤k) w x c) (hc:c.length=sz) (hB:B≤w.heap.size) :
  Zi E sz ty B (w.alloc (.cells c.toArray ty)) [x] (.slice (some ⟨w.heap.size,0,none⟩) 1 1) w.heap.size 1 [c] where
 val:=rfl
 ne:=by simp
 own:=by
  refine ⟨by simp [hc],.inr ⟨w.heap.size,1,c.toArray,rfl,hB,World.alloc_heap_new _ _,Nat.le_refl _,by simp [maxLen],by simp [hc],?_⟩⟩
  simp [hc,List.take_of_length_le]
 len:=rfl
 wid:=by simp [hc]
 kids:=fun j y d hy hd=>by
  cases j with
  | succ j=>simp at hy
  | zero =>
   simp only [List.getElem?_cons_zero,Option.some.injEq] at hy hd;subst hy hd;exact L.wide (L.kept (L.low hx) (by simp) fun k hk _=>Below.heap_alloc _ _ _ hk.2) fun k hk=>⟨hk.1,by omega⟩
theorem Zi.snoc {α:Type} {E:(Nat→Prop)→World→α→List Value→Prop} (L:YI E) {sz ty B:Nat} {w w':World} {l:List α} {v v':Value} {g cap:Nat} {us:List (List Value)} (h:Zi E sz ty B w l v g cap us) {x:α} {c:List Value} {ob:Obj}
  (hx:E (fun k=>B≤k∧k≠g) w x c) (hc:c.length=sz) (ho:w'.ownsRow B ty sz v' (l.length+1) (us.flatten++c)) (hg:(w.alloc ob).grownBy w' v.ownBlock) (ha:v'.ownBlock=v.ownBlock∨v'.ownBlock=some (w.alloc ob).heap.size) :
  ∃o cap',Zi E sz ty B w' (l++[x]) v' o cap' (us++[c])∧(o=g∨w.heap.size≤o):=by
 have O:=h.block;have I:v.ownBlock=some g:=by rw [h.val];rfl
 rw [I] at hg ha
 obtain ⟨o,cap',D⟩:∃o cap',v'=.slice (some ⟨o,0,none⟩) (l.length+1) cap':=by
  rcases ho.2 with ⟨_,G⟩ | ⟨o,cap',_,K,_⟩
  ·omega
  ·exact ⟨o,cap',K⟩
 have N:o=g∨o=(w.alloc ob).heap.size:=by
  rw [D] at ha
  simpa [Value.ownBlock] using ha
 have J:(w.alloc ob).heap.size=w.heap.size+1:=by simp
 have M:w.heap.size≤w'.heap.size:=by have:=hg.size;omega
 have A:∀k,k≠g→k<w.heap.size→w'.heap[k]?=w.heap[k]?:=fun k hk hlt=>(hg.block k (by omega) (by simpa using hk)).trans (Below.heap_alloc _ _ _ hlt)
 have z:∀y d,E (fun k=>B≤k∧k≠g) w y d→E (fun k=>B≤k∧k≠o) w' y d:=fun y d hy =>
  L.wide (L.kept (L.low hy) M fun k hk _=>A k hk.1.2 hk.2) fun k hk=>⟨hk.1.1,by omega⟩
 refine ⟨o,cap',⟨by rw [D,List.length_append];rfl,by simp,?_,by simp [h.len],?_,fun j y d hy e=>?_⟩,by omega⟩
 ·rw [List.length_append,List.flatten_append]
  simpa using ho
 ·intro d e
  rcases List.mem_append.1 e with e | e
  ·exact h.wid d e
  ·simp only [List.mem_singleton] at e;rw [e];exact hc
 ·rw [List.getElem?_append] at hy e
  rw [h.len] at e
  split at hy
  ·rename_i H
   rw [if_pos H] at e;exact z y d (h.kids j y d hy e)
  ·rename_i H
   rw [if_neg H] at e
   have:j-l.length=0:=by
    rcases Nat.eq_zero_or_pos (j-l.length) with G | G
    ·exact G
    ·rw [List.getElem?_eq_none (by simp;omega)] at hy;cases hy
   rw [this] at hy e;simp only [List.getElem?_cons_zero,Option.some.injEq] at hy e;subst hy e;exact z _ _ hx
def Uk (S:Nat→Prop) (w:World) (x:Ex) (c:List Value):Prop:=zB S w x (.agg c.toArray)
theorem Yh:YI Uk:=⟨fun h hs hb=>zB.kept h hs hb,fun h hS=>zB.wide h hS,fun h=>zB.low h⟩
theorem Zi.row {ty B:Nat} {w:World} {l:List Ex} {v:Value} {g cap:Nat} {us:List (List Value)} (h:Zi Uk 5 ty B w l v g cap us):Zr B w l v:=by
 have e:=h.block;refine .inr ⟨g,cap,us,h.val,h.ne,h.len,e.1,e.2.1,e.2.2.1,e.2.2.2,fun j u hj=>?_,h.wid,fun j x c o hc=>zB.wide (h.kids j x c o hc) fun k hk=>hk.1⟩
 have o:=h.own.cells (g:=g) (by rw [h.val];rfl) j u hj
 by_cases h0:j=0
 ·subst h0;simpa [Addr.add] using o
 ·simpa [Addr.add,h0] using o
theorem ZD {f least:Nat} {ts us:List Tk} {x:Ex} (h:zd f least ts=some (.ok (x,us))):us.length≤ts.length-1:=by
 obtain ⟨z,y,o,e⟩:=(YA ts.length ts (Nat.le_refl _)).1 least;exact e x us (yk (o 0) h)
def YJ (f:Nat) (l:List Ex) (ts:List Tk):Option (PR (List Ex)):=if zp (zM ts) [44]=true then ZJ f l ts.tail else some (.ok (l,ts))
def Ze (r:Nat) (w:World):Nat:=match w.cell? ⟨r,0,none⟩ with | some (.slice _ n _)=>n | _=>0
theorem zc.left {r g o cap:Nat} {ts:List Tk} {w:World} (h:zc r g o cap ts w):Ze r w=ts.length:=by unfold Ze;rw [h.cell]
end Go.Proofs.YtmbofhpmockmbaaGreatDoor
