import Derived.Test.YtmbofhpmockmbaaGreatDoorMC16
import Derived.Test.YtmbofhpmockmbaaGreatDoorMC18
import Derived.Maps.AppendAt
namespace Go.Proofs.YtmbofhpmockmbaaGreatDoor
open Go.RowKit Go.Shelf
set_option maxHeartbeats 16000000
set_option maxRecDepth 100000
theorem zD (t:Tk) (ts:List Tk):zK (t::ts)=t:=by unfold zK;rfl
def Zl (t:Tk) (ts:List Tk) (res:PR (List Ex)):PR (List Ex) :=
 if zn t [40]=true then
  if zn (zK ts) [41]=true then .ok ([],ts.tail) else
  match res with
  | .error a=>.error a
  | .ok (l,us)=>if zn (zK us) [41]=true then .ok (l,us.tail) else .error (zK us).at0
 else .error t.at0
theorem yA (r g o cap:Nat) (f:Value) (t:Tk) (ts:List Tk) (w:World) (res:PR (List Ex)) (h:zc r g o cap (t::ts) w) (hE:zh (t::ts)) (hEnd:∀l us,res=.ok (l,us)→zh us)
  (hrow:zn t [40]=true→zn (zK ts) [41]=false→∀A o1 cap1,zc r g o1 cap1 ts A→zb r w A→Calls Tryz.prog 178 #[.pointer (some ⟨r,0,none⟩),f] A (yx r g A res)) :
  Calls Tryz.prog 177 #[.pointer (some ⟨r,0,none⟩),f] w (yx r g w (Zl t ts res)):=by
 have hr:=h.lt.1;have J:=yP r g o cap t ts [40] w h (fun hi=>(hE.tail (zf hi)).ne)
 clear h
 unfold Zl
 by_cases hi:zn t [40]=true
 ·simp only [if_pos hi] at J ⊢
  have O:=hE.tail (zf hi);obtain ⟨t1,H,rfl⟩:=O.cons;simp only [zD,List.tail_cons] at hrow ⊢
  by_cases hj:zn t1 [41]=true
  ·simp only [if_pos hj]
   clear hrow hEnd
   go_enter Tryz.func177,Tryz.ntmps177
   go_wp2_with fail
   refine J.mono ?_;clear J;rintro e A ⟨x,rfl,h1⟩;have M:=zX r g _ _ t1 H [41] A h1 (fun hi=>(O.tail (zf hi)).ne)
   have N:Hid (zb r w A):=x;rw [hj] at M;clear h1 x;go_wp2_with fail
   refine M.mono ?_;clear M;rintro e w2 ⟨rfl,D,Z⟩;have G:Hid (zb r w w2):=N.out.trans D;have U:zc r g (o+5+5) (cap-1-1) H w2:=by simpa using Z
   have ab:Hid (zc r g (o+5+5) (cap-1-1) H w2):=U;clear Z U D;go_wp2
   refine bodyPost_ret (v:=.slice none 0 0) (by simp [results,Tryz.results177,go_sem]) rfl ⟨G.out,_,_,_,rfl,.inl ⟨rfl,rfl⟩,ab.out⟩
  ·have T:zn t1 [41]=false:=by simpa using hj
   simp only [if_neg hj]
   go_enter Tryz.func177,Tryz.ntmps177
   go_wp2_with fail
   refine J.mono ?_;clear J;rintro e A ⟨x,rfl,h1⟩;have M:=zX r g _ _ t1 H [41] A h1 (fun hi=>(O.tail (zf hi)).ne)
   have N:Hid (zb r w A):=x;rw [T] at M;clear h1 x;go_wp2_with fail
   refine M.mono ?_;clear M;rintro e w2 ⟨rfl,D,Z⟩;have Q:zb r w w2:=N.out.trans D;have G:Hid (zb r w w2):=Q;have cr:=hrow hi T w2 _ _ (by simpa using Z) Q
   clear Z D Q hrow;go_wp2_with fail
   refine cr.mono ?_;clear cr;rintro e w3 ⟨V,E⟩;have L:Hid (zb r w w3):=G.out.trans V;rcases res with a | ⟨l,us⟩
   ·obtain rfl:=E
    exact ⟨rfl,L.out,rfl⟩
   ·obtain ⟨v,o3,I,rfl,X,Y⟩:=E
    have W:=hEnd l us rfl;obtain ⟨t3,R,rfl⟩:=W.cons;have z:=yP r g o3 I t3 R [41] w3 Y (fun hi=>(W.tail (zf hi)).ne)
    have aa:w.heap.size≤w2.heap.size:=G.out.size;have ag:r<w2.heap.size:=by omega
    have S:Hid (Zg w2.heap.size w3 l v):=X;clear Y X V hEnd
    by_cases hm:zn t3 [41]=true
    ·simp only [if_pos hm] at z
     go_wp2_with fail
     refine z.mono ?_;clear z;rintro e w4 ⟨y,rfl,h4⟩;have af:Hid (zb r w w4):=L.out.trans y;have K:Hid (Zg w2.heap.size w4 l v):=S.out.kept y.size fun k hB hlt=>y.block k hlt (by omega)
     have ad:Hid (zc r g (o3+5) (I-1) R w4):=h4;clear y h4;go_wp2
     refine bodyPost_ret (v:=v) (by simp [results,Tryz.results177,go_sem]) rfl ⟨af.out,_,_,_,rfl,K.out.mono aa,ad.out⟩
    ·simp only [if_neg hm] at z
     have ae:zn t3 [41]=false:=by simpa using hm
     go_wp2_with fail
     refine z.mono ?_;clear z;rintro e w4 ⟨y,rfl⟩;refine ⟨rfl,L.out.trans y,?_⟩;simp only [zD,ae,Bool.false_eq_true,if_false]
 ·simp only [if_neg hi] at J ⊢
  clear hrow hEnd
  go_enter Tryz.func177,Tryz.ntmps177
  go_wp2_with fail
  refine J.mono ?_;clear J;rintro e A ⟨x,rfl⟩;exact ⟨rfl,x,rfl⟩
structure y8 {α:Type} (E:(Nat→Prop)→World→α→List Value→Prop):Prop where
 kept:∀{S:Nat→Prop} {w w':World} {x:α} {c:List Value},E S w x c→w.heap.size≤w'.heap.size→(∀k,S k→k<w.heap.size→w'.heap[k]?=w.heap[k]?)→E S w' x c
 wide:∀{S S':Nat→Prop} {w:World} {x:α} {c:List Value},E S w x c→(∀k,S k→S' k)→E S' w x c
 low:∀{S:Nat→Prop} {w:World} {x:α} {c:List Value},E S w x c→E (fun k=>S k∧k<w.heap.size) w x c
structure Za {α:Type} (E:(Nat→Prop)→World→α→List Value→Prop) (sz ty B:Nat) (w:World) (l:List α) (v:Value) (g cap:Nat) (us:List (List Value)):Prop where
 val:v=.slice (some ⟨g,0,none⟩) l.length cap
 ne:l≠[]
 own:w.ownsRow B ty sz v l.length us.flatten
 len:us.length=l.length
 wid:∀c∈us,c.length=sz
 kids:∀(j:Nat) (x:α) (c:List Value),l[j]?=some x→us[j]?=some c→E (fun k=>B≤k∧k≠g) w x c
theorem Za.block {α:Type} {E:(Nat→Prop)→World→α→List Value→Prop} {sz ty B:Nat} {w:World} {l:List α} {v:Value} {g cap:Nat} {us:List (List Value)} (h:Za E sz ty B w l v g cap us):B≤g∧g<w.heap.size∧l.length≤cap∧cap≤maxLen:=by
 have x:=h.own.lt g (by rw [h.val];rfl)
 refine ⟨x.1,x.2,?_⟩;rcases h.own.2 with ⟨e,_⟩ | ⟨D,o,z,e,_,_,A,y,_⟩
 ·rw [h.val] at e;cases e
 ·rw [h.val] at e
  cases e
  exact ⟨A,y⟩
theorem Za.kept {α:Type} {E:(Nat→Prop)→World→α→List Value→Prop} (L:y8 E) {sz ty B:Nat} {w w':World} {l:List α} {v:Value} {g cap:Nat} {us:List (List Value)} (h:Za E sz ty B w l v g cap us)
  (hs:w.heap.size≤w'.heap.size) (hb:∀k,B≤k→k<w.heap.size→w'.heap[k]?=w.heap[k]?):Za E sz ty B w' l v g cap us where
 val:=h.val
 ne:=h.ne
 own:=by
  refine ⟨h.own.1,?_⟩;rcases h.own.2 with y | ⟨A,e,o,y,z,D,G⟩
  ·exact .inl y
  ·exact .inr ⟨A,e,o,y,z,(hb A z (Array.getElem?_eq_some_iff.1 D).1).trans D,G⟩
 len:=h.len
 wid:=h.wid
 kids:=fun j x c hx hc=>L.kept (h.kids j x c hx hc) hs fun k hk hlt=>hb k hk.1 hlt
theorem Za.first {α:Type} {E:(Nat→Prop)→World→α→List Value→Prop} (L:y8 E) {sz ty B:Nat} {w:World} {x:α} {c:List Value} (hx:E (fun k=>B≤k) w x c) (hc:c.length=sz) (hB:B≤w.heap.size) :
  Za E sz ty B (w.alloc (.cells c.toArray ty)) [x] (.slice (some ⟨w.heap.size,0,none⟩) 1 1) w.heap.size 1 [c] where
 val:=rfl
 ne:=by simp
 own:=by
  refine ⟨by simp [hc],.inr ⟨w.heap.size,1,c.toArray,rfl,hB,World.alloc_heap_new _ _,Nat.le_refl _,by simp [maxLen],by simp [hc],?_⟩⟩
  simp [hc,List.take_of_length_le]
 len:=rfl
 wid:=by simp [hc]
 kids:=fun j y d hy hd=>by
  cases j with
  | succ j=>simp at hy
  | zero =>
   simp only [List.getElem?_cons_zero,Option.some.injEq] at hy hd;subst hy hd;exact L.wide (L.kept (L.low hx) (by simp) fun k hk _=>Below.heap_alloc _ _ _ hk.2) fun k hk=>⟨hk.1,by omega⟩
theorem Za.snoc {α:Type} {E:(Nat→Prop)→World→α→List Value→Prop} (L:y8 E) {sz ty B:Nat} {w w':World} {l:List α} {v v':Value} {g cap:Nat} {us:List (List Value)} (h:Za E sz ty B w l v g cap us) {x:α} {c:List Value} {ob:Obj}
  (hx:E (fun k=>B≤k∧k≠g) w x c) (hc:c.length=sz) (ho:w'.ownsRow B ty sz v' (l.length+1) (us.flatten++c)) (hg:(w.alloc ob).grownBy w' v.ownBlock) (ha:v'.ownBlock=v.ownBlock∨v'.ownBlock=some (w.alloc ob).heap.size) :
  ∃o cap',Za E sz ty B w' (l++[x]) v' o cap' (us++[c])∧(o=g∨w.heap.size≤o):=by
 have O:=h.block;have G:v.ownBlock=some g:=by rw [h.val];rfl
 rw [G] at hg ha
 obtain ⟨o,cap',D⟩:∃o cap',v'=.slice (some ⟨o,0,none⟩) (l.length+1) cap':=by
  rcases ho.2 with ⟨_,I⟩ | ⟨o,cap',_,M,_⟩
  ·omega
  ·exact ⟨o,cap',M⟩
 have N:o=g∨o=(w.alloc ob).heap.size:=by
  rw [D] at ha
  simpa [Value.ownBlock] using ha
 have J:(w.alloc ob).heap.size=w.heap.size+1:=by simp
 have K:w.heap.size≤w'.heap.size:=by have:=hg.size;omega
 have A:∀k,k≠g→k<w.heap.size→w'.heap[k]?=w.heap[k]?:=fun k hk hlt=>(hg.block k (by omega) (by simpa using hk)).trans (Below.heap_alloc _ _ _ hlt)
 have z:∀y d,E (fun k=>B≤k∧k≠g) w y d→E (fun k=>B≤k∧k≠o) w' y d:=fun y d hy =>
  L.wide (L.kept (L.low hy) K fun k hk _=>A k hk.1.2 hk.2) fun k hk=>⟨hk.1.1,by omega⟩
 refine ⟨o,cap',⟨by rw [D,List.length_append];rfl,by simp,?_,by simp [h.len],?_,fun j y d hy e=>?_⟩,by omega⟩
 ·rw [List.length_append,List.flatten_append]
  simpa using ho
 ·intro d e
  rcases List.mem_append.1 e with e | e
  ·exact h.wid d e
  ·simp only [List.mem_singleton] at e;rw [e];exact hc
 ·rw [List.getElem?_append] at hy e
  rw [h.len] at e
  split at hy
  ·rename_i H
   rw [if_pos H] at e;exact z y d (h.kids j y d hy e)
  ·rename_i H
   rw [if_neg H] at e
   have:j-l.length=0:=by
    rcases Nat.eq_zero_or_pos (j-l.length) with I | I
    ·exact I
    ·rw [List.getElem?_eq_none (by simp;omega)] at hy;cases hy
   rw [this] at hy e;simp only [List.getElem?_cons_zero,Option.some.injEq] at hy e;subst hy e;exact z _ _ hx
def Vx (S:Nat→Prop) (w:World) (x:Ex) (c:List Value):Prop:=zy S w x (.agg c.toArray)
theorem yG:y8 Vx:=⟨fun h hs hb=>zy.kept h hs hb,fun h hS=>zy.wide h hS,fun h=>zy.low h⟩
theorem Za.row {ty B:Nat} {w:World} {l:List Ex} {v:Value} {g cap:Nat} {us:List (List Value)} (h:Za Vx 5 ty B w l v g cap us):Zg B w l v:=by
 have o:=h.block;refine .inr ⟨g,cap,us,h.val,h.ne,h.len,o.1,o.2.1,o.2.2.1,o.2.2.2,fun j u hj=>?_,h.wid,fun j x c e hc=>zy.wide (h.kids j x c e hc) fun k hk=>hk.1⟩
 have e:=h.own.cells (g:=g) (by rw [h.val];rfl) j u hj
 by_cases h0:j=0
 ·subst h0;simpa [Addr.add] using e
 ·simpa [Addr.add,h0] using e
theorem Zp {f least:Nat} {ts us:List Tk} {x:Ex} (h:zd f least ts=some (.ok (x,us))):us.length≤ts.length-1:=by
 obtain ⟨z,y,e,o⟩:=(yY ts.length ts (Nat.le_refl _)).1 least;exact o x us (ZZ (e 0) h)
def y9 (f:Nat) (l:List Ex) (ts:List Tk):Option (PR (List Ex)):=if zn (zK ts) [44]=true then Zu f l ts.tail else some (.ok (l,ts))
def z6 (r:Nat) (w:World):Nat:=match w.cell? ⟨r,0,none⟩ with | some (.slice _ n _)=>n | _=>0
theorem zc.left {r g o cap:Nat} {ts:List Tk} {w:World} (h:zc r g o cap ts w):z6 r w=ts.length:=by unfold z6;rw [h.cell]
end Go.Proofs.YtmbofhpmockmbaaGreatDoor
