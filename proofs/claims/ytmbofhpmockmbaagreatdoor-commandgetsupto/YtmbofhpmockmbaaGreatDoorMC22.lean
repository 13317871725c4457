import Derived.Test.YtmbofhpmockmbaaGreatDoorMC21
import Derived.Test.YtmbofhpmockmbaaGreatDoorMC23
import Derived.Maps.AppendAt
namespace Go.Proofs.YtmbofhpmockmbaaGreatDoor
open Go.RowKit Go.Shelf
set_option maxHeartbeats 16000000
set_option maxRecDepth 100000
theorem zH (t:Tk) (ts:List Tk):zT (t::ts)=t:=by unfold zT;rfl
def ZG (t:Tk) (ts:List Tk) (res:PR (List Ex)):PR (List Ex) :=
 if zq t [40]=true then
  if zq (zT ts) [41]=true then .ok ([],ts.tail) else
  match res with
  | .error a=>.error a
  | .ok (l,us)=>if zq (zT us) [41]=true then .ok (l,us.tail) else .error (zT us).at0
 else .error t.at0
theorem Ys (r g o cap:Nat) (f:Value) (t:Tk) (ts:List Tk) (w:World) (res:PR (List Ex)) (h:zc r g o cap (t::ts) w) (hE:zk (t::ts)) (hEnd:∀l us,res=.ok (l,us)→zk us)
  (hrow:zq t [40]=true→zq (zT ts) [41]=false→∀E o1 cap1,zc r g o1 cap1 ts E→zb r w E→Calls Tryz.prog 178 #[.pointer (some ⟨r,0,none⟩),f] E (Yl r g E res)) :
  Calls Tryz.prog 177 #[.pointer (some ⟨r,0,none⟩),f] w (Yl r g w (ZG t ts res)):=by
 have hr:=h.lt.1;have J:=YO r g o cap t ts [40] w h (fun hi=>(hE.tail (zi hi)).ne)
 clear h
 unfold ZG
 by_cases hi:zq t [40]=true
 ·simp only [if_pos hi] at J ⊢
  have O:=hE.tail (zi hi);obtain ⟨t1,I,rfl⟩:=O.cons;simp only [zH,List.tail_cons] at hrow ⊢
  by_cases hj:zq t1 [41]=true
  ·simp only [if_pos hj]
   clear hrow hEnd
   go_enter Tryz.func177,Tryz.ntmps177
   go_wp2_with fail
   refine J.mono ?_;clear J;rintro e E ⟨y,rfl,h1⟩;have L:=Zi r g _ _ t1 I [41] E h1 (fun hi=>(O.tail (zi hi)).ne)
   have M:Hid (zb r w E):=y;rw [hj] at L;clear h1 y;go_wp2_with fail
   refine L.mono ?_;clear L;rintro e w2 ⟨rfl,D,h2⟩;have H:Hid (zb r w w2):=M.out.trans D;have W:zc r g (o+5+5) (cap-1-1) I w2:=by simpa using h2
   have ad:Hid (zc r g (o+5+5) (cap-1-1) I w2):=W;clear h2 W D;go_wp2
   refine bodyPost_ret (v:=.slice none 0 0) (by simp [results,Tryz.results177,go_sem]) rfl ⟨H.out,_,_,_,rfl,.inl ⟨rfl,rfl⟩,ad.out⟩
  ·have ab:zq t1 [41]=false:=by simpa using hj
   simp only [if_neg hj]
   go_enter Tryz.func177,Tryz.ntmps177
   go_wp2_with fail
   refine J.mono ?_;clear J;rintro e E ⟨y,rfl,h1⟩;have L:=Zi r g _ _ t1 I [41] E h1 (fun hi=>(O.tail (zi hi)).ne)
   have M:Hid (zb r w E):=y;rw [ab] at L;clear h1 y;go_wp2_with fail
   refine L.mono ?_;clear L;rintro e w2 ⟨rfl,D,h2⟩;have T:zb r w w2:=M.out.trans D;have H:Hid (zb r w w2):=T;have cr:=hrow hi ab w2 _ _ (by simpa using h2) T
   clear h2 D T hrow;go_wp2_with fail
   refine cr.mono ?_;clear cr;rintro e w3 ⟨aa,G⟩;have R:Hid (zb r w w3):=H.out.trans aa;rcases res with a | ⟨l,us⟩
   ·obtain rfl:=G
    exact ⟨rfl,R.out,rfl⟩
   ·obtain ⟨v,o3,K,rfl,U,X⟩:=G
    have Y:=hEnd l us rfl;obtain ⟨t3,Z,rfl⟩:=Y.cons;have A:=YO r g o3 K t3 Z [41] w3 X (fun hi=>(Y.tail (zi hi)).ne)
    have ag:w.heap.size≤w2.heap.size:=H.out.size;have ai:r<w2.heap.size:=by omega
    have V:Hid (Zz w2.heap.size w3 l v):=U;clear X U aa hEnd
    by_cases hm:zq t3 [41]=true
    ·simp only [if_pos hm] at A
     go_wp2_with fail
     refine A.mono ?_;clear A;rintro e w4 ⟨z,rfl,h4⟩;have ah:Hid (zb r w w4):=R.out.trans z;have Q:Hid (Zz w2.heap.size w4 l v):=V.out.kept z.size fun k hB hlt=>z.block k hlt (by omega)
     have af:Hid (zc r g (o3+5) (K-1) Z w4):=h4;clear z h4;go_wp2
     refine bodyPost_ret (v:=v) (by simp [results,Tryz.results177,go_sem]) rfl ⟨ah.out,_,_,_,rfl,Q.out.mono ag,af.out⟩
    ·simp only [if_neg hm] at A
     have ae:zq t3 [41]=false:=by simpa using hm
     go_wp2_with fail
     refine A.mono ?_;clear A;rintro e w4 ⟨z,rfl⟩;refine ⟨rfl,R.out.trans z,?_⟩;simp only [zH,ae,Bool.false_eq_true,if_false]
 ·simp only [if_neg hi] at J ⊢
  clear hrow hEnd
  go_enter Tryz.func177,Tryz.ntmps177
  go_wp2_with fail
  refine J.mono ?_;clear J;rintro e E ⟨y,rfl⟩;exact ⟨rfl,y,rfl⟩
structure Y8 {α:Type} (E:(Nat→Prop)→World→α→List Value→Prop):Prop where
 kept:∀{S:Nat→Prop} {w w':World} {x:α} {c:List Value},E S w x c→w.heap.size≤w'.heap.size→(∀k,S k→k<w.heap.size→w'.heap[k]?=w.heap[k]?)→E S w' x c
 wide:∀{S S':Nat→Prop} {w:World} {x:α} {c:List Value},E S w x c→(∀k,S k→S' k)→E S' w x c
 low:∀{S:Nat→Prop} {w:World} {x:α} {c:List Value},E S w x c→E (fun k=>S k∧k<w.heap.size) w x c
structure Zq {α:Type} (E:(Nat→Prop)→World→α→List Value→Prop) (sz ty B:Nat) (w:World) (l:List α) (v:Value) (g cap:Nat) (us:List (List Value)):Prop where
 val:v=.slice (some ⟨g,0,none⟩) l.length cap
 ne:l≠[]
 own:w.ownsRow B ty sz v l.length us.flatten
 len:us.length=l.length
 wid:∀c∈us,c.length=sz
 kids:∀(j:Nat) (x:α) (c:List Value),l[j]?=some x→us[j]?=some c→E (fun k=>B≤k∧k≠g) w x c
theorem Zq.block {α:Type} {E:(Nat→Prop)→World→α→List Value→Prop} {sz ty B:Nat} {w:World} {l:List α} {v:Value} {g cap:Nat} {us:List (List Value)} (h:Zq E sz ty B w l v g cap us):B≤g∧g<w.heap.size∧l.length≤cap∧cap≤maxLen:=by
 have z:=h.own.lt g (by rw [h.val];rfl)
 refine ⟨z.1,z.2,?_⟩;rcases h.own.2 with ⟨o,_⟩ | ⟨H,y,D,o,_,_,G,A,_⟩
 ·rw [h.val] at o;cases o
 ·rw [h.val] at o
  cases o
  exact ⟨G,A⟩
theorem Zq.kept {α:Type} {E:(Nat→Prop)→World→α→List Value→Prop} (L:Y8 E) {sz ty B:Nat} {w w':World} {l:List α} {v:Value} {g cap:Nat} {us:List (List Value)} (h:Zq E sz ty B w l v g cap us)
  (hs:w.heap.size≤w'.heap.size) (hb:∀k,B≤k→k<w.heap.size→w'.heap[k]?=w.heap[k]?):Zq E sz ty B w' l v g cap us where
 val:=h.val
 ne:=h.ne
 own:=by
  refine ⟨h.own.1,?_⟩;rcases h.own.2 with z | ⟨A,o,y,z,D,G,H⟩
  ·exact .inl z
  ·exact .inr ⟨A,o,y,z,D,(hb A D (Array.getElem?_eq_some_iff.1 G).1).trans G,H⟩
 len:=h.len
 wid:=h.wid
 kids:=fun j x c hx hc=>L.kept (h.kids j x c hx hc) hs fun k hk hlt=>hb k hk.1 hlt
theorem Zq.first {α:Type} {E:(Nat→Prop)→World→α→List Value→Prop} (L:Y8 E) {sz ty B:Nat} {w:World} {x:α} {c:List Value} (hx:E (fun k=>B≤k) w x c) (hc:c.length=sz) (hB:B≤w.heap.size) :
  Zq E sz ty B (w.alloc (.cells c.toArray ty)) [x] (.slice (some ⟨w.heap.size,0,none⟩) 1 1) w.heap.size 1 [c] where
 val:=rfl
 ne:=by simp
 own:=by
  refine ⟨by simp [hc],.inr ⟨w.heap.size,1,c.toArray,rfl,hB,World.alloc_heap_new _ _,Nat.le_refl _,by simp [maxLen],by simp [hc],?_⟩⟩
  simp [hc,List.take_of_length_le]
 len:=rfl
 wid:=by simp [hc]
 kids:=fun j y d hy hd=>by
  cases j with
  | succ j=>simp at hy
  | zero =>
   simp only [List.getElem?_cons_zero,Option.some.injEq] at hy hd;subst hy hd;exact L.wide (L.kept (L.low hx) (by simp) fun k hk _=>Below.heap_alloc _ _ _ hk.2) fun k hk=>⟨hk.1,by omega⟩
theorem Zq.snoc {α:Type} {E:(Nat→Prop)→World→α→List Value→Prop} (L:Y8 E) {sz ty B:Nat} {w w':World} {l:List α} {v v':Value} {g cap:Nat} {us:List (List Value)} (h:Zq E sz ty B w l v g cap us) {x:α} {c:List Value} {ob:Obj}
  (hx:E (fun k=>B≤k∧k≠g) w x c) (hc:c.length=sz) (ho:w'.ownsRow B ty sz v' (l.length+1) (us.flatten++c)) (hg:(w.alloc ob).grownBy w' v.ownBlock) (ha:v'.ownBlock=v.ownBlock∨v'.ownBlock=some (w.alloc ob).heap.size) :
  ∃z cap',Zq E sz ty B w' (l++[x]) v' z cap' (us++[c])∧(z=g∨w.heap.size≤z):=by
 have R:=h.block;have H:v.ownBlock=some g:=by rw [h.val];rfl
 rw [H] at hg ha
 obtain ⟨z,cap',G⟩:∃z cap',v'=.slice (some ⟨z,0,none⟩) (l.length+1) cap':=by
  rcases ho.2 with ⟨_,I⟩ | ⟨z,cap',_,Q,_⟩
  ·omega
  ·exact ⟨z,cap',Q⟩
 have O:z=g∨z=(w.alloc ob).heap.size:=by
  rw [G] at ha
  simpa [Value.ownBlock] using ha
 have K:(w.alloc ob).heap.size=w.heap.size+1:=by simp
 have M:w.heap.size≤w'.heap.size:=by have:=hg.size;omega
 have D:∀k,k≠g→k<w.heap.size→w'.heap[k]?=w.heap[k]?:=fun k hk hlt=>(hg.block k (by omega) (by simpa using hk)).trans (Below.heap_alloc _ _ _ hlt)
 have A:∀y d,E (fun k=>B≤k∧k≠g) w y d→E (fun k=>B≤k∧k≠z) w' y d:=fun y d hy =>
  L.wide (L.kept (L.low hy) M fun k hk _=>D k hk.1.2 hk.2) fun k hk=>⟨hk.1.1,by omega⟩
 refine ⟨z,cap',⟨by rw [G,List.length_append];rfl,by simp,?_,by simp [h.len],?_,fun j y d hy o=>?_⟩,by omega⟩
 ·rw [List.length_append,List.flatten_append]
  simpa using ho
 ·intro d o
  rcases List.mem_append.1 o with o | o
  ·exact h.wid d o
  ·simp only [List.mem_singleton] at o;rw [o];exact hc
 ·rw [List.getElem?_append] at hy o
  rw [h.len] at o
  split at hy
  ·rename_i J
   rw [if_pos J] at o;exact A y d (h.kids j y d hy o)
  ·rename_i J
   rw [if_neg J] at o
   have:j-l.length=0:=by
    rcases Nat.eq_zero_or_pos (j-l.length) with I | I
    ·exact I
    ·rw [List.getElem?_eq_none (by simp;omega)] at hy;cases hy
   rw [this] at hy o;simp only [List.getElem?_cons_zero,Option.some.injEq] at hy o;subst hy o;exact A _ _ hx
def UZ (S:Nat→Prop) (w:World) (x:Ex) (c:List Value):Prop:=zC S w x (.agg c.toArray)
theorem YC:Y8 UZ:=⟨fun h hs hb=>zC.kept h hs hb,fun h hS=>zC.wide h hS,fun h=>zC.low h⟩
theorem Zq.row {ty B:Nat} {w:World} {l:List Ex} {v:Value} {g cap:Nat} {us:List (List Value)} (h:Zq UZ 5 ty B w l v g cap us):Zz B w l v:=by
 have y:=h.block;refine .inr ⟨g,cap,us,h.val,h.ne,h.len,y.1,y.2.1,y.2.2.1,y.2.2.2,fun j u hj=>?_,h.wid,fun j x c o hc=>zC.wide (h.kids j x c o hc) fun k hk=>hk.1⟩
 have o:=h.own.cells (g:=g) (by rw [h.val];rfl) j u hj
 by_cases h0:j=0
 ·subst h0;simpa [Addr.add] using o
 ·simpa [Addr.add,h0] using o
theorem ZM {f least:Nat} {ts us:List Tk} {x:Ex} (h:zd f least ts=some (.ok (x,us))):us.length≤ts.length-1:=by
 obtain ⟨A,z,y,o⟩:=(Y1 ts.length ts (Nat.le_refl _)).1 least;exact o x us (yu (y 0) h)
def Y9 (f:Nat) (l:List Ex) (ts:List Tk):Option (PR (List Ex)):=if zq (zT ts) [44]=true then ZQ f l ts.tail else some (.ok (l,ts))
def Zm (r:Nat) (w:World):Nat:=match w.cell? ⟨r,0,none⟩ with | some (.slice _ n _)=>n | _=>0
theorem zc.left {r g o cap:Nat} {ts:List Tk} {w:World} (h:zc r g o cap ts w):Zm r w=ts.length:=by unfold Zm;rw [h.cell]
end Go.Proofs.YtmbofhpmockmbaaGreatDoor
