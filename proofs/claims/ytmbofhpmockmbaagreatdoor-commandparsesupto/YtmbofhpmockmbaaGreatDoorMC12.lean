import Derived.Test.YtmbofhpmockmbaaGreatDoorMC11
import Derived.Test.YtmbofhpmockmbaaGreatDoorMC13
import Derived.Maps.AppendAt
namespace Go.Proofs.YtmbofhpmockmbaaGreatDoor
open Go.RowKit Go.Shelf
set_option maxHeartbeats 16000000
set_option maxRecDepth 100000
theorem z7 (t:Tk) (ts:List Tk):zx (t::ts)=t:=by unfold zx;rfl
def Z9 (t:Tk) (ts:List Tk) (res:PR (List Ex)):PR (List Ex) :=
 if zm t [40]=true then
  if zm (zx ts) [41]=true then .ok ([],ts.tail) else
  match res with
  | .error a=>.error a
  | .ok (l,us)=>if zm (zx us) [41]=true then .ok (l,us.tail) else .error (zx us).at0
 else .error t.at0
theorem xz (r g o cap:Nat) (f:Value) (t:Tk) (ts:List Tk) (w:World) (res:PR (List Ex)) (h:zk r g o cap (t::ts) w) (hE:zt (t::ts)) (hEnd:∀l us,res=.ok (l,us)→zt us)
  (hrow:zm t [40]=true→zm (zx ts) [41]=false→∀G o1 cap1,zk r g o1 cap1 ts G→zc r w G→Calls Tryz.prog 178 #[.pointer (some ⟨r,0,none⟩),f] G (xn r g G res)) :
  Calls Tryz.prog 177 #[.pointer (some ⟨r,0,none⟩),f] w (xn r g w (Z9 t ts res)):=by
 have hr:=h.lt.1;have J:=xV r g o cap t ts [40] w h (fun hi=>(hE.tail (zo hi)).ne)
 clear h
 unfold Z9
 by_cases hi:zm t [40]=true
 ·simp only [if_pos hi] at J ⊢
  have L:=hE.tail (zo hi);obtain ⟨t1,I,rfl⟩:=L.cons;simp only [z7,List.tail_cons] at hrow ⊢
  by_cases hj:zm t1 [41]=true
  ·simp only [if_pos hj]
   clear hrow hEnd
   go_enter Tryz.func177,Tryz.ntmps177
   go_wp2_with fail
   refine J.mono ?_;clear J;rintro e G ⟨y,rfl,h1⟩;have Q:=ZF r g _ _ t1 I [41] G h1 (fun hi=>(L.tail (zo hi)).ne)
   have R:Hid (zc r w G):=y;rw [hj] at Q;clear h1 y;go_wp2_with fail
   refine Q.mono ?_;clear Q;rintro e w2 ⟨rfl,E,V⟩;have H:Hid (zc r w w2):=R.out.trans E;have X:zk r g (o+5+5) (cap-1-1) I w2:=by simpa using V
   have ad:Hid (zk r g (o+5+5) (cap-1-1) I w2):=X;clear V X E;go_wp2
   refine bodyPost_ret (v:=.slice none 0 0) (by simp [results,Tryz.results177,go_sem]) rfl ⟨H.out,_,_,_,rfl,.inl ⟨rfl,rfl⟩,ad.out⟩
  ·have T:zm t1 [41]=false:=by simpa using hj
   simp only [if_neg hj]
   go_enter Tryz.func177,Tryz.ntmps177
   go_wp2_with fail
   refine J.mono ?_;clear J;rintro e G ⟨y,rfl,h1⟩;have Q:=ZF r g _ _ t1 I [41] G h1 (fun hi=>(L.tail (zo hi)).ne)
   have R:Hid (zc r w G):=y;rw [T] at Q;clear h1 y;go_wp2_with fail
   refine Q.mono ?_;clear Q;rintro e w2 ⟨rfl,E,V⟩;have M:zc r w w2:=R.out.trans E;have H:Hid (zc r w w2):=M;have cr:=hrow hi T w2 _ _ (by simpa using V) M
   clear V E M hrow;go_wp2_with fail
   refine cr.mono ?_;clear cr;rintro e w3 ⟨U,D⟩;have O:Hid (zc r w w3):=H.out.trans U;rcases res with a | ⟨l,us⟩
   ·obtain rfl:=D
    exact ⟨rfl,O.out,rfl⟩
   ·obtain ⟨v,o3,K,rfl,ab,aa⟩:=D
    have Z:=hEnd l us rfl;obtain ⟨t3,W,rfl⟩:=Z.cons;have A:=xV r g o3 K t3 W [41] w3 aa (fun hi=>(Z.tail (zo hi)).ne)
    have ag:w.heap.size≤w2.heap.size:=H.out.size;have ai:r<w2.heap.size:=by omega
    have Y:Hid (Zw w2.heap.size w3 l v):=ab;clear aa ab U hEnd
    by_cases hm:zm t3 [41]=true
    ·simp only [if_pos hm] at A
     go_wp2_with fail
     refine A.mono ?_;clear A;rintro e w4 ⟨z,rfl,h4⟩;have af:Hid (zc r w w4):=O.out.trans z;have N:Hid (Zw w2.heap.size w4 l v):=Y.out.kept z.size fun k hB hlt=>z.block k hlt (by omega)
     have ae:Hid (zk r g (o3+5) (K-1) W w4):=h4;clear z h4;go_wp2
     refine bodyPost_ret (v:=v) (by simp [results,Tryz.results177,go_sem]) rfl ⟨af.out,_,_,_,rfl,N.out.mono ag,ae.out⟩
    ·simp only [if_neg hm] at A
     have ah:zm t3 [41]=false:=by simpa using hm
     go_wp2_with fail
     refine A.mono ?_;clear A;rintro e w4 ⟨z,rfl⟩;refine ⟨rfl,O.out.trans z,?_⟩;simp only [z7,ah,Bool.false_eq_true,if_false]
 ·simp only [if_neg hi] at J ⊢
  clear hrow hEnd
  go_enter Tryz.func177,Tryz.ntmps177
  go_wp2_with fail
  refine J.mono ?_;clear J;rintro e G ⟨y,rfl⟩;exact ⟨rfl,y,rfl⟩
structure Z3 {α:Type} (E:(Nat→Prop)→World→α→List Value→Prop):Prop where
 kept:∀{S:Nat→Prop} {w w':World} {x:α} {c:List Value},E S w x c→w.heap.size≤w'.heap.size→(∀k,S k→k<w.heap.size→w'.heap[k]?=w.heap[k]?)→E S w' x c
 wide:∀{S S':Nat→Prop} {w:World} {x:α} {c:List Value},E S w x c→(∀k,S k→S' k)→E S' w x c
 low:∀{S:Nat→Prop} {w:World} {x:α} {c:List Value},E S w x c→E (fun k=>S k∧k<w.heap.size) w x c
structure ZJ {α:Type} (E:(Nat→Prop)→World→α→List Value→Prop) (sz ty B:Nat) (w:World) (l:List α) (v:Value) (g cap:Nat) (us:List (List Value)):Prop where
 val:v=.slice (some ⟨g,0,none⟩) l.length cap
 ne:l≠[]
 own:w.ownsRow B ty sz v l.length us.flatten
 len:us.length=l.length
 wid:∀c∈us,c.length=sz
 kids:∀(j:Nat) (x:α) (c:List Value),l[j]?=some x→us[j]?=some c→E (fun k=>B≤k∧k≠g) w x c
theorem ZJ.block {α:Type} {E:(Nat→Prop)→World→α→List Value→Prop} {sz ty B:Nat} {w:World} {l:List α} {v:Value} {g cap:Nat} {us:List (List Value)} (h:ZJ E sz ty B w l v g cap us):B≤g∧g<w.heap.size∧l.length≤cap∧cap≤maxLen:=by
 have y:=h.own.lt g (by rw [h.val];rfl)
 refine ⟨y.1,y.2,?_⟩;rcases h.own.2 with ⟨e,_⟩ | ⟨G,o,z,e,_,_,D,A,_⟩
 ·rw [h.val] at e;cases e
 ·rw [h.val] at e
  cases e
  exact ⟨D,A⟩
theorem ZJ.kept {α:Type} {E:(Nat→Prop)→World→α→List Value→Prop} (L:Z3 E) {sz ty B:Nat} {w w':World} {l:List α} {v:Value} {g cap:Nat} {us:List (List Value)} (h:ZJ E sz ty B w l v g cap us)
  (hs:w.heap.size≤w'.heap.size) (hb:∀k,B≤k→k<w.heap.size→w'.heap[k]?=w.heap[k]?):ZJ E sz ty B w' l v g cap us where
 val:=h.val
 ne:=h.ne
 own:=by
  refine ⟨h.own.1,?_⟩;rcases h.own.2 with y | ⟨z,e,o,y,A,D,G⟩
  ·exact .inl y
  ·exact .inr ⟨z,e,o,y,A,(hb z A (Array.getElem?_eq_some_iff.1 D).1).trans D,G⟩
 len:=h.len
 wid:=h.wid
 kids:=fun j x c hx hc=>L.kept (h.kids j x c hx hc) hs fun k hk hlt=>hb k hk.1 hlt
theorem ZJ.first {α:Type} {E:(Nat→Prop)→World→α→List Value→Prop} (L:Z3 E) {sz ty B:Nat} {w:World} {x:α} {c:List Value} (hx:E (fun k=>B≤k) w x c) (hc:c.length=sz) (hB:B≤w.heap.size) :
  ZJ E sz ty B (w.alloc (.cells c.toArray ty)) [x] (.slice (some ⟨w.heap.size,0,none⟩) 1 1) w.heap.size 1 [c] where
 val:=rfl
 ne:=by simp
 own:=by
  refine ⟨by simp [hc],.inr ⟨w.heap.size,1,c.toArray,rfl,hB,World.alloc_heap_new _ _,Nat.le_refl _,by simp [maxLen],by simp [hc],?_⟩⟩
  simp [hc,List.take_of_length_le]
 len:=rfl
 wid:=by simp [hc]
 kids:=fun j y d hy hd=>by
  cases j with
  | succ j=>simp at hy
  | zero =>
   simp only [List.getElem?_cons_zero,Option.some.injEq] at hy hd;subst hy hd;exact L.wide (L.kept (L.low hx) (by simp) fun k hk _=>Below.heap_alloc _ _ _ hk.2) fun k hk=>⟨hk.1,by omega⟩
theorem ZJ.snoc {α:Type} {E:(Nat→Prop)→World→α→List Value→Prop} (L:Z3 E) {sz ty B:Nat} {w w':World} {l:List α} {v v':Value} {g cap:Nat} {us:List (List Value)} (h:ZJ E sz ty B w l v g cap us) {x:α} {c:List Value} {ob:Obj}
  (hx:E (fun k=>B≤k∧k≠g) w x c) (hc:c.length=sz) (ho:w'.ownsRow B ty sz v' (l.length+1) (us.flatten++c)) (hg:(w.alloc ob).grownBy w' v.ownBlock) (ha:v'.ownBlock=v.ownBlock∨v'.ownBlock=some (w.alloc ob).heap.size) :
  ∃e cap',ZJ E sz ty B w' (l++[x]) v' e cap' (us++[c])∧(e=g∨w.heap.size≤e):=by
 have N:=h.block;have G:v.ownBlock=some g:=by rw [h.val];rfl
 rw [G] at hg ha
 obtain ⟨e,cap',A⟩:∃e cap',v'=.slice (some ⟨e,0,none⟩) (l.length+1) cap':=by
  rcases ho.2 with ⟨_,H⟩ | ⟨e,cap',_,M,_⟩
  ·omega
  ·exact ⟨e,cap',M⟩
 have I:e=g∨e=(w.alloc ob).heap.size:=by
  rw [A] at ha
  simpa [Value.ownBlock] using ha
 have J:(w.alloc ob).heap.size=w.heap.size+1:=by simp
 have K:w.heap.size≤w'.heap.size:=by have:=hg.size;omega
 have z:∀k,k≠g→k<w.heap.size→w'.heap[k]?=w.heap[k]?:=fun k hk hlt=>(hg.block k (by omega) (by simpa using hk)).trans (Below.heap_alloc _ _ _ hlt)
 have o:∀y d,E (fun k=>B≤k∧k≠g) w y d→E (fun k=>B≤k∧k≠e) w' y d:=fun y d hy =>
  L.wide (L.kept (L.low hy) K fun k hk _=>z k hk.1.2 hk.2) fun k hk=>⟨hk.1.1,by omega⟩
 refine ⟨e,cap',⟨by rw [A,List.length_append];rfl,by simp,?_,by simp [h.len],?_,fun j y d hy hd=>?_⟩,by omega⟩
 ·rw [List.length_append,List.flatten_append]
  simpa using ho
 ·intro d hd
  rcases List.mem_append.1 hd with hd | hd
  ·exact h.wid d hd
  ·simp only [List.mem_singleton] at hd;rw [hd];exact hc
 ·rw [List.getElem?_append] at hy hd
  rw [h.len] at hd
  split at hy
  ·rename_i D
   rw [if_pos D] at hd;exact o y d (h.kids j y d hy hd)
  ·rename_i D
   rw [if_neg D] at hd
   have:j-l.length=0:=by
    rcases Nat.eq_zero_or_pos (j-l.length) with H | H
    ·exact H
    ·rw [List.getElem?_eq_none (by simp;omega)] at hy;cases hy
   rw [this] at hy hd;simp only [List.getElem?_cons_zero,Option.some.injEq] at hy hd;subst hy hd;exact o _ _ hx
def uC (S:Nat→Prop) (w:World) (x:Ex) (c:List Value):Prop:=zJ S w x (.agg c.toArray)
theorem yN:Z3 uC:=⟨fun h hs hb=>zJ.kept h hs hb,fun h hS=>zJ.wide h hS,fun h=>zJ.low h⟩
theorem ZJ.row {ty B:Nat} {w:World} {l:List Ex} {v:Value} {g cap:Nat} {us:List (List Value)} (h:ZJ uC 5 ty B w l v g cap us):Zw B w l v:=by
 have o:=h.block;refine .inr ⟨g,cap,us,h.val,h.ne,h.len,o.1,o.2.1,o.2.2.1,o.2.2.2,fun j u hj=>?_,h.wid,fun j x c e hc=>zJ.wide (h.kids j x c e hc) fun k hk=>hk.1⟩
 have e:=h.own.cells (g:=g) (by rw [h.val];rfl) j u hj
 by_cases h0:j=0
 ·subst h0;simpa [Addr.add] using e
 ·simpa [Addr.add,h0] using e
theorem yg {f least:Nat} {ts us:List Tk} {x:Ex} (h:zh f least ts=some (.ok (x,us))):us.length≤ts.length-1:=by
 obtain ⟨z,y,o,e⟩:=(YX ts.length ts (Nat.le_refl _)).1 least;exact e x us (Yk (o 0) h)
def Xx (f:Nat) (l:List Ex) (ts:List Tk):Option (PR (List Ex)):=if zm (zx ts) [44]=true then ZS f l ts.tail else some (.ok (l,ts))
def ZM (r:Nat) (w:World):Nat:=match w.cell? ⟨r,0,none⟩ with | some (.slice _ n _)=>n | _=>0
theorem zk.left {r g o cap:Nat} {ts:List Tk} {w:World} (h:zk r g o cap ts w):ZM r w=ts.length:=by unfold ZM;rw [h.cell]
theorem zc.grown {r:Nat} {w w1 w2:World} {row:Option Nat} (h:zc r w w1) (hg:w1.grownBy w2 row) (hrow:∀k,row=some k→w.heap.size≤k):zc r w w2 :=
 ⟨hg.os.trans h.os,hg.tape.trans h.tape,hg.output.trans h.output,Nat.le_trans h.size hg.size,fun k hk hr=>(hg.block k (Nat.lt_of_lt_of_le hk h.size) fun e=>by have:=hrow k e.symm;omega).trans (h.block k hk hr)⟩
theorem Vp:(Tryz.prog.info? 90).map (fun i=>(i.zero,i.size,i.bytes))=some (some (.agg #[.int .i64 0,.string ⟨#[]⟩,.int .i64 0,.slice none 0 0,.int .i64 0]),5,64):=by kernel_rfl
theorem zbf (r g o cap F:Nat) (ts:List Tk) (w:World) (res:PR (List Ex)) (h:zk r g o cap ts w) (hE:zt ts) (hN:ts.length≤1099511627776) (hp:ZS (F+1) [] ts=some res)
  (hone:∀G o1 z y r1,zh F 1 y=some r1→zt y→y.length≤1099511627776→zk r g o1 z y G→zc r w G→Calls Tryz.prog 74 #[.pointer (some ⟨r,0,none⟩)] G (zu r g G r1)) :
  Calls Tryz.prog 178 #[.pointer (some ⟨r,0,none⟩),.func (.func 74) #[.pointer (some ⟨r,0,none⟩)] #[]] w (xn r g w res):=by
 obtain ⟨i0,aG,aJ,aK,aF⟩:=info_parts Vp;obtain ⟨t0,aw,rfl⟩:=hE.cons;have hr:=h.lt.1;have aT:=h.lt.2;rw [ZS] at hp;cases hb:zh F 1 (t0::aw) with
 | none=>rw [hb] at hp;cases hp
 | some r1 =>
  have c1:=hone w o cap (t0::aw) r1 hb hE hN h (zc.refl r w);rw [hb] at hp;simp only [zq] at hp
  go_enter Tryz.func178,Tryz.ntmps178
  go_wp2_with fail
  refine c1.mono ?_;clear c1;rintro e G ⟨ad,A⟩;rcases r1 with a | ⟨x,us⟩
  ·obtain rfl:=A
   simp only [Option.some.injEq] at hp;subst hp;exact ⟨rfl,ad,rfl⟩
  ·obtain ⟨v,o1,z,rfl,hx,T⟩:=A
   obtain ⟨a,b,c,d0,d1,d2,l,rfl⟩:=hx.agg;have aj:=(ZC F).1 _ _ _ _ hb hE;have aA:=yg hb;have HP:Hid (Xx F [x] us=some res):=hp;obtain ⟨t1,y,rfl⟩:=aj.cons
   have aC:Hid (ZJ uC 5 90 w.heap.size (G.alloc (.cells #[.int .i64 a,.string b,.int .i64 c,.slice d0 d1 d2,.int .i64 l] 90)) [x] (.slice (some ⟨G.heap.size,0,none⟩) 1 1) G.heap.size 1 [[.int .i64 a,.string b,.int .i64 c,.slice d0 d1 d2,.int .i64 l]]) :=
    ZJ.first yN (c:=[.int .i64 a,.string b,.int .i64 c,.slice d0 d1 d2,.int .i64 l]) (show zJ _ _ _ _ from hx) rfl ad.size
   have ax:Hid (zk r g o1 z (t1::y) (G.alloc (.cells #[.int .i64 a,.string b,.int .i64 c,.slice d0 d1 d2,.int .i64 l] 90))):=T.alloc _;have aE:Hid (zc r w (G.alloc (.cells #[.int .i64 a,.string b,.int .i64 c,.slice d0 d1 d2,.int .i64 l] 90))):=ad.alloc _;have ar:Hid (zt (t1::y)):=aj;have hn:y.length+2≤1099511627776:=by simp only [List.length_cons] at aA hN;omega
   have aD:Hid (∀G o1 z y r1,zh F 1 y=some r1→zt y→y.length≤1099511627776→zk r g o1 z y G→zc r w G→Calls Tryz.prog 74 #[.pointer (some ⟨r,0,none⟩)] G (zu r g G r1)):=hone;clear hx T ad aj hone hp hb hE hN h aA;go_wp2_with fail
   go_loopw [5] (fun v wr=>∃(L:List Ex) (Z z:Nat) (us:List (List Value)) (o2 M:Nat) (Y:List Tk) (f2:Nat),f2≤F∧Xx f2 L Y=some res∧zt Y∧L.length+Y.length≤1099511627776∧ZJ uC 5 90 w.heap.size wr L v Z z us∧zk r g o2 M Y wr∧zc r w wr) (fun _ wr=>ZM r wr)
   case atStart=>exact ⟨[x],_,_,_,o1,z,t1::y,F,Nat.le_refl _,HP.out,ar.out,by simp only [List.length_cons,List.length_nil];omega,aC.out,ax.out,aE.out⟩
   case round =>
    obtain ⟨L,Z,O,us,o2,M,Y,f2,aU,E,R,ab,N,K,am⟩:=hrel;clear HP aC ax aE ar hn;obtain ⟨t2,Q,rfl⟩:=R.cons;have cs:=ZF r g o2 M t2 Q [44] wr K (fun hi=>(R.tail (zo hi)).ne)
    have aq:=K.left;have U:Hid (ZJ uC 5 90 w.heap.size wr L _ Z O us):=N;have ap:Hid (zc r w wr):=am;have aB:=N.val;subst aB
    unfold Xx at E
    simp only [z7,List.tail_cons] at E
    by_cases hi:zm t2 [44]=true
    ·rw [hi] at cs
     rw [if_pos hi] at E;have av:=R.tail (zo hi);clear N am K R;go_wp2_with fail
     refine cs.mono ?_;clear cs;rintro e w3 ⟨rfl,D,h3⟩;simp only [if_true] at h3;have al:zc r w w3:=ap.out.trans D;have H:=U.out.kept yN D.size fun k hB hlt=>D.block k hlt (by omega)
     cases f2 with
     | zero=>simp [ZS] at E
     | succ f3 =>
      rw [ZS] at E;cases hb3:zh f3 1 Q with
      | none=>rw [hb3] at E;cases E
      | some r3 =>
       rw [hb3] at E;simp only [zq] at E
       have ak:zh F 1 Q=some r3:=by
        have:=yA (k:=F-f3) hb3
        rwa [show f3+(F-f3)=F by omega] at this
       have c3:=aD.out w3 _ _ Q r3 ak av (by simp only [List.length_cons] at ab;omega) h3 al
       have aS:=H.block;have I:Hid (ZJ uC 5 90 w.heap.size w3 L _ Z O us):=H;have ag:Hid (zc r w w3):=al;clear H al D h3 U ap;go_wp2_with fail
       refine c3.mono ?_;clear c3;rintro e w4 ⟨aa,A⟩;have ae:Hid (zc r w w4):=ag.out.trans aa;rcases r3 with a | ⟨x3,af⟩
       ·obtain rfl:=A
        simp only [Option.some.injEq] at E;subst E;exact ⟨rfl,ae.out,rfl⟩
       ·obtain ⟨v,o4,X,rfl,hx,T⟩:=A
        obtain ⟨a4,b4,c4,p4,q4,s4,l4,rfl⟩:=hx.agg;have J:=I.out.kept yN aa.size fun k hB hlt=>aa.block k hlt (by omega)
        have ay:uC (fun k=>w.heap.size≤k∧k≠Z) w4 x3 [.int .i64 a4,.string b4,.int .i64 c4,.slice p4 q4 s4,.int .i64 l4]:=zJ.wide hx fun k hk=>⟨Nat.le_trans ag.out.size hk,by omega⟩
        have aL:Hid (uC (fun k=>w.heap.size≤k∧k≠Z) w4 x3 [.int .i64 a4,.string b4,.int .i64 c4,.slice p4 q4 s4,.int .i64 l4]):=ay
        have an:Hid (ZJ uC 5 90 w.heap.size w4 L _ Z O us):=J;have aN:Hid (zk r g o4 X af w4):=T;have aI:=(ZC F).1 _ _ _ _ ak av;have aR:=yg ak;have az:=(J.own.alloc (.cells #[.int .i64 a4,.string b4,.int .i64 c4,.slice p4 q4 s4,.int .i64 l4] 90));have HT:Hid (Xx f3 (L++[x3]) af=some res):=E;have aQ:w.heap.size≤w4.heap.size:=ae.out.size;clear J ay hx T E aa
        go_wp2_with (at_builtin;refine wpList_append_own_at _ rfl _ _ 88 rfl w.heap.size 90 i0 _ 5 64 Tryz.underlying88 aG aJ aK aF rfl (by decide) _ _ _ rfl az ⟨w4.heap.size,0,none⟩ 1 1 [.int .i64 a4,.string b4,.int .i64 c4,.slice p4 q4 s4,.int .i64 l4] rfl rfl (ZW _ _ _) (by simp [Value.oneCell']) (by unfold maxLen;simp only [List.length_cons] at ab;omega) (by simp only [List.length_cons] at ab;omega) (by simp;omega) ?_;intro v' w5 ai W _ aP)
        obtain ⟨g5,au,ao,aW⟩:=an.out.snoc yN aL.out rfl ai W aP
        have V:(w4.alloc (.cells #[.int .i64 a4,.string b4,.int .i64 c4,.slice p4 q4 s4,.int .i64 l4] 90)).grownBy w5 (some Z):=W;have aM:zc r w w5:=(ae.out.alloc _).grown V fun k hk=>by have:=Option.some.inj hk;omega
        have aV:w.heap.size≤w4.heap.size:=ae.out.size;have ah:zk r g o4 X af w5:=aN.out.keep ((V.block r (by simp;omega) (fun e=>by have:=Option.some.inj e;omega)).trans (Below.heap_alloc _ _ _ (by omega))) ((V.block g (by simp;omega) (fun e=>by have:=Option.some.inj e;omega)).trans (Below.heap_alloc _ _ _ (by omega)))
        refine ⟨⟨L++[x3],g5,au,_,o4,X,af,f3,by omega,HT.out,aI,?_,ao,ah,aM⟩,?_⟩
        ·simp only [List.length_append,List.length_cons,List.length_nil] at ab ⊢;omega
        ·rw [ah.left,aq];simp only [List.length_cons];omega
    ·have aH:zm t2 [44]=false:=by simpa using hi
     rw [aH] at cs;rw [if_neg hi] at E;clear N am K R;go_wp2_with fail
     refine cs.mono ?_;clear cs;rintro e w3 ⟨rfl,D,h3⟩;have ag:Hid (zc r w w3):=ap.out.trans D;have I:Hid (Zw w.heap.size w3 L (.slice (some ⟨Z,0,none⟩) L.length O)):=(U.out.kept yN D.size fun k hB hlt=>D.block k hlt (by omega)).row
     have aO:Hid (zk r g o2 M (t2::Q) w3):=show zk _ _ _ _ _ _ by simpa using h3
     simp only [Option.some.injEq] at E;subst E;clear D h3;go_wp2
     refine bodyPost_ret (v:=.slice (some ⟨Z,0,none⟩) L.length O) (by simp [results,Tryz.results178,go_sem]) rfl ⟨ag.out,_,_,_,rfl,I.out,aO.out⟩
theorem zK.one {S:Nat→Prop} {w:World} {x:Ex} {c:List Value} (ty:Nat) (hx:zJ S w x (.agg c.toArray)) (hc:c.length=5) (hB:S w.heap.size):zK S (w.alloc (.cells c.toArray ty)) [x] (.slice (some ⟨w.heap.size,0,none⟩) 1 1):=by
 refine .inr ⟨w.heap.size,1,[c],rfl,by simp,rfl,hB,by simp,Nat.le_refl _,by simp [maxLen],fun j u hj=>?_,fun z hz=>?_,fun j z e hz he=>?_⟩
 ·have h:=ZW w c ty j u (by simpa using hj)
  by_cases h0:j=0
  ·subst h0;simpa [Addr.add] using h
  ·simpa [Addr.add,h0] using h
 ·simp only [List.mem_cons,List.not_mem_nil,or_false] at hz
  subst hz;exact hc
 ·match j,hz,he with
  | 0,hz,he =>
   simp only [List.getElem?_cons_zero,Option.some.injEq] at hz he
   subst hz he;exact zJ.kept hx (by simp) fun k _ hlt=>Below.heap_alloc _ _ _ hlt
  | j+1,hz,he=>simp at hz
theorem zK.two {S:Nat→Prop} {w:World} {x y:Ex} {c d:List Value} (ty:Nat) (hx:zJ S w x (.agg c.toArray)) (hy:zJ S w y (.agg d.toArray)) (hc:c.length=5) (hd:d.length=5) (hB:S w.heap.size) :
  zK S (w.alloc (.cells (c++d).toArray ty)) [x,y] (.slice (some ⟨w.heap.size,0,none⟩) 2 2):=by
 refine .inr ⟨w.heap.size,2,[c,d],rfl,by simp,rfl,hB,by simp,Nat.le_refl _,by simp [maxLen],fun j u hj=>?_,fun z hz=>?_,fun j z e hz he=>?_⟩
 ·have h:=ZW w (c++d) ty j u (by simpa using hj)
  by_cases h0:j=0
  ·subst h0;simpa [Addr.add] using h
  ·simpa [Addr.add,h0] using h
 ·simp only [List.mem_cons,List.not_mem_nil,or_false] at hz
  rcases hz with rfl | rfl <;> assumption
 ·have o:∀z e,zJ S w z (.agg e)→zJ S (w.alloc (.cells (c++d).toArray ty)) z (.agg e):=fun z e h=>zJ.kept h (by simp) fun k _ hlt=>Below.heap_alloc _ _ _ hlt
  match j,hz,he with
  | 0,hz,he =>
   simp only [List.getElem?_cons_zero,Option.some.injEq] at hz he;subst hz he;exact o _ _ hx
  | 1,hz,he =>
   simp only [List.getElem?_cons_succ,List.getElem?_cons_zero,Option.some.injEq] at hz he;subst hz he;exact o _ _ hy
  | j+2,hz,he=>simp at hz
theorem Yu {w:World} {N M j:Nat} {v:Value} (a b c d e:Value) (hne:M≠N) (h:w.cell? ⟨M,j,none⟩=some v):(set5 w N a b c d e).cell? ⟨M,j,none⟩=some v:=by
 exact (World.cell?_of_block (a:=⟨M,j,none⟩) (zi w N a b c d e hne)).trans h
theorem zu.of_set5 {r g o cap N B:Nat} {w w5:World} {us:List Tk} {l:List Ex} {v:Value} (k:Nat) (s:List UInt8) (n:Int) (line:Nat) (hK:zc r w w5) (hN:w.heap.size≤N) (hr:r<w.heap.size) (hg:g<w.heap.size) (hrow:Zw B w5 l v) (hB:N<B) (hrd:zk r g o cap us w5) :
  zu r g w (.ok (.mk k s n l line,us)) (.returned (.agg #[.int .i64 k,.string (za s),.int .i64 n,v,.int .i64 line])) (set5 w5 N (.int .i64 k) (.string (za s)) (.int .i64 n) v (.int .i64 line)):=by
 refine ⟨Zs hK hN _ _ _ _ _,_,o,cap,rfl,?_,hrd.keep (zi _ _ _ _ _ _ _ (by omega)) (zi _ _ _ _ _ _ _ (by omega))⟩
 have h:=hrow.kept (w':=set5 w5 N (.int .i64 k) (.string (za s)) (.int .i64 n) v (.int .i64 line)) (by simp) fun k hB _=>zi _ _ _ _ _ _ _ (by omega)
 exact zO.of_row (h.mono (by omega)) k s n line
theorem zu.of_set5' {r g o cap N B:Nat} {w w5:World} {us:List Tk} {x:Ex} {a b c d e:Value} (hK:zc r w w5) (hN:w.heap.size≤N) (hr:r<w.heap.size) (hg:g<w.heap.size) (hx:zO B w5 x (.agg #[a,b,c,d,e])) (hB:N<B) (hrd:zk r g o cap us w5) :
  zu r g w (.ok (x,us)) (.returned (.agg #[a,b,c,d,e])) (set5 w5 N a b c d e):=by
 refine ⟨Zs hK hN _ _ _ _ _,_,o,cap,rfl,?_,hrd.keep (zi _ _ _ _ _ _ _ (by omega)) (zi _ _ _ _ _ _ _ (by omega))⟩
 exact zO.mono (zO.kept hx (w':=set5 w5 N a b c d e) (by simp) fun k hB _=>zi _ _ _ _ _ _ _ (by omega)) (by omega)
end Go.Proofs.YtmbofhpmockmbaaGreatDoor
