import Derived.Test.YtmbofhpmockmbaaGreatDoorMC12
import Derived.Test.YtmbofhpmockmbaaGreatDoorMC14
import Derived.Maps.AppendAt
namespace Go.Proofs.YtmbofhpmockmbaaGreatDoor
open Go.RowKit Go.Shelf
set_option maxHeartbeats 16000000
set_option maxRecDepth 100000
theorem zX (t:Tk) (ts:List Tk):zu (t::ts)=t:=by unfold zu;rfl
def Z6 (t:Tk) (ts:List Tk) (res:PR (List Ex)):PR (List Ex) :=
 if zk t [40]=true then
  if zk (zu ts) [41]=true then .ok ([],ts.tail) else
  match res with
  | .error a=>.error a
  | .ok (l,us)=>if zk (zu us) [41]=true then .ok (l,us.tail) else .error (zu us).at0
 else .error t.at0
theorem xm (r g o cap:Nat) (f:Value) (t:Tk) (ts:List Tk) (w:World) (res:PR (List Ex)) (h:zj r g o cap (t::ts) w) (hE:zq (t::ts)) (hEnd:∀l us,res=.ok (l,us)→zq us)
  (hrow:zk t [40]=true→zk (zu ts) [41]=false→∀D o1 cap1,zj r g o1 cap1 ts D→zb r w D→Calls Tryz.prog 178 #[.pointer (some ⟨r,0,none⟩),f] D (Y7 r g D res)) :
  Calls Tryz.prog 177 #[.pointer (some ⟨r,0,none⟩),f] w (Y7 r g w (Z6 t ts res)):=by
 have hr:=h.lt.1;have K:=xL r g o cap t ts [40] w h (fun hi=>(hE.tail (zm hi)).ne)
 clear h
 unfold Z6
 by_cases hi:zk t [40]=true
 ·simp only [if_pos hi] at K ⊢
  have N:=hE.tail (zm hi);obtain ⟨t1,H,rfl⟩:=N.cons;simp only [zX,List.tail_cons] at hrow ⊢
  by_cases hj:zk t1 [41]=true
  ·simp only [if_pos hj]
   clear hrow hEnd
   go_enter Tryz.func177,Tryz.ntmps177
   go_wp2_with fail
   refine K.mono ?_;clear K;rintro e D ⟨y,rfl,Y⟩;have O:=ZA r g _ _ t1 H [41] D Y (fun hi=>(N.tail (zm hi)).ne)
   have Q:Hid (zb r w D):=y;rw [hj] at O;clear Y y;go_wp2_with fail
   refine O.mono ?_;clear O;rintro e w2 ⟨rfl,G,Z⟩;have I:Hid (zb r w w2):=Q.out.trans G;have W:zj r g (o+5+5) (cap-1-1) H w2:=by simpa using Z
   have ag:Hid (zj r g (o+5+5) (cap-1-1) H w2):=W;clear Z W G;go_wp2
   refine bodyPost_ret (v:=.slice none 0 0) (by simp [results,Tryz.results177,go_sem]) rfl ⟨I.out,_,_,_,rfl,.inl ⟨rfl,rfl⟩,ag.out⟩
  ·have T:zk t1 [41]=false:=by simpa using hj
   simp only [if_neg hj]
   go_enter Tryz.func177,Tryz.ntmps177
   go_wp2_with fail
   refine K.mono ?_;clear K;rintro e D ⟨y,rfl,Y⟩;have O:=ZA r g _ _ t1 H [41] D Y (fun hi=>(N.tail (zm hi)).ne)
   have Q:Hid (zb r w D):=y;rw [T] at O;clear Y y;go_wp2_with fail
   refine O.mono ?_;clear O;rintro e w2 ⟨rfl,G,Z⟩;have M:zb r w w2:=Q.out.trans G;have I:Hid (zb r w w2):=M;have cr:=hrow hi T w2 _ _ (by simpa using Z) M
   clear Z G M hrow;go_wp2_with fail
   refine cr.mono ?_;clear cr;rintro e w3 ⟨V,E⟩;have L:Hid (zb r w w3):=I.out.trans V;rcases res with a | ⟨l,us⟩
   ·obtain rfl:=E
    exact ⟨rfl,L.out,rfl⟩
   ·obtain ⟨v,o3,J,rfl,ad,U⟩:=E
    have X:=hEnd l us rfl;obtain ⟨t3,aa,rfl⟩:=X.cons;have A:=xL r g o3 J t3 aa [41] w3 U (fun hi=>(X.tail (zm hi)).ne)
    have ah:w.heap.size≤w2.heap.size:=I.out.size;have aj:r<w2.heap.size:=by omega
    have ab:Hid (Zr w2.heap.size w3 l v):=ad;clear U ad V hEnd
    by_cases hm:zk t3 [41]=true
    ·simp only [if_pos hm] at A
     go_wp2_with fail
     refine A.mono ?_;clear A;rintro e w4 ⟨z,rfl,h4⟩;have ai:Hid (zb r w w4):=L.out.trans z;have R:Hid (Zr w2.heap.size w4 l v):=ab.out.kept z.size fun k hB hlt=>z.block k hlt (by omega)
     have af:Hid (zj r g (o3+5) (J-1) aa w4):=h4;clear z h4;go_wp2
     refine bodyPost_ret (v:=v) (by simp [results,Tryz.results177,go_sem]) rfl ⟨ai.out,_,_,_,rfl,R.out.mono ah,af.out⟩
    ·simp only [if_neg hm] at A
     have ae:zk t3 [41]=false:=by simpa using hm
     go_wp2_with fail
     refine A.mono ?_;clear A;rintro e w4 ⟨z,rfl⟩;refine ⟨rfl,L.out.trans z,?_⟩;simp only [zX,ae,Bool.false_eq_true,if_false]
 ·simp only [if_neg hi] at K ⊢
  clear hrow hEnd
  go_enter Tryz.func177,Tryz.ntmps177
  go_wp2_with fail
  refine K.mono ?_;clear K;rintro e D ⟨y,rfl⟩;exact ⟨rfl,y,rfl⟩
structure Z0 {α:Type} (E:(Nat→Prop)→World→α→List Value→Prop):Prop where
 kept:∀{S:Nat→Prop} {w w':World} {x:α} {c:List Value},E S w x c→w.heap.size≤w'.heap.size→(∀k,S k→k<w.heap.size→w'.heap[k]?=w.heap[k]?)→E S w' x c
 wide:∀{S S':Nat→Prop} {w:World} {x:α} {c:List Value},E S w x c→(∀k,S k→S' k)→E S' w x c
 low:∀{S:Nat→Prop} {w:World} {x:α} {c:List Value},E S w x c→E (fun k=>S k∧k<w.heap.size) w x c
structure ZF {α:Type} (E:(Nat→Prop)→World→α→List Value→Prop) (sz ty B:Nat) (w:World) (l:List α) (v:Value) (g cap:Nat) (us:List (List Value)):Prop where
 val:v=.slice (some ⟨g,0,none⟩) l.length cap
 ne:l≠[]
 own:w.ownsRow B ty sz v l.length us.flatten
 len:us.length=l.length
 wid:∀c∈us,c.length=sz
 kids:∀(j:Nat) (x:α) (c:List Value),l[j]?=some x→us[j]?=some c→E (fun k=>B≤k∧k≠g) w x c
theorem ZF.block {α:Type} {E:(Nat→Prop)→World→α→List Value→Prop} {sz ty B:Nat} {w:World} {l:List α} {v:Value} {g cap:Nat} {us:List (List Value)} (h:ZF E sz ty B w l v g cap us):B≤g∧g<w.heap.size∧l.length≤cap∧cap≤maxLen:=by
 have y:=h.own.lt g (by rw [h.val];rfl)
 refine ⟨y.1,y.2,?_⟩;rcases h.own.2 with ⟨e,_⟩ | ⟨G,o,D,e,_,_,A,z,_⟩
 ·rw [h.val] at e;cases e
 ·rw [h.val] at e
  cases e
  exact ⟨A,z⟩
theorem ZF.kept {α:Type} {E:(Nat→Prop)→World→α→List Value→Prop} (L:Z0 E) {sz ty B:Nat} {w w':World} {l:List α} {v:Value} {g cap:Nat} {us:List (List Value)} (h:ZF E sz ty B w l v g cap us)
  (hs:w.heap.size≤w'.heap.size) (hb:∀k,B≤k→k<w.heap.size→w'.heap[k]?=w.heap[k]?):ZF E sz ty B w' l v g cap us where
 val:=h.val
 ne:=h.ne
 own:=by
  refine ⟨h.own.1,?_⟩;rcases h.own.2 with o | ⟨D,e,y,o,A,z,G⟩
  ·exact .inl o
  ·exact .inr ⟨D,e,y,o,A,(hb D A (Array.getElem?_eq_some_iff.1 z).1).trans z,G⟩
 len:=h.len
 wid:=h.wid
 kids:=fun j x c hx hc=>L.kept (h.kids j x c hx hc) hs fun k hk hlt=>hb k hk.1 hlt
theorem ZF.first {α:Type} {E:(Nat→Prop)→World→α→List Value→Prop} (L:Z0 E) {sz ty B:Nat} {w:World} {x:α} {c:List Value} (hx:E (fun k=>B≤k) w x c) (hc:c.length=sz) (hB:B≤w.heap.size) :
  ZF E sz ty B (w.alloc (.cells c.toArray ty)) [x] (.slice (some ⟨w.heap.size,0,none⟩) 1 1) w.heap.size 1 [c] where
 val:=rfl
 ne:=by simp
 own:=by
  refine ⟨by simp [hc],.inr ⟨w.heap.size,1,c.toArray,rfl,hB,World.alloc_heap_new _ _,Nat.le_refl _,by simp [maxLen],by simp [hc],?_⟩⟩
  simp [hc,List.take_of_length_le]
 len:=rfl
 wid:=by simp [hc]
 kids:=fun j y d hy hd=>by
  cases j with
  | succ j=>simp at hy
  | zero =>
   simp only [List.getElem?_cons_zero,Option.some.injEq] at hy hd;subst hy hd;exact L.wide (L.kept (L.low hx) (by simp) fun k hk _=>Below.heap_alloc _ _ _ hk.2) fun k hk=>⟨hk.1,by omega⟩
theorem ZF.snoc {α:Type} {E:(Nat→Prop)→World→α→List Value→Prop} (L:Z0 E) {sz ty B:Nat} {w w':World} {l:List α} {v v':Value} {g cap:Nat} {us:List (List Value)} (h:ZF E sz ty B w l v g cap us) {x:α} {c:List Value} {ob:Obj}
  (hx:E (fun k=>B≤k∧k≠g) w x c) (hc:c.length=sz) (ho:w'.ownsRow B ty sz v' (l.length+1) (us.flatten++c)) (hg:(w.alloc ob).grownBy w' v.ownBlock) (ha:v'.ownBlock=v.ownBlock∨v'.ownBlock=some (w.alloc ob).heap.size) :
  ∃e cap',ZF E sz ty B w' (l++[x]) v' e cap' (us++[c])∧(e=g∨w.heap.size≤e):=by
 have N:=h.block;have D:v.ownBlock=some g:=by rw [h.val];rfl
 rw [D] at hg ha
 obtain ⟨e,cap',A⟩:∃e cap',v'=.slice (some ⟨e,0,none⟩) (l.length+1) cap':=by
  rcases ho.2 with ⟨_,H⟩ | ⟨e,cap',_,K,_⟩
  ·omega
  ·exact ⟨e,cap',K⟩
 have J:e=g∨e=(w.alloc ob).heap.size:=by
  rw [A] at ha
  simpa [Value.ownBlock] using ha
 have I:(w.alloc ob).heap.size=w.heap.size+1:=by simp
 have M:w.heap.size≤w'.heap.size:=by have:=hg.size;omega
 have z:∀k,k≠g→k<w.heap.size→w'.heap[k]?=w.heap[k]?:=fun k hk hlt=>(hg.block k (by omega) (by simpa using hk)).trans (Below.heap_alloc _ _ _ hlt)
 have o:∀y d,E (fun k=>B≤k∧k≠g) w y d→E (fun k=>B≤k∧k≠e) w' y d:=fun y d hy =>
  L.wide (L.kept (L.low hy) M fun k hk _=>z k hk.1.2 hk.2) fun k hk=>⟨hk.1.1,by omega⟩
 refine ⟨e,cap',⟨by rw [A,List.length_append];rfl,by simp,?_,by simp [h.len],?_,fun j y d hy hd=>?_⟩,by omega⟩
 ·rw [List.length_append,List.flatten_append]
  simpa using ho
 ·intro d hd
  rcases List.mem_append.1 hd with hd | hd
  ·exact h.wid d hd
  ·simp only [List.mem_singleton] at hd;rw [hd];exact hc
 ·rw [List.getElem?_append] at hy hd
  rw [h.len] at hd
  split at hy
  ·rename_i G
   rw [if_pos G] at hd;exact o y d (h.kids j y d hy hd)
  ·rename_i G
   rw [if_neg G] at hd
   have:j-l.length=0:=by
    rcases Nat.eq_zero_or_pos (j-l.length) with H | H
    ·exact H
    ·rw [List.getElem?_eq_none (by simp;omega)] at hy;cases hy
   rw [this] at hy hd;simp only [List.getElem?_cons_zero,Option.some.injEq] at hy hd;subst hy hd;exact o _ _ hx
def uc (S:Nat→Prop) (w:World) (x:Ex) (c:List Value):Prop:=zH S w x (.agg c.toArray)
theorem yH:Z0 uc:=⟨fun h hs hb=>zH.kept h hs hb,fun h hS=>zH.wide h hS,fun h=>zH.low h⟩
theorem ZF.row {ty B:Nat} {w:World} {l:List Ex} {v:Value} {g cap:Nat} {us:List (List Value)} (h:ZF uc 5 ty B w l v g cap us):Zr B w l v:=by
 have o:=h.block;refine .inr ⟨g,cap,us,h.val,h.ne,h.len,o.1,o.2.1,o.2.2.1,o.2.2.2,fun j u hj=>?_,h.wid,fun j x c e hc=>zH.wide (h.kids j x c e hc) fun k hk=>hk.1⟩
 have e:=h.own.cells (g:=g) (by rw [h.val];rfl) j u hj
 by_cases h0:j=0
 ·subst h0;simpa [Addr.add] using e
 ·simpa [Addr.add,h0] using e
theorem yc {f least:Nat} {ts us:List Tk} {x:Ex} (h:zg f least ts=some (.ok (x,us))):us.length≤ts.length-1:=by
 obtain ⟨z,y,e,o⟩:=(YP ts.length ts (Nat.le_refl _)).1 least;exact o x us (Yc (e 0) h)
def Xn (f:Nat) (l:List Ex) (ts:List Tk):Option (PR (List Ex)):=if zk (zu ts) [44]=true then ZO f l ts.tail else some (.ok (l,ts))
def ZI (r:Nat) (w:World):Nat:=match w.cell? ⟨r,0,none⟩ with | some (.slice _ n _)=>n | _=>0
theorem zj.left {r g o cap:Nat} {ts:List Tk} {w:World} (h:zj r g o cap ts w):ZI r w=ts.length:=by unfold ZI;rw [h.cell]
theorem zb.grown {r:Nat} {w w1 w2:World} {row:Option Nat} (h:zb r w w1) (hg:w1.grownBy w2 row) (hrow:∀k,row=some k→w.heap.size≤k):zb r w w2 :=
 ⟨hg.os.trans h.os,hg.tape.trans h.tape,hg.output.trans h.output,Nat.le_trans h.size hg.size,fun k hk hr=>(hg.block k (Nat.lt_of_lt_of_le hk h.size) fun e=>by have:=hrow k e.symm;omega).trans (h.block k hk hr)⟩
theorem vZ:(Tryz.prog.info? 90).map (fun i=>(i.zero,i.size,i.bytes))=some (some (.agg #[.int .i64 0,.string ⟨#[]⟩,.int .i64 0,.slice none 0 0,.int .i64 0]),5,64):=by kernel_rfl
theorem zaS (r g o cap F:Nat) (ts:List Tk) (w:World) (res:PR (List Ex)) (h:zj r g o cap ts w) (hE:zq ts) (hN:ts.length≤1099511627776) (hp:ZO (F+1) [] ts=some res)
  (hone:∀G o1 z y r1,zg F 1 y=some r1→zq y→y.length≤1099511627776→zj r g o1 z y G→zb r w G→Calls Tryz.prog 74 #[.pointer (some ⟨r,0,none⟩)] G (zr r g G r1)) :
  Calls Tryz.prog 178 #[.pointer (some ⟨r,0,none⟩),.func (.func 74) #[.pointer (some ⟨r,0,none⟩)] #[]] w (Y7 r g w res):=by
 obtain ⟨i0,aM,aH,aK,aP⟩:=info_parts vZ;obtain ⟨t0,ay,rfl⟩:=hE.cons;have hr:=h.lt.1;have aW:=h.lt.2;rw [ZO] at hp;cases hb:zg F 1 (t0::ay) with
 | none=>rw [hb] at hp;cases hp
 | some r1 =>
  have c1:=hone w o cap (t0::ay) r1 hb hE hN h (zb.refl r w);rw [hb] at hp;simp only [zo] at hp
  go_enter Tryz.func178,Tryz.ntmps178
  go_wp2_with fail
  refine c1.mono ?_;clear c1;rintro e G ⟨af,A⟩;rcases r1 with a | ⟨x,us⟩
  ·obtain rfl:=A
   simp only [Option.some.injEq] at hp;subst hp;exact ⟨rfl,af,rfl⟩
  ·obtain ⟨v,o1,z,rfl,hx,V⟩:=A
   obtain ⟨a,b,c,d0,d1,d2,l,rfl⟩:=hx.agg;have aj:=(Zw F).1 _ _ _ _ hb hE;have ax:=yc hb;have HP:Hid (Xn F [x] us=some res):=hp;obtain ⟨t1,y,rfl⟩:=aj.cons
   have aC:Hid (ZF uc 5 90 w.heap.size (G.alloc (.cells #[.int .i64 a,.string b,.int .i64 c,.slice d0 d1 d2,.int .i64 l] 90)) [x] (.slice (some ⟨G.heap.size,0,none⟩) 1 1) G.heap.size 1 [[.int .i64 a,.string b,.int .i64 c,.slice d0 d1 d2,.int .i64 l]]) :=
    ZF.first yH (c:=[.int .i64 a,.string b,.int .i64 c,.slice d0 d1 d2,.int .i64 l]) (show zH _ _ _ _ from hx) rfl af.size
   have az:Hid (zj r g o1 z (t1::y) (G.alloc (.cells #[.int .i64 a,.string b,.int .i64 c,.slice d0 d1 d2,.int .i64 l] 90))):=V.alloc _;have aB:Hid (zb r w (G.alloc (.cells #[.int .i64 a,.string b,.int .i64 c,.slice d0 d1 d2,.int .i64 l] 90))):=af.alloc _;have aE:Hid (zq (t1::y)):=aj;have hn:y.length+2≤1099511627776:=by simp only [List.length_cons] at ax hN;omega
   have aw:Hid (∀G o1 z y r1,zg F 1 y=some r1→zq y→y.length≤1099511627776→zj r g o1 z y G→zb r w G→Calls Tryz.prog 74 #[.pointer (some ⟨r,0,none⟩)] G (zr r g G r1)):=hone;clear hx V af aj hone hp hb hE hN h ax;go_wp2_with fail
   go_loopw [5] (fun v wr=>∃(L:List Ex) (Z z:Nat) (us:List (List Value)) (o2 K:Nat) (Y:List Tk) (f2:Nat),f2≤F∧Xn f2 L Y=some res∧zq Y∧L.length+Y.length≤1099511627776∧ZF uc 5 90 w.heap.size wr L v Z z us∧zj r g o2 K Y wr∧zb r w wr) (fun _ wr=>ZI r wr)
   case atStart=>exact ⟨[x],_,_,_,o1,z,t1::y,F,Nat.le_refl _,HP.out,aE.out,by simp only [List.length_cons,List.length_nil];omega,aC.out,az.out,aB.out⟩
   case round =>
    obtain ⟨L,Z,U,us,o2,K,Y,f2,aS,E,W,ae,M,N,am⟩:=hrel;clear HP aC az aB aE hn;obtain ⟨t2,T,rfl⟩:=W.cons;have cs:=ZA r g o2 K t2 T [44] wr N (fun hi=>(W.tail (zm hi)).ne)
    have al:=N.left;have Q:Hid (ZF uc 5 90 w.heap.size wr L _ Z U us):=M;have ak:Hid (zb r w wr):=am;have av:=M.val;subst av
    unfold Xn at E
    simp only [zX,List.tail_cons] at E
    by_cases hi:zk t2 [44]=true
    ·rw [hi] at cs
     rw [if_pos hi] at E;have ar:=W.tail (zm hi);clear M am N W;go_wp2_with fail
     refine cs.mono ?_;clear cs;rintro e w3 ⟨rfl,D,h3⟩;simp only [if_true] at h3;have ai:zb r w w3:=ak.out.trans D;have I:=Q.out.kept yH D.size fun k hB hlt=>D.block k hlt (by omega)
     cases f2 with
     | zero=>simp [ZO] at E
     | succ f3 =>
      rw [ZO] at E;cases hb3:zg f3 1 T with
      | none=>rw [hb3] at E;cases E
      | some r3 =>
       rw [hb3] at E;simp only [zo] at E
       have aq:zg F 1 T=some r3:=by
        have:=yv (k:=F-f3) hb3
        rwa [show f3+(F-f3)=F by omega] at this
       have c3:=aw.out w3 _ _ T r3 aq ar (by simp only [List.length_cons] at ae;omega) h3 ai
       have aU:=I.block;have J:Hid (ZF uc 5 90 w.heap.size w3 L _ Z U us):=I;have ad:Hid (zb r w w3):=ai;clear I ai D h3 Q ak;go_wp2_with fail
       refine c3.mono ?_;clear c3;rintro e w4 ⟨ab,A⟩;have ag:Hid (zb r w w4):=ad.out.trans ab;rcases r3 with a | ⟨x3,aa⟩
       ·obtain rfl:=A
        simp only [Option.some.injEq] at E;subst E;exact ⟨rfl,ag.out,rfl⟩
       ·obtain ⟨v,o4,O,rfl,hx,V⟩:=A
        obtain ⟨a4,b4,c4,p4,q4,s4,l4,rfl⟩:=hx.agg;have H:=J.out.kept yH ab.size fun k hB hlt=>ab.block k hlt (by omega)
        have aA:uc (fun k=>w.heap.size≤k∧k≠Z) w4 x3 [.int .i64 a4,.string b4,.int .i64 c4,.slice p4 q4 s4,.int .i64 l4]:=zH.wide hx fun k hk=>⟨Nat.le_trans ad.out.size hk,by omega⟩
        have aI:Hid (uc (fun k=>w.heap.size≤k∧k≠Z) w4 x3 [.int .i64 a4,.string b4,.int .i64 c4,.slice p4 q4 s4,.int .i64 l4]):=aA
        have ao:Hid (ZF uc 5 90 w.heap.size w4 L _ Z U us):=H;have aG:Hid (zj r g o4 O aa w4):=V;have aO:=(Zw F).1 _ _ _ _ aq ar;have aV:=yc aq;have aD:=(H.own.alloc (.cells #[.int .i64 a4,.string b4,.int .i64 c4,.slice p4 q4 s4,.int .i64 l4] 90));have HT:Hid (Xn f3 (L++[x3]) aa=some res):=E;have aQ:w.heap.size≤w4.heap.size:=ag.out.size;clear H aA hx V E ab
        go_wp2_with (at_builtin;refine wpList_append_own_at _ rfl _ _ 88 rfl w.heap.size 90 i0 _ 5 64 Tryz.underlying88 aM aH aK aP rfl (by decide) _ _ _ rfl aD ⟨w4.heap.size,0,none⟩ 1 1 [.int .i64 a4,.string b4,.int .i64 c4,.slice p4 q4 s4,.int .i64 l4] rfl rfl (ZS _ _ _) (by simp [Value.oneCell']) (by unfold maxLen;simp only [List.length_cons] at ae;omega) (by simp only [List.length_cons] at ae;omega) (by simp;omega) ?_;intro v' w5 ap R _ aF)
        obtain ⟨g5,au,an,aT⟩:=ao.out.snoc yH aI.out rfl ap R aF
        have X:(w4.alloc (.cells #[.int .i64 a4,.string b4,.int .i64 c4,.slice p4 q4 s4,.int .i64 l4] 90)).grownBy w5 (some Z):=R;have aJ:zb r w w5:=(ag.out.alloc _).grown X fun k hk=>by have:=Option.some.inj hk;omega
        have aR:w.heap.size≤w4.heap.size:=ag.out.size;have ah:zj r g o4 O aa w5:=aG.out.keep ((X.block r (by simp;omega) (fun e=>by have:=Option.some.inj e;omega)).trans (Below.heap_alloc _ _ _ (by omega))) ((X.block g (by simp;omega) (fun e=>by have:=Option.some.inj e;omega)).trans (Below.heap_alloc _ _ _ (by omega)))
        refine ⟨⟨L++[x3],g5,au,_,o4,O,aa,f3,by omega,HT.out,aO,?_,an,ah,aJ⟩,?_⟩
        ·simp only [List.length_append,List.length_cons,List.length_nil] at ae ⊢;omega
        ·rw [ah.left,al];simp only [List.length_cons];omega
    ·have aL:zk t2 [44]=false:=by simpa using hi
     rw [aL] at cs;rw [if_neg hi] at E;clear M am N W;go_wp2_with fail
     refine cs.mono ?_;clear cs;rintro e w3 ⟨rfl,D,h3⟩;have ad:Hid (zb r w w3):=ak.out.trans D;have J:Hid (Zr w.heap.size w3 L (.slice (some ⟨Z,0,none⟩) L.length U)):=(Q.out.kept yH D.size fun k hB hlt=>D.block k hlt (by omega)).row
     have aN:Hid (zj r g o2 K (t2::T) w3):=show zj _ _ _ _ _ _ by simpa using h3
     simp only [Option.some.injEq] at E;subst E;clear D h3;go_wp2
     refine bodyPost_ret (v:=.slice (some ⟨Z,0,none⟩) L.length U) (by simp [results,Tryz.results178,go_sem]) rfl ⟨ad.out,_,_,_,rfl,J.out,aN.out⟩
theorem zI.one {S:Nat→Prop} {w:World} {x:Ex} {c:List Value} (ty:Nat) (hx:zH S w x (.agg c.toArray)) (hc:c.length=5) (hB:S w.heap.size):zI S (w.alloc (.cells c.toArray ty)) [x] (.slice (some ⟨w.heap.size,0,none⟩) 1 1):=by
 refine .inr ⟨w.heap.size,1,[c],rfl,by simp,rfl,hB,by simp,Nat.le_refl _,by simp [maxLen],fun j u hj=>?_,fun z hz=>?_,fun j z e hz he=>?_⟩
 ·have h:=ZS w c ty j u (by simpa using hj)
  by_cases h0:j=0
  ·subst h0;simpa [Addr.add] using h
  ·simpa [Addr.add,h0] using h
 ·simp only [List.mem_cons,List.not_mem_nil,or_false] at hz
  subst hz;exact hc
 ·match j,hz,he with
  | 0,hz,he =>
   simp only [List.getElem?_cons_zero,Option.some.injEq] at hz he
   subst hz he;exact zH.kept hx (by simp) fun k _ hlt=>Below.heap_alloc _ _ _ hlt
  | j+1,hz,he=>simp at hz
theorem zI.two {S:Nat→Prop} {w:World} {x y:Ex} {c d:List Value} (ty:Nat) (hx:zH S w x (.agg c.toArray)) (hy:zH S w y (.agg d.toArray)) (hc:c.length=5) (hd:d.length=5) (hB:S w.heap.size) :
  zI S (w.alloc (.cells (c++d).toArray ty)) [x,y] (.slice (some ⟨w.heap.size,0,none⟩) 2 2):=by
 refine .inr ⟨w.heap.size,2,[c,d],rfl,by simp,rfl,hB,by simp,Nat.le_refl _,by simp [maxLen],fun j u hj=>?_,fun z hz=>?_,fun j z e hz he=>?_⟩
 ·have h:=ZS w (c++d) ty j u (by simpa using hj)
  by_cases h0:j=0
  ·subst h0;simpa [Addr.add] using h
  ·simpa [Addr.add,h0] using h
 ·simp only [List.mem_cons,List.not_mem_nil,or_false] at hz
  rcases hz with rfl | rfl <;> assumption
 ·have o:∀z e,zH S w z (.agg e)→zH S (w.alloc (.cells (c++d).toArray ty)) z (.agg e):=fun z e h=>zH.kept h (by simp) fun k _ hlt=>Below.heap_alloc _ _ _ hlt
  match j,hz,he with
  | 0,hz,he =>
   simp only [List.getElem?_cons_zero,Option.some.injEq] at hz he;subst hz he;exact o _ _ hx
  | 1,hz,he =>
   simp only [List.getElem?_cons_succ,List.getElem?_cons_zero,Option.some.injEq] at hz he;subst hz he;exact o _ _ hy
  | j+2,hz,he=>simp at hz
theorem Yn {w:World} {N M j:Nat} {v:Value} (a b c d e:Value) (hne:M≠N) (h:w.cell? ⟨M,j,none⟩=some v):(set5 w N a b c d e).cell? ⟨M,j,none⟩=some v:=by
 exact (World.cell?_of_block (a:=⟨M,j,none⟩) (zh w N a b c d e hne)).trans h
theorem zr.of_set5 {r g o cap N B:Nat} {w w5:World} {us:List Tk} {l:List Ex} {v:Value} (k:Nat) (s:List UInt8) (n:Int) (line:Nat) (hK:zb r w w5) (hN:w.heap.size≤N) (hr:r<w.heap.size) (hg:g<w.heap.size) (hrow:Zr B w5 l v) (hB:N<B) (hrd:zj r g o cap us w5) :
  zr r g w (.ok (.mk k s n l line,us)) (.returned (.agg #[.int .i64 k,.string (za s),.int .i64 n,v,.int .i64 line])) (set5 w5 N (.int .i64 k) (.string (za s)) (.int .i64 n) v (.int .i64 line)):=by
 refine ⟨Zo hK hN _ _ _ _ _,_,o,cap,rfl,?_,hrd.keep (zh _ _ _ _ _ _ _ (by omega)) (zh _ _ _ _ _ _ _ (by omega))⟩
 have h:=hrow.kept (w':=set5 w5 N (.int .i64 k) (.string (za s)) (.int .i64 n) v (.int .i64 line)) (by simp) fun k hB _=>zh _ _ _ _ _ _ _ (by omega)
 exact zM.of_row (h.mono (by omega)) k s n line
theorem zr.of_set5' {r g o cap N B:Nat} {w w5:World} {us:List Tk} {x:Ex} {a b c d e:Value} (hK:zb r w w5) (hN:w.heap.size≤N) (hr:r<w.heap.size) (hg:g<w.heap.size) (hx:zM B w5 x (.agg #[a,b,c,d,e])) (hB:N<B) (hrd:zj r g o cap us w5) :
  zr r g w (.ok (x,us)) (.returned (.agg #[a,b,c,d,e])) (set5 w5 N a b c d e):=by
 refine ⟨Zo hK hN _ _ _ _ _,_,o,cap,rfl,?_,hrd.keep (zh _ _ _ _ _ _ _ (by omega)) (zh _ _ _ _ _ _ _ (by omega))⟩
 exact zM.mono (zM.kept hx (w':=set5 w5 N a b c d e) (by simp) fun k hB _=>zh _ _ _ _ _ _ _ (by omega)) (by omega)
end Go.Proofs.YtmbofhpmockmbaaGreatDoor
