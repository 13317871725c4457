import Derived.Test.YtcphojjpapgblaaGreatDoorMC13
import Derived.Maps.AppendAt
import Derived.Deep.RegionHeld3
import Derived.RegionDies
namespace Go.Proofs.YtcphojjpapgblaaGreatDoor
open Go.RowKit Go.Shelf
set_option maxHeartbeats 16000000
set_option maxRecDepth 100000
theorem zC (t:Tk) (ts:List Tk):zu (t::ts)=t:=by unfold zu;rfl
def Yn (t:Tk) (ts:List Tk) (res:PR (List Ex)):PR (List Ex) :=
 if zm t [40]=true then
  if zm (zu ts) [41]=true then .ok ([],ts.tail) else
  match res with
  | .error a=>.error a
  | .ok (l,us)=>if zm (zu us) [41]=true then .ok (l,us.tail) else .error (zu us).at0
 else .error t.at0
theorem Vf (r g o cap:Nat) (f:Value) (t:Tk) (ts:List Tk) (w:World) (res:PR (List Ex)) (h:zf r g o cap (t::ts) w) (hE:zi (t::ts)) (hEnd:∀l us,res=.ok (l,us)→zi us)
  (hrow:zm t [40]=true→zm (zu ts) [41]=false→∀H o1 cap1,zf r g o1 cap1 ts H→zc r w H→Calls Tryz.prog 194 #[.pointer (some ⟨r,0,none⟩),f] H (vP r g H res)) :
  Calls Tryz.prog 193 #[.pointer (some ⟨r,0,none⟩),f] w (vP r g w (Yn t ts res)):=by
 have hr:=h.lt.1;have L:=yI r g o cap t ts [40] w h (fun hi=>(hE.tail (zk hi)).ne)
 clear h
 unfold Yn
 by_cases hi:zm t [40]=true
 ·simp only [if_pos hi] at L ⊢
  have U:=hE.tail (zk hi);obtain ⟨t1,I,rfl⟩:=U.cons;simp only [zC,List.tail_cons] at hrow ⊢
  by_cases hj:zm t1 [41]=true
  ·simp only [if_pos hj]
   clear hrow hEnd
   go_enter Tryz.func193,Tryz.ntmps193
   go_wp2_with fail
   refine L.mono ?_;clear L;rintro e H ⟨y,rfl,h1⟩;have T:=Zy r g _ _ t1 I [41] H h1 (fun hi=>(U.tail (zk hi)).ne)
   have Q:Hid (zc r w H):=y;rw [hj] at T;clear h1 y;go_wp2_with fail
   refine T.mono ?_;clear T;rintro e w2 ⟨rfl,D,Y⟩;have J:Hid (zc r w w2):=Q.out.trans D;have aa:zf r g (o+5+5) (cap-1-1) I w2:=by simpa using Y
   have ah:Hid (zf r g (o+5+5) (cap-1-1) I w2):=aa;clear Y aa D;go_wp2
   refine bodyPost_ret (v:=.slice none 0 0) (by simp [results,Tryz.results193,go_sem]) rfl ⟨J.out,_,_,_,rfl,.inl ⟨rfl,rfl⟩,ah.out⟩
  ·have Z:zm t1 [41]=false:=by simpa using hj
   simp only [if_neg hj]
   go_enter Tryz.func193,Tryz.ntmps193
   go_wp2_with fail
   refine L.mono ?_;clear L;rintro e H ⟨y,rfl,h1⟩;have T:=Zy r g _ _ t1 I [41] H h1 (fun hi=>(U.tail (zk hi)).ne)
   have Q:Hid (zc r w H):=y;rw [Z] at T;clear h1 y;go_wp2_with fail
   refine T.mono ?_;clear T;rintro e w2 ⟨rfl,D,Y⟩;have R:zc r w w2:=Q.out.trans D;have J:Hid (zc r w w2):=R;have cr:=hrow hi Z w2 _ _ (by simpa using Y) R
   clear Y D R hrow;go_wp2_with fail
   refine cr.mono ?_;clear cr;rintro e w3 ⟨X,G⟩;have O:Hid (zc r w w3):=J.out.trans X;rcases res with a | ⟨l,us⟩
   ·obtain rfl:=G
    exact ⟨rfl,O.out,rfl⟩
   ·obtain ⟨v,o3,N,rfl,ab,af⟩:=G
    have W:=hEnd l us rfl;obtain ⟨t3,ae,rfl⟩:=W.cons;have A:=yI r g o3 N t3 ae [41] w3 af (fun hi=>(W.tail (zk hi)).ne)
    have ak:w.heap.size≤w2.heap.size:=J.out.size;have al:r<w2.heap.size:=by omega
    have ad:Hid (yV w2.heap.size w3 l v):=ab;clear af ab X hEnd
    by_cases hm:zm t3 [41]=true
    ·simp only [if_pos hm] at A
     go_wp2_with fail
     refine A.mono ?_;clear A;rintro e w4 ⟨z,rfl,h4⟩;have ag:Hid (zc r w w4):=O.out.trans z;have V:Hid (yV w2.heap.size w4 l v):=ad.out.kept z.size fun k hB hlt=>z.block k hlt (by omega)
     have ai:Hid (zf r g (o3+5) (N-1) ae w4):=h4;clear z h4;go_wp2
     refine bodyPost_ret (v:=v) (by simp [results,Tryz.results193,go_sem]) rfl ⟨ag.out,_,_,_,rfl,V.out.mono ak,ai.out⟩
    ·simp only [if_neg hm] at A
     have aj:zm t3 [41]=false:=by simpa using hm
     go_wp2_with fail
     refine A.mono ?_;clear A;rintro e w4 ⟨z,rfl⟩;refine ⟨rfl,O.out.trans z,?_⟩;simp only [zC,aj,Bool.false_eq_true,if_false]
 ·simp only [if_neg hi] at L ⊢
  clear hrow hEnd
  go_enter Tryz.func193,Tryz.ntmps193
  go_wp2_with fail
  refine L.mono ?_;clear L;rintro e H ⟨y,rfl⟩;exact ⟨rfl,y,rfl⟩
def Yc {α:Type} (p:Nat→Option (PR α)) (n:Nat):Prop:=∃f r,(∀k,p (f+k)=some r)∧∀x us,r=.ok (x,us)→us.length≤n
theorem YF {ts:List Tk} (h:(zu ts).k≠0):ts.tail.length+1=ts.length:=by
 cases ts with
 | nil=>exact absurd rfl h
 | cons t us=>simp
theorem Zc {ts:List Tk} {s:List UInt8} (h:zm (zu ts) s=true):ts.tail.length+1=ts.length:=YF (zk h)
theorem Yc.then {α β:Type} {p:Nat→Option (PR α)} {q:Nat→α→List Tk→Option (PR β)} {n m:Nat} (h:Yc p n) (hq:∀x us,us.length≤n→Yc (fun f=>q f x us) m):Yc (fun f=>zh (p f) (q f)) m:=by
 obtain ⟨f,r,A,D⟩:=h;cases r with
 | error a=>exact ⟨f,.error a,fun k=>by simp [zh,A k],fun x us h=>by cases h⟩
 | ok y =>
  obtain ⟨g,s,G,H⟩:=hq y.1 y.2 (D _ _ rfl);refine ⟨f+g,s,fun k=>?_,H⟩
  have z:=A (g+k);have o:=G (f+k);rw [show f+(g+k)=f+g+k by omega] at z
  rw [show g+(f+k)=f+g+k by omega] at o
  simp only [zh,z];exact o
theorem ZB {α:Type} (x:α) (us:List Tk) {n:Nat} (h:us.length≤n):Yc (fun _=>(some (.ok (x,us)):Option (PR α))) n:=⟨0,.ok (x,us),fun _=>rfl,fun y vs h'=>by cases h';exact h⟩
theorem YJ (s:List UInt8) (ts:List Tk) {n:Nat} (h:ts.length≤n+1):Yc (fun _=>zR s ts) n:=by
 refine ⟨0,_,fun _=>rfl,fun x us h'=>?_⟩
 split at h'
 ·rename_i o;have:=Zc o;cases h';omega
 ·cases h'
theorem V8 (ts:List Tk) {n:Nat} (h:ts.length≤n+1):Yc (fun _=>Z6 ts) n:=by
 refine ⟨0,_,fun _=>rfl,fun x us h'=>?_⟩
 split at h'
 ·rename_i o;have:=YF (ts:=ts) (by omega);cases h';omega
 ·cases h'
theorem Yc.step {α:Type} {p q:Nat→Option (PR α)} {n:Nat} (h:Yc q n) (hp:∀f,p (f+1)=q f):Yc p n:=by
 obtain ⟨f,r,o,y⟩:=h;exact ⟨f+1,r,fun k=>by rw [show f+1+k=f+k+1 by omega,hp];exact o k,y⟩
theorem Yc.le {α:Type} {p:Nat→Option (PR α)} {n m:Nat} (h:Yc p n) (hm:n≤m):Yc p m:=by
 obtain ⟨f,r,o,y⟩:=h;exact ⟨f,r,o,fun x us h=>Nat.le_trans (y x us h) hm⟩
theorem UC {α:Type} (a:Nat) (n:Nat):Yc (fun _=>(some (.error a):Option (PR α))) n:=⟨0,.error a,fun _=>rfl,fun _ _ h=>by cases h⟩
theorem XU (n:Nat):∀ts:List Tk,ts.length≤n→(∀o,Yc (fun f=>zg f o ts) (n-1))∧(∀pre,Yc (fun f=>Z1 f pre ts) (n-1))∧(∀o e,Yc (fun f=>Zs f o e ts) n)∧(∀e,Yc (fun f=>zx f e ts) n)∧Yc (fun f=>zG f ts) (n-1)∧Yc (fun f=>Zm f ts) (n-1):=by
 induction n with
 | zero =>
  intro ts D;obtain rfl:ts=[]:=List.length_eq_zero_iff.1 (by omega)
  have H:Yc (fun f=>zH f []) 0:=(UC 0 0).step fun f=>by simp [zH,zu,zm,zh,zR]
  have Q:∀e,Yc (fun f=>zx f e []) 0:=fun e=>(ZB e [] (n:=0) (by simp)).step fun f=>by simp [zx,zu,zm]
  have G:∀o e,Yc (fun f=>Zs f o e []) 0:=fun o e=>(ZB e [] (n:=0) (by simp)).step fun f=>by simp [Zs,zu]
  have A:Yc (fun f=>Zm f []) 0:=(H.then (q:=fun f e ts=>zx f e ts) (m:=0) fun e us hu=>by
   obtain rfl:us=[]:=List.length_eq_zero_iff.1 (by omega)
   exact Q e).step fun f=>by simp [Zm,zu]
  have z:∀d o,7-o≤d→Yc (fun f=>zg f o []) 0:=fun d=>by
   induction d with
   | zero=>intro o hd;exact A.step fun f=>by rw [zg,if_pos (by omega)]
   | succ d ih =>
    intro o hd
    by_cases hc:6<o
    ·exact A.step fun f=>by rw [zg,if_pos hc]
    ·exact ((ih (o+1) (by omega)).then (q:=fun f e ts=>Zs f o e ts) (m:=0) fun e us hu=>by
      obtain rfl:us=[]:=List.length_eq_zero_iff.1 (by omega)
      exact G o e).step fun f=>by rw [zg,if_neg hc]
  refine ⟨fun o=>z _ o (Nat.le_refl _),fun pre=>?_,G,Q,?_,A⟩
  ·exact ((z _ 1 (Nat.le_refl _)).then (q:=fun f e ts=>if zm (zu ts) [44]=true then Z1 f (pre++[e]) ts.tail else some (.ok (pre++[e],ts))) (m:=0) fun e us hu=>by
    obtain rfl:us=[]:=List.length_eq_zero_iff.1 (by omega)
    simpa [zu,zm] using ZB (pre++[e]) [] (n:=0) (by simp)).step fun f=>by rw [Z1]
  ·exact (UC 0 0).step fun f=>by simp [zG,zu,zm,zh,zR]
 | succ n ih =>
  intro ts D;have B:=fun ts h o=>(ih ts h).1 o
  have J:=fun ts h pre=>(ih ts h).2.1 pre
  have M:=fun ts h o e=>(ih ts h).2.2.1 o e
  have L:=fun ts h e=>(ih ts h).2.2.2.1 e
  have O:=fun ts h=>(ih ts h).2.2.2.2.1
  have R:=fun ts h=>(ih ts h).2.2.2.2.2
  have I:Yc (fun f=>zG f ts) (n+1-1):=by
   refine ((YJ [40] ts (n:=n) D).then (q:=fun f _ ts=>if zm (zu ts) [41]=true then some (.ok ([],ts.tail)) else zh (Z1 f [] ts) fun l ts=>zh (zR [41] ts) fun _ ts=>some (.ok (l,ts))) (m:=n) fun _ us hu=>?_).step fun f=>by rw [zG]
   by_cases hc:zm (zu us) [41]=true
   ·simp only [if_pos hc];exact ZB _ _ (by simp;omega)
   ·simp only [if_neg hc]
    exact (J us hu []).then (q:=fun _ l ts=>zh (zR [41] ts) fun _ ts=>some (.ok (l,ts))) fun l vs hv=>(YJ [41] vs (n:=n) (by omega)).then (q:=fun _ _ ts=>some (.ok (l,ts))) fun _ xs hx=>ZB _ _ hx
  have G:∀o e,Yc (fun f=>Zs f o e ts) (n+1):=fun o e=>by
   by_cases hc:(zu ts).k=4∧levelOf (zu ts).s=o
   ·have y:=YF (ts:=ts) (by omega)
    exact ((B ts.tail (by omega) (o+1)).then (q:=fun f e2 ts'=>Zs f o (Ex.mk 7 (zu ts).s 0 [e,e2] e.line) ts') (m:=n+1) fun e2 us hu=>(M us (by omega) o _).le (by omega)).step fun f=>by rw [Zs,if_pos hc]
   ·exact (ZB e ts D).step fun f=>by rw [Zs,if_neg hc]
  have N:∀e,Yc (fun f=>zx f e ts) (n+1):=fun e=>by
   by_cases hc:zm (zu ts) [91]=true
   ·have y:=Zc hc
    exact ((B ts.tail (by omega) 1).then (q:=fun f i ts=>zh (zR [93] ts) fun _ ts=>zx f (Ex.mk 8 [] 0 [e,i] e.line) ts) (m:=n+1) fun i us hu =>
     (YJ [93] us (n:=n) (by omega)).then (q:=fun f _ ts=>zx f (Ex.mk 8 [] 0 [e,i] e.line) ts) fun _ vs hv=>(L vs hv _).le (by omega)).step fun f=>by rw [zx,if_pos hc]
   ·by_cases hd:zm (zu ts) [46]=true
    ·have y:=Zc hd
     exact ((V8 ts.tail (n:=n) (by omega)).then (q:=fun f s ts=>zx f (Ex.mk 9 s 0 [e] e.line) ts) (m:=n+1) fun s us hu=>(L us hu _).le (by omega)).step fun f=>by rw [zx,if_neg hc,if_pos hd]
    ·exact (ZB e ts D).step fun f=>by rw [zx,if_neg hc,if_neg hd]
  have H:Yc (fun f=>zH f ts) n:=by
   by_cases c1:(zu ts).k=2
   ·have y:=YF (ts:=ts) (by omega)
    exact (ZB (Ex.mk 1 [] (zu ts).n [] (zu ts).line) ts.tail (n:=n) (by omega)).step fun f=>by rw [zH,if_pos c1]
   by_cases c2:(zu ts).k=3
   ·have y:=YF (ts:=ts) (by omega)
    exact (ZB (Ex.mk 3 (zu ts).s 0 [] (zu ts).line) ts.tail (n:=n) (by omega)).step fun f=>by rw [zH,if_neg c1,if_pos c2]
   by_cases c3:(zu ts).k=1
   ·have y:=YF (ts:=ts) (by omega)
    by_cases d:zm (zu ts.tail) [40]=true
    ·exact ((O ts.tail (by omega)).then (q:=fun _ l ts'=>some (.ok (Ex.mk 5 (zu ts).s 0 l (zu ts).line,ts'))) (m:=n) fun l us hu=>ZB _ _ (by omega)).step fun f=>by rw [zH,if_neg c1,if_neg c2,if_pos c3,if_pos d]
    ·exact (ZB (Ex.mk 4 (zu ts).s 0 [] (zu ts).line) ts.tail (n:=n) (by omega)).step fun f=>by rw [zH,if_neg c1,if_neg c2,if_pos c3,if_neg d]
   by_cases c4:zm (zu ts) [116,114,117,101]=true
   ·have y:=Zc c4
    exact (ZB (Ex.mk 2 [] 1 [] (zu ts).line) ts.tail (n:=n) (by omega)).step fun f=>by rw [zH,if_neg c1,if_neg c2,if_neg c3,if_pos c4]
   by_cases c5:zm (zu ts) [102,97,108,115,101]=true
   ·have y:=Zc c5
    exact (ZB (Ex.mk 2 [] 0 [] (zu ts).line) ts.tail (n:=n) (by omega)).step fun f=>by rw [zH,if_neg c1,if_neg c2,if_neg c3,if_neg c4,if_pos c5]
   by_cases c6:zm (zu ts) [110,101,119]=true
   ·have y:=Zc c6
    exact ((V8 ts.tail (n:=n) (by omega)).then (q:=fun f s ts'=>zh (zG f ts') fun l ts'=>some (.ok (Ex.mk 11 s 0 l (zu ts).line,ts'))) (m:=n) fun s us hu =>
     (O us hu).then (q:=fun _ l ts'=>some (.ok (Ex.mk 11 s 0 l (zu ts).line,ts'))) fun l vs hv=>ZB _ _ (by omega)).step fun f=>by rw [zH,if_neg c1,if_neg c2,if_neg c3,if_neg c4,if_neg c5,if_pos c6]
   by_cases c7:zm (zu ts) [91]=true
   ·have y:=Zc c7
    exact ((J ts.tail (by omega) []).then (q:=fun _ l ts'=>zh (zR [93] ts') fun _ ts'=>some (.ok (Ex.mk 10 [] 0 l (zu ts).line,ts'))) (m:=n) fun l us hu =>
     (YJ [93] us (n:=n) (by omega)).then (q:=fun _ _ ts'=>some (.ok (Ex.mk 10 [] 0 l (zu ts).line,ts'))) fun _ vs hv=>ZB _ _ (by omega)).step fun f=>by rw [zH,if_neg c1,if_neg c2,if_neg c3,if_neg c4,if_neg c5,if_neg c6,if_pos c7]
   ·exact ((YJ [40] ts (n:=n) D).then (q:=fun f _ ts=>zh (zg f 1 ts) fun e ts=>zh (zR [41] ts) fun _ ts=>some (.ok (e,ts))) (m:=n) fun _ us hu =>
     (B us hu 1).then (q:=fun _ e ts=>zh (zR [41] ts) fun _ ts=>some (.ok (e,ts))) fun e vs hv=>(YJ [41] vs (n:=n) (by omega)).then (q:=fun _ _ ts=>some (.ok (e,ts))) fun _ xs hx=>ZB _ _ hx).step fun f=>by rw [zH,if_neg c1,if_neg c2,if_neg c3,if_neg c4,if_neg c5,if_neg c6,if_neg c7]
  have A:Yc (fun f=>Zm f ts) n:=by
   by_cases hc:(zu ts).k=4∧((zu ts).s=[45]∨(zu ts).s=[33])
   ·have y:=YF (ts:=ts) (by omega)
    exact ((R ts.tail (by omega)).then (q:=fun _ e ts'=>some (.ok (Ex.mk 6 (zu ts).s 0 [e] (zu ts).line,ts'))) (m:=n) fun e us hu=>ZB _ _ (by omega)).step fun f=>by rw [Zm,if_pos hc]
   ·exact (H.then (q:=fun f e ts=>zx f e ts) (m:=n) fun e us hu=>L us hu e).step fun f=>by rw [Zm,if_neg hc]
  have z:∀d o,7-o≤d→Yc (fun f=>zg f o ts) n:=fun d=>by
   induction d with
   | zero=>intro o hd;exact A.step fun f=>by rw [zg,if_pos (by omega)]
   | succ d ih =>
    intro o hd
    by_cases hc:6<o
    ·exact A.step fun f=>by rw [zg,if_pos hc]
    ·exact ((ih (o+1) (by omega)).then (q:=fun f e ts=>Zs f o e ts) (m:=n) fun e us hu=>M us hu o e).step fun f=>by rw [zg,if_neg hc]
  refine ⟨fun o=>z _ o (Nat.le_refl _),fun pre=>?_,G,N,I,A⟩
  refine ((z _ 1 (Nat.le_refl _)).then (q:=fun f e ts=>if zm (zu ts) [44]=true then Z1 f (pre++[e]) ts.tail else some (.ok (pre++[e],ts))) (m:=n) fun e us hu=>?_).step fun f=>by rw [Z1]
  by_cases hc:zm (zu us) [44]=true
  ·simp only [if_pos hc]
   have y:=Zc hc;exact (J us.tail (by omega) (pre++[e])).le (by omega)
  ·simp only [if_neg hc]
   exact ZB _ _ hu
structure Z5 {α:Type} (E:(Nat→Prop)→World→α→List Value→Prop):Prop where
 kept:∀{S:Nat→Prop} {w w':World} {x:α} {c:List Value},E S w x c→w.heap.size≤w'.heap.size→(∀k,S k→k<w.heap.size→w'.heap[k]?=w.heap[k]?)→E S w' x c
 wide:∀{S S':Nat→Prop} {w:World} {x:α} {c:List Value},E S w x c→(∀k,S k→S' k)→E S' w x c
 low:∀{S:Nat→Prop} {w:World} {x:α} {c:List Value},E S w x c→E (fun k=>S k∧k<w.heap.size) w x c
structure Zf {α:Type} (E:(Nat→Prop)→World→α→List Value→Prop) (sz ty B:Nat) (w:World) (l:List α) (v:Value) (g cap:Nat) (us:List (List Value)):Prop where
 val:v=.slice (some ⟨g,0,none⟩) l.length cap
 ne:l≠[]
 own:w.ownsRow B ty sz v l.length us.flatten
 len:us.length=l.length
 wid:∀c∈us,c.length=sz
 kids:∀(j:Nat) (x:α) (c:List Value),l[j]?=some x→us[j]?=some c→E (fun k=>B≤k∧k≠g) w x c
theorem Zf.block {α:Type} {E:(Nat→Prop)→World→α→List Value→Prop} {sz ty B:Nat} {w:World} {l:List α} {v:Value} {g cap:Nat} {us:List (List Value)} (h:Zf E sz ty B w l v g cap us):B≤g∧g<w.heap.size∧l.length≤cap∧cap≤maxLen:=by
 have y:=h.own.lt g (by rw [h.val];rfl)
 refine ⟨y.1,y.2,?_⟩;rcases h.own.2 with ⟨o,_⟩ | ⟨H,z,D,o,_,_,G,A,_⟩
 ·rw [h.val] at o;cases o
 ·rw [h.val] at o
  cases o
  exact ⟨G,A⟩
theorem Zf.kept {α:Type} {E:(Nat→Prop)→World→α→List Value→Prop} (L:Z5 E) {sz ty B:Nat} {w w':World} {l:List α} {v:Value} {g cap:Nat} {us:List (List Value)} (h:Zf E sz ty B w l v g cap us)
  (hs:w.heap.size≤w'.heap.size) (hb:∀k,B≤k→k<w.heap.size→w'.heap[k]?=w.heap[k]?):Zf E sz ty B w' l v g cap us where
 val:=h.val
 ne:=h.ne
 own:=by
  refine ⟨h.own.1,?_⟩;rcases h.own.2 with z | ⟨D,o,y,z,A,G,H⟩
  ·exact .inl z
  ·exact .inr ⟨D,o,y,z,A,(hb D A (Array.getElem?_eq_some_iff.1 G).1).trans G,H⟩
 len:=h.len
 wid:=h.wid
 kids:=fun j x c hx hc=>L.kept (h.kids j x c hx hc) hs fun k hk hlt=>hb k hk.1 hlt
theorem Zf.first {α:Type} {E:(Nat→Prop)→World→α→List Value→Prop} (L:Z5 E) {sz ty B:Nat} {w:World} {x:α} {c:List Value} (hx:E (fun k=>B≤k) w x c) (hc:c.length=sz) (hB:B≤w.heap.size) :
  Zf E sz ty B (w.alloc (.cells c.toArray ty)) [x] (.slice (some ⟨w.heap.size,0,none⟩) 1 1) w.heap.size 1 [c] where
 val:=rfl
 ne:=by simp
 own:=by
  refine ⟨by simp [hc],.inr ⟨w.heap.size,1,c.toArray,rfl,hB,World.alloc_heap_new _ _,Nat.le_refl _,by simp [maxLen],by simp [hc],?_⟩⟩
  simp [hc,List.take_of_length_le]
 len:=rfl
 wid:=by simp [hc]
 kids:=fun j y d hy hd=>by
  cases j with
  | succ j=>simp at hy
  | zero =>
   simp only [List.getElem?_cons_zero,Option.some.injEq] at hy hd;subst hy hd;exact L.wide (L.kept (L.low hx) (by simp) fun k hk _=>Below.heap_alloc _ _ _ hk.2) fun k hk=>⟨hk.1,by omega⟩
theorem Zf.snoc {α:Type} {E:(Nat→Prop)→World→α→List Value→Prop} (L:Z5 E) {sz ty B:Nat} {w w':World} {l:List α} {v v':Value} {g cap:Nat} {us:List (List Value)} (h:Zf E sz ty B w l v g cap us) {x:α} {c:List Value} {ob:Obj}
  (hx:E (fun k=>B≤k∧k≠g) w x c) (hc:c.length=sz) (ho:w'.ownsRow B ty sz v' (l.length+1) (us.flatten++c)) (hg:(w.alloc ob).grownBy w' v.ownBlock) (ha:v'.ownBlock=v.ownBlock∨v'.ownBlock=some (w.alloc ob).heap.size) :
  ∃o cap',Zf E sz ty B w' (l++[x]) v' o cap' (us++[c])∧(o=g∨w.heap.size≤o):=by
 have R:=h.block;have G:v.ownBlock=some g:=by rw [h.val];rfl
 rw [G] at hg ha
 obtain ⟨o,cap',D⟩:∃o cap',v'=.slice (some ⟨o,0,none⟩) (l.length+1) cap':=by
  rcases ho.2 with ⟨_,H⟩ | ⟨o,cap',_,J,_⟩
  ·omega
  ·exact ⟨o,cap',J⟩
 have Q:o=g∨o=(w.alloc ob).heap.size:=by
  rw [D] at ha
  simpa [Value.ownBlock] using ha
 have O:(w.alloc ob).heap.size=w.heap.size+1:=by simp
 have N:w.heap.size≤w'.heap.size:=by have:=hg.size;omega
 have A:∀k,k≠g→k<w.heap.size→w'.heap[k]?=w.heap[k]?:=fun k hk hlt=>(hg.block k (by omega) (by simpa using hk)).trans (Below.heap_alloc _ _ _ hlt)
 have z:∀y d,E (fun k=>B≤k∧k≠g) w y d→E (fun k=>B≤k∧k≠o) w' y d:=fun y d hy =>
  L.wide (L.kept (L.low hy) N fun k hk _=>A k hk.1.2 hk.2) fun k hk=>⟨hk.1.1,by omega⟩
 refine ⟨o,cap',⟨by rw [D,List.length_append];rfl,by simp,?_,by simp [h.len],?_,fun j y d hy hd=>?_⟩,by omega⟩
 ·rw [List.length_append,List.flatten_append]
  simpa using ho
 ·intro d hd
  rcases List.mem_append.1 hd with hd | hd
  ·exact h.wid d hd
  ·simp only [List.mem_singleton] at hd;rw [hd];exact hc
 ·rw [List.getElem?_append] at hy hd
  rw [h.len] at hd
  split at hy
  ·rename_i I
   rw [if_pos I] at hd;exact z y d (h.kids j y d hy hd)
  ·rename_i I
   rw [if_neg I] at hd
   have:j-l.length=0:=by
    rcases Nat.eq_zero_or_pos (j-l.length) with H | H
    ·exact H
    ·rw [List.getElem?_eq_none (by simp;omega)] at hy;cases hy
   rw [this] at hy hd;simp only [List.getElem?_cons_zero,Option.some.injEq] at hy hd;subst hy hd;exact z _ _ hx
def ExE (S:Nat→Prop) (w:World) (x:Ex) (c:List Value):Prop:=zX S w x (.agg c.toArray)
theorem Y9:Z5 ExE:=⟨fun h hs hb=>zX.kept h hs hb,fun h hS=>zX.wide h hS,fun h=>zX.low h⟩
theorem Zf.row {ty B:Nat} {w:World} {l:List Ex} {v:Value} {g cap:Nat} {us:List (List Value)} (h:Zf ExE 5 ty B w l v g cap us):yV B w l v:=by
 have o:=h.block;refine .inr ⟨g,cap,us,h.val,h.ne,h.len,o.1,o.2.1,o.2.2.1,o.2.2.2,fun j u hj=>?_,h.wid,fun j x c y hc=>zX.wide (h.kids j x c y hc) fun k hk=>hk.1⟩
 have y:=h.own.cells (g:=g) (by rw [h.val];rfl) j u hj
 by_cases h0:j=0
 ·subst h0;simpa [Addr.add] using y
 ·simpa [Addr.add,h0] using y
theorem Yv {f least:Nat} {ts us:List Tk} {x:Ex} (h:zg f least ts=some (.ok (x,us))):us.length≤ts.length-1:=by
 obtain ⟨A,z,y,o⟩:=(XU ts.length ts (Nat.le_refl _)).1 least;exact o x us (YQ (y 0) h)
def Ue (f:Nat) (l:List Ex) (ts:List Tk):Option (PR (List Ex)):=if zm (zu ts) [44]=true then Z1 f l ts.tail else some (.ok (l,ts))
def ZO (r:Nat) (w:World):Nat:=match w.cell? ⟨r,0,none⟩ with | some (.slice _ n _)=>n | _=>0
theorem zf.left {r g o cap:Nat} {ts:List Tk} {w:World} (h:zf r g o cap ts w):ZO r w=ts.length:=by unfold ZO;rw [h.cell]
theorem zc.grown {r:Nat} {w w1 w2:World} {row:Option Nat} (h:zc r w w1) (hg:w1.grownBy w2 row) (hrow:∀k,row=some k→w.heap.size≤k):zc r w w2 :=
 ⟨hg.os.trans h.os,hg.tape.trans h.tape,hg.output.trans h.output,Nat.le_trans h.size hg.size,fun k hk hr=>(hg.block k (Nat.lt_of_lt_of_le hk h.size) fun e=>by have:=hrow k e.symm;omega).trans (h.block k hk hr)⟩
theorem Qh:(Tryz.prog.info? 45).map (fun i=>(i.zero,i.size,i.bytes))=some (some (.agg #[.int .i64 0,.string ⟨#[]⟩,.int .i64 0,.slice none 0 0,.int .i64 0]),5,64):=by kernel_rfl
theorem ziS (r g o cap F:Nat) (ts:List Tk) (w:World) (res:PR (List Ex)) (h:zf r g o cap ts w) (hE:zi ts) (hN:ts.length≤1099511627776) (hp:Z1 (F+1) [] ts=some res)
  (hone:∀H o1 z y r1,zg F 1 y=some r1→zi y→y.length≤1099511627776→zf r g o1 z y H→zc r w H→Calls Tryz.prog 42 #[.pointer (some ⟨r,0,none⟩)] H (zJ r g H r1)) :
  Calls Tryz.prog 194 #[.pointer (some ⟨r,0,none⟩),.func (.func 42) #[.pointer (some ⟨r,0,none⟩)] #[]] w (vP r g w res):=by
 obtain ⟨i0,aJ,aP,aM,aH⟩:=info_parts Qh;obtain ⟨t0,aA,rfl⟩:=hE.cons;have hr:=h.lt.1;have aS:=h.lt.2;rw [Z1] at hp;cases hb:zg F 1 (t0::aA) with
 | none=>rw [hb] at hp;cases hp
 | some r1 =>
  have c1:=hone w o cap (t0::aA) r1 hb hE hN h (zc.refl r w);rw [hb] at hp;simp only [zh] at hp
  go_enter Tryz.func194,Tryz.ntmps194
  go_wp2_with fail
  refine c1.mono ?_;clear c1;rintro e H ⟨ah,A⟩;rcases r1 with a | ⟨x,us⟩
  ·obtain rfl:=A
   simp only [Option.some.injEq] at hp;subst hp;exact ⟨rfl,ah,rfl⟩
  ·obtain ⟨v,o1,z,rfl,hx,Z⟩:=A
   obtain ⟨a,b,c,d0,d1,d2,l,rfl⟩:=hx.agg;have aq:=(Ze F).1 _ _ _ _ hb hE;have aF:=Yv hb;have HP:Hid (Ue F [x] us=some res):=hp;obtain ⟨t1,y,rfl⟩:=aq.cons
   have aC:Hid (Zf ExE 5 45 w.heap.size (H.alloc (.cells #[.int .i64 a,.string b,.int .i64 c,.slice d0 d1 d2,.int .i64 l] 45)) [x] (.slice (some ⟨H.heap.size,0,none⟩) 1 1) H.heap.size 1 [[.int .i64 a,.string b,.int .i64 c,.slice d0 d1 d2,.int .i64 l]]) :=
    Zf.first Y9 (c:=[.int .i64 a,.string b,.int .i64 c,.slice d0 d1 d2,.int .i64 l]) (show zX _ _ _ _ from hx) rfl ah.size
   have ay:Hid (zf r g o1 z (t1::y) (H.alloc (.cells #[.int .i64 a,.string b,.int .i64 c,.slice d0 d1 d2,.int .i64 l] 45))):=Z.alloc _;have av:Hid (zc r w (H.alloc (.cells #[.int .i64 a,.string b,.int .i64 c,.slice d0 d1 d2,.int .i64 l] 45))):=ah.alloc _;have aw:Hid (zi (t1::y)):=aq;have hn:y.length+2≤1099511627776:=by simp only [List.length_cons] at aF hN;omega
   have az:Hid (∀H o1 z y r1,zg F 1 y=some r1→zi y→y.length≤1099511627776→zf r g o1 z y H→zc r w H→Calls Tryz.prog 42 #[.pointer (some ⟨r,0,none⟩)] H (zJ r g H r1)):=hone;clear hx Z ah aq hone hp hb hE hN h aF;go_wp2_with fail
   go_loopw [5] (fun v wr=>∃(L:List Ex) (g1 z:Nat) (us:List (List Value)) (o2 O:Nat) (X:List Tk) (f2:Nat),f2≤F∧Ue f2 L X=some res∧zi X∧L.length+X.length≤1099511627776∧Zf ExE 5 45 w.heap.size wr L v g1 z us∧zf r g o2 O X wr∧zc r w wr) (fun _ wr=>ZO r wr)
   case atStart=>exact ⟨[x],_,_,_,o1,z,t1::y,F,Nat.le_refl _,HP.out,aw.out,by simp only [List.length_cons,List.length_nil];omega,aC.out,ay.out,av.out⟩
   case round =>
    obtain ⟨L,g1,cp1,us,o2,O,X,f2,aT,G,aa,af,Q,R,ak⟩:=hrel;clear HP aC ay av aw hn;obtain ⟨t2,Y,rfl⟩:=aa.cons;have cs:=Zy r g o2 O t2 Y [44] wr R (fun hi=>(aa.tail (zk hi)).ne)
    have an:=R.left;have W:Hid (Zf ExE 5 45 w.heap.size wr L _ g1 cp1 us):=Q;have ar:Hid (zc r w wr):=ak;have aB:=Q.val;subst aB
    unfold Ue at G
    simp only [zC,List.tail_cons] at G
    by_cases hi:zm t2 [44]=true
    ·rw [hi] at cs
     rw [if_pos hi] at G;have aD:=aa.tail (zk hi);clear Q ak R aa;go_wp2_with fail
     refine cs.mono ?_;clear cs;rintro e w3 ⟨rfl,D,h3⟩;simp only [if_true] at h3;have ao:zc r w w3:=ar.out.trans D;have J:=W.out.kept Y9 D.size fun k hB hlt=>D.block k hlt (by omega)
     cases f2 with
     | zero=>simp [Z1] at G
     | succ f3 =>
      rw [Z1] at G;cases hb3:zg f3 1 Y with
      | none=>rw [hb3] at G;cases G
      | some r3 =>
       rw [hb3] at G;simp only [zh] at G
       have ap:zg F 1 Y=some r3:=by
        have:=YW (k:=F-f3) hb3
        rwa [show f3+(F-f3)=F by omega] at this
       have c3:=az.out w3 _ _ Y r3 ap aD (by simp only [List.length_cons] at af;omega) h3 ao
       have aX:=J.block;have N:Hid (Zf ExE 5 45 w.heap.size w3 L _ g1 cp1 us):=J;have ae:Hid (zc r w w3):=ao;clear J ao D h3 W ar;go_wp2_with fail
       refine c3.mono ?_;clear c3;rintro e w4 ⟨ad,A⟩;have ag:Hid (zc r w w4):=ae.out.trans ad;rcases r3 with a | ⟨x3,ab⟩
       ·obtain rfl:=A
        simp only [Option.some.injEq] at G;subst G;exact ⟨rfl,ag.out,rfl⟩
       ·obtain ⟨v,o4,T,rfl,hx,Z⟩:=A
        obtain ⟨a4,b4,c4,p4,q4,s4,l4,rfl⟩:=hx.agg;have I:=N.out.kept Y9 ad.size fun k hB hlt=>ad.block k hlt (by omega)
        have ax:ExE (fun k=>w.heap.size≤k∧k≠g1) w4 x3 [.int .i64 a4,.string b4,.int .i64 c4,.slice p4 q4 s4,.int .i64 l4]:=zX.wide hx fun k hk=>⟨Nat.le_trans ae.out.size hk,by omega⟩
        have aI:Hid (ExE (fun k=>w.heap.size≤k∧k≠g1) w4 x3 [.int .i64 a4,.string b4,.int .i64 c4,.slice p4 q4 s4,.int .i64 l4]):=ax
        have aj:Hid (Zf ExE 5 45 w.heap.size w4 L _ g1 cp1 us):=I;have aK:Hid (zf r g o4 T ab w4):=Z;have aQ:=(Ze F).1 _ _ _ _ ap aD;have aU:=Yv ap;have aE:=(I.own.alloc (.cells #[.int .i64 a4,.string b4,.int .i64 c4,.slice p4 q4 s4,.int .i64 l4] 45));have HT:Hid (Ue f3 (L++[x3]) ab=some res):=G;have aR:w.heap.size≤w4.heap.size:=ag.out.size;clear I ax hx Z G ad
        go_wp2_with (at_builtin;refine wpList_append_own_at _ rfl _ _ 43 rfl w.heap.size 45 i0 _ 5 64 Tryz.underlying43 aJ aP aM aH rfl (by decide) _ _ _ rfl aE ⟨w4.heap.size,0,none⟩ 1 1 [.int .i64 a4,.string b4,.int .i64 c4,.slice p4 q4 s4,.int .i64 l4] rfl rfl (ZP _ _ _) (by simp [Value.oneCell']) (by unfold maxLen;simp only [List.length_cons] at af;omega) (by simp only [List.length_cons] at af;omega) (by simp;omega) ?_;intro v' w5 al U _ aG)
        obtain ⟨g5,au,am,aW⟩:=aj.out.snoc Y9 aI.out rfl al U aG
        have V:(w4.alloc (.cells #[.int .i64 a4,.string b4,.int .i64 c4,.slice p4 q4 s4,.int .i64 l4] 45)).grownBy w5 (some g1):=U;have aN:zc r w w5:=(ag.out.alloc _).grown V fun k hk=>by have:=Option.some.inj hk;omega
        have aV:w.heap.size≤w4.heap.size:=ag.out.size;have ai:zf r g o4 T ab w5:=aK.out.keep ((V.block r (by simp;omega) (fun e=>by have:=Option.some.inj e;omega)).trans (Below.heap_alloc _ _ _ (by omega))) ((V.block g (by simp;omega) (fun e=>by have:=Option.some.inj e;omega)).trans (Below.heap_alloc _ _ _ (by omega)))
        refine ⟨⟨L++[x3],g5,au,_,o4,T,ab,f3,by omega,HT.out,aQ,?_,am,ai,aN⟩,?_⟩
        ·simp only [List.length_append,List.length_cons,List.length_nil] at af ⊢;omega
        ·rw [ai.left,an];simp only [List.length_cons];omega
    ·have aO:zm t2 [44]=false:=by simpa using hi
     rw [aO] at cs;rw [if_neg hi] at G;clear Q ak R aa;go_wp2_with fail
     refine cs.mono ?_;clear cs;rintro e w3 ⟨rfl,D,h3⟩;have ae:Hid (zc r w w3):=ar.out.trans D;have N:Hid (yV w.heap.size w3 L (.slice (some ⟨g1,0,none⟩) L.length cp1)):=(W.out.kept Y9 D.size fun k hB hlt=>D.block k hlt (by omega)).row
     have aL:Hid (zf r g o2 O (t2::Y) w3):=show zf _ _ _ _ _ _ by simpa using h3
     simp only [Option.some.injEq] at G;subst G;clear D h3;go_wp2
     refine bodyPost_ret (v:=.slice (some ⟨g1,0,none⟩) L.length cp1) (by simp [results,Tryz.results194,go_sem]) rfl ⟨ae.out,_,_,_,rfl,N.out,aL.out⟩
theorem zK.one {S:Nat→Prop} {w:World} {x:Ex} {c:List Value} (ty:Nat) (hx:zX S w x (.agg c.toArray)) (hc:c.length=5) (hB:S w.heap.size):zK S (w.alloc (.cells c.toArray ty)) [x] (.slice (some ⟨w.heap.size,0,none⟩) 1 1):=by
 refine .inr ⟨w.heap.size,1,[c],rfl,by simp,rfl,hB,by simp,Nat.le_refl _,by simp [maxLen],fun j u hj=>?_,fun z hz=>?_,fun j z e hz he=>?_⟩
 ·have h:=ZP w c ty j u (by simpa using hj)
  by_cases h0:j=0
  ·subst h0;simpa [Addr.add] using h
  ·simpa [Addr.add,h0] using h
 ·simp only [List.mem_cons,List.not_mem_nil,or_false] at hz
  subst hz;exact hc
 ·match j,hz,he with
  | 0,hz,he =>
   simp only [List.getElem?_cons_zero,Option.some.injEq] at hz he
   subst hz he;exact zX.kept hx (by simp) fun k _ hlt=>Below.heap_alloc _ _ _ hlt
  | j+1,hz,he=>simp at hz
theorem zK.two {S:Nat→Prop} {w:World} {x y:Ex} {c d:List Value} (ty:Nat) (hx:zX S w x (.agg c.toArray)) (hy:zX S w y (.agg d.toArray)) (hc:c.length=5) (hd:d.length=5) (hB:S w.heap.size) :
  zK S (w.alloc (.cells (c++d).toArray ty)) [x,y] (.slice (some ⟨w.heap.size,0,none⟩) 2 2):=by
 refine .inr ⟨w.heap.size,2,[c,d],rfl,by simp,rfl,hB,by simp,Nat.le_refl _,by simp [maxLen],fun j u hj=>?_,fun z hz=>?_,fun j z e hz he=>?_⟩
 ·have h:=ZP w (c++d) ty j u (by simpa using hj)
  by_cases h0:j=0
  ·subst h0;simpa [Addr.add] using h
  ·simpa [Addr.add,h0] using h
 ·simp only [List.mem_cons,List.not_mem_nil,or_false] at hz
  rcases hz with rfl | rfl <;> assumption
 ·have o:∀z e,zX S w z (.agg e)→zX S (w.alloc (.cells (c++d).toArray ty)) z (.agg e):=fun z e h=>zX.kept h (by simp) fun k _ hlt=>Below.heap_alloc _ _ _ hlt
  match j,hz,he with
  | 0,hz,he =>
   simp only [List.getElem?_cons_zero,Option.some.injEq] at hz he;subst hz he;exact o _ _ hx
  | 1,hz,he =>
   simp only [List.getElem?_cons_succ,List.getElem?_cons_zero,Option.some.injEq] at hz he;subst hz he;exact o _ _ hy
  | j+2,hz,he=>simp at hz
theorem Xf {w:World} {N M j:Nat} {v:Value} (a b c d e:Value) (hne:M≠N) (h:w.cell? ⟨M,j,none⟩=some v):(set5 w N a b c d e).cell? ⟨M,j,none⟩=some v:=by
 exact (World.cell?_of_block (a:=⟨M,j,none⟩) (zr w N a b c d e hne)).trans h
theorem zJ.of_set5 {r g o cap N B:Nat} {w w5:World} {us:List Tk} {l:List Ex} {v:Value} (k:Nat) (s:List UInt8) (n:Int) (line:Nat) (hK:zc r w w5) (hN:w.heap.size≤N) (hr:r<w.heap.size) (hg:g<w.heap.size) (hrow:yV B w5 l v) (hB:N<B) (hrd:zf r g o cap us w5) :
  zJ r g w (.ok (.mk k s n l line,us)) (.returned (.agg #[.int .i64 k,.string (zb s),.int .i64 n,v,.int .i64 line])) (set5 w5 N (.int .i64 k) (.string (zb s)) (.int .i64 n) v (.int .i64 line)):=by
 refine ⟨ZN hK hN _ _ _ _ _,_,o,cap,rfl,?_,hrd.keep (zr _ _ _ _ _ _ _ (by omega)) (zr _ _ _ _ _ _ _ (by omega))⟩
 have h:=hrow.kept (w':=set5 w5 N (.int .i64 k) (.string (zb s)) (.int .i64 n) v (.int .i64 line)) (by simp) fun k hB _=>zr _ _ _ _ _ _ _ (by omega)
 exact ZI.of_row (h.mono (by omega)) k s n line
theorem zJ.of_set5' {r g o cap N B:Nat} {w w5:World} {us:List Tk} {x:Ex} {a b c d e:Value} (hK:zc r w w5) (hN:w.heap.size≤N) (hr:r<w.heap.size) (hg:g<w.heap.size) (hx:ZI B w5 x (.agg #[a,b,c,d,e])) (hB:N<B) (hrd:zf r g o cap us w5) :
  zJ r g w (.ok (x,us)) (.returned (.agg #[a,b,c,d,e])) (set5 w5 N a b c d e):=by
 refine ⟨ZN hK hN _ _ _ _ _,_,o,cap,rfl,?_,hrd.keep (zr _ _ _ _ _ _ _ (by omega)) (zr _ _ _ _ _ _ _ (by omega))⟩
 exact ZI.mono (ZI.kept hx (w':=set5 w5 N a b c d e) (by simp) fun k hB _=>zr _ _ _ _ _ _ _ (by omega)) (by omega)
def UD (t:Tk):PR Ex→PR Ex
 | .error a=>.error a
 | .ok (e,ts)=>.ok (.mk 6 t.s 0 [e] t.line,ts)
theorem QZ (r g o cap:Nat) (t:Tk) (ts:List Tk) (w:World) (res:PR Ex) (h:zf r g o cap (t::ts) w) (hE:zi (t::ts)) (hk:t.k=4) (hs:(t.s==[45]||t.s==[33])=true)
  (hun:∀Z o1 cap1,zf r g o1 cap1 ts Z→zc r w Z→Calls Tryz.prog 123 #[.pointer (some ⟨r,0,none⟩)] Z (zJ r g Z res)) :
  Calls Tryz.prog 123 #[.pointer (some ⟨r,0,none⟩)] w (zJ r g w (UD t res)):=by
 have hr:=h.lt.1;have ah:=h.lt.2;have ca:=fun w=>Ve t.s w
 simp only [hs] at ca;have h0:=h.alloc Zz;have ch:=Z8 r g o cap t ts _ h0;obtain ⟨w2,D⟩:∃w2,w2=((w.alloc Zz).alloc (ZL t)).alloc (.cells #[.int .i64 4,.string (zb t.s),.int .i64 t.n,.int .i64 t.line,.int .i64 t.at0] 65):=⟨_,rfl⟩;have h2:zf r g o cap (t::ts) w2:=by rw [D];exact (h0.alloc _).alloc _
 have k2:zc r w w2:=by rw [D];exact (((zc.refl r w).alloc _).alloc _).alloc _
 have cs:=Va r g o cap t ts w2 h2 (hE.tail (by omega)).ne
 have af:Hid (w2=((w.alloc Zz).alloc (ZL t)).alloc (.cells #[.int .i64 4,.string (zb t.s),.int .i64 t.n,.int .i64 t.line,.int .i64 t.at0] 65)):=D;clear h h0
 go_enter Tryz.func123,Tryz.ntmps123
 go_wp2_with fail
 refine ch.mono ?_;clear ch;rintro e Z ⟨rfl,rfl⟩;simp only [uJ];go_wp2_with (go_at_call 117;refine (ca _).mono ?_;rintro e Z ⟨rfl,rfl⟩)
 rw [←af.out];refine cs.mono ?_;clear cs ca;rintro e w3 ⟨rfl,O⟩
 have n2:w2.heap[w.heap.size+1+1]?=some (.cells #[.int .i64 4,.string (zb t.s),.int .i64 t.n,.int .i64 t.line,.int .i64 t.at0] 65 (0,0)):=by
  have hx:=World.alloc_heap_new ((w.alloc Zz).alloc (ZL t)) (.cells #[.int .i64 4,.string (zb t.s),.int .i64 t.n,.int .i64 t.line,.int .i64 t.at0] 65);rw [←D,show ((w.alloc Zz).alloc (ZL t)).heap.size=w.heap.size+1+1 by simp] at hx
  exact hx
 have n0:w2.heap[w.heap.size]?=some Zz:=by
  rw [D,Below.heap_alloc _ _ _ (by simp;omega),Below.heap_alloc _ _ _ (by simp)]
  exact World.alloc_heap_new _ _
 have V:zc r w w3:=by rw [O];exact k2.setCell 0 _
 have Y:zc r w2 w3:=by rw [O];exact (zc.refl r w2).setCell 0 _
 have h3:zf r g (o+5) (cap-1) ts w3:=by rw [O];exact h2.next
 have m2:=(Y.block _ (Array.getElem?_eq_some_iff.1 n2).1 (by omega)).trans n2
 have m0:=(Y.block _ (Array.getElem?_eq_some_iff.1 n0).1 (by omega)).trans n0
 have cu:∀W:World,W.heap=w3.heap→W.os=w3.os→W.tape=w3.tape→W.output=w3.output→Calls Tryz.prog 123 #[.pointer (some ⟨r,0,none⟩)] W fun e w'=>zc r w3 w'∧zJ r g W res e w':=fun W e1 e2 e3 e4 =>
  (hun W _ _ (h3.keep (by rw [e1]) (by rw [e1])) ⟨e2.trans V.os,e3.trans V.tape,e4.trans V.output,by rw [e1];exact V.size,fun k hk hr=>by rw [e1];exact V.block k hk hr⟩).mono fun e w' h =>
   ⟨⟨h.1.os.trans e2,h.1.tape.trans e3,h.1.output.trans e4,by rw [←e1];exact h.1.size,fun k hk hr=>by rw [←e1];exact h.1.block k (by rw [e1];exact hk) hr⟩,h⟩
 have X:Hid (zc r w w3):=V;have ap:w.heap.size+1+1<w3.heap.size:=(Array.getElem?_eq_some_iff.1 m2).1;have c1:w3.cell? ⟨w.heap.size+1+1,1,none⟩=some (.string (zb t.s)):=by simp only [World.cell?,m2];rfl
 have c3:w3.cell? ⟨w.heap.size+1+1,3,none⟩=some (.int .i64 t.line):=by simp only [World.cell?,m2];rfl
 clear hun O n2 n0 V Y h3 h2 k2 D af hE;rcases res with a | ⟨x,us⟩
 ·have L:∀W:World,W.heap=w3.heap→W.os=w3.os→W.tape=w3.tape→W.output=w3.output→Calls Tryz.prog 123 #[.pointer (some ⟨r,0,none⟩)] W fun e w'=>e=ZG a∧zc r w w':=fun W e1 e2 e3 e4=>(cu W e1 e2 e3 e4).mono fun e w' h=>⟨h.2.2,X.out.trans h.1⟩
  clear cu;go_wp2_with fail
  go_region_dies
  all_goals (go_wp2_with fail;refine (L _ (by rfl) (by rfl) (by rfl) (by rfl)).mono ?_;rintro e y ⟨rfl,z⟩;exact ⟨rfl,z,rfl⟩)
 ·have L:∀W:World,W.heap=w3.heap→W.os=w3.os→W.tape=w3.tape→W.output=w3.output→Calls Tryz.prog 123 #[.pointer (some ⟨r,0,none⟩)] W fun e w'=>∃(a:Int) (b:ByteArray) (c:Int) (G:Option Addr) (H I:Nat) (l:Int),e=.returned (.agg #[.int .i64 a,.string b,.int .i64 c,.slice G H I,.int .i64 l]) ∧
    w'.cell? ⟨w.heap.size+1+1,1,none⟩=some (.string (zb t.s))∧w'.cell? ⟨w.heap.size+1+1,3,none⟩=some (.int .i64 t.line)∧w'.heap[w.heap.size]?=some Zz∧Hid (zc r w w')∧w3.heap.size≤w'.heap.size ∧
    Hid (ZI w3.heap.size w' x (.agg #[.int .i64 a,.string b,.int .i64 c,.slice G H I,.int .i64 l]))∧Hid (∃o4 A,zf r g o4 A us w'):=fun W e1 e2 e3 e4=>(cu W e1 e2 e3 e4).mono fun e w' h=>by
   obtain ⟨z,-,v,o4,A,rfl,hx,ao⟩:=h;obtain ⟨a,b,c,G,H,I,l,rfl⟩:=hx.agg;exact ⟨a,b,c,G,H,I,l,rfl,z.cell (p:=⟨w.heap.size+1+1,1,none⟩) (by simp;omega) c1,z.cell (p:=⟨w.heap.size+1+1,3,none⟩) (by simp;omega) c3,(z.block _ (by omega) (by omega)).trans m0,X.out.trans z,z.size,(by rw [←e1];exact hx:ZI w3.heap.size w' x _),⟨o4,A,ao⟩⟩
  clear cu m0 m2;go_wp2_with fail
  go_region_held3 (fun W=>W.cell? ⟨w.heap.size+1+1,1,none⟩=some (.string (zb t.s))∧W.cell? ⟨w.heap.size+1+1,3,none⟩=some (.int .i64 t.line)) (first | go_keep | exact ⟨Xf _ _ _ _ _ (by omega) (Q _),Xf _ _ _ _ _ (by omega) (R _)⟩) (first | (go_at_call 123;refine (L _ (by rfl) (by rfl) (by rfl) (by rfl)).mono ?_;rintro e y ⟨a,b,c,G,H,I,l,rfl,ag,aa,J,N,T,ab,ad⟩;have q0:y.cell? ⟨w.heap.size,0,none⟩=some (.int .i64 0):=(by simp only [World.cell?,J];rfl);have q1:y.cell? ⟨w.heap.size,1,none⟩=some (.string ⟨#[]⟩):=(by simp only [World.cell?,J];rfl);have q2:y.cell? ⟨w.heap.size,2,none⟩=some (.int .i64 0):=(by simp only [World.cell?,J];rfl);have q3:y.cell? ⟨w.heap.size,3,none⟩=some (.slice none 0 0):=(by simp only [World.cell?,J];rfl);have q4:y.cell? ⟨w.heap.size,4,none⟩=some (.int .i64 0):=(by simp only [World.cell?,J];rfl);have qf:∀j,y.frozen? ⟨w.heap.size,j,none⟩=false:=(fun j=>by simp only [World.frozen?,J];simp);have ak:∀ob j,(y.alloc ob).frozen? ⟨w.heap.size,j,none⟩=false:=(fun ob j=>by simp only [World.frozen?,Below.heap_alloc y ob w.heap.size (Array.getElem?_eq_some_iff.1 J).1,J];simp);have al:=zl q0;have aj:=zl q1;have ai:=zl q2;have am:=zl q3;have an:=zl q4;have Q:=zl ag;have R:=zl aa))
  obtain ⟨o4,A,U⟩:=ad.out;have ae:=World.block_lt_of_cell? y _ q0;have p5:(y.alloc (.cells #[.int .i64 a,.string b,.int .i64 c,.slice G H I,.int .i64 l] 45)).heap[w.heap.size]?=some Zz:=(Below.heap_alloc _ _ _ ae).trans J;obtain ⟨z0,z1,z2,z3,z4⟩:=zY p5 (.int .i64 6) (.string (zb t.s)) (.int .i64 0) (.slice (some ⟨y.heap.size,0,none⟩) 1 1) (.int .i64 t.line)
  change Exit.then _ _ _ _ (set5 (y.alloc (.cells #[.int .i64 a,.string b,.int .i64 c,.slice G H I,.int .i64 l] 45)) w.heap.size (.int .i64 6) (.string (zb t.s)) (.int .i64 0) (.slice (some ⟨y.heap.size,0,none⟩) 1 1) (.int .i64 t.line))
  have hp:zJ r g w (UD t (.ok (x,us))) (.returned (.agg #[.int .i64 6,.string (zb t.s),.int .i64 0,.slice (some ⟨y.heap.size,0,none⟩) 1 1,.int .i64 t.line])) (set5 (y.alloc (.cells #[.int .i64 a,.string b,.int .i64 c,.slice G H I,.int .i64 l] 45)) w.heap.size (.int .i64 6) (.string (zb t.s)) (.int .i64 0) (.slice (some ⟨y.heap.size,0,none⟩) 1 1) (.int .i64 t.line)) :=
   zJ.of_set5 (B:=w3.heap.size) 6 t.s 0 t.line (N.out.alloc _) (Nat.le_refl _) hr ah (zK.one 45 (c:=[.int .i64 a,.string b,.int .i64 c,.slice G H I,.int .i64 l]) ab.out rfl T) (by omega) (U.keep (Below.heap_alloc _ _ _ (by have:=N.out.size;omega)) (Below.heap_alloc _ _ _ (by have:=N.out.size;omega)))
  generalize set5 (y.alloc (.cells #[.int .i64 a,.string b,.int .i64 c,.slice G H I,.int .i64 l] 45)) w.heap.size (.int .i64 6) (.string (zb t.s)) (.int .i64 0) (.slice (some ⟨y.heap.size,0,none⟩) 1 1) (.int .i64 t.line)=W at *;have HP:Hid (zJ r g w (UD t (.ok (x,us))) (.returned (.agg #[.int .i64 6,.string (zb t.s),.int .i64 0,.slice (some ⟨y.heap.size,0,none⟩) 1 1,.int .i64 t.line])) W):=hp;clear hp p5 ae U q0 q1 q2 q3 q4 qf ak al aj ai am an Q R ag aa c1 c3 J N T ab ad L X ap;go_wp2
  exact bodyPost_ret (v:=.agg #[.int .i64 6,.string (zb t.s),.int .i64 0,.slice (some ⟨y.heap.size,0,none⟩) 1 1,.int .i64 t.line]) (by simp [results,Tryz.results123,go_sem,z0,z1,z2,z3,z4]) rfl HP.out
end Go.Proofs.YtcphojjpapgblaaGreatDoor
