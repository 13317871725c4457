import Derived.Test.YtpejpbbdgblbeaaGreatDoorMC14
import Derived.Maps.AppendAt
namespace Go.Proofs.YtpejpbbdgblbeaaGreatDoor
open Go.RowKit Go.Shelf
set_option maxHeartbeats 16000000
set_option maxRecDepth 100000
theorem zE (t:Tk) (ts:List Tk):zv (t::ts)=t:=by unfold zv;rfl
def Yn (t:Tk) (ts:List Tk) (res:PR (List Ex)):PR (List Ex) :=
 if zm t [40]=true then
  if zm (zv ts) [41]=true then .ok ([],ts.tail) else
  match res with
  | .error a=>.error a
  | .ok (l,us)=>if zm (zv us) [41]=true then .ok (l,us.tail) else .error (zv us).at0
 else .error t.at0
theorem Vi (r g o cap:Nat) (f:Value) (t:Tk) (ts:List Tk) (w:World) (res:PR (List Ex)) (h:zg r g o cap (t::ts) w) (hE:zi (t::ts)) (hEnd:∀l us,res=.ok (l,us)→zi us)
  (hrow:zm t [40]=true→zm (zv ts) [41]=false→∀G o1 cap1,zg r g o1 cap1 ts G→zd r w G→Calls Tryz.prog 196 #[.pointer (some ⟨r,0,none⟩),f] G (vS r g G res)) :
  Calls Tryz.prog 195 #[.pointer (some ⟨r,0,none⟩),f] w (vS r g w (Yn t ts res)):=by
 have hr:=h.lt.1;have L:=yJ r g o cap t ts [40] w h (fun hi=>(hE.tail (zj hi)).ne)
 clear h
 unfold Yn
 by_cases hi:zm t [40]=true
 ·simp only [if_pos hi] at L ⊢
  have V:=hE.tail (zj hi);obtain ⟨t1,I,rfl⟩:=V.cons;simp only [zE,List.tail_cons] at hrow ⊢
  by_cases hj:zm t1 [41]=true
  ·simp only [if_pos hj]
   clear hrow hEnd
   go_enter Tryz.func195,Tryz.ntmps195
   go_wp2_with fail
   refine L.mono ?_;clear L;rintro e G ⟨y,rfl,h1⟩;have O:=Zx r g _ _ t1 I [41] G h1 (fun hi=>(V.tail (zj hi)).ne)
   have T:Hid (zd r w G):=y;rw [hj] at O;clear h1 y;go_wp2_with fail
   refine O.mono ?_;clear O;rintro e w2 ⟨rfl,H,h2⟩;have J:Hid (zd r w w2):=T.out.trans H;have ab:zg r g (o+5+5) (cap-1-1) I w2:=by simpa using h2
   have ah:Hid (zg r g (o+5+5) (cap-1-1) I w2):=ab;clear h2 ab H;go_wp2
   refine bodyPost_ret (v:=.slice none 0 0) (by simp [results,Tryz.results195,go_sem]) rfl ⟨J.out,_,_,_,rfl,.inl ⟨rfl,rfl⟩,ah.out⟩
  ·have Y:zm t1 [41]=false:=by simpa using hj
   simp only [if_neg hj]
   go_enter Tryz.func195,Tryz.ntmps195
   go_wp2_with fail
   refine L.mono ?_;clear L;rintro e G ⟨y,rfl,h1⟩;have O:=Zx r g _ _ t1 I [41] G h1 (fun hi=>(V.tail (zj hi)).ne)
   have T:Hid (zd r w G):=y;rw [Y] at O;clear h1 y;go_wp2_with fail
   refine O.mono ?_;clear O;rintro e w2 ⟨rfl,H,h2⟩;have Q:zd r w w2:=T.out.trans H;have J:Hid (zd r w w2):=Q;have cr:=hrow hi Y w2 _ _ (by simpa using h2) Q
   clear h2 H Q hrow;go_wp2_with fail
   refine cr.mono ?_;clear cr;rintro e w3 ⟨af,D⟩;have R:Hid (zd r w w3):=J.out.trans af;rcases res with a | ⟨l,us⟩
   ·obtain rfl:=D
    exact ⟨rfl,R.out,rfl⟩
   ·obtain ⟨v,o3,N,rfl,aa,ae⟩:=D
    have W:=hEnd l us rfl;obtain ⟨t3,Z,rfl⟩:=W.cons;have z:=yJ r g o3 N t3 Z [41] w3 ae (fun hi=>(W.tail (zj hi)).ne)
    have ag:w.heap.size≤w2.heap.size:=J.out.size;have al:r<w2.heap.size:=by omega
    have ad:Hid (yW w2.heap.size w3 l v):=aa;clear ae aa af hEnd
    by_cases hm:zm t3 [41]=true
    ·simp only [if_pos hm] at z
     go_wp2_with fail
     refine z.mono ?_;clear z;rintro e w4 ⟨A,rfl,h4⟩;have ak:Hid (zd r w w4):=R.out.trans A;have U:Hid (yW w2.heap.size w4 l v):=ad.out.kept A.size fun k hB hlt=>A.block k hlt (by omega)
     have aj:Hid (zg r g (o3+5) (N-1) Z w4):=h4;clear A h4;go_wp2
     refine bodyPost_ret (v:=v) (by simp [results,Tryz.results195,go_sem]) rfl ⟨ak.out,_,_,_,rfl,U.out.mono ag,aj.out⟩
    ·simp only [if_neg hm] at z
     have ai:zm t3 [41]=false:=by simpa using hm
     go_wp2_with fail
     refine z.mono ?_;clear z;rintro e w4 ⟨A,rfl⟩;refine ⟨rfl,R.out.trans A,?_⟩;simp only [zE,ai,Bool.false_eq_true,if_false]
 ·simp only [if_neg hi] at L ⊢
  clear hrow hEnd
  go_enter Tryz.func195,Tryz.ntmps195
  go_wp2_with fail
  refine L.mono ?_;clear L;rintro e G ⟨y,rfl⟩;exact ⟨rfl,y,rfl⟩
def Yb {α:Type} (p:Nat→Option (PR α)) (n:Nat):Prop:=∃f r,(∀k,p (f+k)=some r)∧∀x us,r=.ok (x,us)→us.length≤n
theorem YF {ts:List Tk} (h:(zv ts).k≠0):ts.tail.length+1=ts.length:=by
 cases ts with
 | nil=>exact absurd rfl h
 | cons t us=>simp
theorem Zf {ts:List Tk} {s:List UInt8} (h:zm (zv ts) s=true):ts.tail.length+1=ts.length:=YF (zj h)
theorem Yb.then {α β:Type} {p:Nat→Option (PR α)} {q:Nat→α→List Tk→Option (PR β)} {n m:Nat} (h:Yb p n) (hq:∀x us,us.length≤n→Yb (fun f=>q f x us) m):Yb (fun f=>zh (p f) (q f)) m:=by
 obtain ⟨f,r,A,H⟩:=h;cases r with
 | error a=>exact ⟨f,.error a,fun k=>by simp [zh,A k],fun x us h=>by cases h⟩
 | ok y =>
  obtain ⟨g,s,D,G⟩:=hq y.1 y.2 (H _ _ rfl);refine ⟨f+g,s,fun k=>?_,G⟩
  have z:=A (g+k);have o:=D (f+k);rw [show f+(g+k)=f+g+k by omega] at z
  rw [show g+(f+k)=f+g+k by omega] at o
  simp only [zh,z];exact o
theorem ZD {α:Type} (x:α) (us:List Tk) {n:Nat} (h:us.length≤n):Yb (fun _=>(some (.ok (x,us)):Option (PR α))) n:=⟨0,.ok (x,us),fun _=>rfl,fun y vs h'=>by cases h';exact h⟩
theorem YH (s:List UInt8) (ts:List Tk) {n:Nat} (h:ts.length≤n+1):Yb (fun _=>zR s ts) n:=by
 refine ⟨0,_,fun _=>rfl,fun x us h'=>?_⟩
 split at h'
 ·rename_i o;have:=Zf o;cases h';omega
 ·cases h'
theorem V9 (ts:List Tk) {n:Nat} (h:ts.length≤n+1):Yb (fun _=>Z3 ts) n:=by
 refine ⟨0,_,fun _=>rfl,fun x us h'=>?_⟩
 split at h'
 ·rename_i o;have:=YF (ts:=ts) (by omega);cases h';omega
 ·cases h'
theorem Yb.step {α:Type} {p q:Nat→Option (PR α)} {n:Nat} (h:Yb q n) (hp:∀f,p (f+1)=q f):Yb p n:=by
 obtain ⟨f,r,y,o⟩:=h;exact ⟨f+1,r,fun k=>by rw [show f+1+k=f+k+1 by omega,hp];exact y k,o⟩
theorem Yb.le {α:Type} {p:Nat→Option (PR α)} {n m:Nat} (h:Yb p n) (hm:n≤m):Yb p m:=by
 obtain ⟨f,r,y,o⟩:=h;exact ⟨f,r,y,fun x us h=>Nat.le_trans (o x us h) hm⟩
theorem Uz {α:Type} (a:Nat) (n:Nat):Yb (fun _=>(some (.error a):Option (PR α))) n:=⟨0,.error a,fun _=>rfl,fun _ _ h=>by cases h⟩
theorem XY (n:Nat):∀ts:List Tk,ts.length≤n→(∀o,Yb (fun f=>zf f o ts) (n-1))∧(∀pre,Yb (fun f=>ZY f pre ts) (n-1))∧(∀o e,Yb (fun f=>Zp f o e ts) n)∧(∀e,Yb (fun f=>zw f e ts) n)∧Yb (fun f=>zA f ts) (n-1)∧Yb (fun f=>Zg f ts) (n-1):=by
 induction n with
 | zero =>
  intro ts D;obtain rfl:ts=[]:=List.length_eq_zero_iff.1 (by omega)
  have I:Yb (fun f=>zC f []) 0:=(Uz 0 0).step fun f=>by simp [zC,zv,zm,zh,zR]
  have O:∀e,Yb (fun f=>zw f e []) 0:=fun e=>(ZD e [] (n:=0) (by simp)).step fun f=>by simp [zw,zv,zm]
  have G:∀o e,Yb (fun f=>Zp f o e []) 0:=fun o e=>(ZD e [] (n:=0) (by simp)).step fun f=>by simp [Zp,zv]
  have A:Yb (fun f=>Zg f []) 0:=(I.then (q:=fun f e ts=>zw f e ts) (m:=0) fun e us hu=>by
   obtain rfl:us=[]:=List.length_eq_zero_iff.1 (by omega)
   exact O e).step fun f=>by simp [Zg,zv]
  have z:∀d o,7-o≤d→Yb (fun f=>zf f o []) 0:=fun d=>by
   induction d with
   | zero=>intro o hd;exact A.step fun f=>by rw [zf,if_pos (by omega)]
   | succ d ih =>
    intro o hd
    by_cases hc:6<o
    ·exact A.step fun f=>by rw [zf,if_pos hc]
    ·exact ((ih (o+1) (by omega)).then (q:=fun f e ts=>Zp f o e ts) (m:=0) fun e us hu=>by
      obtain rfl:us=[]:=List.length_eq_zero_iff.1 (by omega)
      exact G o e).step fun f=>by rw [zf,if_neg hc]
  refine ⟨fun o=>z _ o (Nat.le_refl _),fun pre=>?_,G,O,?_,A⟩
  ·exact ((z _ 1 (Nat.le_refl _)).then (q:=fun f e ts=>if zm (zv ts) [44]=true then ZY f (pre++[e]) ts.tail else some (.ok (pre++[e],ts))) (m:=0) fun e us hu=>by
    obtain rfl:us=[]:=List.length_eq_zero_iff.1 (by omega)
    simpa [zv,zm] using ZD (pre++[e]) [] (n:=0) (by simp)).step fun f=>by rw [ZY]
  ·exact (Uz 0 0).step fun f=>by simp [zA,zv,zm,zh,zR]
 | succ n ih =>
  intro ts D;have B:=fun ts h o=>(ih ts h).1 o
  have N:=fun ts h pre=>(ih ts h).2.1 pre
  have M:=fun ts h o e=>(ih ts h).2.2.1 o e
  have H:=fun ts h e=>(ih ts h).2.2.2.1 e
  have Q:=fun ts h=>(ih ts h).2.2.2.2.1
  have R:=fun ts h=>(ih ts h).2.2.2.2.2
  have J:Yb (fun f=>zA f ts) (n+1-1):=by
   refine ((YH [40] ts (n:=n) D).then (q:=fun f _ ts=>if zm (zv ts) [41]=true then some (.ok ([],ts.tail)) else zh (ZY f [] ts) fun l ts=>zh (zR [41] ts) fun _ ts=>some (.ok (l,ts))) (m:=n) fun _ us hu=>?_).step fun f=>by rw [zA]
   by_cases hc:zm (zv us) [41]=true
   ·simp only [if_pos hc];exact ZD _ _ (by simp;omega)
   ·simp only [if_neg hc]
    exact (N us hu []).then (q:=fun _ l ts=>zh (zR [41] ts) fun _ ts=>some (.ok (l,ts))) fun l vs hv=>(YH [41] vs (n:=n) (by omega)).then (q:=fun _ _ ts=>some (.ok (l,ts))) fun _ xs hx=>ZD _ _ hx
  have G:∀o e,Yb (fun f=>Zp f o e ts) (n+1):=fun o e=>by
   by_cases hc:(zv ts).k=4∧levelOf (zv ts).s=o
   ·have y:=YF (ts:=ts) (by omega)
    exact ((B ts.tail (by omega) (o+1)).then (q:=fun f e2 ts'=>Zp f o (Ex.mk 7 (zv ts).s 0 [e,e2] e.line) ts') (m:=n+1) fun e2 us hu=>(M us (by omega) o _).le (by omega)).step fun f=>by rw [Zp,if_pos hc]
   ·exact (ZD e ts D).step fun f=>by rw [Zp,if_neg hc]
  have L:∀e,Yb (fun f=>zw f e ts) (n+1):=fun e=>by
   by_cases hc:zm (zv ts) [91]=true
   ·have y:=Zf hc
    exact ((B ts.tail (by omega) 1).then (q:=fun f i ts=>zh (zR [93] ts) fun _ ts=>zw f (Ex.mk 8 [] 0 [e,i] e.line) ts) (m:=n+1) fun i us hu =>
     (YH [93] us (n:=n) (by omega)).then (q:=fun f _ ts=>zw f (Ex.mk 8 [] 0 [e,i] e.line) ts) fun _ vs hv=>(H vs hv _).le (by omega)).step fun f=>by rw [zw,if_pos hc]
   ·by_cases hd:zm (zv ts) [46]=true
    ·have y:=Zf hd
     exact ((V9 ts.tail (n:=n) (by omega)).then (q:=fun f s ts=>zw f (Ex.mk 9 s 0 [e] e.line) ts) (m:=n+1) fun s us hu=>(H us hu _).le (by omega)).step fun f=>by rw [zw,if_neg hc,if_pos hd]
    ·exact (ZD e ts D).step fun f=>by rw [zw,if_neg hc,if_neg hd]
  have I:Yb (fun f=>zC f ts) n:=by
   by_cases c1:(zv ts).k=2
   ·have y:=YF (ts:=ts) (by omega)
    exact (ZD (Ex.mk 1 [] (zv ts).n [] (zv ts).line) ts.tail (n:=n) (by omega)).step fun f=>by rw [zC,if_pos c1]
   by_cases c2:(zv ts).k=3
   ·have y:=YF (ts:=ts) (by omega)
    exact (ZD (Ex.mk 3 (zv ts).s 0 [] (zv ts).line) ts.tail (n:=n) (by omega)).step fun f=>by rw [zC,if_neg c1,if_pos c2]
   by_cases c3:(zv ts).k=1
   ·have y:=YF (ts:=ts) (by omega)
    by_cases d:zm (zv ts.tail) [40]=true
    ·exact ((Q ts.tail (by omega)).then (q:=fun _ l ts'=>some (.ok (Ex.mk 5 (zv ts).s 0 l (zv ts).line,ts'))) (m:=n) fun l us hu=>ZD _ _ (by omega)).step fun f=>by rw [zC,if_neg c1,if_neg c2,if_pos c3,if_pos d]
    ·exact (ZD (Ex.mk 4 (zv ts).s 0 [] (zv ts).line) ts.tail (n:=n) (by omega)).step fun f=>by rw [zC,if_neg c1,if_neg c2,if_pos c3,if_neg d]
   by_cases c4:zm (zv ts) [116,114,117,101]=true
   ·have y:=Zf c4
    exact (ZD (Ex.mk 2 [] 1 [] (zv ts).line) ts.tail (n:=n) (by omega)).step fun f=>by rw [zC,if_neg c1,if_neg c2,if_neg c3,if_pos c4]
   by_cases c5:zm (zv ts) [102,97,108,115,101]=true
   ·have y:=Zf c5
    exact (ZD (Ex.mk 2 [] 0 [] (zv ts).line) ts.tail (n:=n) (by omega)).step fun f=>by rw [zC,if_neg c1,if_neg c2,if_neg c3,if_neg c4,if_pos c5]
   by_cases c6:zm (zv ts) [110,101,119]=true
   ·have y:=Zf c6
    exact ((V9 ts.tail (n:=n) (by omega)).then (q:=fun f s ts'=>zh (zA f ts') fun l ts'=>some (.ok (Ex.mk 11 s 0 l (zv ts).line,ts'))) (m:=n) fun s us hu =>
     (Q us hu).then (q:=fun _ l ts'=>some (.ok (Ex.mk 11 s 0 l (zv ts).line,ts'))) fun l vs hv=>ZD _ _ (by omega)).step fun f=>by rw [zC,if_neg c1,if_neg c2,if_neg c3,if_neg c4,if_neg c5,if_pos c6]
   by_cases c7:zm (zv ts) [91]=true
   ·have y:=Zf c7
    exact ((N ts.tail (by omega) []).then (q:=fun _ l ts'=>zh (zR [93] ts') fun _ ts'=>some (.ok (Ex.mk 10 [] 0 l (zv ts).line,ts'))) (m:=n) fun l us hu =>
     (YH [93] us (n:=n) (by omega)).then (q:=fun _ _ ts'=>some (.ok (Ex.mk 10 [] 0 l (zv ts).line,ts'))) fun _ vs hv=>ZD _ _ (by omega)).step fun f=>by rw [zC,if_neg c1,if_neg c2,if_neg c3,if_neg c4,if_neg c5,if_neg c6,if_pos c7]
   ·exact ((YH [40] ts (n:=n) D).then (q:=fun f _ ts=>zh (zf f 1 ts) fun e ts=>zh (zR [41] ts) fun _ ts=>some (.ok (e,ts))) (m:=n) fun _ us hu =>
     (B us hu 1).then (q:=fun _ e ts=>zh (zR [41] ts) fun _ ts=>some (.ok (e,ts))) fun e vs hv=>(YH [41] vs (n:=n) (by omega)).then (q:=fun _ _ ts=>some (.ok (e,ts))) fun _ xs hx=>ZD _ _ hx).step fun f=>by rw [zC,if_neg c1,if_neg c2,if_neg c3,if_neg c4,if_neg c5,if_neg c6,if_neg c7]
  have A:Yb (fun f=>Zg f ts) n:=by
   by_cases hc:(zv ts).k=4∧((zv ts).s=[45]∨(zv ts).s=[33])
   ·have y:=YF (ts:=ts) (by omega)
    exact ((R ts.tail (by omega)).then (q:=fun _ e ts'=>some (.ok (Ex.mk 6 (zv ts).s 0 [e] (zv ts).line,ts'))) (m:=n) fun e us hu=>ZD _ _ (by omega)).step fun f=>by rw [Zg,if_pos hc]
   ·exact (I.then (q:=fun f e ts=>zw f e ts) (m:=n) fun e us hu=>H us hu e).step fun f=>by rw [Zg,if_neg hc]
  have z:∀d o,7-o≤d→Yb (fun f=>zf f o ts) n:=fun d=>by
   induction d with
   | zero=>intro o hd;exact A.step fun f=>by rw [zf,if_pos (by omega)]
   | succ d ih =>
    intro o hd
    by_cases hc:6<o
    ·exact A.step fun f=>by rw [zf,if_pos hc]
    ·exact ((ih (o+1) (by omega)).then (q:=fun f e ts=>Zp f o e ts) (m:=n) fun e us hu=>M us hu o e).step fun f=>by rw [zf,if_neg hc]
  refine ⟨fun o=>z _ o (Nat.le_refl _),fun pre=>?_,G,L,J,A⟩
  refine ((z _ 1 (Nat.le_refl _)).then (q:=fun f e ts=>if zm (zv ts) [44]=true then ZY f (pre++[e]) ts.tail else some (.ok (pre++[e],ts))) (m:=n) fun e us hu=>?_).step fun f=>by rw [ZY]
  by_cases hc:zm (zv us) [44]=true
  ·simp only [if_pos hc]
   have y:=Zf hc;exact (N us.tail (by omega) (pre++[e])).le (by omega)
  ·simp only [if_neg hc]
   exact ZD _ _ hu
structure yd {α:Type} (E:(Nat→Prop)→World→α→List Value→Prop):Prop where
 kept:∀{S:Nat→Prop} {w w':World} {x:α} {c:List Value},E S w x c→w.heap.size≤w'.heap.size→(∀k,S k→k<w.heap.size→w'.heap[k]?=w.heap[k]?)→E S w' x c
 wide:∀{S S':Nat→Prop} {w:World} {x:α} {c:List Value},E S w x c→(∀k,S k→S' k)→E S' w x c
 low:∀{S:Nat→Prop} {w:World} {x:α} {c:List Value},E S w x c→E (fun k=>S k∧k<w.heap.size) w x c
structure Zj {α:Type} (E:(Nat→Prop)→World→α→List Value→Prop) (sz ty B:Nat) (w:World) (l:List α) (v:Value) (g cap:Nat) (us:List (List Value)):Prop where
 val:v=.slice (some ⟨g,0,none⟩) l.length cap
 ne:l≠[]
 own:w.ownsRow B ty sz v l.length us.flatten
 len:us.length=l.length
 wid:∀c∈us,c.length=sz
 kids:∀(j:Nat) (x:α) (c:List Value),l[j]?=some x→us[j]?=some c→E (fun k=>B≤k∧k≠g) w x c
theorem Zj.block {α:Type} {E:(Nat→Prop)→World→α→List Value→Prop} {sz ty B:Nat} {w:World} {l:List α} {v:Value} {g cap:Nat} {us:List (List Value)} (h:Zj E sz ty B w l v g cap us):B≤g∧g<w.heap.size∧l.length≤cap∧cap≤maxLen:=by
 have y:=h.own.lt g (by rw [h.val];rfl)
 refine ⟨y.1,y.2,?_⟩;rcases h.own.2 with ⟨o,_⟩ | ⟨H,z,G,o,_,_,D,A,_⟩
 ·rw [h.val] at o;cases o
 ·rw [h.val] at o
  cases o
  exact ⟨D,A⟩
theorem Zj.kept {α:Type} {E:(Nat→Prop)→World→α→List Value→Prop} (L:yd E) {sz ty B:Nat} {w w':World} {l:List α} {v:Value} {g cap:Nat} {us:List (List Value)} (h:Zj E sz ty B w l v g cap us)
  (hs:w.heap.size≤w'.heap.size) (hb:∀k,B≤k→k<w.heap.size→w'.heap[k]?=w.heap[k]?):Zj E sz ty B w' l v g cap us where
 val:=h.val
 ne:=h.ne
 own:=by
  refine ⟨h.own.1,?_⟩;rcases h.own.2 with z | ⟨G,o,y,z,A,D,H⟩
  ·exact .inl z
  ·exact .inr ⟨G,o,y,z,A,(hb G A (Array.getElem?_eq_some_iff.1 D).1).trans D,H⟩
 len:=h.len
 wid:=h.wid
 kids:=fun j x c hx hc=>L.kept (h.kids j x c hx hc) hs fun k hk hlt=>hb k hk.1 hlt
theorem Zj.first {α:Type} {E:(Nat→Prop)→World→α→List Value→Prop} (L:yd E) {sz ty B:Nat} {w:World} {x:α} {c:List Value} (hx:E (fun k=>B≤k) w x c) (hc:c.length=sz) (hB:B≤w.heap.size) :
  Zj E sz ty B (w.alloc (.cells c.toArray ty)) [x] (.slice (some ⟨w.heap.size,0,none⟩) 1 1) w.heap.size 1 [c] where
 val:=rfl
 ne:=by simp
 own:=by
  refine ⟨by simp [hc],.inr ⟨w.heap.size,1,c.toArray,rfl,hB,World.alloc_heap_new _ _,Nat.le_refl _,by simp [maxLen],by simp [hc],?_⟩⟩
  simp [hc,List.take_of_length_le]
 len:=rfl
 wid:=by simp [hc]
 kids:=fun j y d hy hd=>by
  cases j with
  | succ j=>simp at hy
  | zero =>
   simp only [List.getElem?_cons_zero,Option.some.injEq] at hy hd;subst hy hd;exact L.wide (L.kept (L.low hx) (by simp) fun k hk _=>Below.heap_alloc _ _ _ hk.2) fun k hk=>⟨hk.1,by omega⟩
theorem Zj.snoc {α:Type} {E:(Nat→Prop)→World→α→List Value→Prop} (L:yd E) {sz ty B:Nat} {w w':World} {l:List α} {v v':Value} {g cap:Nat} {us:List (List Value)} (h:Zj E sz ty B w l v g cap us) {x:α} {c:List Value} {ob:Obj}
  (hx:E (fun k=>B≤k∧k≠g) w x c) (hc:c.length=sz) (ho:w'.ownsRow B ty sz v' (l.length+1) (us.flatten++c)) (hg:(w.alloc ob).grownBy w' v.ownBlock) (ha:v'.ownBlock=v.ownBlock∨v'.ownBlock=some (w.alloc ob).heap.size) :
  ∃o cap',Zj E sz ty B w' (l++[x]) v' o cap' (us++[c])∧(o=g∨w.heap.size≤o):=by
 have R:=h.block;have I:v.ownBlock=some g:=by rw [h.val];rfl
 rw [I] at hg ha
 obtain ⟨o,cap',D⟩:∃o cap',v'=.slice (some ⟨o,0,none⟩) (l.length+1) cap':=by
  rcases ho.2 with ⟨_,G⟩ | ⟨o,cap',_,O,_⟩
  ·omega
  ·exact ⟨o,cap',O⟩
 have J:o=g∨o=(w.alloc ob).heap.size:=by
  rw [D] at ha
  simpa [Value.ownBlock] using ha
 have Q:(w.alloc ob).heap.size=w.heap.size+1:=by simp
 have N:w.heap.size≤w'.heap.size:=by have:=hg.size;omega
 have A:∀k,k≠g→k<w.heap.size→w'.heap[k]?=w.heap[k]?:=fun k hk hlt=>(hg.block k (by omega) (by simpa using hk)).trans (Below.heap_alloc _ _ _ hlt)
 have z:∀y d,E (fun k=>B≤k∧k≠g) w y d→E (fun k=>B≤k∧k≠o) w' y d:=fun y d hy =>
  L.wide (L.kept (L.low hy) N fun k hk _=>A k hk.1.2 hk.2) fun k hk=>⟨hk.1.1,by omega⟩
 refine ⟨o,cap',⟨by rw [D,List.length_append];rfl,by simp,?_,by simp [h.len],?_,fun j y d hy hd=>?_⟩,by omega⟩
 ·rw [List.length_append,List.flatten_append]
  simpa using ho
 ·intro d hd
  rcases List.mem_append.1 hd with hd | hd
  ·exact h.wid d hd
  ·simp only [List.mem_singleton] at hd;rw [hd];exact hc
 ·rw [List.getElem?_append] at hy hd
  rw [h.len] at hd
  split at hy
  ·rename_i H
   rw [if_pos H] at hd;exact z y d (h.kids j y d hy hd)
  ·rename_i H
   rw [if_neg H] at hd
   have:j-l.length=0:=by
    rcases Nat.eq_zero_or_pos (j-l.length) with G | G
    ·exact G
    ·rw [List.getElem?_eq_none (by simp;omega)] at hy;cases hy
   rw [this] at hy hd;simp only [List.getElem?_cons_zero,Option.some.injEq] at hy hd;subst hy hd;exact z _ _ hx
def ExE (S:Nat→Prop) (w:World) (x:Ex) (c:List Value):Prop:=zZ S w x (.agg c.toArray)
theorem xe:yd ExE:=⟨fun h hs hb=>zZ.kept h hs hb,fun h hS=>zZ.wide h hS,fun h=>zZ.low h⟩
theorem Zj.row {ty B:Nat} {w:World} {l:List Ex} {v:Value} {g cap:Nat} {us:List (List Value)} (h:Zj ExE 5 ty B w l v g cap us):yW B w l v:=by
 have o:=h.block;refine .inr ⟨g,cap,us,h.val,h.ne,h.len,o.1,o.2.1,o.2.2.1,o.2.2.2,fun j u hj=>?_,h.wid,fun j x c y hc=>zZ.wide (h.kids j x c y hc) fun k hk=>hk.1⟩
 have y:=h.own.cells (g:=g) (by rw [h.val];rfl) j u hj
 by_cases h0:j=0
 ·subst h0;simpa [Addr.add] using y
 ·simpa [Addr.add,h0] using y
theorem Yv {f least:Nat} {ts us:List Tk} {x:Ex} (h:zf f least ts=some (.ok (x,us))):us.length≤ts.length-1:=by
 obtain ⟨A,z,y,o⟩:=(XY ts.length ts (Nat.le_refl _)).1 least;exact o x us (vR (y 0) h)
def u7 (f:Nat) (l:List Ex) (ts:List Tk):Option (PR (List Ex)):=if zm (zv ts) [44]=true then ZY f l ts.tail else some (.ok (l,ts))
def ZP (r:Nat) (w:World):Nat:=match w.cell? ⟨r,0,none⟩ with | some (.slice _ n _)=>n | _=>0
theorem zg.left {r g o cap:Nat} {ts:List Tk} {w:World} (h:zg r g o cap ts w):ZP r w=ts.length:=by unfold ZP;rw [h.cell]
theorem zd.grown {r:Nat} {w w1 w2:World} {row:Option Nat} (h:zd r w w1) (hg:w1.grownBy w2 row) (hrow:∀k,row=some k→w.heap.size≤k):zd r w w2 :=
 ⟨hg.os.trans h.os,hg.tape.trans h.tape,hg.output.trans h.output,Nat.le_trans h.size hg.size,fun k hk hr=>(hg.block k (Nat.lt_of_lt_of_le hk h.size) fun e=>by have:=hrow k e.symm;omega).trans (h.block k hk hr)⟩
theorem qX:(Tryz.prog.info? 45).map (fun i=>(i.zero,i.size,i.bytes))=some (some (.agg #[.int .i64 0,.string ⟨#[]⟩,.int .i64 0,.slice none 0 0,.int .i64 0]),5,64):=by kernel_rfl
theorem ziC (r g o cap F:Nat) (ts:List Tk) (w:World) (res:PR (List Ex)) (h:zg r g o cap ts w) (hE:zi ts) (hN:ts.length≤1099511627776) (hp:ZY (F+1) [] ts=some res)
  (hone:∀N o1 z y r1,zf F 1 y=some r1→zi y→y.length≤1099511627776→zg r g o1 z y N→zd r w N→Calls Tryz.prog 44 #[.pointer (some ⟨r,0,none⟩)] N (zJ r g N r1)) :
  Calls Tryz.prog 196 #[.pointer (some ⟨r,0,none⟩),.func (.func 44) #[.pointer (some ⟨r,0,none⟩)] #[]] w (vS r g w res):=by
 obtain ⟨i0,aK,aM,aO,aI⟩:=info_parts qX;obtain ⟨t0,aA,rfl⟩:=hE.cons;have hr:=h.lt.1;have aW:=h.lt.2;rw [ZY] at hp;cases hb:zf F 1 (t0::aA) with
 | none=>rw [hb] at hp;cases hp
 | some r1 =>
  have c1:=hone w o cap (t0::aA) r1 hb hE hN h (zd.refl r w);rw [hb] at hp;simp only [zh] at hp
  go_enter Tryz.func196,Tryz.ntmps196
  go_wp2_with fail
  refine c1.mono ?_;clear c1;rintro e N ⟨ai,A⟩;rcases r1 with a | ⟨x,us⟩
  ·obtain rfl:=A
   simp only [Option.some.injEq] at hp;subst hp;exact ⟨rfl,ai,rfl⟩
  ·obtain ⟨v,o1,z,rfl,hx,ab⟩:=A
   obtain ⟨a,b,c,d0,d1,d2,l,rfl⟩:=hx.agg;have ao:=(Zi F).1 _ _ _ _ hb hE;have ax:=Yv hb;have HP:Hid (u7 F [x] us=some res):=hp;obtain ⟨t1,y,rfl⟩:=ao.cons
   have aB:Hid (Zj ExE 5 45 w.heap.size (N.alloc (.cells #[.int .i64 a,.string b,.int .i64 c,.slice d0 d1 d2,.int .i64 l] 45)) [x] (.slice (some ⟨N.heap.size,0,none⟩) 1 1) N.heap.size 1 [[.int .i64 a,.string b,.int .i64 c,.slice d0 d1 d2,.int .i64 l]]) :=
    Zj.first xe (c:=[.int .i64 a,.string b,.int .i64 c,.slice d0 d1 d2,.int .i64 l]) (show zZ _ _ _ _ from hx) rfl ai.size
   have aF:Hid (zg r g o1 z (t1::y) (N.alloc (.cells #[.int .i64 a,.string b,.int .i64 c,.slice d0 d1 d2,.int .i64 l] 45))):=ab.alloc _;have aG:Hid (zd r w (N.alloc (.cells #[.int .i64 a,.string b,.int .i64 c,.slice d0 d1 d2,.int .i64 l] 45))):=ai.alloc _;have aw:Hid (zi (t1::y)):=ao;have hn:y.length+2≤1099511627776:=by simp only [List.length_cons] at ax hN;omega
   have aD:Hid (∀N o1 z y r1,zf F 1 y=some r1→zi y→y.length≤1099511627776→zg r g o1 z y N→zd r w N→Calls Tryz.prog 44 #[.pointer (some ⟨r,0,none⟩)] N (zJ r g N r1)):=hone;clear hx ab ai ao hone hp hb hE hN h ax;go_wp2_with fail
   go_loopw [5] (fun v wr=>∃(L:List Ex) (g1 z:Nat) (us:List (List Value)) (o2 Q:Nat) (V:List Tk) (f2:Nat),f2≤F∧u7 f2 L V=some res∧zi V∧L.length+V.length≤1099511627776∧Zj ExE 5 45 w.heap.size wr L v g1 z us∧zg r g o2 Q V wr∧zd r w wr) (fun _ wr=>ZP r wr)
   case atStart=>exact ⟨[x],_,_,_,o1,z,t1::y,F,Nat.le_refl _,HP.out,aw.out,by simp only [List.length_cons,List.length_nil];omega,aB.out,aF.out,aG.out⟩
   case round =>
    obtain ⟨L,g1,cp1,us,o2,Q,V,f2,aT,G,W,ah,O,R,au⟩:=hrel;clear HP aB aF aG aw hn;obtain ⟨t2,Y,rfl⟩:=W.cons;have cs:=Zx r g o2 Q t2 Y [44] wr R (fun hi=>(W.tail (zj hi)).ne)
    have aq:=R.left;have T:Hid (Zj ExE 5 45 w.heap.size wr L _ g1 cp1 us):=O;have ar:Hid (zd r w wr):=au;have aC:=O.val;subst aC
    unfold u7 at G
    simp only [zE,List.tail_cons] at G
    by_cases hi:zm t2 [44]=true
    ·rw [hi] at cs
     rw [if_pos hi] at G;have av:=W.tail (zj hi);clear O au R W;go_wp2_with fail
     refine cs.mono ?_;clear cs;rintro e w3 ⟨rfl,D,h3⟩;simp only [if_true] at h3;have an:zd r w w3:=ar.out.trans D;have I:=T.out.kept xe D.size fun k hB hlt=>D.block k hlt (by omega)
     cases f2 with
     | zero=>simp [ZY] at G
     | succ f3 =>
      rw [ZY] at G;cases hb3:zf f3 1 Y with
      | none=>rw [hb3] at G;cases G
      | some r3 =>
       rw [hb3] at G;simp only [zh] at G
       have ak:zf F 1 Y=some r3:=by
        have:=YU (k:=F-f3) hb3
        rwa [show f3+(F-f3)=F by omega] at this
       have c3:=aD.out w3 _ _ Y r3 ak av (by simp only [List.length_cons] at ah;omega) h3 an
       have aX:=I.block;have J:Hid (Zj ExE 5 45 w.heap.size w3 L _ g1 cp1 us):=I;have af:Hid (zd r w w3):=an;clear I an D h3 T ar;go_wp2_with fail
       refine c3.mono ?_;clear c3;rintro e w4 ⟨ad,A⟩;have ae:Hid (zd r w w4):=af.out.trans ad;rcases r3 with a | ⟨x3,ag⟩
       ·obtain rfl:=A
        simp only [Option.some.injEq] at G;subst G;exact ⟨rfl,ae.out,rfl⟩
       ·obtain ⟨v,o4,U,rfl,hx,ab⟩:=A
        obtain ⟨a4,b4,c4,p4,q4,s4,l4,rfl⟩:=hx.agg;have H:=J.out.kept xe ad.size fun k hB hlt=>ad.block k hlt (by omega)
        have aE:ExE (fun k=>w.heap.size≤k∧k≠g1) w4 x3 [.int .i64 a4,.string b4,.int .i64 c4,.slice p4 q4 s4,.int .i64 l4]:=zZ.wide hx fun k hk=>⟨Nat.le_trans af.out.size hk,by omega⟩
        have aH:Hid (ExE (fun k=>w.heap.size≤k∧k≠g1) w4 x3 [.int .i64 a4,.string b4,.int .i64 c4,.slice p4 q4 s4,.int .i64 l4]):=aE
        have ap:Hid (Zj ExE 5 45 w.heap.size w4 L _ g1 cp1 us):=H;have aP:Hid (zg r g o4 U ag w4):=ab;have aN:=(Zi F).1 _ _ _ _ ak av;have aU:=Yv ak;have ay:=(H.own.alloc (.cells #[.int .i64 a4,.string b4,.int .i64 c4,.slice p4 q4 s4,.int .i64 l4] 45));have HT:Hid (u7 f3 (L++[x3]) ag=some res):=G;have aS:w.heap.size≤w4.heap.size:=ae.out.size;clear H aE hx ab G ad
        go_wp2_with (at_builtin;refine wpList_append_own_at _ rfl _ _ 43 rfl w.heap.size 45 i0 _ 5 64 Tryz.underlying43 aK aM aO aI rfl (by decide) _ _ _ rfl ay ⟨w4.heap.size,0,none⟩ 1 1 [.int .i64 a4,.string b4,.int .i64 c4,.slice p4 q4 s4,.int .i64 l4] rfl rfl (ZQ _ _ _) (by simp [Value.oneCell']) (by unfold maxLen;simp only [List.length_cons] at ah;omega) (by simp only [List.length_cons] at ah;omega) (by simp;omega) ?_;intro v' w5 al Z _ aJ)
        obtain ⟨g5,az,am,aY⟩:=ap.out.snoc xe aH.out rfl al Z aJ
        have aa:(w4.alloc (.cells #[.int .i64 a4,.string b4,.int .i64 c4,.slice p4 q4 s4,.int .i64 l4] 45)).grownBy w5 (some g1):=Z;have aQ:zd r w w5:=(ae.out.alloc _).grown aa fun k hk=>by have:=Option.some.inj hk;omega
        have aV:w.heap.size≤w4.heap.size:=ae.out.size;have aj:zg r g o4 U ag w5:=aP.out.keep ((aa.block r (by simp;omega) (fun e=>by have:=Option.some.inj e;omega)).trans (Below.heap_alloc _ _ _ (by omega))) ((aa.block g (by simp;omega) (fun e=>by have:=Option.some.inj e;omega)).trans (Below.heap_alloc _ _ _ (by omega)))
        refine ⟨⟨L++[x3],g5,az,_,o4,U,ag,f3,by omega,HT.out,aN,?_,am,aj,aQ⟩,?_⟩
        ·simp only [List.length_append,List.length_cons,List.length_nil] at ah ⊢;omega
        ·rw [aj.left,aq];simp only [List.length_cons];omega
    ·have aR:zm t2 [44]=false:=by simpa using hi
     rw [aR] at cs;rw [if_neg hi] at G;clear O au R W;go_wp2_with fail
     refine cs.mono ?_;clear cs;rintro e w3 ⟨rfl,D,h3⟩;have af:Hid (zd r w w3):=ar.out.trans D;have J:Hid (yW w.heap.size w3 L (.slice (some ⟨g1,0,none⟩) L.length cp1)):=(T.out.kept xe D.size fun k hB hlt=>D.block k hlt (by omega)).row
     have aL:Hid (zg r g o2 Q (t2::Y) w3):=show zg _ _ _ _ _ _ by simpa using h3
     simp only [Option.some.injEq] at G;subst G;clear D h3;go_wp2
     refine bodyPost_ret (v:=.slice (some ⟨g1,0,none⟩) L.length cp1) (by simp [results,Tryz.results196,go_sem]) rfl ⟨af.out,_,_,_,rfl,J.out,aL.out⟩
theorem zK.one {S:Nat→Prop} {w:World} {x:Ex} {c:List Value} (ty:Nat) (hx:zZ S w x (.agg c.toArray)) (hc:c.length=5) (hB:S w.heap.size):zK S (w.alloc (.cells c.toArray ty)) [x] (.slice (some ⟨w.heap.size,0,none⟩) 1 1):=by
 refine .inr ⟨w.heap.size,1,[c],rfl,by simp,rfl,hB,by simp,Nat.le_refl _,by simp [maxLen],fun j u hj=>?_,fun z hz=>?_,fun j z e hz he=>?_⟩
 ·have h:=ZQ w c ty j u (by simpa using hj)
  by_cases h0:j=0
  ·subst h0;simpa [Addr.add] using h
  ·simpa [Addr.add,h0] using h
 ·simp only [List.mem_cons,List.not_mem_nil,or_false] at hz
  subst hz;exact hc
 ·match j,hz,he with
  | 0,hz,he =>
   simp only [List.getElem?_cons_zero,Option.some.injEq] at hz he
   subst hz he;exact zZ.kept hx (by simp) fun k _ hlt=>Below.heap_alloc _ _ _ hlt
  | j+1,hz,he=>simp at hz
theorem zK.two {S:Nat→Prop} {w:World} {x y:Ex} {c d:List Value} (ty:Nat) (hx:zZ S w x (.agg c.toArray)) (hy:zZ S w y (.agg d.toArray)) (hc:c.length=5) (hd:d.length=5) (hB:S w.heap.size) :
  zK S (w.alloc (.cells (c++d).toArray ty)) [x,y] (.slice (some ⟨w.heap.size,0,none⟩) 2 2):=by
 refine .inr ⟨w.heap.size,2,[c,d],rfl,by simp,rfl,hB,by simp,Nat.le_refl _,by simp [maxLen],fun j u hj=>?_,fun z hz=>?_,fun j z e hz he=>?_⟩
 ·have h:=ZQ w (c++d) ty j u (by simpa using hj)
  by_cases h0:j=0
  ·subst h0;simpa [Addr.add] using h
  ·simpa [Addr.add,h0] using h
 ·simp only [List.mem_cons,List.not_mem_nil,or_false] at hz
  rcases hz with rfl | rfl <;> assumption
 ·have o:∀z e,zZ S w z (.agg e)→zZ S (w.alloc (.cells (c++d).toArray ty)) z (.agg e):=fun z e h=>zZ.kept h (by simp) fun k _ hlt=>Below.heap_alloc _ _ _ hlt
  match j,hz,he with
  | 0,hz,he =>
   simp only [List.getElem?_cons_zero,Option.some.injEq] at hz he;subst hz he;exact o _ _ hx
  | 1,hz,he =>
   simp only [List.getElem?_cons_succ,List.getElem?_cons_zero,Option.some.injEq] at hz he;subst hz he;exact o _ _ hy
  | j+2,hz,he=>simp at hz
theorem Xf {w:World} {N M j:Nat} {v:Value} (a b c d e:Value) (hne:M≠N) (h:w.cell? ⟨M,j,none⟩=some v):(set5 w N a b c d e).cell? ⟨M,j,none⟩=some v:=by
 exact (World.cell?_of_block (a:=⟨M,j,none⟩) (zu w N a b c d e hne)).trans h
theorem zJ.of_set5 {r g o cap N B:Nat} {w w5:World} {us:List Tk} {l:List Ex} {v:Value} (k:Nat) (s:List UInt8) (n:Int) (line:Nat) (hK:zd r w w5) (hN:w.heap.size≤N) (hr:r<w.heap.size) (hg:g<w.heap.size) (hrow:yW B w5 l v) (hB:N<B) (hrd:zg r g o cap us w5) :
  zJ r g w (.ok (.mk k s n l line,us)) (.returned (.agg #[.int .i64 k,.string (zb s),.int .i64 n,v,.int .i64 line])) (set5 w5 N (.int .i64 k) (.string (zb s)) (.int .i64 n) v (.int .i64 line)):=by
 refine ⟨ZN hK hN _ _ _ _ _,_,o,cap,rfl,?_,hrd.keep (zu _ _ _ _ _ _ _ (by omega)) (zu _ _ _ _ _ _ _ (by omega))⟩
 have h:=hrow.kept (w':=set5 w5 N (.int .i64 k) (.string (zb s)) (.int .i64 n) v (.int .i64 line)) (by simp) fun k hB _=>zu _ _ _ _ _ _ _ (by omega)
 exact ZL.of_row (h.mono (by omega)) k s n line
theorem zJ.of_set5' {r g o cap N B:Nat} {w w5:World} {us:List Tk} {x:Ex} {a b c d e:Value} (hK:zd r w w5) (hN:w.heap.size≤N) (hr:r<w.heap.size) (hg:g<w.heap.size) (hx:ZL B w5 x (.agg #[a,b,c,d,e])) (hB:N<B) (hrd:zg r g o cap us w5) :
  zJ r g w (.ok (x,us)) (.returned (.agg #[a,b,c,d,e])) (set5 w5 N a b c d e):=by
 refine ⟨ZN hK hN _ _ _ _ _,_,o,cap,rfl,?_,hrd.keep (zu _ _ _ _ _ _ _ (by omega)) (zu _ _ _ _ _ _ _ (by omega))⟩
 exact ZL.mono (ZL.kept hx (w':=set5 w5 N a b c d e) (by simp) fun k hB _=>zu _ _ _ _ _ _ _ (by omega)) (by omega)
end Go.Proofs.YtpejpbbdgblbeaaGreatDoor
