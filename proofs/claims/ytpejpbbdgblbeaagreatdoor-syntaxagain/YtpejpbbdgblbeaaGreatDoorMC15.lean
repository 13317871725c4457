import Derived.Test.YtpejpbbdgblbeaaGreatDoorMC14
import Derived.Maps.AppendAt
import Derived.Deep.RegionHeld3
import Derived.RegionDies
namespace Go.Proofs.YtpejpbbdgblbeaaGreatDoor
open Go.RowKit Go.Shelf
set_option maxHeartbeats 16000000
set_option maxRecDepth 100000
theorem zE (t:Tk) (ts:List Tk):zv (t::ts)=t:=by unfold zv;rfl
def Yn (t:Tk) (ts:List Tk) (res:PR (List Ex)):PR (List Ex) :=
 if zm t [40]=true then
  if zm (zv ts) [41]=true then .ok ([],ts.tail) else
  match res with
  | .error a=>.error a
  | .ok (l,us)=>if zm (zv us) [41]=true then .ok (l,us.tail) else .error (zv us).at0
 else .error t.at0
theorem Vi (r g o cap:Nat) (f:Value) (t:Tk) (ts:List Tk) (w:World) (res:PR (List Ex)) (h:zg r g o cap (t::ts) w) (hE:zi (t::ts)) (hEnd:∀l us,res=.ok (l,us)→zi us)
  (hrow:zm t [40]=true→zm (zv ts) [41]=false→∀H o1 cap1,zg r g o1 cap1 ts H→zd r w H→Calls Tryz.prog 196 #[.pointer (some ⟨r,0,none⟩),f] H (vS r g H res)) :
  Calls Tryz.prog 195 #[.pointer (some ⟨r,0,none⟩),f] w (vS r g w (Yn t ts res)):=by
 have hr:=h.lt.1;have N:=yJ r g o cap t ts [40] w h (fun hi=>(hE.tail (zj hi)).ne)
 clear h
 unfold Yn
 by_cases hi:zm t [40]=true
 ·simp only [if_pos hi] at N ⊢
  have O:=hE.tail (zj hi);obtain ⟨t1,J,rfl⟩:=O.cons;simp only [zE,List.tail_cons] at hrow ⊢
  by_cases hj:zm t1 [41]=true
  ·simp only [if_pos hj]
   clear hrow hEnd
   go_enter Tryz.func195,Tryz.ntmps195
   go_wp2_with fail
   refine N.mono ?_;clear N;rintro e H ⟨y,rfl,h1⟩;have R:=Zx r g _ _ t1 J [41] H h1 (fun hi=>(O.tail (zj hi)).ne)
   have U:Hid (zd r w H):=y;rw [hj] at R;clear h1 y;go_wp2_with fail
   refine R.mono ?_;clear R;rintro e w2 ⟨rfl,G,h2⟩;have I:Hid (zd r w w2):=U.out.trans G;have ad:zg r g (o+5+5) (cap-1-1) J w2:=by simpa using h2
   have ah:Hid (zg r g (o+5+5) (cap-1-1) J w2):=ad;clear h2 ad G;go_wp2
   refine bodyPost_ret (v:=.slice none 0 0) (by simp [results,Tryz.results195,go_sem]) rfl ⟨I.out,_,_,_,rfl,.inl ⟨rfl,rfl⟩,ah.out⟩
  ·have ab:zm t1 [41]=false:=by simpa using hj
   simp only [if_neg hj]
   go_enter Tryz.func195,Tryz.ntmps195
   go_wp2_with fail
   refine N.mono ?_;clear N;rintro e H ⟨y,rfl,h1⟩;have R:=Zx r g _ _ t1 J [41] H h1 (fun hi=>(O.tail (zj hi)).ne)
   have U:Hid (zd r w H):=y;rw [ab] at R;clear h1 y;go_wp2_with fail
   refine R.mono ?_;clear R;rintro e w2 ⟨rfl,G,h2⟩;have V:zd r w w2:=U.out.trans G;have I:Hid (zd r w w2):=V;have cr:=hrow hi ab w2 _ _ (by simpa using h2) V
   clear h2 G V hrow;go_wp2_with fail
   refine cr.mono ?_;clear cr;rintro e w3 ⟨Y,D⟩;have Q:Hid (zd r w w3):=I.out.trans Y;rcases res with a | ⟨l,us⟩
   ·obtain rfl:=D
    exact ⟨rfl,Q.out,rfl⟩
   ·obtain ⟨v,o3,L,rfl,W,Z⟩:=D
    have ae:=hEnd l us rfl;obtain ⟨t3,af,rfl⟩:=ae.cons;have A:=yJ r g o3 L t3 af [41] w3 Z (fun hi=>(ae.tail (zj hi)).ne)
    have ag:w.heap.size≤w2.heap.size:=I.out.size;have al:r<w2.heap.size:=by omega
    have aa:Hid (yW w2.heap.size w3 l v):=W;clear Z W Y hEnd
    by_cases hm:zm t3 [41]=true
    ·simp only [if_pos hm] at A
     go_wp2_with fail
     refine A.mono ?_;clear A;rintro e w4 ⟨z,rfl,h4⟩;have ai:Hid (zd r w w4):=Q.out.trans z;have T:Hid (yW w2.heap.size w4 l v):=aa.out.kept z.size fun k hB hlt=>z.block k hlt (by omega)
     have aj:Hid (zg r g (o3+5) (L-1) af w4):=h4;clear z h4;go_wp2
     refine bodyPost_ret (v:=v) (by simp [results,Tryz.results195,go_sem]) rfl ⟨ai.out,_,_,_,rfl,T.out.mono ag,aj.out⟩
    ·simp only [if_neg hm] at A
     have ak:zm t3 [41]=false:=by simpa using hm
     go_wp2_with fail
     refine A.mono ?_;clear A;rintro e w4 ⟨z,rfl⟩;refine ⟨rfl,Q.out.trans z,?_⟩;simp only [zE,ak,Bool.false_eq_true,if_false]
 ·simp only [if_neg hi] at N ⊢
  clear hrow hEnd
  go_enter Tryz.func195,Tryz.ntmps195
  go_wp2_with fail
  refine N.mono ?_;clear N;rintro e H ⟨y,rfl⟩;exact ⟨rfl,y,rfl⟩
def Yb {α:Type} (p:Nat→Option (PR α)) (n:Nat):Prop:=∃f r,(∀k,p (f+k)=some r)∧∀x us,r=.ok (x,us)→us.length≤n
theorem YF {ts:List Tk} (h:(zv ts).k≠0):ts.tail.length+1=ts.length:=by
 cases ts with
 | nil=>exact absurd rfl h
 | cons t us=>simp
theorem Zf {ts:List Tk} {s:List UInt8} (h:zm (zv ts) s=true):ts.tail.length+1=ts.length:=YF (zj h)
theorem Yb.then {α β:Type} {p:Nat→Option (PR α)} {q:Nat→α→List Tk→Option (PR β)} {n m:Nat} (h:Yb p n) (hq:∀x us,us.length≤n→Yb (fun f=>q f x us) m):Yb (fun f=>zh (p f) (q f)) m:=by
 obtain ⟨f,r,o,G⟩:=h;cases r with
 | error a=>exact ⟨f,.error a,fun k=>by simp [zh,o k],fun x us h=>by cases h⟩
 | ok y =>
  obtain ⟨g,s,H,D⟩:=hq y.1 y.2 (G _ _ rfl);refine ⟨f+g,s,fun k=>?_,D⟩
  have z:=o (g+k);have A:=H (f+k);rw [show f+(g+k)=f+g+k by omega] at z
  rw [show g+(f+k)=f+g+k by omega] at A
  simp only [zh,z];exact A
theorem ZD {α:Type} (x:α) (us:List Tk) {n:Nat} (h:us.length≤n):Yb (fun _=>(some (.ok (x,us)):Option (PR α))) n:=⟨0,.ok (x,us),fun _=>rfl,fun y vs h'=>by cases h';exact h⟩
theorem YH (s:List UInt8) (ts:List Tk) {n:Nat} (h:ts.length≤n+1):Yb (fun _=>zR s ts) n:=by
 refine ⟨0,_,fun _=>rfl,fun x us h'=>?_⟩
 split at h'
 ·rename_i o;have:=Zf o;cases h';omega
 ·cases h'
theorem ua (ts:List Tk) {n:Nat} (h:ts.length≤n+1):Yb (fun _=>Z3 ts) n:=by
 refine ⟨0,_,fun _=>rfl,fun x us h'=>?_⟩
 split at h'
 ·rename_i o;have:=YF (ts:=ts) (by omega);cases h';omega
 ·cases h'
theorem Yb.step {α:Type} {p q:Nat→Option (PR α)} {n:Nat} (h:Yb q n) (hp:∀f,p (f+1)=q f):Yb p n:=by
 obtain ⟨f,r,o,y⟩:=h;exact ⟨f+1,r,fun k=>by rw [show f+1+k=f+k+1 by omega,hp];exact o k,y⟩
theorem Yb.le {α:Type} {p:Nat→Option (PR α)} {n m:Nat} (h:Yb p n) (hm:n≤m):Yb p m:=by
 obtain ⟨f,r,o,y⟩:=h;exact ⟨f,r,o,fun x us h=>Nat.le_trans (y x us h) hm⟩
theorem UA {α:Type} (a:Nat) (n:Nat):Yb (fun _=>(some (.error a):Option (PR α))) n:=⟨0,.error a,fun _=>rfl,fun _ _ h=>by cases h⟩
theorem XY (n:Nat):∀ts:List Tk,ts.length≤n→(∀o,Yb (fun f=>zf f o ts) (n-1))∧(∀pre,Yb (fun f=>ZY f pre ts) (n-1))∧(∀o e,Yb (fun f=>Zp f o e ts) n)∧(∀e,Yb (fun f=>zw f e ts) n)∧Yb (fun f=>zA f ts) (n-1)∧Yb (fun f=>Zg f ts) (n-1):=by
 induction n with
 | zero =>
  intro ts D;obtain rfl:ts=[]:=List.length_eq_zero_iff.1 (by omega)
  have L:Yb (fun f=>zC f []) 0:=(UA 0 0).step fun f=>by simp [zC,zv,zm,zh,zR]
  have Q:∀e,Yb (fun f=>zw f e []) 0:=fun e=>(ZD e [] (n:=0) (by simp)).step fun f=>by simp [zw,zv,zm]
  have G:∀o e,Yb (fun f=>Zp f o e []) 0:=fun o e=>(ZD e [] (n:=0) (by simp)).step fun f=>by simp [Zp,zv]
  have A:Yb (fun f=>Zg f []) 0:=(L.then (q:=fun f e ts=>zw f e ts) (m:=0) fun e us hu=>by
   obtain rfl:us=[]:=List.length_eq_zero_iff.1 (by omega)
   exact Q e).step fun f=>by simp [Zg,zv]
  have z:∀d o,7-o≤d→Yb (fun f=>zf f o []) 0:=fun d=>by
   induction d with
   | zero=>intro o hd;exact A.step fun f=>by rw [zf,if_pos (by omega)]
   | succ d ih =>
    intro o hd
    by_cases hc:6<o
    ·exact A.step fun f=>by rw [zf,if_pos hc]
    ·exact ((ih (o+1) (by omega)).then (q:=fun f e ts=>Zp f o e ts) (m:=0) fun e us hu=>by
      obtain rfl:us=[]:=List.length_eq_zero_iff.1 (by omega)
      exact G o e).step fun f=>by rw [zf,if_neg hc]
  refine ⟨fun o=>z _ o (Nat.le_refl _),fun pre=>?_,G,Q,?_,A⟩
  ·exact ((z _ 1 (Nat.le_refl _)).then (q:=fun f e ts=>if zm (zv ts) [44]=true then ZY f (pre++[e]) ts.tail else some (.ok (pre++[e],ts))) (m:=0) fun e us hu=>by
    obtain rfl:us=[]:=List.length_eq_zero_iff.1 (by omega)
    simpa [zv,zm] using ZD (pre++[e]) [] (n:=0) (by simp)).step fun f=>by rw [ZY]
  ·exact (UA 0 0).step fun f=>by simp [zA,zv,zm,zh,zR]
 | succ n ih =>
  intro ts D;have B:=fun ts h o=>(ih ts h).1 o
  have N:=fun ts h pre=>(ih ts h).2.1 pre
  have M:=fun ts h o e=>(ih ts h).2.2.1 o e
  have J:=fun ts h e=>(ih ts h).2.2.2.1 e
  have O:=fun ts h=>(ih ts h).2.2.2.2.1
  have R:=fun ts h=>(ih ts h).2.2.2.2.2
  have H:Yb (fun f=>zA f ts) (n+1-1):=by
   refine ((YH [40] ts (n:=n) D).then (q:=fun f _ ts=>if zm (zv ts) [41]=true then some (.ok ([],ts.tail)) else zh (ZY f [] ts) fun l ts=>zh (zR [41] ts) fun _ ts=>some (.ok (l,ts))) (m:=n) fun _ us hu=>?_).step fun f=>by rw [zA]
   by_cases hc:zm (zv us) [41]=true
   ·simp only [if_pos hc];exact ZD _ _ (by simp;omega)
   ·simp only [if_neg hc]
    exact (N us hu []).then (q:=fun _ l ts=>zh (zR [41] ts) fun _ ts=>some (.ok (l,ts))) fun l vs hv=>(YH [41] vs (n:=n) (by omega)).then (q:=fun _ _ ts=>some (.ok (l,ts))) fun _ xs hx=>ZD _ _ hx
  have G:∀o e,Yb (fun f=>Zp f o e ts) (n+1):=fun o e=>by
   by_cases hc:(zv ts).k=4∧levelOf (zv ts).s=o
   ·have y:=YF (ts:=ts) (by omega)
    exact ((B ts.tail (by omega) (o+1)).then (q:=fun f e2 ts'=>Zp f o (Ex.mk 7 (zv ts).s 0 [e,e2] e.line) ts') (m:=n+1) fun e2 us hu=>(M us (by omega) o _).le (by omega)).step fun f=>by rw [Zp,if_pos hc]
   ·exact (ZD e ts D).step fun f=>by rw [Zp,if_neg hc]
  have I:∀e,Yb (fun f=>zw f e ts) (n+1):=fun e=>by
   by_cases hc:zm (zv ts) [91]=true
   ·have y:=Zf hc
    exact ((B ts.tail (by omega) 1).then (q:=fun f i ts=>zh (zR [93] ts) fun _ ts=>zw f (Ex.mk 8 [] 0 [e,i] e.line) ts) (m:=n+1) fun i us hu =>
     (YH [93] us (n:=n) (by omega)).then (q:=fun f _ ts=>zw f (Ex.mk 8 [] 0 [e,i] e.line) ts) fun _ vs hv=>(J vs hv _).le (by omega)).step fun f=>by rw [zw,if_pos hc]
   ·by_cases hd:zm (zv ts) [46]=true
    ·have y:=Zf hd
     exact ((ua ts.tail (n:=n) (by omega)).then (q:=fun f s ts=>zw f (Ex.mk 9 s 0 [e] e.line) ts) (m:=n+1) fun s us hu=>(J us hu _).le (by omega)).step fun f=>by rw [zw,if_neg hc,if_pos hd]
    ·exact (ZD e ts D).step fun f=>by rw [zw,if_neg hc,if_neg hd]
  have L:Yb (fun f=>zC f ts) n:=by
   by_cases c1:(zv ts).k=2
   ·have y:=YF (ts:=ts) (by omega)
    exact (ZD (Ex.mk 1 [] (zv ts).n [] (zv ts).line) ts.tail (n:=n) (by omega)).step fun f=>by rw [zC,if_pos c1]
   by_cases c2:(zv ts).k=3
   ·have y:=YF (ts:=ts) (by omega)
    exact (ZD (Ex.mk 3 (zv ts).s 0 [] (zv ts).line) ts.tail (n:=n) (by omega)).step fun f=>by rw [zC,if_neg c1,if_pos c2]
   by_cases c3:(zv ts).k=1
   ·have y:=YF (ts:=ts) (by omega)
    by_cases d:zm (zv ts.tail) [40]=true
    ·exact ((O ts.tail (by omega)).then (q:=fun _ l ts'=>some (.ok (Ex.mk 5 (zv ts).s 0 l (zv ts).line,ts'))) (m:=n) fun l us hu=>ZD _ _ (by omega)).step fun f=>by rw [zC,if_neg c1,if_neg c2,if_pos c3,if_pos d]
    ·exact (ZD (Ex.mk 4 (zv ts).s 0 [] (zv ts).line) ts.tail (n:=n) (by omega)).step fun f=>by rw [zC,if_neg c1,if_neg c2,if_pos c3,if_neg d]
   by_cases c4:zm (zv ts) [116,114,117,101]=true
   ·have y:=Zf c4
    exact (ZD (Ex.mk 2 [] 1 [] (zv ts).line) ts.tail (n:=n) (by omega)).step fun f=>by rw [zC,if_neg c1,if_neg c2,if_neg c3,if_pos c4]
   by_cases c5:zm (zv ts) [102,97,108,115,101]=true
   ·have y:=Zf c5
    exact (ZD (Ex.mk 2 [] 0 [] (zv ts).line) ts.tail (n:=n) (by omega)).step fun f=>by rw [zC,if_neg c1,if_neg c2,if_neg c3,if_neg c4,if_pos c5]
   by_cases c6:zm (zv ts) [110,101,119]=true
   ·have y:=Zf c6
    exact ((ua ts.tail (n:=n) (by omega)).then (q:=fun f s ts'=>zh (zA f ts') fun l ts'=>some (.ok (Ex.mk 11 s 0 l (zv ts).line,ts'))) (m:=n) fun s us hu =>
     (O us hu).then (q:=fun _ l ts'=>some (.ok (Ex.mk 11 s 0 l (zv ts).line,ts'))) fun l vs hv=>ZD _ _ (by omega)).step fun f=>by rw [zC,if_neg c1,if_neg c2,if_neg c3,if_neg c4,if_neg c5,if_pos c6]
   by_cases c7:zm (zv ts) [91]=true
   ·have y:=Zf c7
    exact ((N ts.tail (by omega) []).then (q:=fun _ l ts'=>zh (zR [93] ts') fun _ ts'=>some (.ok (Ex.mk 10 [] 0 l (zv ts).line,ts'))) (m:=n) fun l us hu =>
     (YH [93] us (n:=n) (by omega)).then (q:=fun _ _ ts'=>some (.ok (Ex.mk 10 [] 0 l (zv ts).line,ts'))) fun _ vs hv=>ZD _ _ (by omega)).step fun f=>by rw [zC,if_neg c1,if_neg c2,if_neg c3,if_neg c4,if_neg c5,if_neg c6,if_pos c7]
   ·exact ((YH [40] ts (n:=n) D).then (q:=fun f _ ts=>zh (zf f 1 ts) fun e ts=>zh (zR [41] ts) fun _ ts=>some (.ok (e,ts))) (m:=n) fun _ us hu =>
     (B us hu 1).then (q:=fun _ e ts=>zh (zR [41] ts) fun _ ts=>some (.ok (e,ts))) fun e vs hv=>(YH [41] vs (n:=n) (by omega)).then (q:=fun _ _ ts=>some (.ok (e,ts))) fun _ xs hx=>ZD _ _ hx).step fun f=>by rw [zC,if_neg c1,if_neg c2,if_neg c3,if_neg c4,if_neg c5,if_neg c6,if_neg c7]
  have A:Yb (fun f=>Zg f ts) n:=by
   by_cases hc:(zv ts).k=4∧((zv ts).s=[45]∨(zv ts).s=[33])
   ·have y:=YF (ts:=ts) (by omega)
    exact ((R ts.tail (by omega)).then (q:=fun _ e ts'=>some (.ok (Ex.mk 6 (zv ts).s 0 [e] (zv ts).line,ts'))) (m:=n) fun e us hu=>ZD _ _ (by omega)).step fun f=>by rw [Zg,if_pos hc]
   ·exact (L.then (q:=fun f e ts=>zw f e ts) (m:=n) fun e us hu=>J us hu e).step fun f=>by rw [Zg,if_neg hc]
  have z:∀d o,7-o≤d→Yb (fun f=>zf f o ts) n:=fun d=>by
   induction d with
   | zero=>intro o hd;exact A.step fun f=>by rw [zf,if_pos (by omega)]
   | succ d ih =>
    intro o hd
    by_cases hc:6<o
    ·exact A.step fun f=>by rw [zf,if_pos hc]
    ·exact ((ih (o+1) (by omega)).then (q:=fun f e ts=>Zp f o e ts) (m:=n) fun e us hu=>M us hu o e).step fun f=>by rw [zf,if_neg hc]
  refine ⟨fun o=>z _ o (Nat.le_refl _),fun pre=>?_,G,I,H,A⟩
  refine ((z _ 1 (Nat.le_refl _)).then (q:=fun f e ts=>if zm (zv ts) [44]=true then ZY f (pre++[e]) ts.tail else some (.ok (pre++[e],ts))) (m:=n) fun e us hu=>?_).step fun f=>by rw [ZY]
  by_cases hc:zm (zv us) [44]=true
  ·simp only [if_pos hc]
   have y:=Zf hc;exact (N us.tail (by omega) (pre++[e])).le (by omega)
  ·simp only [if_neg hc]
   exact ZD _ _ hu
structure yd {α:Type} (E:(Nat→Prop)→World→α→List Value→Prop):Prop where
 kept:∀{S:Nat→Prop} {w w':World} {x:α} {c:List Value},E S w x c→w.heap.size≤w'.heap.size→(∀k,S k→k<w.heap.size→w'.heap[k]?=w.heap[k]?)→E S w' x c
 wide:∀{S S':Nat→Prop} {w:World} {x:α} {c:List Value},E S w x c→(∀k,S k→S' k)→E S' w x c
 low:∀{S:Nat→Prop} {w:World} {x:α} {c:List Value},E S w x c→E (fun k=>S k∧k<w.heap.size) w x c
structure Zj {α:Type} (E:(Nat→Prop)→World→α→List Value→Prop) (sz ty B:Nat) (w:World) (l:List α) (v:Value) (g cap:Nat) (us:List (List Value)):Prop where
 val:v=.slice (some ⟨g,0,none⟩) l.length cap
 ne:l≠[]
 own:w.ownsRow B ty sz v l.length us.flatten
 len:us.length=l.length
 wid:∀c∈us,c.length=sz
 kids:∀(j:Nat) (x:α) (c:List Value),l[j]?=some x→us[j]?=some c→E (fun k=>B≤k∧k≠g) w x c
theorem Zj.block {α:Type} {E:(Nat→Prop)→World→α→List Value→Prop} {sz ty B:Nat} {w:World} {l:List α} {v:Value} {g cap:Nat} {us:List (List Value)} (h:Zj E sz ty B w l v g cap us):B≤g∧g<w.heap.size∧l.length≤cap∧cap≤maxLen:=by
 have y:=h.own.lt g (by rw [h.val];rfl)
 refine ⟨y.1,y.2,?_⟩;rcases h.own.2 with ⟨o,_⟩ | ⟨H,z,D,o,_,_,A,G,_⟩
 ·rw [h.val] at o;cases o
 ·rw [h.val] at o
  cases o
  exact ⟨A,G⟩
theorem Zj.kept {α:Type} {E:(Nat→Prop)→World→α→List Value→Prop} (L:yd E) {sz ty B:Nat} {w w':World} {l:List α} {v:Value} {g cap:Nat} {us:List (List Value)} (h:Zj E sz ty B w l v g cap us)
  (hs:w.heap.size≤w'.heap.size) (hb:∀k,B≤k→k<w.heap.size→w'.heap[k]?=w.heap[k]?):Zj E sz ty B w' l v g cap us where
 val:=h.val
 ne:=h.ne
 own:=by
  refine ⟨h.own.1,?_⟩;rcases h.own.2 with z | ⟨D,o,y,z,G,A,H⟩
  ·exact .inl z
  ·exact .inr ⟨D,o,y,z,G,(hb D G (Array.getElem?_eq_some_iff.1 A).1).trans A,H⟩
 len:=h.len
 wid:=h.wid
 kids:=fun j x c hx hc=>L.kept (h.kids j x c hx hc) hs fun k hk hlt=>hb k hk.1 hlt
theorem Zj.first {α:Type} {E:(Nat→Prop)→World→α→List Value→Prop} (L:yd E) {sz ty B:Nat} {w:World} {x:α} {c:List Value} (hx:E (fun k=>B≤k) w x c) (hc:c.length=sz) (hB:B≤w.heap.size) :
  Zj E sz ty B (w.alloc (.cells c.toArray ty)) [x] (.slice (some ⟨w.heap.size,0,none⟩) 1 1) w.heap.size 1 [c] where
 val:=rfl
 ne:=by simp
 own:=by
  refine ⟨by simp [hc],.inr ⟨w.heap.size,1,c.toArray,rfl,hB,World.alloc_heap_new _ _,Nat.le_refl _,by simp [maxLen],by simp [hc],?_⟩⟩
  simp [hc,List.take_of_length_le]
 len:=rfl
 wid:=by simp [hc]
 kids:=fun j y d hy hd=>by
  cases j with
  | succ j=>simp at hy
  | zero =>
   simp only [List.getElem?_cons_zero,Option.some.injEq] at hy hd;subst hy hd;exact L.wide (L.kept (L.low hx) (by simp) fun k hk _=>Below.heap_alloc _ _ _ hk.2) fun k hk=>⟨hk.1,by omega⟩
theorem Zj.snoc {α:Type} {E:(Nat→Prop)→World→α→List Value→Prop} (L:yd E) {sz ty B:Nat} {w w':World} {l:List α} {v v':Value} {g cap:Nat} {us:List (List Value)} (h:Zj E sz ty B w l v g cap us) {x:α} {c:List Value} {ob:Obj}
  (hx:E (fun k=>B≤k∧k≠g) w x c) (hc:c.length=sz) (ho:w'.ownsRow B ty sz v' (l.length+1) (us.flatten++c)) (hg:(w.alloc ob).grownBy w' v.ownBlock) (ha:v'.ownBlock=v.ownBlock∨v'.ownBlock=some (w.alloc ob).heap.size) :
  ∃o cap',Zj E sz ty B w' (l++[x]) v' o cap' (us++[c])∧(o=g∨w.heap.size≤o):=by
 have R:=h.block;have I:v.ownBlock=some g:=by rw [h.val];rfl
 rw [I] at hg ha
 obtain ⟨o,cap',D⟩:∃o cap',v'=.slice (some ⟨o,0,none⟩) (l.length+1) cap':=by
  rcases ho.2 with ⟨_,H⟩ | ⟨o,cap',_,J,_⟩
  ·omega
  ·exact ⟨o,cap',J⟩
 have N:o=g∨o=(w.alloc ob).heap.size:=by
  rw [D] at ha
  simpa [Value.ownBlock] using ha
 have O:(w.alloc ob).heap.size=w.heap.size+1:=by simp
 have Q:w.heap.size≤w'.heap.size:=by have:=hg.size;omega
 have A:∀k,k≠g→k<w.heap.size→w'.heap[k]?=w.heap[k]?:=fun k hk hlt=>(hg.block k (by omega) (by simpa using hk)).trans (Below.heap_alloc _ _ _ hlt)
 have z:∀y d,E (fun k=>B≤k∧k≠g) w y d→E (fun k=>B≤k∧k≠o) w' y d:=fun y d hy =>
  L.wide (L.kept (L.low hy) Q fun k hk _=>A k hk.1.2 hk.2) fun k hk=>⟨hk.1.1,by omega⟩
 refine ⟨o,cap',⟨by rw [D,List.length_append];rfl,by simp,?_,by simp [h.len],?_,fun j y d hy hd=>?_⟩,by omega⟩
 ·rw [List.length_append,List.flatten_append]
  simpa using ho
 ·intro d hd
  rcases List.mem_append.1 hd with hd | hd
  ·exact h.wid d hd
  ·simp only [List.mem_singleton] at hd;rw [hd];exact hc
 ·rw [List.getElem?_append] at hy hd
  rw [h.len] at hd
  split at hy
  ·rename_i G
   rw [if_pos G] at hd;exact z y d (h.kids j y d hy hd)
  ·rename_i G
   rw [if_neg G] at hd
   have:j-l.length=0:=by
    rcases Nat.eq_zero_or_pos (j-l.length) with H | H
    ·exact H
    ·rw [List.getElem?_eq_none (by simp;omega)] at hy;cases hy
   rw [this] at hy hd;simp only [List.getElem?_cons_zero,Option.some.injEq] at hy hd;subst hy hd;exact z _ _ hx
def ExE (S:Nat→Prop) (w:World) (x:Ex) (c:List Value):Prop:=zZ S w x (.agg c.toArray)
theorem xe:yd ExE:=⟨fun h hs hb=>zZ.kept h hs hb,fun h hS=>zZ.wide h hS,fun h=>zZ.low h⟩
theorem Zj.row {ty B:Nat} {w:World} {l:List Ex} {v:Value} {g cap:Nat} {us:List (List Value)} (h:Zj ExE 5 ty B w l v g cap us):yW B w l v:=by
 have y:=h.block;refine .inr ⟨g,cap,us,h.val,h.ne,h.len,y.1,y.2.1,y.2.2.1,y.2.2.2,fun j u hj=>?_,h.wid,fun j x c o hc=>zZ.wide (h.kids j x c o hc) fun k hk=>hk.1⟩
 have o:=h.own.cells (g:=g) (by rw [h.val];rfl) j u hj
 by_cases h0:j=0
 ·subst h0;simpa [Addr.add] using o
 ·simpa [Addr.add,h0] using o
theorem Yv {f least:Nat} {ts us:List Tk} {x:Ex} (h:zf f least ts=some (.ok (x,us))):us.length≤ts.length-1:=by
 obtain ⟨z,A,y,o⟩:=(XY ts.length ts (Nat.le_refl _)).1 least;exact o x us (vR (y 0) h)
def Ua (f:Nat) (l:List Ex) (ts:List Tk):Option (PR (List Ex)):=if zm (zv ts) [44]=true then ZY f l ts.tail else some (.ok (l,ts))
def ZP (r:Nat) (w:World):Nat:=match w.cell? ⟨r,0,none⟩ with | some (.slice _ n _)=>n | _=>0
theorem zg.left {r g o cap:Nat} {ts:List Tk} {w:World} (h:zg r g o cap ts w):ZP r w=ts.length:=by unfold ZP;rw [h.cell]
theorem zd.grown {r:Nat} {w w1 w2:World} {row:Option Nat} (h:zd r w w1) (hg:w1.grownBy w2 row) (hrow:∀k,row=some k→w.heap.size≤k):zd r w w2 :=
 ⟨hg.os.trans h.os,hg.tape.trans h.tape,hg.output.trans h.output,Nat.le_trans h.size hg.size,fun k hk hr=>(hg.block k (Nat.lt_of_lt_of_le hk h.size) fun e=>by have:=hrow k e.symm;omega).trans (h.block k hk hr)⟩
theorem qX:(Tryz.prog.info? 45).map (fun i=>(i.zero,i.size,i.bytes))=some (some (.agg #[.int .i64 0,.string ⟨#[]⟩,.int .i64 0,.slice none 0 0,.int .i64 0]),5,64):=by kernel_rfl
theorem ziC (r g o cap F:Nat) (ts:List Tk) (w:World) (res:PR (List Ex)) (h:zg r g o cap ts w) (hE:zi ts) (hN:ts.length≤1099511627776) (hp:ZY (F+1) [] ts=some res)
  (hone:∀H o1 z y r1,zf F 1 y=some r1→zi y→y.length≤1099511627776→zg r g o1 z y H→zd r w H→Calls Tryz.prog 44 #[.pointer (some ⟨r,0,none⟩)] H (zJ r g H r1)) :
  Calls Tryz.prog 196 #[.pointer (some ⟨r,0,none⟩),.func (.func 44) #[.pointer (some ⟨r,0,none⟩)] #[]] w (vS r g w res):=by
 obtain ⟨i0,aQ,aI,aN,aO⟩:=info_parts qX;obtain ⟨t0,aB,rfl⟩:=hE.cons;have hr:=h.lt.1;have aY:=h.lt.2;rw [ZY] at hp;cases hb:zf F 1 (t0::aB) with
 | none=>rw [hb] at hp;cases hp
 | some r1 =>
  have c1:=hone w o cap (t0::aB) r1 hb hE hN h (zd.refl r w);rw [hb] at hp;simp only [zh] at hp
  go_enter Tryz.func196,Tryz.ntmps196
  go_wp2_with fail
  refine c1.mono ?_;clear c1;rintro e H ⟨ag,A⟩;rcases r1 with a | ⟨x,us⟩
  ·obtain rfl:=A
   simp only [Option.some.injEq] at hp;subst hp;exact ⟨rfl,ag,rfl⟩
  ·obtain ⟨v,o1,z,rfl,hx,U⟩:=A
   obtain ⟨a,b,c,d0,d1,d2,l,rfl⟩:=hx.agg;have ap:=(Zi F).1 _ _ _ _ hb hE;have aw:=Yv hb;have HP:Hid (Ua F [x] us=some res):=hp;obtain ⟨t1,y,rfl⟩:=ap.cons
   have aG:Hid (Zj ExE 5 45 w.heap.size (H.alloc (.cells #[.int .i64 a,.string b,.int .i64 c,.slice d0 d1 d2,.int .i64 l] 45)) [x] (.slice (some ⟨H.heap.size,0,none⟩) 1 1) H.heap.size 1 [[.int .i64 a,.string b,.int .i64 c,.slice d0 d1 d2,.int .i64 l]]) :=
    Zj.first xe (c:=[.int .i64 a,.string b,.int .i64 c,.slice d0 d1 d2,.int .i64 l]) (show zZ _ _ _ _ from hx) rfl ag.size
   have aC:Hid (zg r g o1 z (t1::y) (H.alloc (.cells #[.int .i64 a,.string b,.int .i64 c,.slice d0 d1 d2,.int .i64 l] 45))):=U.alloc _;have ay:Hid (zd r w (H.alloc (.cells #[.int .i64 a,.string b,.int .i64 c,.slice d0 d1 d2,.int .i64 l] 45))):=ag.alloc _;have aA:Hid (zi (t1::y)):=ap;have hn:y.length+2≤1099511627776:=by simp only [List.length_cons] at aw hN;omega
   have av:Hid (∀H o1 z y r1,zf F 1 y=some r1→zi y→y.length≤1099511627776→zg r g o1 z y H→zd r w H→Calls Tryz.prog 44 #[.pointer (some ⟨r,0,none⟩)] H (zJ r g H r1)):=hone;clear hx U ag ap hone hp hb hE hN h aw;go_wp2_with fail
   go_loopw [5] (fun v wr=>∃(L:List Ex) (g1 z:Nat) (us:List (List Value)) (o2 Q:Nat) (W:List Tk) (f2:Nat),f2≤F∧Ua f2 L W=some res∧zi W∧L.length+W.length≤1099511627776∧Zj ExE 5 45 w.heap.size wr L v g1 z us∧zg r g o2 Q W wr∧zd r w wr) (fun _ wr=>ZP r wr)
   case atStart=>exact ⟨[x],_,_,_,o1,z,t1::y,F,Nat.le_refl _,HP.out,aA.out,by simp only [List.length_cons,List.length_nil];omega,aG.out,aC.out,ay.out⟩
   case round =>
    obtain ⟨L,g1,cp1,us,o2,Q,W,f2,aW,G,Z,ad,O,R,aq⟩:=hrel;clear HP aG aC ay aA hn;obtain ⟨t2,aa,rfl⟩:=Z.cons;have cs:=Zx r g o2 Q t2 aa [44] wr R (fun hi=>(Z.tail (zj hi)).ne)
    have au:=R.left;have V:Hid (Zj ExE 5 45 w.heap.size wr L _ g1 cp1 us):=O;have am:Hid (zd r w wr):=aq;have aE:=O.val;subst aE
    unfold Ua at G
    simp only [zE,List.tail_cons] at G
    by_cases hi:zm t2 [44]=true
    ·rw [hi] at cs
     rw [if_pos hi] at G;have az:=Z.tail (zj hi);clear O aq R Z;go_wp2_with fail
     refine cs.mono ?_;clear cs;rintro e w3 ⟨rfl,D,h3⟩;simp only [if_true] at h3;have ar:zd r w w3:=am.out.trans D;have N:=V.out.kept xe D.size fun k hB hlt=>D.block k hlt (by omega)
     cases f2 with
     | zero=>simp [ZY] at G
     | succ f3 =>
      rw [ZY] at G;cases hb3:zf f3 1 aa with
      | none=>rw [hb3] at G;cases G
      | some r3 =>
       rw [hb3] at G;simp only [zh] at G
       have an:zf F 1 aa=some r3:=by
        have:=YU (k:=F-f3) hb3
        rwa [show f3+(F-f3)=F by omega] at this
       have c3:=av.out w3 _ _ aa r3 an az (by simp only [List.length_cons] at ad;omega) h3 ar
       have aX:=N.block;have I:Hid (Zj ExE 5 45 w.heap.size w3 L _ g1 cp1 us):=N;have ae:Hid (zd r w w3):=ar;clear N ar D h3 V am;go_wp2_with fail
       refine c3.mono ?_;clear c3;rintro e w4 ⟨af,A⟩;have ah:Hid (zd r w w4):=ae.out.trans af;rcases r3 with a | ⟨x3,ai⟩
       ·obtain rfl:=A
        simp only [Option.some.injEq] at G;subst G;exact ⟨rfl,ah.out,rfl⟩
       ·obtain ⟨v,o4,T,rfl,hx,U⟩:=A
        obtain ⟨a4,b4,c4,p4,q4,s4,l4,rfl⟩:=hx.agg;have J:=I.out.kept xe af.size fun k hB hlt=>af.block k hlt (by omega)
        have aD:ExE (fun k=>w.heap.size≤k∧k≠g1) w4 x3 [.int .i64 a4,.string b4,.int .i64 c4,.slice p4 q4 s4,.int .i64 l4]:=zZ.wide hx fun k hk=>⟨Nat.le_trans ae.out.size hk,by omega⟩
        have aP:Hid (ExE (fun k=>w.heap.size≤k∧k≠g1) w4 x3 [.int .i64 a4,.string b4,.int .i64 c4,.slice p4 q4 s4,.int .i64 l4]):=aD
        have ak:Hid (Zj ExE 5 45 w.heap.size w4 L _ g1 cp1 us):=J;have aH:Hid (zg r g o4 T ai w4):=U;have aL:=(Zi F).1 _ _ _ _ an az;have aT:=Yv an;have aF:=(J.own.alloc (.cells #[.int .i64 a4,.string b4,.int .i64 c4,.slice p4 q4 s4,.int .i64 l4] 45));have HT:Hid (Ua f3 (L++[x3]) ai=some res):=G;have aS:w.heap.size≤w4.heap.size:=ah.out.size;clear J aD hx U G af
        go_wp2_with (at_builtin;refine wpList_append_own_at _ rfl _ _ 43 rfl w.heap.size 45 i0 _ 5 64 Tryz.underlying43 aQ aI aN aO rfl (by decide) _ _ _ rfl aF ⟨w4.heap.size,0,none⟩ 1 1 [.int .i64 a4,.string b4,.int .i64 c4,.slice p4 q4 s4,.int .i64 l4] rfl rfl (ZQ _ _ _) (by simp [Value.oneCell']) (by unfold maxLen;simp only [List.length_cons] at ad;omega) (by simp only [List.length_cons] at ad;omega) (by simp;omega) ?_;intro v' w5 al Y _ aJ)
        obtain ⟨g5,ax,ao,aV⟩:=ak.out.snoc xe aP.out rfl al Y aJ
        have ab:(w4.alloc (.cells #[.int .i64 a4,.string b4,.int .i64 c4,.slice p4 q4 s4,.int .i64 l4] 45)).grownBy w5 (some g1):=Y;have aM:zd r w w5:=(ah.out.alloc _).grown ab fun k hk=>by have:=Option.some.inj hk;omega
        have aU:w.heap.size≤w4.heap.size:=ah.out.size;have aj:zg r g o4 T ai w5:=aH.out.keep ((ab.block r (by simp;omega) (fun e=>by have:=Option.some.inj e;omega)).trans (Below.heap_alloc _ _ _ (by omega))) ((ab.block g (by simp;omega) (fun e=>by have:=Option.some.inj e;omega)).trans (Below.heap_alloc _ _ _ (by omega)))
        refine ⟨⟨L++[x3],g5,ax,_,o4,T,ai,f3,by omega,HT.out,aL,?_,ao,aj,aM⟩,?_⟩
        ·simp only [List.length_append,List.length_cons,List.length_nil] at ad ⊢;omega
        ·rw [aj.left,au];simp only [List.length_cons];omega
    ·have aR:zm t2 [44]=false:=by simpa using hi
     rw [aR] at cs;rw [if_neg hi] at G;clear O aq R Z;go_wp2_with fail
     refine cs.mono ?_;clear cs;rintro e w3 ⟨rfl,D,h3⟩;have ae:Hid (zd r w w3):=am.out.trans D;have I:Hid (yW w.heap.size w3 L (.slice (some ⟨g1,0,none⟩) L.length cp1)):=(V.out.kept xe D.size fun k hB hlt=>D.block k hlt (by omega)).row
     have aK:Hid (zg r g o2 Q (t2::aa) w3):=show zg _ _ _ _ _ _ by simpa using h3
     simp only [Option.some.injEq] at G;subst G;clear D h3;go_wp2
     refine bodyPost_ret (v:=.slice (some ⟨g1,0,none⟩) L.length cp1) (by simp [results,Tryz.results196,go_sem]) rfl ⟨ae.out,_,_,_,rfl,I.out,aK.out⟩
theorem zK.one {S:Nat→Prop} {w:World} {x:Ex} {c:List Value} (ty:Nat) (hx:zZ S w x (.agg c.toArray)) (hc:c.length=5) (hB:S w.heap.size):zK S (w.alloc (.cells c.toArray ty)) [x] (.slice (some ⟨w.heap.size,0,none⟩) 1 1):=by
 refine .inr ⟨w.heap.size,1,[c],rfl,by simp,rfl,hB,by simp,Nat.le_refl _,by simp [maxLen],fun j u hj=>?_,fun z hz=>?_,fun j z e hz he=>?_⟩
 ·have h:=ZQ w c ty j u (by simpa using hj)
  by_cases h0:j=0
  ·subst h0;simpa [Addr.add] using h
  ·simpa [Addr.add,h0] using h
 ·simp only [List.mem_cons,List.not_mem_nil,or_false] at hz
  subst hz;exact hc
 ·match j,hz,he with
  | 0,hz,he =>
   simp only [List.getElem?_cons_zero,Option.some.injEq] at hz he
   subst hz he;exact zZ.kept hx (by simp) fun k _ hlt=>Below.heap_alloc _ _ _ hlt
  | j+1,hz,he=>simp at hz
theorem zK.two {S:Nat→Prop} {w:World} {x y:Ex} {c d:List Value} (ty:Nat) (hx:zZ S w x (.agg c.toArray)) (hy:zZ S w y (.agg d.toArray)) (hc:c.length=5) (hd:d.length=5) (hB:S w.heap.size) :
  zK S (w.alloc (.cells (c++d).toArray ty)) [x,y] (.slice (some ⟨w.heap.size,0,none⟩) 2 2):=by
 refine .inr ⟨w.heap.size,2,[c,d],rfl,by simp,rfl,hB,by simp,Nat.le_refl _,by simp [maxLen],fun j u hj=>?_,fun z hz=>?_,fun j z e hz he=>?_⟩
 ·have h:=ZQ w (c++d) ty j u (by simpa using hj)
  by_cases h0:j=0
  ·subst h0;simpa [Addr.add] using h
  ·simpa [Addr.add,h0] using h
 ·simp only [List.mem_cons,List.not_mem_nil,or_false] at hz
  rcases hz with rfl | rfl <;> assumption
 ·have o:∀z e,zZ S w z (.agg e)→zZ S (w.alloc (.cells (c++d).toArray ty)) z (.agg e):=fun z e h=>zZ.kept h (by simp) fun k _ hlt=>Below.heap_alloc _ _ _ hlt
  match j,hz,he with
  | 0,hz,he =>
   simp only [List.getElem?_cons_zero,Option.some.injEq] at hz he;subst hz he;exact o _ _ hx
  | 1,hz,he =>
   simp only [List.getElem?_cons_succ,List.getElem?_cons_zero,Option.some.injEq] at hz he;subst hz he;exact o _ _ hy
  | j+2,hz,he=>simp at hz
theorem Xf {w:World} {N M j:Nat} {v:Value} (a b c d e:Value) (hne:M≠N) (h:w.cell? ⟨M,j,none⟩=some v):(set5 w N a b c d e).cell? ⟨M,j,none⟩=some v:=by
 exact (World.cell?_of_block (a:=⟨M,j,none⟩) (zu w N a b c d e hne)).trans h
theorem zJ.of_set5 {r g o cap N B:Nat} {w w5:World} {us:List Tk} {l:List Ex} {v:Value} (k:Nat) (s:List UInt8) (n:Int) (line:Nat) (hK:zd r w w5) (hN:w.heap.size≤N) (hr:r<w.heap.size) (hg:g<w.heap.size) (hrow:yW B w5 l v) (hB:N<B) (hrd:zg r g o cap us w5) :
  zJ r g w (.ok (.mk k s n l line,us)) (.returned (.agg #[.int .i64 k,.string (zb s),.int .i64 n,v,.int .i64 line])) (set5 w5 N (.int .i64 k) (.string (zb s)) (.int .i64 n) v (.int .i64 line)):=by
 refine ⟨ZN hK hN _ _ _ _ _,_,o,cap,rfl,?_,hrd.keep (zu _ _ _ _ _ _ _ (by omega)) (zu _ _ _ _ _ _ _ (by omega))⟩
 have h:=hrow.kept (w':=set5 w5 N (.int .i64 k) (.string (zb s)) (.int .i64 n) v (.int .i64 line)) (by simp) fun k hB _=>zu _ _ _ _ _ _ _ (by omega)
 exact ZL.of_row (h.mono (by omega)) k s n line
theorem zJ.of_set5' {r g o cap N B:Nat} {w w5:World} {us:List Tk} {x:Ex} {a b c d e:Value} (hK:zd r w w5) (hN:w.heap.size≤N) (hr:r<w.heap.size) (hg:g<w.heap.size) (hx:ZL B w5 x (.agg #[a,b,c,d,e])) (hB:N<B) (hrd:zg r g o cap us w5) :
  zJ r g w (.ok (x,us)) (.returned (.agg #[a,b,c,d,e])) (set5 w5 N a b c d e):=by
 refine ⟨ZN hK hN _ _ _ _ _,_,o,cap,rfl,?_,hrd.keep (zu _ _ _ _ _ _ _ (by omega)) (zu _ _ _ _ _ _ _ (by omega))⟩
 exact ZL.mono (ZL.kept hx (w':=set5 w5 N a b c d e) (by simp) fun k hB _=>zu _ _ _ _ _ _ _ (by omega)) (by omega)
def UB (t:Tk):PR Ex→PR Ex
 | .error a=>.error a
 | .ok (e,ts)=>.ok (.mk 6 t.s 0 [e] t.line,ts)
theorem QK (r g o cap:Nat) (t:Tk) (ts:List Tk) (w:World) (res:PR Ex) (h:zg r g o cap (t::ts) w) (hE:zi (t::ts)) (hk:t.k=4) (hs:(t.s==[45]||t.s==[33])=true)
  (hun:∀w1 o1 cap1,zg r g o1 cap1 ts w1→zd r w w1→Calls Tryz.prog 125 #[.pointer (some ⟨r,0,none⟩)] w1 (zJ r g w1 res)) :
  Calls Tryz.prog 125 #[.pointer (some ⟨r,0,none⟩)] w (zJ r g w (UB t res)):=by
 have hr:=h.lt.1;have ap:=h.lt.2;have ca:=fun w=>Vh t.s w
 simp only [hs] at ca;have h0:=h.alloc Zz;have ch:=yh r g o cap t ts _ h0;obtain ⟨w2,D⟩:∃w2,w2=((w.alloc Zz).alloc (ZK t)).alloc (.cells #[.int .i64 4,.string (zb t.s),.int .i64 t.n,.int .i64 t.line,.int .i64 t.at0] 66):=⟨_,rfl⟩;have h2:zg r g o cap (t::ts) w2:=by rw [D];exact (h0.alloc _).alloc _
 have k2:zd r w w2:=by rw [D];exact (((zd.refl r w).alloc _).alloc _).alloc _
 have cs:=Vb r g o cap t ts w2 h2 (hE.tail (by omega)).ne
 have ae:Hid (w2=((w.alloc Zz).alloc (ZK t)).alloc (.cells #[.int .i64 4,.string (zb t.s),.int .i64 t.n,.int .i64 t.line,.int .i64 t.at0] 66)):=D;clear h h0
 go_enter Tryz.func125,Tryz.ntmps125
 go_wp2_with fail
 refine ch.mono ?_;clear ch;rintro e w1 ⟨rfl,rfl⟩;simp only [uB];go_wp2_with (go_at_call 119;refine (ca _).mono ?_;rintro e w1 ⟨rfl,rfl⟩)
 rw [←ae.out];refine cs.mono ?_;clear cs ca;rintro e w3 ⟨rfl,N⟩
 have n2:w2.heap[w.heap.size+1+1]?=some (.cells #[.int .i64 4,.string (zb t.s),.int .i64 t.n,.int .i64 t.line,.int .i64 t.at0] 66 (0,0)):=by
  have hx:=World.alloc_heap_new ((w.alloc Zz).alloc (ZK t)) (.cells #[.int .i64 4,.string (zb t.s),.int .i64 t.n,.int .i64 t.line,.int .i64 t.at0] 66);rw [←D,show ((w.alloc Zz).alloc (ZK t)).heap.size=w.heap.size+1+1 by simp] at hx
  exact hx
 have n0:w2.heap[w.heap.size]?=some Zz:=by
  rw [D,Below.heap_alloc _ _ _ (by simp;omega),Below.heap_alloc _ _ _ (by simp)]
  exact World.alloc_heap_new _ _
 have Y:zd r w w3:=by rw [N];exact k2.setCell 0 _
 have Z:zd r w2 w3:=by rw [N];exact (zd.refl r w2).setCell 0 _
 have h3:zg r g (o+5) (cap-1) ts w3:=by rw [N];exact h2.next
 have m2:=(Z.block _ (Array.getElem?_eq_some_iff.1 n2).1 (by omega)).trans n2
 have m0:=(Z.block _ (Array.getElem?_eq_some_iff.1 n0).1 (by omega)).trans n0
 have cu:∀W:World,W.heap=w3.heap→W.os=w3.os→W.tape=w3.tape→W.output=w3.output→Calls Tryz.prog 125 #[.pointer (some ⟨r,0,none⟩)] W fun e w'=>zd r w3 w'∧zJ r g W res e w':=fun W e1 e2 e3 e4 =>
  (hun W _ _ (h3.keep (by rw [e1]) (by rw [e1])) ⟨e2.trans Y.os,e3.trans Y.tape,e4.trans Y.output,by rw [e1];exact Y.size,fun k hk hr=>by rw [e1];exact Y.block k hk hr⟩).mono fun e w' h =>
   ⟨⟨h.1.os.trans e2,h.1.tape.trans e3,h.1.output.trans e4,by rw [←e1];exact h.1.size,fun k hk hr=>by rw [←e1];exact h.1.block k (by rw [e1];exact hk) hr⟩,h⟩
 have V:Hid (zd r w w3):=Y;have ai:w.heap.size+1+1<w3.heap.size:=(Array.getElem?_eq_some_iff.1 m2).1;have c1:w3.cell? ⟨w.heap.size+1+1,1,none⟩=some (.string (zb t.s)):=by simp only [World.cell?,m2];rfl
 have c3:w3.cell? ⟨w.heap.size+1+1,3,none⟩=some (.int .i64 t.line):=by simp only [World.cell?,m2];rfl
 clear hun N n2 n0 Y Z h3 h2 k2 D ae hE;rcases res with a | ⟨x,us⟩
 ·have L:∀W:World,W.heap=w3.heap→W.os=w3.os→W.tape=w3.tape→W.output=w3.output→Calls Tryz.prog 125 #[.pointer (some ⟨r,0,none⟩)] W fun e w'=>e=ZI a∧zd r w w':=fun W e1 e2 e3 e4=>(cu W e1 e2 e3 e4).mono fun e w' h=>⟨h.2.2,V.out.trans h.1⟩
  clear cu;go_wp2_with fail
  go_region_dies
  all_goals (go_wp2_with fail;refine (L _ (by rfl) (by rfl) (by rfl) (by rfl)).mono ?_;rintro e y ⟨rfl,z⟩;exact ⟨rfl,z,rfl⟩)
 ·have L:∀W:World,W.heap=w3.heap→W.os=w3.os→W.tape=w3.tape→W.output=w3.output→Calls Tryz.prog 125 #[.pointer (some ⟨r,0,none⟩)] W fun e w'=>∃(a:Int) (b:ByteArray) (c:Int) (H:Option Addr) (I G:Nat) (l:Int),e=.returned (.agg #[.int .i64 a,.string b,.int .i64 c,.slice H I G,.int .i64 l]) ∧
    w'.cell? ⟨w.heap.size+1+1,1,none⟩=some (.string (zb t.s))∧w'.cell? ⟨w.heap.size+1+1,3,none⟩=some (.int .i64 t.line)∧w'.heap[w.heap.size]?=some Zz∧Hid (zd r w w')∧w3.heap.size≤w'.heap.size ∧
    Hid (ZL w3.heap.size w' x (.agg #[.int .i64 a,.string b,.int .i64 c,.slice H I G,.int .i64 l]))∧Hid (∃o4 A,zg r g o4 A us w'):=fun W e1 e2 e3 e4=>(cu W e1 e2 e3 e4).mono fun e w' h=>by
   obtain ⟨z,-,v,o4,A,rfl,hx,ah⟩:=h;obtain ⟨a,b,c,H,I,G,l,rfl⟩:=hx.agg;exact ⟨a,b,c,H,I,G,l,rfl,z.cell (p:=⟨w.heap.size+1+1,1,none⟩) (by simp;omega) c1,z.cell (p:=⟨w.heap.size+1+1,3,none⟩) (by simp;omega) c3,(z.block _ (by omega) (by omega)).trans m0,V.out.trans z,z.size,(by rw [←e1];exact hx:ZL w3.heap.size w' x _),⟨o4,A,ah⟩⟩
  clear cu m0 m2;go_wp2_with fail
  go_region_held3 (fun W=>W.cell? ⟨w.heap.size+1+1,1,none⟩=some (.string (zb t.s))∧W.cell? ⟨w.heap.size+1+1,3,none⟩=some (.int .i64 t.line)) (first | go_keep | exact ⟨Xf _ _ _ _ _ (by omega) (Q _),Xf _ _ _ _ _ (by omega) (T _)⟩) (first | (go_at_call 125;refine (L _ (by rfl) (by rfl) (by rfl) (by rfl)).mono ?_;rintro e y ⟨a,b,c,H,I,G,l,rfl,af,ag,J,O,R,ab,ad⟩;have q0:y.cell? ⟨w.heap.size,0,none⟩=some (.int .i64 0):=(by simp only [World.cell?,J];rfl);have q1:y.cell? ⟨w.heap.size,1,none⟩=some (.string ⟨#[]⟩):=(by simp only [World.cell?,J];rfl);have q2:y.cell? ⟨w.heap.size,2,none⟩=some (.int .i64 0):=(by simp only [World.cell?,J];rfl);have q3:y.cell? ⟨w.heap.size,3,none⟩=some (.slice none 0 0):=(by simp only [World.cell?,J];rfl);have q4:y.cell? ⟨w.heap.size,4,none⟩=some (.int .i64 0):=(by simp only [World.cell?,J];rfl);have qf:∀j,y.frozen? ⟨w.heap.size,j,none⟩=false:=(fun j=>by simp only [World.frozen?,J];simp);have am:∀ob j,(y.alloc ob).frozen? ⟨w.heap.size,j,none⟩=false:=(fun ob j=>by simp only [World.frozen?,Below.heap_alloc y ob w.heap.size (Array.getElem?_eq_some_iff.1 J).1,J];simp);have aj:=zl q0;have an:=zl q1;have al:=zl q2;have ao:=zl q3;have ak:=zl q4;have Q:=zl af;have T:=zl ag))
  obtain ⟨o4,A,U⟩:=ad.out;have aa:=World.block_lt_of_cell? y _ q0;have p5:(y.alloc (.cells #[.int .i64 a,.string b,.int .i64 c,.slice H I G,.int .i64 l] 45)).heap[w.heap.size]?=some Zz:=(Below.heap_alloc _ _ _ aa).trans J;obtain ⟨z0,z1,z2,z3,z4⟩:=zX p5 (.int .i64 6) (.string (zb t.s)) (.int .i64 0) (.slice (some ⟨y.heap.size,0,none⟩) 1 1) (.int .i64 t.line)
  change Exit.then _ _ _ _ (set5 (y.alloc (.cells #[.int .i64 a,.string b,.int .i64 c,.slice H I G,.int .i64 l] 45)) w.heap.size (.int .i64 6) (.string (zb t.s)) (.int .i64 0) (.slice (some ⟨y.heap.size,0,none⟩) 1 1) (.int .i64 t.line))
  have hp:zJ r g w (UB t (.ok (x,us))) (.returned (.agg #[.int .i64 6,.string (zb t.s),.int .i64 0,.slice (some ⟨y.heap.size,0,none⟩) 1 1,.int .i64 t.line])) (set5 (y.alloc (.cells #[.int .i64 a,.string b,.int .i64 c,.slice H I G,.int .i64 l] 45)) w.heap.size (.int .i64 6) (.string (zb t.s)) (.int .i64 0) (.slice (some ⟨y.heap.size,0,none⟩) 1 1) (.int .i64 t.line)) :=
   zJ.of_set5 (B:=w3.heap.size) 6 t.s 0 t.line (O.out.alloc _) (Nat.le_refl _) hr ap (zK.one 45 (c:=[.int .i64 a,.string b,.int .i64 c,.slice H I G,.int .i64 l]) ab.out rfl R) (by omega) (U.keep (Below.heap_alloc _ _ _ (by have:=O.out.size;omega)) (Below.heap_alloc _ _ _ (by have:=O.out.size;omega)))
  generalize set5 (y.alloc (.cells #[.int .i64 a,.string b,.int .i64 c,.slice H I G,.int .i64 l] 45)) w.heap.size (.int .i64 6) (.string (zb t.s)) (.int .i64 0) (.slice (some ⟨y.heap.size,0,none⟩) 1 1) (.int .i64 t.line)=W at *;have HP:Hid (zJ r g w (UB t (.ok (x,us))) (.returned (.agg #[.int .i64 6,.string (zb t.s),.int .i64 0,.slice (some ⟨y.heap.size,0,none⟩) 1 1,.int .i64 t.line])) W):=hp;clear hp p5 aa U q0 q1 q2 q3 q4 qf am aj an al ao ak Q T af ag c1 c3 J O R ab ad L V ai;go_wp2
  exact bodyPost_ret (v:=.agg #[.int .i64 6,.string (zb t.s),.int .i64 0,.slice (some ⟨y.heap.size,0,none⟩) 1 1,.int .i64 t.line]) (by simp [results,Tryz.results125,go_sem,z0,z1,z2,z3,z4]) rfl HP.out
end Go.Proofs.YtpejpbbdgblbeaaGreatDoor
