import Derived.Test.YtpejpbbdgblbeaaGreatDoorMC14
import Derived.Maps.AppendAt
import Derived.Deep.RegionHeld3
import Derived.RegionDies
namespace Go.Proofs.YtpejpbbdgblbeaaGreatDoor
open Go.RowKit Go.Shelf
set_option maxHeartbeats 16000000
set_option maxRecDepth 100000
theorem zz (t:Tk) (ts:List Tk):zw (t::ts)=t:=by unfold zw;rfl
def Yc (t:Tk) (ts:List Tk) (res:PR (List Ex)):PR (List Ex) :=
 if zo t [40]=true then
  if zo (zw ts) [41]=true then .ok ([],ts.tail) else
  match res with
  | .error a=>.error a
  | .ok (l,us)=>if zo (zw us) [41]=true then .ok (l,us.tail) else .error (zw us).at0
 else .error t.at0
theorem vE (r g o cap:Nat) (f:Value) (t:Tk) (ts:List Tk) (w:World) (res:PR (List Ex)) (h:zf r g o cap (t::ts) w) (hE:zg (t::ts)) (hEnd:∀l us,res=.ok (l,us)→zg us)
  (hrow:zo t [40]=true→zo (zw ts) [41]=false→∀A o1 cap1,zf r g o1 cap1 ts A→zd r w A→Calls Tryz.prog 196 #[.pointer (some ⟨r,0,none⟩),f] A (X5 r g A res)) :
  Calls Tryz.prog 195 #[.pointer (some ⟨r,0,none⟩),f] w (X5 r g w (Yc t ts res)):=by
 have hr:=h.lt.1;have J:=yB r g o cap t ts [40] w h (fun hi=>(hE.tail (zi hi)).ne)
 clear h
 unfold Yc
 by_cases hi:zo t [40]=true
 ·simp only [if_pos hi] at J ⊢
  have N:=hE.tail (zi hi);obtain ⟨t1,I,rfl⟩:=N.cons;simp only [zz,List.tail_cons] at hrow ⊢
  by_cases hj:zo t1 [41]=true
  ·simp only [if_pos hj]
   clear hrow hEnd
   go_enter Tryz.func195,Tryz.ntmps195
   go_wp2_with fail
   refine J.mono ?_;clear J;rintro e A ⟨s,rfl,Y⟩;have O:=Zt r g _ _ t1 I [41] A Y (fun hi=>(N.tail (zi hi)).ne)
   have Q:Hid (zd r w A):=s;rw [hj] at O;clear Y s;go_wp2_with fail
   refine O.mono ?_;clear O;rintro e w2 ⟨rfl,D,h2⟩;have H:Hid (zd r w w2):=Q.out.trans D;have ae:zf r g (o+5+5) (cap-1-1) I w2:=by simpa using h2
   have ag:Hid (zf r g (o+5+5) (cap-1-1) I w2):=ae;clear h2 ae D;go_wp2
   refine bodyPost_ret (v:=.slice none 0 0) (by simp [results,Tryz.results195,go_sem]) rfl ⟨H.out,_,_,_,rfl,.inl ⟨rfl,rfl⟩,ag.out⟩
  ·have aa:zo t1 [41]=false:=by simpa using hj
   simp only [if_neg hj]
   go_enter Tryz.func195,Tryz.ntmps195
   go_wp2_with fail
   refine J.mono ?_;clear J;rintro e A ⟨s,rfl,Y⟩;have O:=Zt r g _ _ t1 I [41] A Y (fun hi=>(N.tail (zi hi)).ne)
   have Q:Hid (zd r w A):=s;rw [aa] at O;clear Y s;go_wp2_with fail
   refine O.mono ?_;clear O;rintro e w2 ⟨rfl,D,h2⟩;have L:zd r w w2:=Q.out.trans D;have H:Hid (zd r w w2):=L;have cr:=hrow hi aa w2 _ _ (by simpa using h2) L
   clear h2 D L hrow;go_wp2_with fail
   refine cr.mono ?_;clear cr;rintro e w3 ⟨V,G⟩;have R:Hid (zd r w w3):=H.out.trans V;rcases res with a | ⟨l,us⟩
   ·obtain rfl:=G
    exact ⟨rfl,R.out,rfl⟩
   ·obtain ⟨v,o3,K,rfl,ab,W⟩:=G
    have U:=hEnd l us rfl;obtain ⟨t3,ad,rfl⟩:=U.cons;have y:=yB r g o3 K t3 ad [41] w3 W (fun hi=>(U.tail (zi hi)).ne)
    have aj:w.heap.size≤w2.heap.size:=H.out.size;have ak:r<w2.heap.size:=by omega
    have Z:Hid (yN w2.heap.size w3 l v):=ab;clear W ab V hEnd
    by_cases hm:zo t3 [41]=true
    ·simp only [if_pos hm] at y
     go_wp2_with fail
     refine y.mono ?_;clear y;rintro e w4 ⟨z,rfl,h4⟩;have af:Hid (zd r w w4):=R.out.trans z;have T:Hid (yN w2.heap.size w4 l v):=Z.out.kept z.size fun k hB hlt=>z.block k hlt (by omega)
     have ai:Hid (zf r g (o3+5) (K-1) ad w4):=h4;clear z h4;go_wp2
     refine bodyPost_ret (v:=v) (by simp [results,Tryz.results195,go_sem]) rfl ⟨af.out,_,_,_,rfl,T.out.mono aj,ai.out⟩
    ·simp only [if_neg hm] at y
     have ah:zo t3 [41]=false:=by simpa using hm
     go_wp2_with fail
     refine y.mono ?_;clear y;rintro e w4 ⟨z,rfl⟩;refine ⟨rfl,R.out.trans z,?_⟩;simp only [zz,ah,Bool.false_eq_true,if_false]
 ·simp only [if_neg hi] at J ⊢
  clear hrow hEnd
  go_enter Tryz.func195,Tryz.ntmps195
  go_wp2_with fail
  refine J.mono ?_;clear J;rintro e A ⟨s,rfl⟩;exact ⟨rfl,s,rfl⟩
def yW {α:Type} (p:Nat→Option (PR α)) (n:Nat):Prop:=∃f r,(∀k,p (f+k)=some r)∧∀x us,r=.ok (x,us)→us.length≤n
theorem Yv {ts:List Tk} (h:(zw ts).k≠0):ts.tail.length+1=ts.length:=by
 cases ts with
 | nil=>exact absurd rfl h
 | cons t us=>simp
theorem Zc {ts:List Tk} {s:List UInt8} (h:zo (zw ts) s=true):ts.tail.length+1=ts.length:=Yv (zi h)
theorem yW.then {α β:Type} {p:Nat→Option (PR α)} {q:Nat→α→List Tk→Option (PR β)} {n m:Nat} (h:yW p n) (hq:∀x us,us.length≤n→yW (fun f=>q f x us) m):yW (fun f=>zm (p f) (q f)) m:=by
 obtain ⟨f,r,o,H⟩:=h;cases r with
 | error a=>exact ⟨f,.error a,fun k=>by simp [zm,o k],fun x us h=>by cases h⟩
 | ok y =>
  obtain ⟨g,s,D,G⟩:=hq y.1 y.2 (H _ _ rfl);refine ⟨f+g,s,fun k=>?_,G⟩
  have z:=o (g+k);have A:=D (f+k);rw [show f+(g+k)=f+g+k by omega] at z
  rw [show g+(f+k)=f+g+k by omega] at A
  simp only [zm,z];exact A
theorem ZA {α:Type} (x:α) (us:List Tk) {n:Nat} (h:us.length≤n):yW (fun _=>(some (.ok (x,us)):Option (PR α))) n:=⟨0,.ok (x,us),fun _=>rfl,fun y vs h'=>by cases h';exact h⟩
theorem Yw (s:List UInt8) (ts:List Tk) {n:Nat} (h:ts.length≤n+1):yW (fun _=>zW s ts) n:=by
 refine ⟨0,_,fun _=>rfl,fun x us h'=>?_⟩
 split at h'
 ·rename_i o;have:=Zc o;cases h';omega
 ·cases h'
theorem Vx (ts:List Tk) {n:Nat} (h:ts.length≤n+1):yW (fun _=>yo ts) n:=by
 refine ⟨0,_,fun _=>rfl,fun x us h'=>?_⟩
 split at h'
 ·rename_i o;have:=Yv (ts:=ts) (by omega);cases h';omega
 ·cases h'
theorem yW.step {α:Type} {p q:Nat→Option (PR α)} {n:Nat} (h:yW q n) (hp:∀f,p (f+1)=q f):yW p n:=by
 obtain ⟨f,r,s,o⟩:=h;exact ⟨f+1,r,fun k=>by rw [show f+1+k=f+k+1 by omega,hp];exact s k,o⟩
theorem yW.le {α:Type} {p:Nat→Option (PR α)} {n m:Nat} (h:yW p n) (hm:n≤m):yW p m:=by
 obtain ⟨f,r,s,o⟩:=h;exact ⟨f,r,s,fun x us h=>Nat.le_trans (o x us h) hm⟩
theorem uI {α:Type} (a:Nat) (n:Nat):yW (fun _=>(some (.error a):Option (PR α))) n:=⟨0,.error a,fun _=>rfl,fun _ _ h=>by cases h⟩
theorem Xz (n:Nat):∀ts:List Tk,ts.length≤n→(∀o,yW (fun f=>zh f o ts) (n-1))∧(∀pre,yW (fun f=>yp f pre ts) (n-1))∧(∀o e,yW (fun f=>ZD f o e ts) n)∧(∀e,yW (fun f=>zE f e ts) n)∧yW (fun f=>zK f ts) (n-1)∧yW (fun f=>Zp f ts) (n-1):=by
 induction n with
 | zero =>
  intro ts D;obtain rfl:ts=[]:=List.length_eq_zero_iff.1 (by omega)
  have J:yW (fun f=>zQ f []) 0:=(uI 0 0).step fun f=>by simp [zQ,zw,zo,zm,zW]
  have N:∀e,yW (fun f=>zE f e []) 0:=fun e=>(ZA e [] (n:=0) (by simp)).step fun f=>by simp [zE,zw,zo]
  have G:∀o e,yW (fun f=>ZD f o e []) 0:=fun o e=>(ZA e [] (n:=0) (by simp)).step fun f=>by simp [ZD,zw]
  have A:yW (fun f=>Zp f []) 0:=(J.then (q:=fun f e ts=>zE f e ts) (m:=0) fun e us hu=>by
   obtain rfl:us=[]:=List.length_eq_zero_iff.1 (by omega)
   exact N e).step fun f=>by simp [Zp,zw]
  have z:∀d o,7-o≤d→yW (fun f=>zh f o []) 0:=fun d=>by
   induction d with
   | zero=>intro o hd;exact A.step fun f=>by rw [zh,if_pos (by omega)]
   | succ d ih =>
    intro o hd
    by_cases hc:6<o
    ·exact A.step fun f=>by rw [zh,if_pos hc]
    ·exact ((ih (o+1) (by omega)).then (q:=fun f e ts=>ZD f o e ts) (m:=0) fun e us hu=>by
      obtain rfl:us=[]:=List.length_eq_zero_iff.1 (by omega)
      exact G o e).step fun f=>by rw [zh,if_neg hc]
  refine ⟨fun o=>z _ o (Nat.le_refl _),fun pre=>?_,G,N,?_,A⟩
  ·exact ((z _ 1 (Nat.le_refl _)).then (q:=fun f e ts=>if zo (zw ts) [44]=true then yp f (pre++[e]) ts.tail else some (.ok (pre++[e],ts))) (m:=0) fun e us hu=>by
    obtain rfl:us=[]:=List.length_eq_zero_iff.1 (by omega)
    simpa [zw,zo] using ZA (pre++[e]) [] (n:=0) (by simp)).step fun f=>by rw [yp]
  ·exact (uI 0 0).step fun f=>by simp [zK,zw,zo,zm,zW]
 | succ n ih =>
  intro ts D;have B:=fun ts h o=>(ih ts h).1 o
  have K:=fun ts h pre=>(ih ts h).2.1 pre
  have M:=fun ts h o e=>(ih ts h).2.2.1 o e
  have H:=fun ts h e=>(ih ts h).2.2.2.1 e
  have O:=fun ts h=>(ih ts h).2.2.2.2.1
  have Q:=fun ts h=>(ih ts h).2.2.2.2.2
  have L:yW (fun f=>zK f ts) (n+1-1):=by
   refine ((Yw [40] ts (n:=n) D).then (q:=fun f _ ts=>if zo (zw ts) [41]=true then some (.ok ([],ts.tail)) else zm (yp f [] ts) fun l ts=>zm (zW [41] ts) fun _ ts=>some (.ok (l,ts))) (m:=n) fun _ us hu=>?_).step fun f=>by rw [zK]
   by_cases hc:zo (zw us) [41]=true
   ·simp only [if_pos hc];exact ZA _ _ (by simp;omega)
   ·simp only [if_neg hc]
    exact (K us hu []).then (q:=fun _ l ts=>zm (zW [41] ts) fun _ ts=>some (.ok (l,ts))) fun l vs hv=>(Yw [41] vs (n:=n) (by omega)).then (q:=fun _ _ ts=>some (.ok (l,ts))) fun _ xs hx=>ZA _ _ hx
  have G:∀o e,yW (fun f=>ZD f o e ts) (n+1):=fun o e=>by
   by_cases hc:(zw ts).k=4∧levelOf (zw ts).s=o
   ·have y:=Yv (ts:=ts) (by omega)
    exact ((B ts.tail (by omega) (o+1)).then (q:=fun f e2 ts'=>ZD f o (Ex.mk 7 (zw ts).s 0 [e,e2] e.line) ts') (m:=n+1) fun e2 us hu=>(M us (by omega) o _).le (by omega)).step fun f=>by rw [ZD,if_pos hc]
   ·exact (ZA e ts D).step fun f=>by rw [ZD,if_neg hc]
  have I:∀e,yW (fun f=>zE f e ts) (n+1):=fun e=>by
   by_cases hc:zo (zw ts) [91]=true
   ·have y:=Zc hc
    exact ((B ts.tail (by omega) 1).then (q:=fun f i ts=>zm (zW [93] ts) fun _ ts=>zE f (Ex.mk 8 [] 0 [e,i] e.line) ts) (m:=n+1) fun i us hu =>
     (Yw [93] us (n:=n) (by omega)).then (q:=fun f _ ts=>zE f (Ex.mk 8 [] 0 [e,i] e.line) ts) fun _ vs hv=>(H vs hv _).le (by omega)).step fun f=>by rw [zE,if_pos hc]
   ·by_cases hd:zo (zw ts) [46]=true
    ·have y:=Zc hd
     exact ((Vx ts.tail (n:=n) (by omega)).then (q:=fun f s ts=>zE f (Ex.mk 9 s 0 [e] e.line) ts) (m:=n+1) fun s us hu=>(H us hu _).le (by omega)).step fun f=>by rw [zE,if_neg hc,if_pos hd]
    ·exact (ZA e ts D).step fun f=>by rw [zE,if_neg hc,if_neg hd]
  have J:yW (fun f=>zQ f ts) n:=by
   by_cases c1:(zw ts).k=2
   ·have y:=Yv (ts:=ts) (by omega)
    exact (ZA (Ex.mk 1 [] (zw ts).n [] (zw ts).line) ts.tail (n:=n) (by omega)).step fun f=>by rw [zQ,if_pos c1]
   by_cases c2:(zw ts).k=3
   ·have y:=Yv (ts:=ts) (by omega)
    exact (ZA (Ex.mk 3 (zw ts).s 0 [] (zw ts).line) ts.tail (n:=n) (by omega)).step fun f=>by rw [zQ,if_neg c1,if_pos c2]
   by_cases c3:(zw ts).k=1
   ·have y:=Yv (ts:=ts) (by omega)
    by_cases d:zo (zw ts.tail) [40]=true
    ·exact ((O ts.tail (by omega)).then (q:=fun _ l ts'=>some (.ok (Ex.mk 5 (zw ts).s 0 l (zw ts).line,ts'))) (m:=n) fun l us hu=>ZA _ _ (by omega)).step fun f=>by rw [zQ,if_neg c1,if_neg c2,if_pos c3,if_pos d]
    ·exact (ZA (Ex.mk 4 (zw ts).s 0 [] (zw ts).line) ts.tail (n:=n) (by omega)).step fun f=>by rw [zQ,if_neg c1,if_neg c2,if_pos c3,if_neg d]
   by_cases c4:zo (zw ts) [116,114,117,101]=true
   ·have y:=Zc c4
    exact (ZA (Ex.mk 2 [] 1 [] (zw ts).line) ts.tail (n:=n) (by omega)).step fun f=>by rw [zQ,if_neg c1,if_neg c2,if_neg c3,if_pos c4]
   by_cases c5:zo (zw ts) [102,97,108,115,101]=true
   ·have y:=Zc c5
    exact (ZA (Ex.mk 2 [] 0 [] (zw ts).line) ts.tail (n:=n) (by omega)).step fun f=>by rw [zQ,if_neg c1,if_neg c2,if_neg c3,if_neg c4,if_pos c5]
   by_cases c6:zo (zw ts) [110,101,119]=true
   ·have y:=Zc c6
    exact ((Vx ts.tail (n:=n) (by omega)).then (q:=fun f s ts'=>zm (zK f ts') fun l ts'=>some (.ok (Ex.mk 11 s 0 l (zw ts).line,ts'))) (m:=n) fun s us hu =>
     (O us hu).then (q:=fun _ l ts'=>some (.ok (Ex.mk 11 s 0 l (zw ts).line,ts'))) fun l vs hv=>ZA _ _ (by omega)).step fun f=>by rw [zQ,if_neg c1,if_neg c2,if_neg c3,if_neg c4,if_neg c5,if_pos c6]
   by_cases c7:zo (zw ts) [91]=true
   ·have y:=Zc c7
    exact ((K ts.tail (by omega) []).then (q:=fun _ l ts'=>zm (zW [93] ts') fun _ ts'=>some (.ok (Ex.mk 10 [] 0 l (zw ts).line,ts'))) (m:=n) fun l us hu =>
     (Yw [93] us (n:=n) (by omega)).then (q:=fun _ _ ts'=>some (.ok (Ex.mk 10 [] 0 l (zw ts).line,ts'))) fun _ vs hv=>ZA _ _ (by omega)).step fun f=>by rw [zQ,if_neg c1,if_neg c2,if_neg c3,if_neg c4,if_neg c5,if_neg c6,if_pos c7]
   ·exact ((Yw [40] ts (n:=n) D).then (q:=fun f _ ts=>zm (zh f 1 ts) fun e ts=>zm (zW [41] ts) fun _ ts=>some (.ok (e,ts))) (m:=n) fun _ us hu =>
     (B us hu 1).then (q:=fun _ e ts=>zm (zW [41] ts) fun _ ts=>some (.ok (e,ts))) fun e vs hv=>(Yw [41] vs (n:=n) (by omega)).then (q:=fun _ _ ts=>some (.ok (e,ts))) fun _ xs hx=>ZA _ _ hx).step fun f=>by rw [zQ,if_neg c1,if_neg c2,if_neg c3,if_neg c4,if_neg c5,if_neg c6,if_neg c7]
  have A:yW (fun f=>Zp f ts) n:=by
   by_cases hc:(zw ts).k=4∧((zw ts).s=[45]∨(zw ts).s=[33])
   ·have y:=Yv (ts:=ts) (by omega)
    exact ((Q ts.tail (by omega)).then (q:=fun _ e ts'=>some (.ok (Ex.mk 6 (zw ts).s 0 [e] (zw ts).line,ts'))) (m:=n) fun e us hu=>ZA _ _ (by omega)).step fun f=>by rw [Zp,if_pos hc]
   ·exact (J.then (q:=fun f e ts=>zE f e ts) (m:=n) fun e us hu=>H us hu e).step fun f=>by rw [Zp,if_neg hc]
  have z:∀d o,7-o≤d→yW (fun f=>zh f o ts) n:=fun d=>by
   induction d with
   | zero=>intro o hd;exact A.step fun f=>by rw [zh,if_pos (by omega)]
   | succ d ih =>
    intro o hd
    by_cases hc:6<o
    ·exact A.step fun f=>by rw [zh,if_pos hc]
    ·exact ((ih (o+1) (by omega)).then (q:=fun f e ts=>ZD f o e ts) (m:=n) fun e us hu=>M us hu o e).step fun f=>by rw [zh,if_neg hc]
  refine ⟨fun o=>z _ o (Nat.le_refl _),fun pre=>?_,G,I,L,A⟩
  refine ((z _ 1 (Nat.le_refl _)).then (q:=fun f e ts=>if zo (zw ts) [44]=true then yp f (pre++[e]) ts.tail else some (.ok (pre++[e],ts))) (m:=n) fun e us hu=>?_).step fun f=>by rw [yp]
  by_cases hc:zo (zw us) [44]=true
  ·simp only [if_pos hc]
   have y:=Zc hc;exact (K us.tail (by omega) (pre++[e])).le (by omega)
  ·simp only [if_neg hc]
   exact ZA _ _ hu
structure Z2 {α:Type} (E:(Nat→Prop)→World→α→List Value→Prop):Prop where
 kept:∀{S:Nat→Prop} {w w':World} {x:α} {c:List Value},E S w x c→w.heap.size≤w'.heap.size→(∀k,S k→k<w.heap.size→w'.heap[k]?=w.heap[k]?)→E S w' x c
 wide:∀{S S':Nat→Prop} {w:World} {x:α} {c:List Value},E S w x c→(∀k,S k→S' k)→E S' w x c
 low:∀{S:Nat→Prop} {w:World} {x:α} {c:List Value},E S w x c→E (fun k=>S k∧k<w.heap.size) w x c
structure Zf {α:Type} (E:(Nat→Prop)→World→α→List Value→Prop) (sz ty B:Nat) (w:World) (l:List α) (v:Value) (g cap:Nat) (us:List (List Value)):Prop where
 val:v=.slice (some ⟨g,0,none⟩) l.length cap
 ne:l≠[]
 own:w.ownsRow B ty sz v l.length us.flatten
 len:us.length=l.length
 wid:∀c∈us,c.length=sz
 kids:∀(j:Nat) (x:α) (c:List Value),l[j]?=some x→us[j]?=some c→E (fun k=>B≤k∧k≠g) w x c
theorem Zf.block {α:Type} {E:(Nat→Prop)→World→α→List Value→Prop} {sz ty B:Nat} {w:World} {l:List α} {v:Value} {g cap:Nat} {us:List (List Value)} (h:Zf E sz ty B w l v g cap us):B≤g∧g<w.heap.size∧l.length≤cap∧cap≤maxLen:=by
 have y:=h.own.lt g (by rw [h.val];rfl)
 refine ⟨y.1,y.2,?_⟩;rcases h.own.2 with ⟨o,_⟩ | ⟨G,s,z,o,_,_,A,D,_⟩
 ·rw [h.val] at o;cases o
 ·rw [h.val] at o
  cases o
  exact ⟨A,D⟩
theorem Zf.kept {α:Type} {E:(Nat→Prop)→World→α→List Value→Prop} (L:Z2 E) {sz ty B:Nat} {w w':World} {l:List α} {v:Value} {g cap:Nat} {us:List (List Value)} (h:Zf E sz ty B w l v g cap us)
  (hs:w.heap.size≤w'.heap.size) (hb:∀k,B≤k→k<w.heap.size→w'.heap[k]?=w.heap[k]?):Zf E sz ty B w' l v g cap us where
 val:=h.val
 ne:=h.ne
 own:=by
  refine ⟨h.own.1,?_⟩;rcases h.own.2 with s | ⟨z,o,y,s,D,A,G⟩
  ·exact .inl s
  ·exact .inr ⟨z,o,y,s,D,(hb z D (Array.getElem?_eq_some_iff.1 A).1).trans A,G⟩
 len:=h.len
 wid:=h.wid
 kids:=fun j x c hx hc=>L.kept (h.kids j x c hx hc) hs fun k hk hlt=>hb k hk.1 hlt
theorem Zf.first {α:Type} {E:(Nat→Prop)→World→α→List Value→Prop} (L:Z2 E) {sz ty B:Nat} {w:World} {x:α} {c:List Value} (hx:E (fun k=>B≤k) w x c) (hc:c.length=sz) (hB:B≤w.heap.size) :
  Zf E sz ty B (w.alloc (.cells c.toArray ty)) [x] (.slice (some ⟨w.heap.size,0,none⟩) 1 1) w.heap.size 1 [c] where
 val:=rfl
 ne:=by simp
 own:=by
  refine ⟨by simp [hc],.inr ⟨w.heap.size,1,c.toArray,rfl,hB,World.alloc_heap_new _ _,Nat.le_refl _,by simp [maxLen],by simp [hc],?_⟩⟩
  simp [hc,List.take_of_length_le]
 len:=rfl
 wid:=by simp [hc]
 kids:=fun j y d hy hd=>by
  cases j with
  | succ j=>simp at hy
  | zero =>
   simp only [List.getElem?_cons_zero,Option.some.injEq] at hy hd;subst hy hd;exact L.wide (L.kept (L.low hx) (by simp) fun k hk _=>Below.heap_alloc _ _ _ hk.2) fun k hk=>⟨hk.1,by omega⟩
theorem Zf.snoc {α:Type} {E:(Nat→Prop)→World→α→List Value→Prop} (L:Z2 E) {sz ty B:Nat} {w w':World} {l:List α} {v v':Value} {g cap:Nat} {us:List (List Value)} (h:Zf E sz ty B w l v g cap us) {x:α} {c:List Value} {ob:Obj}
  (hx:E (fun k=>B≤k∧k≠g) w x c) (hc:c.length=sz) (ho:w'.ownsRow B ty sz v' (l.length+1) (us.flatten++c)) (hg:(w.alloc ob).grownBy w' v.ownBlock) (ha:v'.ownBlock=v.ownBlock∨v'.ownBlock=some (w.alloc ob).heap.size) :
  ∃o cap',Zf E sz ty B w' (l++[x]) v' o cap' (us++[c])∧(o=g∨w.heap.size≤o):=by
 have O:=h.block;have G:v.ownBlock=some g:=by rw [h.val];rfl
 rw [G] at hg ha
 obtain ⟨o,cap',A⟩:∃o cap',v'=.slice (some ⟨o,0,none⟩) (l.length+1) cap':=by
  rcases ho.2 with ⟨_,D⟩ | ⟨o,cap',_,K,_⟩
  ·omega
  ·exact ⟨o,cap',K⟩
 have J:o=g∨o=(w.alloc ob).heap.size:=by
  rw [A] at ha
  simpa [Value.ownBlock] using ha
 have N:(w.alloc ob).heap.size=w.heap.size+1:=by simp
 have I:w.heap.size≤w'.heap.size:=by have:=hg.size;omega
 have z:∀k,k≠g→k<w.heap.size→w'.heap[k]?=w.heap[k]?:=fun k hk hlt=>(hg.block k (by omega) (by simpa using hk)).trans (Below.heap_alloc _ _ _ hlt)
 have s:∀y d,E (fun k=>B≤k∧k≠g) w y d→E (fun k=>B≤k∧k≠o) w' y d:=fun y d hy =>
  L.wide (L.kept (L.low hy) I fun k hk _=>z k hk.1.2 hk.2) fun k hk=>⟨hk.1.1,by omega⟩
 refine ⟨o,cap',⟨by rw [A,List.length_append];rfl,by simp,?_,by simp [h.len],?_,fun j y d hy hd=>?_⟩,by omega⟩
 ·rw [List.length_append,List.flatten_append]
  simpa using ho
 ·intro d hd
  rcases List.mem_append.1 hd with hd | hd
  ·exact h.wid d hd
  ·simp only [List.mem_singleton] at hd;rw [hd];exact hc
 ·rw [List.getElem?_append] at hy hd
  rw [h.len] at hd
  split at hy
  ·rename_i H
   rw [if_pos H] at hd;exact s y d (h.kids j y d hy hd)
  ·rename_i H
   rw [if_neg H] at hd
   have:j-l.length=0:=by
    rcases Nat.eq_zero_or_pos (j-l.length) with D | D
    ·exact D
    ·rw [List.getElem?_eq_none (by simp;omega)] at hy;cases hy
   rw [this] at hy hd;simp only [List.getElem?_cons_zero,Option.some.injEq] at hy hd;subst hy hd;exact s _ _ hx
def ExE (S:Nat→Prop) (w:World) (x:Ex) (c:List Value):Prop:=zV S w x (.agg c.toArray)
theorem YX:Z2 ExE:=⟨fun h hs hb=>zV.kept h hs hb,fun h hS=>zV.wide h hS,fun h=>zV.low h⟩
theorem Zf.row {ty B:Nat} {w:World} {l:List Ex} {v:Value} {g cap:Nat} {us:List (List Value)} (h:Zf ExE 5 ty B w l v g cap us):yN B w l v:=by
 have s:=h.block;refine .inr ⟨g,cap,us,h.val,h.ne,h.len,s.1,s.2.1,s.2.2.1,s.2.2.2,fun j u hj=>?_,h.wid,fun j x c o hc=>zV.wide (h.kids j x c o hc) fun k hk=>hk.1⟩
 have o:=h.own.cells (g:=g) (by rw [h.val];rfl) j u hj
 by_cases h0:j=0
 ·subst h0;simpa [Addr.add] using o
 ·simpa [Addr.add,h0] using o
theorem Yl {f least:Nat} {ts us:List Tk} {x:Ex} (h:zh f least ts=some (.ok (x,us))):us.length≤ts.length-1:=by
 obtain ⟨y,z,o,s⟩:=(Xz ts.length ts (Nat.le_refl _)).1 least;exact s x us (X4 (o 0) h)
def ug (f:Nat) (l:List Ex) (ts:List Tk):Option (PR (List Ex)):=if zo (zw ts) [44]=true then yp f l ts.tail else some (.ok (l,ts))
def ZQ (r:Nat) (w:World):Nat:=match w.cell? ⟨r,0,none⟩ with | some (.slice _ n _)=>n | _=>0
theorem zf.left {r g o cap:Nat} {ts:List Tk} {w:World} (h:zf r g o cap ts w):ZQ r w=ts.length:=by unfold ZQ;rw [h.cell]
theorem zd.grown {r:Nat} {w w1 w2:World} {row:Option Nat} (h:zd r w w1) (hg:w1.grownBy w2 row) (hrow:∀k,row=some k→w.heap.size≤k):zd r w w2 :=
 ⟨hg.os.trans h.os,hg.tape.trans h.tape,hg.output.trans h.output,Nat.le_trans h.size hg.size,fun k hk hr=>(hg.block k (Nat.lt_of_lt_of_le hk h.size) fun e=>by have:=hrow k e.symm;omega).trans (h.block k hk hr)⟩
theorem U0:(Tryz.prog.info? 45).map (fun i=>(i.zero,i.size,i.bytes))=some (some (.agg #[.int .i64 0,.string ⟨#[]⟩,.int .i64 0,.slice none 0 0,.int .i64 0]),5,64):=by kernel_rfl
theorem zgt (r g o cap F:Nat) (ts:List Tk) (w:World) (res:PR (List Ex)) (h:zf r g o cap ts w) (hE:zg ts) (hN:ts.length≤1099511627776) (hp:yp (F+1) [] ts=some res)
  (hone:∀G o1 y s r1,zh F 1 s=some r1→zg s→s.length≤1099511627776→zf r g o1 y s G→zd r w G→Calls Tryz.prog 44 #[.pointer (some ⟨r,0,none⟩)] G (zH r g G r1)) :
  Calls Tryz.prog 196 #[.pointer (some ⟨r,0,none⟩),.func (.func 44) #[.pointer (some ⟨r,0,none⟩)] #[]] w (X5 r g w res):=by
 obtain ⟨i0,aH,aM,aF,aG⟩:=info_parts U0;obtain ⟨t0,ax,rfl⟩:=hE.cons;have hr:=h.lt.1;have aT:=h.lt.2;rw [yp] at hp;cases hb:zh F 1 (t0::ax) with
 | none=>rw [hb] at hp;cases hp
 | some r1 =>
  have c1:=hone w o cap (t0::ax) r1 hb hE hN h (zd.refl r w);rw [hb] at hp;simp only [zm] at hp
  go_enter Tryz.func196,Tryz.ntmps196
  go_wp2_with fail
  refine c1.mono ?_;clear c1;rintro e G ⟨ab,z⟩;rcases r1 with a | ⟨x,us⟩
  ·obtain rfl:=z
   simp only [Option.some.injEq] at hp;subst hp;exact ⟨rfl,ab,rfl⟩
  ·obtain ⟨v,o1,y,rfl,hx,Q⟩:=z
   obtain ⟨a,b,c,d0,d1,d2,l,rfl⟩:=hx.agg;have ao:=(Ze F).1 _ _ _ _ hb hE;have ar:=Yl hb;have HP:Hid (ug F [x] us=some res):=hp;obtain ⟨t1,s,rfl⟩:=ao.cons
   have az:Hid (Zf ExE 5 45 w.heap.size (G.alloc (.cells #[.int .i64 a,.string b,.int .i64 c,.slice d0 d1 d2,.int .i64 l] 45)) [x] (.slice (some ⟨G.heap.size,0,none⟩) 1 1) G.heap.size 1 [[.int .i64 a,.string b,.int .i64 c,.slice d0 d1 d2,.int .i64 l]]) :=
    Zf.first YX (c:=[.int .i64 a,.string b,.int .i64 c,.slice d0 d1 d2,.int .i64 l]) (show zV _ _ _ _ from hx) rfl ab.size
   have ay:Hid (zf r g o1 y (t1::s) (G.alloc (.cells #[.int .i64 a,.string b,.int .i64 c,.slice d0 d1 d2,.int .i64 l] 45))):=Q.alloc _;have aD:Hid (zd r w (G.alloc (.cells #[.int .i64 a,.string b,.int .i64 c,.slice d0 d1 d2,.int .i64 l] 45))):=ab.alloc _;have aA:Hid (zg (t1::s)):=ao;have hn:s.length+2≤1099511627776:=by simp only [List.length_cons] at ar hN;omega
   have av:Hid (∀G o1 y s r1,zh F 1 s=some r1→zg s→s.length≤1099511627776→zf r g o1 y s G→zd r w G→Calls Tryz.prog 44 #[.pointer (some ⟨r,0,none⟩)] G (zH r g G r1)):=hone;clear hx Q ab ao hone hp hb hE hN h ar;go_wp2_with fail
   go_loopw [5] (fun v wr=>∃(L:List Ex) (g1 y:Nat) (us:List (List Value)) (o2 N:Nat) (W:List Tk) (f2:Nat),f2≤F∧ug f2 L W=some res∧zg W∧L.length+W.length≤1099511627776∧Zf ExE 5 45 w.heap.size wr L v g1 y us∧zf r g o2 N W wr∧zd r w wr) (fun _ wr=>ZQ r wr)
   case atStart=>exact ⟨[x],_,_,_,o1,y,t1::s,F,Nat.le_refl _,HP.out,aA.out,by simp only [List.length_cons,List.length_nil];omega,az.out,ay.out,aD.out⟩
   case round =>
    obtain ⟨L,g1,cp1,us,o2,N,W,f2,aW,D,U,af,O,K,ak⟩:=hrel;clear HP az ay aD aA hn;obtain ⟨t2,R,rfl⟩:=U.cons;have cs:=Zt r g o2 N t2 R [44] wr K (fun hi=>(U.tail (zi hi)).ne)
    have aq:=K.left;have Y:Hid (Zf ExE 5 45 w.heap.size wr L _ g1 cp1 us):=O;have ap:Hid (zd r w wr):=ak;have au:=O.val;subst au
    unfold ug at D
    simp only [zz,List.tail_cons] at D
    by_cases hi:zo t2 [44]=true
    ·rw [hi] at cs
     rw [if_pos hi] at D;have aC:=U.tail (zi hi);clear O ak K U;go_wp2_with fail
     refine cs.mono ?_;clear cs;rintro e w3 ⟨rfl,A,h3⟩;simp only [if_true] at h3;have an:zd r w w3:=ap.out.trans A;have H:=Y.out.kept YX A.size fun k hB hlt=>A.block k hlt (by omega)
     cases f2 with
     | zero=>simp [yp] at D
     | succ f3 =>
      rw [yp] at D;cases hb3:zh f3 1 R with
      | none=>rw [hb3] at D;cases D
      | some r3 =>
       rw [hb3] at D;simp only [zm] at D
       have am:zh F 1 R=some r3:=by
        have:=YH (k:=F-f3) hb3
        rwa [show f3+(F-f3)=F by omega] at this
       have c3:=av.out w3 _ _ R r3 am aC (by simp only [List.length_cons] at af;omega) h3 an
       have aR:=H.block;have I:Hid (Zf ExE 5 45 w.heap.size w3 L _ g1 cp1 us):=H;have ae:Hid (zd r w w3):=an;clear H an A h3 Y ap;go_wp2_with fail
       refine c3.mono ?_;clear c3;rintro e w4 ⟨ad,z⟩;have aa:Hid (zd r w w4):=ae.out.trans ad;rcases r3 with a | ⟨x3,ag⟩
       ·obtain rfl:=z
        simp only [Option.some.injEq] at D;subst D;exact ⟨rfl,aa.out,rfl⟩
       ·obtain ⟨v,o4,T,rfl,hx,Q⟩:=z
        obtain ⟨a4,b4,c4,p4,q4,s4,l4,rfl⟩:=hx.agg;have J:=I.out.kept YX ad.size fun k hB hlt=>ad.block k hlt (by omega)
        have aw:ExE (fun k=>w.heap.size≤k∧k≠g1) w4 x3 [.int .i64 a4,.string b4,.int .i64 c4,.slice p4 q4 s4,.int .i64 l4]:=zV.wide hx fun k hk=>⟨Nat.le_trans ae.out.size hk,by omega⟩
        have aP:Hid (ExE (fun k=>w.heap.size≤k∧k≠g1) w4 x3 [.int .i64 a4,.string b4,.int .i64 c4,.slice p4 q4 s4,.int .i64 l4]):=aw
        have ai:Hid (Zf ExE 5 45 w.heap.size w4 L _ g1 cp1 us):=J;have aJ:Hid (zf r g o4 T ag w4):=Q;have aL:=(Ze F).1 _ _ _ _ am aC;have aU:=Yl am;have aB:=(J.own.alloc (.cells #[.int .i64 a4,.string b4,.int .i64 c4,.slice p4 q4 s4,.int .i64 l4] 45));have HT:Hid (ug f3 (L++[x3]) ag=some res):=D;have aQ:w.heap.size≤w4.heap.size:=aa.out.size;clear J aw hx Q D ad
        go_wp2_with (at_builtin;refine wpList_append_own_at _ rfl _ _ 43 rfl w.heap.size 45 i0 _ 5 64 Tryz.underlying43 aH aM aF aG rfl (by decide) _ _ _ rfl aB ⟨w4.heap.size,0,none⟩ 1 1 [.int .i64 a4,.string b4,.int .i64 c4,.slice p4 q4 s4,.int .i64 l4] rfl rfl (ZR _ _ _) (by simp [Value.oneCell']) (by unfold maxLen;simp only [List.length_cons] at af;omega) (by simp only [List.length_cons] at af;omega) (by simp;omega) ?_;intro v' w5 aj V _ aO)
        obtain ⟨g5,aE,al,aV⟩:=ai.out.snoc YX aP.out rfl aj V aO
        have Z:(w4.alloc (.cells #[.int .i64 a4,.string b4,.int .i64 c4,.slice p4 q4 s4,.int .i64 l4] 45)).grownBy w5 (some g1):=V;have aN:zd r w w5:=(aa.out.alloc _).grown Z fun k hk=>by have:=Option.some.inj hk;omega
        have aS:w.heap.size≤w4.heap.size:=aa.out.size;have ah:zf r g o4 T ag w5:=aJ.out.keep ((Z.block r (by simp;omega) (fun e=>by have:=Option.some.inj e;omega)).trans (Below.heap_alloc _ _ _ (by omega))) ((Z.block g (by simp;omega) (fun e=>by have:=Option.some.inj e;omega)).trans (Below.heap_alloc _ _ _ (by omega)))
        refine ⟨⟨L++[x3],g5,aE,_,o4,T,ag,f3,by omega,HT.out,aL,?_,al,ah,aN⟩,?_⟩
        ·simp only [List.length_append,List.length_cons,List.length_nil] at af ⊢;omega
        ·rw [ah.left,aq];simp only [List.length_cons];omega
    ·have aK:zo t2 [44]=false:=by simpa using hi
     rw [aK] at cs;rw [if_neg hi] at D;clear O ak K U;go_wp2_with fail
     refine cs.mono ?_;clear cs;rintro e w3 ⟨rfl,A,h3⟩;have ae:Hid (zd r w w3):=ap.out.trans A;have I:Hid (yN w.heap.size w3 L (.slice (some ⟨g1,0,none⟩) L.length cp1)):=(Y.out.kept YX A.size fun k hB hlt=>A.block k hlt (by omega)).row
     have aI:Hid (zf r g o2 N (t2::R) w3):=show zf _ _ _ _ _ _ by simpa using h3
     simp only [Option.some.injEq] at D;subst D;clear A h3;go_wp2
     refine bodyPost_ret (v:=.slice (some ⟨g1,0,none⟩) L.length cp1) (by simp [results,Tryz.results196,go_sem]) rfl ⟨ae.out,_,_,_,rfl,I.out,aI.out⟩
theorem zI.one {S:Nat→Prop} {w:World} {x:Ex} {c:List Value} (ty:Nat) (hx:zV S w x (.agg c.toArray)) (hc:c.length=5) (hB:S w.heap.size):zI S (w.alloc (.cells c.toArray ty)) [x] (.slice (some ⟨w.heap.size,0,none⟩) 1 1):=by
 refine .inr ⟨w.heap.size,1,[c],rfl,by simp,rfl,hB,by simp,Nat.le_refl _,by simp [maxLen],fun j u hj=>?_,fun z hz=>?_,fun j z e hz he=>?_⟩
 ·have h:=ZR w c ty j u (by simpa using hj)
  by_cases h0:j=0
  ·subst h0;simpa [Addr.add] using h
  ·simpa [Addr.add,h0] using h
 ·simp only [List.mem_cons,List.not_mem_nil,or_false] at hz
  subst hz;exact hc
 ·match j,hz,he with
  | 0,hz,he =>
   simp only [List.getElem?_cons_zero,Option.some.injEq] at hz he
   subst hz he;exact zV.kept hx (by simp) fun k _ hlt=>Below.heap_alloc _ _ _ hlt
  | j+1,hz,he=>simp at hz
theorem zI.two {S:Nat→Prop} {w:World} {x y:Ex} {c d:List Value} (ty:Nat) (hx:zV S w x (.agg c.toArray)) (hy:zV S w y (.agg d.toArray)) (hc:c.length=5) (hd:d.length=5) (hB:S w.heap.size) :
  zI S (w.alloc (.cells (c++d).toArray ty)) [x,y] (.slice (some ⟨w.heap.size,0,none⟩) 2 2):=by
 refine .inr ⟨w.heap.size,2,[c,d],rfl,by simp,rfl,hB,by simp,Nat.le_refl _,by simp [maxLen],fun j u hj=>?_,fun z hz=>?_,fun j z e hz he=>?_⟩
 ·have h:=ZR w (c++d) ty j u (by simpa using hj)
  by_cases h0:j=0
  ·subst h0;simpa [Addr.add] using h
  ·simpa [Addr.add,h0] using h
 ·simp only [List.mem_cons,List.not_mem_nil,or_false] at hz
  rcases hz with rfl | rfl <;> assumption
 ·have o:∀z e,zV S w z (.agg e)→zV S (w.alloc (.cells (c++d).toArray ty)) z (.agg e):=fun z e h=>zV.kept h (by simp) fun k _ hlt=>Below.heap_alloc _ _ _ hlt
  match j,hz,he with
  | 0,hz,he =>
   simp only [List.getElem?_cons_zero,Option.some.injEq] at hz he;subst hz he;exact o _ _ hx
  | 1,hz,he =>
   simp only [List.getElem?_cons_succ,List.getElem?_cons_zero,Option.some.injEq] at hz he;subst hz he;exact o _ _ hy
  | j+2,hz,he=>simp at hz
theorem xU {w:World} {N M j:Nat} {v:Value} (a b c d e:Value) (hne:M≠N) (h:w.cell? ⟨M,j,none⟩=some v):(set5 w N a b c d e).cell? ⟨M,j,none⟩=some v:=by
 exact (World.cell?_of_block (a:=⟨M,j,none⟩) (zr w N a b c d e hne)).trans h
theorem zH.of_set5 {r g o cap N B:Nat} {w w5:World} {us:List Tk} {l:List Ex} {v:Value} (k:Nat) (s:List UInt8) (n:Int) (line:Nat) (hK:zd r w w5) (hN:w.heap.size≤N) (hr:r<w.heap.size) (hg:g<w.heap.size) (hrow:yN B w5 l v) (hB:N<B) (hrd:zf r g o cap us w5) :
  zH r g w (.ok (.mk k s n l line,us)) (.returned (.agg #[.int .i64 k,.string (zb s),.int .i64 n,v,.int .i64 line])) (set5 w5 N (.int .i64 k) (.string (zb s)) (.int .i64 n) v (.int .i64 line)):=by
 refine ⟨ZO hK hN _ _ _ _ _,_,o,cap,rfl,?_,hrd.keep (zr _ _ _ _ _ _ _ (by omega)) (zr _ _ _ _ _ _ _ (by omega))⟩
 have h:=hrow.kept (w':=set5 w5 N (.int .i64 k) (.string (zb s)) (.int .i64 n) v (.int .i64 line)) (by simp) fun k hB _=>zr _ _ _ _ _ _ _ (by omega)
 exact ZL.of_row (h.mono (by omega)) k s n line
theorem zH.of_set5' {r g o cap N B:Nat} {w w5:World} {us:List Tk} {x:Ex} {a b c d e:Value} (hK:zd r w w5) (hN:w.heap.size≤N) (hr:r<w.heap.size) (hg:g<w.heap.size) (hx:ZL B w5 x (.agg #[a,b,c,d,e])) (hB:N<B) (hrd:zf r g o cap us w5) :
  zH r g w (.ok (x,us)) (.returned (.agg #[a,b,c,d,e])) (set5 w5 N a b c d e):=by
 refine ⟨ZO hK hN _ _ _ _ _,_,o,cap,rfl,?_,hrd.keep (zr _ _ _ _ _ _ _ (by omega)) (zr _ _ _ _ _ _ _ (by omega))⟩
 exact ZL.mono (ZL.kept hx (w':=set5 w5 N a b c d e) (by simp) fun k hB _=>zr _ _ _ _ _ _ _ (by omega)) (by omega)
def uJ (t:Tk):PR Ex→PR Ex
 | .error a=>.error a
 | .ok (e,ts)=>.ok (.mk 6 t.s 0 [e] t.line,ts)
theorem qB (r g o cap:Nat) (t:Tk) (ts:List Tk) (w:World) (res:PR Ex) (h:zf r g o cap (t::ts) w) (hE:zg (t::ts)) (hk:t.k=4) (hs:(t.s==[45]||t.s==[33])=true)
  (hun:∀Z o1 cap1,zf r g o1 cap1 ts Z→zd r w Z→Calls Tryz.prog 125 #[.pointer (some ⟨r,0,none⟩)] Z (zH r g Z res)) :
  Calls Tryz.prog 125 #[.pointer (some ⟨r,0,none⟩)] w (zH r g w (uJ t res)):=by
 have hr:=h.lt.1;have ap:=h.lt.2;have ca:=fun w=>vD t.s w
 simp only [hs] at ca;have h0:=h.alloc Zu;have ch:=Z3 r g o cap t ts _ h0;obtain ⟨w2,D⟩:∃w2,w2=((w.alloc Zu).alloc (ZK t)).alloc (.cells #[.int .i64 4,.string (zb t.s),.int .i64 t.n,.int .i64 t.line,.int .i64 t.at0] 66):=⟨_,rfl⟩;have h2:zf r g o cap (t::ts) w2:=by rw [D];exact (h0.alloc _).alloc _
 have k2:zd r w w2:=by rw [D];exact (((zd.refl r w).alloc _).alloc _).alloc _
 have cs:=vx r g o cap t ts w2 h2 (hE.tail (by omega)).ne
 have ae:Hid (w2=((w.alloc Zu).alloc (ZK t)).alloc (.cells #[.int .i64 4,.string (zb t.s),.int .i64 t.n,.int .i64 t.line,.int .i64 t.at0] 66)):=D;clear h h0
 go_enter Tryz.func125,Tryz.ntmps125
 go_wp2_with fail
 refine ch.mono ?_;clear ch;rintro e Z ⟨rfl,rfl⟩;simp only [VP];go_wp2_with (go_at_call 119;refine (ca _).mono ?_;rintro e Z ⟨rfl,rfl⟩)
 rw [←ae.out];refine cs.mono ?_;clear cs ca;rintro e w3 ⟨rfl,N⟩
 have n2:w2.heap[w.heap.size+1+1]?=some (.cells #[.int .i64 4,.string (zb t.s),.int .i64 t.n,.int .i64 t.line,.int .i64 t.at0] 66 (0,0)):=by
  have hx:=World.alloc_heap_new ((w.alloc Zu).alloc (ZK t)) (.cells #[.int .i64 4,.string (zb t.s),.int .i64 t.n,.int .i64 t.line,.int .i64 t.at0] 66);rw [←D,show ((w.alloc Zu).alloc (ZK t)).heap.size=w.heap.size+1+1 by simp] at hx
  exact hx
 have n0:w2.heap[w.heap.size]?=some Zu:=by
  rw [D,Below.heap_alloc _ _ _ (by simp;omega),Below.heap_alloc _ _ _ (by simp)]
  exact World.alloc_heap_new _ _
 have V:zd r w w3:=by rw [N];exact k2.setCell 0 _
 have U:zd r w2 w3:=by rw [N];exact (zd.refl r w2).setCell 0 _
 have h3:zf r g (o+5) (cap-1) ts w3:=by rw [N];exact h2.next
 have m2:=(U.block _ (Array.getElem?_eq_some_iff.1 n2).1 (by omega)).trans n2
 have m0:=(U.block _ (Array.getElem?_eq_some_iff.1 n0).1 (by omega)).trans n0
 have cu:∀W:World,W.heap=w3.heap→W.os=w3.os→W.tape=w3.tape→W.output=w3.output→Calls Tryz.prog 125 #[.pointer (some ⟨r,0,none⟩)] W fun e w'=>zd r w3 w'∧zH r g W res e w':=fun W e1 e2 e3 e4 =>
  (hun W _ _ (h3.keep (by rw [e1]) (by rw [e1])) ⟨e2.trans V.os,e3.trans V.tape,e4.trans V.output,by rw [e1];exact V.size,fun k hk hr=>by rw [e1];exact V.block k hk hr⟩).mono fun e w' h =>
   ⟨⟨h.1.os.trans e2,h.1.tape.trans e3,h.1.output.trans e4,by rw [←e1];exact h.1.size,fun k hk hr=>by rw [←e1];exact h.1.block k (by rw [e1];exact hk) hr⟩,h⟩
 have Y:Hid (zd r w w3):=V;have ah:w.heap.size+1+1<w3.heap.size:=(Array.getElem?_eq_some_iff.1 m2).1;have c1:w3.cell? ⟨w.heap.size+1+1,1,none⟩=some (.string (zb t.s)):=by simp only [World.cell?,m2];rfl
 have c3:w3.cell? ⟨w.heap.size+1+1,3,none⟩=some (.int .i64 t.line):=by simp only [World.cell?,m2];rfl
 clear hun N n2 n0 V U h3 h2 k2 D ae hE;rcases res with a | ⟨x,us⟩
 ·have L:∀W:World,W.heap=w3.heap→W.os=w3.os→W.tape=w3.tape→W.output=w3.output→Calls Tryz.prog 125 #[.pointer (some ⟨r,0,none⟩)] W fun e w'=>e=ZH a∧zd r w w':=fun W e1 e2 e3 e4=>(cu W e1 e2 e3 e4).mono fun e w' h=>⟨h.2.2,Y.out.trans h.1⟩
  clear cu;go_wp2_with fail
  go_region_dies
  all_goals (go_wp2_with fail;refine (L _ (by rfl) (by rfl) (by rfl) (by rfl)).mono ?_;rintro e y ⟨rfl,z⟩;exact ⟨rfl,z,rfl⟩)
 ·have L:∀W:World,W.heap=w3.heap→W.os=w3.os→W.tape=w3.tape→W.output=w3.output→Calls Tryz.prog 125 #[.pointer (some ⟨r,0,none⟩)] W fun e w'=>∃(a:Int) (b:ByteArray) (c:Int) (G:Option Addr) (J H:Nat) (l:Int),e=.returned (.agg #[.int .i64 a,.string b,.int .i64 c,.slice G J H,.int .i64 l]) ∧
    w'.cell? ⟨w.heap.size+1+1,1,none⟩=some (.string (zb t.s))∧w'.cell? ⟨w.heap.size+1+1,3,none⟩=some (.int .i64 t.line)∧w'.heap[w.heap.size]?=some Zu∧Hid (zd r w w')∧w3.heap.size≤w'.heap.size ∧
    Hid (ZL w3.heap.size w' x (.agg #[.int .i64 a,.string b,.int .i64 c,.slice G J H,.int .i64 l]))∧Hid (∃o4 A,zf r g o4 A us w'):=fun W e1 e2 e3 e4=>(cu W e1 e2 e3 e4).mono fun e w' h=>by
   obtain ⟨z,-,v,o4,A,rfl,hx,ai⟩:=h;obtain ⟨a,b,c,G,J,H,l,rfl⟩:=hx.agg;exact ⟨a,b,c,G,J,H,l,rfl,z.cell (p:=⟨w.heap.size+1+1,1,none⟩) (by simp;omega) c1,z.cell (p:=⟨w.heap.size+1+1,3,none⟩) (by simp;omega) c3,(z.block _ (by omega) (by omega)).trans m0,Y.out.trans z,z.size,(by rw [←e1];exact hx:ZL w3.heap.size w' x _),⟨o4,A,ai⟩⟩
  clear cu m0 m2;go_wp2_with fail
  go_region_held3 (fun W=>W.cell? ⟨w.heap.size+1+1,1,none⟩=some (.string (zb t.s))∧W.cell? ⟨w.heap.size+1+1,3,none⟩=some (.int .i64 t.line)) (first | go_keep | exact ⟨xU _ _ _ _ _ (by omega) (T _),xU _ _ _ _ _ (by omega) (Q _)⟩) (first | (go_at_call 125;refine (L _ (by rfl) (by rfl) (by rfl) (by rfl)).mono ?_;rintro e y ⟨a,b,c,G,J,H,l,rfl,af,ab,I,K,R,ag,ad⟩;have q0:y.cell? ⟨w.heap.size,0,none⟩=some (.int .i64 0):=(by simp only [World.cell?,I];rfl);have q1:y.cell? ⟨w.heap.size,1,none⟩=some (.string ⟨#[]⟩):=(by simp only [World.cell?,I];rfl);have q2:y.cell? ⟨w.heap.size,2,none⟩=some (.int .i64 0):=(by simp only [World.cell?,I];rfl);have q3:y.cell? ⟨w.heap.size,3,none⟩=some (.slice none 0 0):=(by simp only [World.cell?,I];rfl);have q4:y.cell? ⟨w.heap.size,4,none⟩=some (.int .i64 0):=(by simp only [World.cell?,I];rfl);have qf:∀j,y.frozen? ⟨w.heap.size,j,none⟩=false:=(fun j=>by simp only [World.frozen?,I];simp);have ao:∀ob j,(y.alloc ob).frozen? ⟨w.heap.size,j,none⟩=false:=(fun ob j=>by simp only [World.frozen?,Below.heap_alloc y ob w.heap.size (Array.getElem?_eq_some_iff.1 I).1,I];simp);have aj:=zj q0;have al:=zj q1;have am:=zj q2;have an:=zj q3;have ak:=zj q4;have T:=zj af;have Q:=zj ab))
  obtain ⟨o4,A,O⟩:=ad.out;have aa:=World.block_lt_of_cell? y _ q0;have p5:(y.alloc (.cells #[.int .i64 a,.string b,.int .i64 c,.slice G J H,.int .i64 l] 45)).heap[w.heap.size]?=some Zu:=(Below.heap_alloc _ _ _ aa).trans I;obtain ⟨z0,z1,z2,z3,z4⟩:=zT p5 (.int .i64 6) (.string (zb t.s)) (.int .i64 0) (.slice (some ⟨y.heap.size,0,none⟩) 1 1) (.int .i64 t.line)
  change Exit.then _ _ _ _ (set5 (y.alloc (.cells #[.int .i64 a,.string b,.int .i64 c,.slice G J H,.int .i64 l] 45)) w.heap.size (.int .i64 6) (.string (zb t.s)) (.int .i64 0) (.slice (some ⟨y.heap.size,0,none⟩) 1 1) (.int .i64 t.line))
  have hp:zH r g w (uJ t (.ok (x,us))) (.returned (.agg #[.int .i64 6,.string (zb t.s),.int .i64 0,.slice (some ⟨y.heap.size,0,none⟩) 1 1,.int .i64 t.line])) (set5 (y.alloc (.cells #[.int .i64 a,.string b,.int .i64 c,.slice G J H,.int .i64 l] 45)) w.heap.size (.int .i64 6) (.string (zb t.s)) (.int .i64 0) (.slice (some ⟨y.heap.size,0,none⟩) 1 1) (.int .i64 t.line)) :=
   zH.of_set5 (B:=w3.heap.size) 6 t.s 0 t.line (K.out.alloc _) (Nat.le_refl _) hr ap (zI.one 45 (c:=[.int .i64 a,.string b,.int .i64 c,.slice G J H,.int .i64 l]) ag.out rfl R) (by omega) (O.keep (Below.heap_alloc _ _ _ (by have:=K.out.size;omega)) (Below.heap_alloc _ _ _ (by have:=K.out.size;omega)))
  generalize set5 (y.alloc (.cells #[.int .i64 a,.string b,.int .i64 c,.slice G J H,.int .i64 l] 45)) w.heap.size (.int .i64 6) (.string (zb t.s)) (.int .i64 0) (.slice (some ⟨y.heap.size,0,none⟩) 1 1) (.int .i64 t.line)=W at *;have HP:Hid (zH r g w (uJ t (.ok (x,us))) (.returned (.agg #[.int .i64 6,.string (zb t.s),.int .i64 0,.slice (some ⟨y.heap.size,0,none⟩) 1 1,.int .i64 t.line])) W):=hp;clear hp p5 aa O q0 q1 q2 q3 q4 qf ao aj al am an ak T Q af ab c1 c3 I K R ag ad L Y ah;go_wp2
  exact bodyPost_ret (v:=.agg #[.int .i64 6,.string (zb t.s),.int .i64 0,.slice (some ⟨y.heap.size,0,none⟩) 1 1,.int .i64 t.line]) (by simp [results,Tryz.results125,go_sem,z0,z1,z2,z3,z4]) rfl HP.out
end Go.Proofs.YtpejpbbdgblbeaaGreatDoor
