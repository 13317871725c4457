import Derived.Test.YtpejpbbdgblbeaaGreatDoorMC14
import Derived.Maps.AppendAt
namespace Go.Proofs.YtpejpbbdgblbeaaGreatDoor
open Go.RowKit Go.Shelf
set_option maxHeartbeats 16000000
set_option maxRecDepth 100000
theorem zI (t:Tk) (ts:List Tk):zx (t::ts)=t:=by unfold zx;rfl
def Y7 (t:Tk) (ts:List Tk) (res:PR (List Ex)):PR (List Ex) :=
 if zn t [40]=true then
  if zn (zx ts) [41]=true then .ok ([],ts.tail) else
  match res with
  | .error a=>.error a
  | .ok (l,us)=>if zn (zx us) [41]=true then .ok (l,us.tail) else .error (zx us).at0
 else .error t.at0
theorem VT (r g o cap:Nat) (f:Value) (t:Tk) (ts:List Tk) (w:World) (res:PR (List Ex)) (h:zh r g o cap (t::ts) w) (hE:zj (t::ts)) (hEnd:∀l us,res=.ok (l,us)→zj us)
  (hrow:zn t [40]=true→zn (zx ts) [41]=false→∀w1 o1 cap1,zh r g o1 cap1 ts w1→zc r w w1→Calls Tryz.prog 196 #[.pointer (some ⟨r,0,none⟩),f] w1 (Vz r g w1 res)) :
  Calls Tryz.prog 195 #[.pointer (some ⟨r,0,none⟩),f] w (Vz r g w (Y7 t ts res)):=by
 have hr:=h.lt.1;have cn:=Yt r g o cap t ts [40] w h (fun hi=>(hE.tail (zl hi)).ne)
 clear h
 unfold Y7
 by_cases hi:zn t [40]=true
 ·simp only [if_pos hi] at cn ⊢
  have hE1:=hE.tail (zl hi);obtain ⟨t1,ts1,rfl⟩:=hE1.cons;simp only [zI,List.tail_cons] at hrow ⊢
  by_cases hj:zn t1 [41]=true
  ·simp only [if_pos hj]
   clear hrow hEnd
   go_enter Tryz.func195,Tryz.ntmps195
   go_wp2_with fail
   refine cn.mono ?_;clear cn;rintro e w1 ⟨hk1,rfl,h1⟩;have cs:=ZL r g _ _ t1 ts1 [41] w1 h1 (fun hi=>(hE1.tail (zl hi)).ne)
   have HK1:Hid (zc r w w1):=hk1;rw [hj] at cs;clear h1 hk1;go_wp2_with fail
   refine cs.mono ?_;clear cs;rintro e w2 ⟨rfl,hk2,h2⟩;have HK2:Hid (zc r w w2):=HK1.out.trans hk2;have h2':zh r g (o+5+5) (cap-1-1) ts1 w2:=by simpa using h2
   have HR2:Hid (zh r g (o+5+5) (cap-1-1) ts1 w2):=h2';clear h2 h2' hk2;go_wp2
   refine bodyPost_ret (v:=.slice none 0 0) (by simp [results,Tryz.results195,go_sem]) rfl ⟨HK2.out,_,_,_,rfl,.inl ⟨rfl,rfl⟩,HR2.out⟩
  ·have hj':zn t1 [41]=false:=by simpa using hj
   simp only [if_neg hj]
   go_enter Tryz.func195,Tryz.ntmps195
   go_wp2_with fail
   refine cn.mono ?_;clear cn;rintro e w1 ⟨hk1,rfl,h1⟩;have cs:=ZL r g _ _ t1 ts1 [41] w1 h1 (fun hi=>(hE1.tail (zl hi)).ne)
   have HK1:Hid (zc r w w1):=hk1;rw [hj'] at cs;clear h1 hk1;go_wp2_with fail
   refine cs.mono ?_;clear cs;rintro e w2 ⟨rfl,hk2,h2⟩;have hkk:zc r w w2:=HK1.out.trans hk2;have HK2:Hid (zc r w w2):=hkk;have cr:=hrow hi hj' w2 _ _ (by simpa using h2) hkk
   clear h2 hk2 hkk hrow;go_wp2_with fail
   refine cr.mono ?_;clear cr;rintro e w3 ⟨hk3,hpost⟩;have HK3:Hid (zc r w w3):=HK2.out.trans hk3;rcases res with a | ⟨l,us⟩
   ·obtain rfl:=hpost
    exact ⟨rfl,HK3.out,rfl⟩
   ·obtain ⟨v,o3,cap3,rfl,hrw,hrd⟩:=hpost
    have hE3:=hEnd l us rfl;obtain ⟨t3,ts3,rfl⟩:=hE3.cons;have cn2:=Yt r g o3 cap3 t3 ts3 [41] w3 hrd (fun hi=>(hE3.tail (zl hi)).ne)
    have hsz:w.heap.size≤w2.heap.size:=HK2.out.size;have hr2:r<w2.heap.size:=by omega
    have HRow:Hid (yQ w2.heap.size w3 l v):=hrw;clear hrd hrw hk3 hEnd
    by_cases hm:zn t3 [41]=true
    ·simp only [if_pos hm] at cn2
     go_wp2_with fail
     refine cn2.mono ?_;clear cn2;rintro e w4 ⟨hk4,rfl,h4⟩;have HK4:Hid (zc r w w4):=HK3.out.trans hk4;have HRow4:Hid (yQ w2.heap.size w4 l v):=HRow.out.kept hk4.size fun k hB hlt=>hk4.block k hlt (by omega)
     have HR4:Hid (zh r g (o3+5) (cap3-1) ts3 w4):=h4;clear hk4 h4;go_wp2
     refine bodyPost_ret (v:=v) (by simp [results,Tryz.results195,go_sem]) rfl ⟨HK4.out,_,_,_,rfl,HRow4.out.mono hsz,HR4.out⟩
    ·simp only [if_neg hm] at cn2
     have hm':zn t3 [41]=false:=by simpa using hm
     go_wp2_with fail
     refine cn2.mono ?_;clear cn2;rintro e w4 ⟨hk4,rfl⟩;refine ⟨rfl,HK3.out.trans hk4,?_⟩;simp only [zI,hm',Bool.false_eq_true,if_false]
 ·simp only [if_neg hi] at cn ⊢
  clear hrow hEnd
  go_enter Tryz.func195,Tryz.ntmps195
  go_wp2_with fail
  refine cn.mono ?_;clear cn;rintro e w1 ⟨hk1,rfl⟩;exact ⟨rfl,hk1,rfl⟩
def YP {α:Type} (p:Nat→Option (PR α)) (n:Nat):Prop:=∃f r,(∀k,p (f+k)=some r)∧∀x us,r=.ok (x,us)→us.length≤n
theorem yV {ts:List Tk} (h:(zx ts).k≠0):ts.tail.length+1=ts.length:=by
 cases ts with
 | nil=>exact absurd rfl h
 | cons t us=>simp
theorem Zq {ts:List Tk} {s:List UInt8} (h:zn (zx ts) s=true):ts.tail.length+1=ts.length:=yV (zl h)
theorem YP.then {α β:Type} {p:Nat→Option (PR α)} {q:Nat→α→List Tk→Option (PR β)} {n m:Nat} (h:YP p n) (hq:∀x us,us.length≤n→YP (fun f=>q f x us) m):YP (fun f=>zq (p f) (q f)) m:=by
 obtain ⟨f,r,hr,hn⟩:=h;cases r with
 | error a=>exact ⟨f,.error a,fun k=>by simp [zq,hr k],fun x us h=>by cases h⟩
 | ok y =>
  obtain ⟨g,s,hs,hm⟩:=hq y.1 y.2 (hn _ _ rfl);refine ⟨f+g,s,fun k=>?_,hm⟩
  have h1:=hr (g+k);have h2:=hs (f+k);rw [show f+(g+k)=f+g+k by omega] at h1
  rw [show g+(f+k)=f+g+k by omega] at h2
  simp only [zq,h1];exact h2
theorem ZU {α:Type} (x:α) (us:List Tk) {n:Nat} (h:us.length≤n):YP (fun _=>(some (.ok (x,us)):Option (PR α))) n:=⟨0,.ok (x,us),fun _=>rfl,fun y vs h'=>by cases h';exact h⟩
theorem xC (s:List UInt8) (ts:List Tk) {n:Nat} (h:ts.length≤n+1):YP (fun _=>Zf s ts) n:=by
 refine ⟨0,_,fun _=>rfl,fun x us h'=>?_⟩
 split at h'
 ·rename_i hc;have:=Zq hc;cases h';omega
 ·cases h'
theorem uU (ts:List Tk) {n:Nat} (h:ts.length≤n+1):YP (fun _=>Yg ts) n:=by
 refine ⟨0,_,fun _=>rfl,fun x us h'=>?_⟩
 split at h'
 ·rename_i hc;have:=yV (ts:=ts) (by omega);cases h';omega
 ·cases h'
theorem YP.step {α:Type} {p q:Nat→Option (PR α)} {n:Nat} (h:YP q n) (hp:∀f,p (f+1)=q f):YP p n:=by
 obtain ⟨f,r,hr,hn⟩:=h;exact ⟨f+1,r,fun k=>by rw [show f+1+k=f+k+1 by omega,hp];exact hr k,hn⟩
theorem YP.le {α:Type} {p:Nat→Option (PR α)} {n m:Nat} (h:YP p n) (hm:n≤m):YP p m:=by
 obtain ⟨f,r,hr,hn⟩:=h;exact ⟨f,r,hr,fun x us h=>Nat.le_trans (hn x us h) hm⟩
theorem U9 {α:Type} (a:Nat) (n:Nat):YP (fun _=>(some (.error a):Option (PR α))) n:=⟨0,.error a,fun _=>rfl,fun _ _ h=>by cases h⟩
theorem vS (n:Nat):∀ts:List Tk,ts.length≤n→(∀least,YP (fun f=>zk f least ts) (n-1))∧(∀pre,YP (fun f=>Yh f pre ts) (n-1))∧(∀least e,YP (fun f=>Z5 f least e ts) n)∧(∀e,YP (fun f=>zN f e ts) n)∧YP (fun f=>zR f ts) (n-1)∧YP (fun f=>ZP f ts) (n-1):=by
 induction n with
 | zero =>
  intro ts hl;obtain rfl:ts=[]:=List.length_eq_zero_iff.1 (by omega)
  have hS:YP (fun f=>Za f []) 0:=(U9 0 0).step fun f=>by simp [Za,zx,zn,zq,Zf]
  have hB:∀e,YP (fun f=>zN f e []) 0:=fun e=>(ZU e [] (n:=0) (by simp)).step fun f=>by simp [zN,zx,zn]
  have hM:∀least e,YP (fun f=>Z5 f least e []) 0:=fun least e=>(ZU e [] (n:=0) (by simp)).step fun f=>by simp [Z5,zx]
  have hU:YP (fun f=>ZP f []) 0:=(hS.then (q:=fun f e ts=>zN f e ts) (m:=0) fun e us hu=>by
   obtain rfl:us=[]:=List.length_eq_zero_iff.1 (by omega)
   exact hB e).step fun f=>by simp [ZP,zx]
  have hBt:∀d least,7-least≤d→YP (fun f=>zk f least []) 0:=fun d=>by
   induction d with
   | zero=>intro least hd;exact hU.step fun f=>by rw [zk,if_pos (by omega)]
   | succ d ih =>
    intro least hd
    by_cases hc:6<least
    ·exact hU.step fun f=>by rw [zk,if_pos hc]
    ·exact ((ih (least+1) (by omega)).then (q:=fun f e ts=>Z5 f least e ts) (m:=0) fun e us hu=>by
      obtain rfl:us=[]:=List.length_eq_zero_iff.1 (by omega)
      exact hM least e).step fun f=>by rw [zk,if_neg hc]
  refine ⟨fun least=>hBt _ least (Nat.le_refl _),fun pre=>?_,hM,hB,?_,hU⟩
  ·exact ((hBt _ 1 (Nat.le_refl _)).then (q:=fun f e ts=>if zn (zx ts) [44]=true then Yh f (pre++[e]) ts.tail else some (.ok (pre++[e],ts))) (m:=0) fun e us hu=>by
    obtain rfl:us=[]:=List.length_eq_zero_iff.1 (by omega)
    simpa [zx,zn] using ZU (pre++[e]) [] (n:=0) (by simp)).step fun f=>by rw [Yh]
  ·exact (U9 0 0).step fun f=>by simp [zR,zx,zn,zq,Zf]
 | succ n ih =>
  intro ts hl;have B:=fun ts h least=>(ih ts h).1 least
  have Rw:=fun ts h pre=>(ih ts h).2.1 pre
  have M:=fun ts h least e=>(ih ts h).2.2.1 least e
  have Bh:=fun ts h e=>(ih ts h).2.2.2.1 e
  have Br:=fun ts h=>(ih ts h).2.2.2.2.1
  have Un:=fun ts h=>(ih ts h).2.2.2.2.2
  have hBr:YP (fun f=>zR f ts) (n+1-1):=by
   refine ((xC [40] ts (n:=n) hl).then (q:=fun f _ ts=>if zn (zx ts) [41]=true then some (.ok ([],ts.tail)) else zq (Yh f [] ts) fun l ts=>zq (Zf [41] ts) fun _ ts=>some (.ok (l,ts))) (m:=n) fun _ us hu=>?_).step fun f=>by rw [zR]
   by_cases hc:zn (zx us) [41]=true
   ·simp only [if_pos hc];exact ZU _ _ (by simp;omega)
   ·simp only [if_neg hc]
    exact (Rw us hu []).then (q:=fun _ l ts=>zq (Zf [41] ts) fun _ ts=>some (.ok (l,ts))) fun l vs hv=>(xC [41] vs (n:=n) (by omega)).then (q:=fun _ _ ts=>some (.ok (l,ts))) fun _ xs hx=>ZU _ _ hx
  have hM:∀least e,YP (fun f=>Z5 f least e ts) (n+1):=fun least e=>by
   by_cases hc:(zx ts).k=4∧levelOf (zx ts).s=least
   ·have hne:=yV (ts:=ts) (by omega)
    exact ((B ts.tail (by omega) (least+1)).then (q:=fun f e2 ts'=>Z5 f least (Ex.mk 7 (zx ts).s 0 [e,e2] e.line) ts') (m:=n+1) fun e2 us hu=>(M us (by omega) least _).le (by omega)).step fun f=>by rw [Z5,if_pos hc]
   ·exact (ZU e ts hl).step fun f=>by rw [Z5,if_neg hc]
  have hBh:∀e,YP (fun f=>zN f e ts) (n+1):=fun e=>by
   by_cases hc:zn (zx ts) [91]=true
   ·have hne:=Zq hc
    exact ((B ts.tail (by omega) 1).then (q:=fun f i ts=>zq (Zf [93] ts) fun _ ts=>zN f (Ex.mk 8 [] 0 [e,i] e.line) ts) (m:=n+1) fun i us hu =>
     (xC [93] us (n:=n) (by omega)).then (q:=fun f _ ts=>zN f (Ex.mk 8 [] 0 [e,i] e.line) ts) fun _ vs hv=>(Bh vs hv _).le (by omega)).step fun f=>by rw [zN,if_pos hc]
   ·by_cases hd:zn (zx ts) [46]=true
    ·have hne:=Zq hd
     exact ((uU ts.tail (n:=n) (by omega)).then (q:=fun f s ts=>zN f (Ex.mk 9 s 0 [e] e.line) ts) (m:=n+1) fun s us hu=>(Bh us hu _).le (by omega)).step fun f=>by rw [zN,if_neg hc,if_pos hd]
    ·exact (ZU e ts hl).step fun f=>by rw [zN,if_neg hc,if_neg hd]
  have hS:YP (fun f=>Za f ts) n:=by
   by_cases c1:(zx ts).k=2
   ·have hne:=yV (ts:=ts) (by omega)
    exact (ZU (Ex.mk 1 [] (zx ts).n [] (zx ts).line) ts.tail (n:=n) (by omega)).step fun f=>by rw [Za,if_pos c1]
   by_cases c2:(zx ts).k=3
   ·have hne:=yV (ts:=ts) (by omega)
    exact (ZU (Ex.mk 3 (zx ts).s 0 [] (zx ts).line) ts.tail (n:=n) (by omega)).step fun f=>by rw [Za,if_neg c1,if_pos c2]
   by_cases c3:(zx ts).k=1
   ·have hne:=yV (ts:=ts) (by omega)
    by_cases d:zn (zx ts.tail) [40]=true
    ·exact ((Br ts.tail (by omega)).then (q:=fun _ l ts'=>some (.ok (Ex.mk 5 (zx ts).s 0 l (zx ts).line,ts'))) (m:=n) fun l us hu=>ZU _ _ (by omega)).step fun f=>by rw [Za,if_neg c1,if_neg c2,if_pos c3,if_pos d]
    ·exact (ZU (Ex.mk 4 (zx ts).s 0 [] (zx ts).line) ts.tail (n:=n) (by omega)).step fun f=>by rw [Za,if_neg c1,if_neg c2,if_pos c3,if_neg d]
   by_cases c4:zn (zx ts) [116,114,117,101]=true
   ·have hne:=Zq c4
    exact (ZU (Ex.mk 2 [] 1 [] (zx ts).line) ts.tail (n:=n) (by omega)).step fun f=>by rw [Za,if_neg c1,if_neg c2,if_neg c3,if_pos c4]
   by_cases c5:zn (zx ts) [102,97,108,115,101]=true
   ·have hne:=Zq c5
    exact (ZU (Ex.mk 2 [] 0 [] (zx ts).line) ts.tail (n:=n) (by omega)).step fun f=>by rw [Za,if_neg c1,if_neg c2,if_neg c3,if_neg c4,if_pos c5]
   by_cases c6:zn (zx ts) [110,101,119]=true
   ·have hne:=Zq c6
    exact ((uU ts.tail (n:=n) (by omega)).then (q:=fun f s ts'=>zq (zR f ts') fun l ts'=>some (.ok (Ex.mk 11 s 0 l (zx ts).line,ts'))) (m:=n) fun s us hu =>
     (Br us hu).then (q:=fun _ l ts'=>some (.ok (Ex.mk 11 s 0 l (zx ts).line,ts'))) fun l vs hv=>ZU _ _ (by omega)).step fun f=>by rw [Za,if_neg c1,if_neg c2,if_neg c3,if_neg c4,if_neg c5,if_pos c6]
   by_cases c7:zn (zx ts) [91]=true
   ·have hne:=Zq c7
    exact ((Rw ts.tail (by omega) []).then (q:=fun _ l ts'=>zq (Zf [93] ts') fun _ ts'=>some (.ok (Ex.mk 10 [] 0 l (zx ts).line,ts'))) (m:=n) fun l us hu =>
     (xC [93] us (n:=n) (by omega)).then (q:=fun _ _ ts'=>some (.ok (Ex.mk 10 [] 0 l (zx ts).line,ts'))) fun _ vs hv=>ZU _ _ (by omega)).step fun f=>by rw [Za,if_neg c1,if_neg c2,if_neg c3,if_neg c4,if_neg c5,if_neg c6,if_pos c7]
   ·exact ((xC [40] ts (n:=n) hl).then (q:=fun f _ ts=>zq (zk f 1 ts) fun e ts=>zq (Zf [41] ts) fun _ ts=>some (.ok (e,ts))) (m:=n) fun _ us hu =>
     (B us hu 1).then (q:=fun _ e ts=>zq (Zf [41] ts) fun _ ts=>some (.ok (e,ts))) fun e vs hv=>(xC [41] vs (n:=n) (by omega)).then (q:=fun _ _ ts=>some (.ok (e,ts))) fun _ xs hx=>ZU _ _ hx).step fun f=>by rw [Za,if_neg c1,if_neg c2,if_neg c3,if_neg c4,if_neg c5,if_neg c6,if_neg c7]
  have hU:YP (fun f=>ZP f ts) n:=by
   by_cases hc:(zx ts).k=4∧((zx ts).s=[45]∨(zx ts).s=[33])
   ·have hne:=yV (ts:=ts) (by omega)
    exact ((Un ts.tail (by omega)).then (q:=fun _ e ts'=>some (.ok (Ex.mk 6 (zx ts).s 0 [e] (zx ts).line,ts'))) (m:=n) fun e us hu=>ZU _ _ (by omega)).step fun f=>by rw [ZP,if_pos hc]
   ·exact (hS.then (q:=fun f e ts=>zN f e ts) (m:=n) fun e us hu=>Bh us hu e).step fun f=>by rw [ZP,if_neg hc]
  have hBt:∀d least,7-least≤d→YP (fun f=>zk f least ts) n:=fun d=>by
   induction d with
   | zero=>intro least hd;exact hU.step fun f=>by rw [zk,if_pos (by omega)]
   | succ d ih =>
    intro least hd
    by_cases hc:6<least
    ·exact hU.step fun f=>by rw [zk,if_pos hc]
    ·exact ((ih (least+1) (by omega)).then (q:=fun f e ts=>Z5 f least e ts) (m:=n) fun e us hu=>M us hu least e).step fun f=>by rw [zk,if_neg hc]
  refine ⟨fun least=>hBt _ least (Nat.le_refl _),fun pre=>?_,hM,hBh,hBr,hU⟩
  refine ((hBt _ 1 (Nat.le_refl _)).then (q:=fun f e ts=>if zn (zx ts) [44]=true then Yh f (pre++[e]) ts.tail else some (.ok (pre++[e],ts))) (m:=n) fun e us hu=>?_).step fun f=>by rw [Yh]
  by_cases hc:zn (zx us) [44]=true
  ·simp only [if_pos hc]
   have hne:=Zq hc;exact (Rw us.tail (by omega) (pre++[e])).le (by omega)
  ·simp only [if_neg hc]
   exact ZU _ _ hu
structure yO {α:Type} (E:(Nat→Prop)→World→α→List Value→Prop):Prop where
 kept:∀{S:Nat→Prop} {w w':World} {x:α} {c:List Value},E S w x c→w.heap.size≤w'.heap.size→(∀k,S k→k<w.heap.size→w'.heap[k]?=w.heap[k]?)→E S w' x c
 wide:∀{S S':Nat→Prop} {w:World} {x:α} {c:List Value},E S w x c→(∀k,S k→S' k)→E S' w x c
 low:∀{S:Nat→Prop} {w:World} {x:α} {c:List Value},E S w x c→E (fun k=>S k∧k<w.heap.size) w x c
structure Zu {α:Type} (E:(Nat→Prop)→World→α→List Value→Prop) (sz ty B:Nat) (w:World) (l:List α) (v:Value) (g cap:Nat) (us:List (List Value)):Prop where
 val:v=.slice (some ⟨g,0,none⟩) l.length cap
 ne:l≠[]
 own:w.ownsRow B ty sz v l.length us.flatten
 len:us.length=l.length
 wid:∀c∈us,c.length=sz
 kids:∀(j:Nat) (x:α) (c:List Value),l[j]?=some x→us[j]?=some c→E (fun k=>B≤k∧k≠g) w x c
theorem Zu.block {α:Type} {E:(Nat→Prop)→World→α→List Value→Prop} {sz ty B:Nat} {w:World} {l:List α} {v:Value} {g cap:Nat} {us:List (List Value)} (h:Zu E sz ty B w l v g cap us):B≤g∧g<w.heap.size∧l.length≤cap∧cap≤maxLen:=by
 have hl:=h.own.lt g (by rw [h.val];rfl)
 refine ⟨hl.1,hl.2,?_⟩;rcases h.own.2 with ⟨hv,_⟩ | ⟨g',cap',cur,hv,_,_,h1,h2,_⟩
 ·rw [h.val] at hv;cases hv
 ·rw [h.val] at hv
  cases hv
  exact ⟨h1,h2⟩
theorem Zu.kept {α:Type} {E:(Nat→Prop)→World→α→List Value→Prop} (L:yO E) {sz ty B:Nat} {w w':World} {l:List α} {v:Value} {g cap:Nat} {us:List (List Value)} (h:Zu E sz ty B w l v g cap us)
  (hs:w.heap.size≤w'.heap.size) (hb:∀k,B≤k→k<w.heap.size→w'.heap[k]?=w.heap[k]?):Zu E sz ty B w' l v g cap us where
 val:=h.val
 ne:=h.ne
 own:=by
  refine ⟨h.own.1,?_⟩;rcases h.own.2 with h1 | ⟨g',cap',cur,h1,h2,h3,h4⟩
  ·exact .inl h1
  ·exact .inr ⟨g',cap',cur,h1,h2,(hb g' h2 (Array.getElem?_eq_some_iff.1 h3).1).trans h3,h4⟩
 len:=h.len
 wid:=h.wid
 kids:=fun j x c hx hc=>L.kept (h.kids j x c hx hc) hs fun k hk hlt=>hb k hk.1 hlt
theorem Zu.first {α:Type} {E:(Nat→Prop)→World→α→List Value→Prop} (L:yO E) {sz ty B:Nat} {w:World} {x:α} {c:List Value} (hx:E (fun k=>B≤k) w x c) (hc:c.length=sz) (hB:B≤w.heap.size) :
  Zu E sz ty B (w.alloc (.cells c.toArray ty)) [x] (.slice (some ⟨w.heap.size,0,none⟩) 1 1) w.heap.size 1 [c] where
 val:=rfl
 ne:=by simp
 own:=by
  refine ⟨by simp [hc],.inr ⟨w.heap.size,1,c.toArray,rfl,hB,World.alloc_heap_new _ _,Nat.le_refl _,by simp [maxLen],by simp [hc],?_⟩⟩
  simp [hc,List.take_of_length_le]
 len:=rfl
 wid:=by simp [hc]
 kids:=fun j y d hy hd=>by
  cases j with
  | succ j=>simp at hy
  | zero =>
   simp only [List.getElem?_cons_zero,Option.some.injEq] at hy hd;subst hy hd;exact L.wide (L.kept (L.low hx) (by simp) fun k hk _=>Below.heap_alloc _ _ _ hk.2) fun k hk=>⟨hk.1,by omega⟩
theorem Zu.snoc {α:Type} {E:(Nat→Prop)→World→α→List Value→Prop} (L:yO E) {sz ty B:Nat} {w w':World} {l:List α} {v v':Value} {g cap:Nat} {us:List (List Value)} (h:Zu E sz ty B w l v g cap us) {x:α} {c:List Value} {ob:Obj}
  (hx:E (fun k=>B≤k∧k≠g) w x c) (hc:c.length=sz) (ho:w'.ownsRow B ty sz v' (l.length+1) (us.flatten++c)) (hg:(w.alloc ob).grownBy w' v.ownBlock) (ha:v'.ownBlock=v.ownBlock∨v'.ownBlock=some (w.alloc ob).heap.size) :
  ∃g' cap',Zu E sz ty B w' (l++[x]) v' g' cap' (us++[c])∧(g'=g∨w.heap.size≤g'):=by
 have hb:=h.block;have hvg:v.ownBlock=some g:=by rw [h.val];rfl
 rw [hvg] at hg ha
 obtain ⟨g',cap',hv'⟩:∃g' cap',v'=.slice (some ⟨g',0,none⟩) (l.length+1) cap':=by
  rcases ho.2 with ⟨_,h0⟩ | ⟨g',cap',_,h1,_⟩
  ·omega
  ·exact ⟨g',cap',h1⟩
 have hg':g'=g∨g'=(w.alloc ob).heap.size:=by
  rw [hv'] at ha
  simpa [Value.ownBlock] using ha
 have hsz:(w.alloc ob).heap.size=w.heap.size+1:=by simp
 have hs:w.heap.size≤w'.heap.size:=by have:=hg.size;omega
 have hkeep:∀k,k≠g→k<w.heap.size→w'.heap[k]?=w.heap[k]?:=fun k hk hlt=>(hg.block k (by omega) (by simpa using hk)).trans (Below.heap_alloc _ _ _ hlt)
 have hkid:∀y d,E (fun k=>B≤k∧k≠g) w y d→E (fun k=>B≤k∧k≠g') w' y d:=fun y d hy =>
  L.wide (L.kept (L.low hy) hs fun k hk _=>hkeep k hk.1.2 hk.2) fun k hk=>⟨hk.1.1,by omega⟩
 refine ⟨g',cap',⟨by rw [hv',List.length_append];rfl,by simp,?_,by simp [h.len],?_,fun j y d hy hd=>?_⟩,by omega⟩
 ·rw [List.length_append,List.flatten_append]
  simpa using ho
 ·intro d hd
  rcases List.mem_append.1 hd with hd | hd
  ·exact h.wid d hd
  ·simp only [List.mem_singleton] at hd;rw [hd];exact hc
 ·rw [List.getElem?_append] at hy hd
  rw [h.len] at hd
  split at hy
  ·rename_i hj
   rw [if_pos hj] at hd;exact hkid y d (h.kids j y d hy hd)
  ·rename_i hj
   rw [if_neg hj] at hd
   have:j-l.length=0:=by
    rcases Nat.eq_zero_or_pos (j-l.length) with h0 | h0
    ·exact h0
    ·rw [List.getElem?_eq_none (by simp;omega)] at hy;cases hy
   rw [this] at hy hd;simp only [List.getElem?_cons_zero,Option.some.injEq] at hy hd;subst hy hd;exact hkid _ _ hx
def qW (S:Nat→Prop) (w:World) (x:Ex) (c:List Value):Prop:=zY S w x (.agg c.toArray)
theorem YJ:yO qW:=⟨fun h hs hb=>zY.kept h hs hb,fun h hS=>zY.wide h hS,fun h=>zY.low h⟩
theorem Zu.row {ty B:Nat} {w:World} {l:List Ex} {v:Value} {g cap:Nat} {us:List (List Value)} (h:Zu qW 5 ty B w l v g cap us):yQ B w l v:=by
 have hb:=h.block;refine .inr ⟨g,cap,us,h.val,h.ne,h.len,hb.1,hb.2.1,hb.2.2.1,hb.2.2.2,fun j u hj=>?_,h.wid,fun j x c hx hc=>zY.wide (h.kids j x c hx hc) fun k hk=>hk.1⟩
 have hx:=h.own.cells (g:=g) (by rw [h.val];rfl) j u hj
 by_cases h0:j=0
 ·subst h0;simpa [Addr.add] using hx
 ·simpa [Addr.add,h0] using hx
theorem xj {f least:Nat} {ts us:List Tk} {x:Ex} (h:zk f least ts=some (.ok (x,us))):us.length≤ts.length-1:=by
 obtain ⟨f',r',h1,h2⟩:=(vS ts.length ts (Nat.le_refl _)).1 least;exact h2 x us (Vy (h1 0) h)
def UL (f:Nat) (l:List Ex) (ts:List Tk):Option (PR (List Ex)):=if zn (zx ts) [44]=true then Yh f l ts.tail else some (.ok (l,ts))
def yu (r:Nat) (w:World):Nat:=match w.cell? ⟨r,0,none⟩ with | some (.slice _ n _)=>n | _=>0
theorem zh.left {r g o cap:Nat} {ts:List Tk} {w:World} (h:zh r g o cap ts w):yu r w=ts.length:=by unfold yu;rw [h.cell]
theorem zc.grown {r:Nat} {w w1 w2:World} {row:Option Nat} (h:zc r w w1) (hg:w1.grownBy w2 row) (hrow:∀k,row=some k→w.heap.size≤k):zc r w w2 :=
 ⟨hg.os.trans h.os,hg.tape.trans h.tape,hg.output.trans h.output,Nat.le_trans h.size hg.size,fun k hk hr=>(hg.block k (Nat.lt_of_lt_of_le hk h.size) fun e=>by have:=hrow k e.symm;omega).trans (h.block k hk hr)⟩
theorem uV:(Tryz.prog.info? 45).map (fun i=>(i.zero,i.size,i.bytes))=some (some (.agg #[.int .i64 0,.string ⟨#[]⟩,.int .i64 0,.slice none 0 0,.int .i64 0]),5,64):=by kernel_rfl
theorem zim (r g o cap F:Nat) (ts:List Tk) (w:World) (res:PR (List Ex)) (h:zh r g o cap ts w) (hE:zj ts) (hN:ts.length≤1099511627776) (hp:Yh (F+1) [] ts=some res)
  (hone:∀w1 o1 cap1 ts1 r1,zk F 1 ts1=some r1→zj ts1→ts1.length≤1099511627776→zh r g o1 cap1 ts1 w1→zc r w w1→Calls Tryz.prog 44 #[.pointer (some ⟨r,0,none⟩)] w1 (zQ r g w1 r1)) :
  Calls Tryz.prog 196 #[.pointer (some ⟨r,0,none⟩),.func (.func 44) #[.pointer (some ⟨r,0,none⟩)] #[]] w (Vz r g w res):=by
 obtain ⟨i0,hi0,hz0,hz1,hz2⟩:=info_parts uV;obtain ⟨t0,ts0,rfl⟩:=hE.cons;have hr:=h.lt.1;have hgw:=h.lt.2;rw [Yh] at hp;cases hb:zk F 1 (t0::ts0) with
 | none=>rw [hb] at hp;cases hp
 | some r1 =>
  have c1:=hone w o cap (t0::ts0) r1 hb hE hN h (zc.refl r w);rw [hb] at hp;simp only [zq] at hp
  go_enter Tryz.func196,Tryz.ntmps196
  go_wp2_with fail
  refine c1.mono ?_;clear c1;rintro e w1 ⟨hk1,hpost⟩;rcases r1 with a | ⟨x,us⟩
  ·obtain rfl:=hpost
   simp only [Option.some.injEq] at hp;subst hp;exact ⟨rfl,hk1,rfl⟩
  ·obtain ⟨v,o1,cap1,rfl,hx,hrd⟩:=hpost
   obtain ⟨a,b,c,d0,d1,d2,l,rfl⟩:=hx.agg;have hE1:=(ZF F).1 _ _ _ _ hb hE;have hl1:=xj hb;have HP:Hid (UL F [x] us=some res):=hp;obtain ⟨t1,ts1,rfl⟩:=hE1.cons
   have HR1:Hid (Zu qW 5 45 w.heap.size (w1.alloc (.cells #[.int .i64 a,.string b,.int .i64 c,.slice d0 d1 d2,.int .i64 l] 45)) [x] (.slice (some ⟨w1.heap.size,0,none⟩) 1 1) w1.heap.size 1 [[.int .i64 a,.string b,.int .i64 c,.slice d0 d1 d2,.int .i64 l]]) :=
    Zu.first YJ (c:=[.int .i64 a,.string b,.int .i64 c,.slice d0 d1 d2,.int .i64 l]) (show zY _ _ _ _ from hx) rfl hk1.size
   have HD1:Hid (zh r g o1 cap1 (t1::ts1) (w1.alloc (.cells #[.int .i64 a,.string b,.int .i64 c,.slice d0 d1 d2,.int .i64 l] 45))):=hrd.alloc _;have HK1:Hid (zc r w (w1.alloc (.cells #[.int .i64 a,.string b,.int .i64 c,.slice d0 d1 d2,.int .i64 l] 45))):=hk1.alloc _;have HE1:Hid (zj (t1::ts1)):=hE1;have hn:ts1.length+2≤1099511627776:=by simp only [List.length_cons] at hl1 hN;omega
   have HONE:Hid (∀w1 o1 cap1 ts1 r1,zk F 1 ts1=some r1→zj ts1→ts1.length≤1099511627776→zh r g o1 cap1 ts1 w1→zc r w w1→Calls Tryz.prog 44 #[.pointer (some ⟨r,0,none⟩)] w1 (zQ r g w1 r1)):=hone;clear hx hrd hk1 hE1 hone hp hb hE hN h hl1;go_wp2_with fail
   go_loopw [5] (fun v wr=>∃(L:List Ex) (g1 cap1:Nat) (us:List (List Value)) (o2 cap2:Nat) (ts2:List Tk) (f2:Nat),f2≤F∧UL f2 L ts2=some res∧zj ts2∧L.length+ts2.length≤1099511627776∧Zu qW 5 45 w.heap.size wr L v g1 cap1 us∧zh r g o2 cap2 ts2 wr∧zc r w wr) (fun _ wr=>yu r wr)
   case atStart=>exact ⟨[x],_,_,_,o1,cap1,t1::ts1,F,Nat.le_refl _,HP.out,HE1.out,by simp only [List.length_cons,List.length_nil];omega,HR1.out,HD1.out,HK1.out⟩
   case round =>
    obtain ⟨L,g1,cp1,us,o2,cap2,ts2,f2,hf2,hT,hE2,hN2,hrow,hrd2,hk2⟩:=hrel;clear HP HR1 HD1 HK1 HE1 hn;obtain ⟨t2,ts3,rfl⟩:=hE2.cons;have cs:=ZL r g o2 cap2 t2 ts3 [44] wr hrd2 (fun hi=>(hE2.tail (zl hi)).ne)
    have hleft:=hrd2.left;have HROW:Hid (Zu qW 5 45 w.heap.size wr L _ g1 cp1 us):=hrow;have HK2:Hid (zc r w wr):=hk2;have hval:=hrow.val;subst hval
    unfold UL at hT
    simp only [zI,List.tail_cons] at hT
    by_cases hi:zn t2 [44]=true
    ·rw [hi] at cs
     rw [if_pos hi] at hT;have hE3:=hE2.tail (zl hi);clear hrow hk2 hrd2 hE2;go_wp2_with fail
     refine cs.mono ?_;clear cs;rintro e w3 ⟨rfl,hk3,h3⟩;simp only [if_true] at h3;have hkk:zc r w w3:=HK2.out.trans hk3;have hrow3:=HROW.out.kept YJ hk3.size fun k hB hlt=>hk3.block k hlt (by omega)
     cases f2 with
     | zero=>simp [Yh] at hT
     | succ f3 =>
      rw [Yh] at hT;cases hb3:zk f3 1 ts3 with
      | none=>rw [hb3] at hT;cases hT
      | some r3 =>
       rw [hb3] at hT;simp only [zq] at hT
       have hb4:zk F 1 ts3=some r3:=by
        have:=xL (k:=F-f3) hb3
        rwa [show f3+(F-f3)=F by omega] at this
       have c3:=HONE.out w3 _ _ ts3 r3 hb4 hE3 (by simp only [List.length_cons] at hN2;omega) h3 hkk
       have hg3:=hrow3.block;have HROW3:Hid (Zu qW 5 45 w.heap.size w3 L _ g1 cp1 us):=hrow3;have HK3:Hid (zc r w w3):=hkk;clear hrow3 hkk hk3 h3 HROW HK2;go_wp2_with fail
       refine c3.mono ?_;clear c3;rintro e w4 ⟨hk4,hpost⟩;have HK4:Hid (zc r w w4):=HK3.out.trans hk4;rcases r3 with a | ⟨x3,us3⟩
       ·obtain rfl:=hpost
        simp only [Option.some.injEq] at hT;subst hT;exact ⟨rfl,HK4.out,rfl⟩
       ·obtain ⟨v,o4,cap4,rfl,hx,hrd⟩:=hpost
        obtain ⟨a4,b4,c4,p4,q4,s4,l4,rfl⟩:=hx.agg;have hrow4:=HROW3.out.kept YJ hk4.size fun k hB hlt=>hk4.block k hlt (by omega)
        have hx4:qW (fun k=>w.heap.size≤k∧k≠g1) w4 x3 [.int .i64 a4,.string b4,.int .i64 c4,.slice p4 q4 s4,.int .i64 l4]:=zY.wide hx fun k hk=>⟨Nat.le_trans HK3.out.size hk,by omega⟩
        have HX4:Hid (qW (fun k=>w.heap.size≤k∧k≠g1) w4 x3 [.int .i64 a4,.string b4,.int .i64 c4,.slice p4 q4 s4,.int .i64 l4]):=hx4
        have HROW4:Hid (Zu qW 5 45 w.heap.size w4 L _ g1 cp1 us):=hrow4;have HRD:Hid (zh r g o4 cap4 us3 w4):=hrd;have hE5:=(ZF F).1 _ _ _ _ hb4 hE3;have hl5:=xj hb4;have HOWN:=(hrow4.own.alloc (.cells #[.int .i64 a4,.string b4,.int .i64 c4,.slice p4 q4 s4,.int .i64 l4] 45));have HT:Hid (UL f3 (L++[x3]) us3=some res):=hT;have hsz4:w.heap.size≤w4.heap.size:=HK4.out.size;clear hrow4 hx4 hx hrd hT hk4
        go_wp2_with (at_builtin;refine wpList_append_own_at _ rfl _ _ 43 rfl w.heap.size 45 i0 _ 5 64 Tryz.underlying43 hi0 hz0 hz1 hz2 rfl (by decide) _ _ _ rfl HOWN ⟨w4.heap.size,0,none⟩ 1 1 [.int .i64 a4,.string b4,.int .i64 c4,.slice p4 q4 s4,.int .i64 l4] rfl rfl (Zl _ _ _) (by simp [Value.oneCell']) (by unfold maxLen;simp only [List.length_cons] at hN2;omega) (by simp only [List.length_cons] at hN2;omega) (by simp;omega) ?_;intro v' w5 hown' hgrow _ hat)
        obtain ⟨g5,cap5,hrow5,hg5⟩:=HROW4.out.snoc YJ HX4.out rfl hown' hgrow hat
        have hgr5:(w4.alloc (.cells #[.int .i64 a4,.string b4,.int .i64 c4,.slice p4 q4 s4,.int .i64 l4] 45)).grownBy w5 (some g1):=hgrow;have hk5:zc r w w5:=(HK4.out.alloc _).grown hgr5 fun k hk=>by have:=Option.some.inj hk;omega
        have hr4:w.heap.size≤w4.heap.size:=HK4.out.size;have hrd5:zh r g o4 cap4 us3 w5:=HRD.out.keep ((hgr5.block r (by simp;omega) (fun e=>by have:=Option.some.inj e;omega)).trans (Below.heap_alloc _ _ _ (by omega))) ((hgr5.block g (by simp;omega) (fun e=>by have:=Option.some.inj e;omega)).trans (Below.heap_alloc _ _ _ (by omega)))
        refine ⟨⟨L++[x3],g5,cap5,_,o4,cap4,us3,f3,by omega,HT.out,hE5,?_,hrow5,hrd5,hk5⟩,?_⟩
        ·simp only [List.length_append,List.length_cons,List.length_nil] at hN2 ⊢;omega
        ·rw [hrd5.left,hleft];simp only [List.length_cons];omega
    ·have hi':zn t2 [44]=false:=by simpa using hi
     rw [hi'] at cs;rw [if_neg hi] at hT;clear hrow hk2 hrd2 hE2;go_wp2_with fail
     refine cs.mono ?_;clear cs;rintro e w3 ⟨rfl,hk3,h3⟩;have HK3:Hid (zc r w w3):=HK2.out.trans hk3;have HROW3:Hid (yQ w.heap.size w3 L (.slice (some ⟨g1,0,none⟩) L.length cp1)):=(HROW.out.kept YJ hk3.size fun k hB hlt=>hk3.block k hlt (by omega)).row
     have HR3:Hid (zh r g o2 cap2 (t2::ts3) w3):=show zh _ _ _ _ _ _ by simpa using h3
     simp only [Option.some.injEq] at hT;subst hT;clear hk3 h3;go_wp2
     refine bodyPost_ret (v:=.slice (some ⟨g1,0,none⟩) L.length cp1) (by simp [results,Tryz.results196,go_sem]) rfl ⟨HK3.out,_,_,_,rfl,HROW3.out,HR3.out⟩
theorem zv.one {S:Nat→Prop} {w:World} {x:Ex} {c:List Value} (ty:Nat) (hx:zY S w x (.agg c.toArray)) (hc:c.length=5) (hB:S w.heap.size):zv S (w.alloc (.cells c.toArray ty)) [x] (.slice (some ⟨w.heap.size,0,none⟩) 1 1):=by
 refine .inr ⟨w.heap.size,1,[c],rfl,by simp,rfl,hB,by simp,Nat.le_refl _,by simp [maxLen],fun j u hj=>?_,fun z hz=>?_,fun j z e hz he=>?_⟩
 ·have h:=Zl w c ty j u (by simpa using hj)
  by_cases h0:j=0
  ·subst h0;simpa [Addr.add] using h
  ·simpa [Addr.add,h0] using h
 ·simp only [List.mem_cons,List.not_mem_nil,or_false] at hz
  subst hz;exact hc
 ·match j,hz,he with
  | 0,hz,he =>
   simp only [List.getElem?_cons_zero,Option.some.injEq] at hz he
   subst hz he;exact zY.kept hx (by simp) fun k _ hlt=>Below.heap_alloc _ _ _ hlt
  | j+1,hz,he=>simp at hz
theorem zv.two {S:Nat→Prop} {w:World} {x y:Ex} {c d:List Value} (ty:Nat) (hx:zY S w x (.agg c.toArray)) (hy:zY S w y (.agg d.toArray)) (hc:c.length=5) (hd:d.length=5) (hB:S w.heap.size) :
  zv S (w.alloc (.cells (c++d).toArray ty)) [x,y] (.slice (some ⟨w.heap.size,0,none⟩) 2 2):=by
 refine .inr ⟨w.heap.size,2,[c,d],rfl,by simp,rfl,hB,by simp,Nat.le_refl _,by simp [maxLen],fun j u hj=>?_,fun z hz=>?_,fun j z e hz he=>?_⟩
 ·have h:=Zl w (c++d) ty j u (by simpa using hj)
  by_cases h0:j=0
  ·subst h0;simpa [Addr.add] using h
  ·simpa [Addr.add,h0] using h
 ·simp only [List.mem_cons,List.not_mem_nil,or_false] at hz
  rcases hz with rfl | rfl <;> assumption
 ·have hk:∀z e,zY S w z (.agg e)→zY S (w.alloc (.cells (c++d).toArray ty)) z (.agg e):=fun z e h=>zY.kept h (by simp) fun k _ hlt=>Below.heap_alloc _ _ _ hlt
  match j,hz,he with
  | 0,hz,he =>
   simp only [List.getElem?_cons_zero,Option.some.injEq] at hz he;subst hz he;exact hk _ _ hx
  | 1,hz,he =>
   simp only [List.getElem?_cons_succ,List.getElem?_cons_zero,Option.some.injEq] at hz he;subst hz he;exact hk _ _ hy
  | j+2,hz,he=>simp at hz
theorem XY {w:World} {N M j:Nat} {v:Value} (a b c d e:Value) (hne:M≠N) (h:w.cell? ⟨M,j,none⟩=some v):(set5 w N a b c d e).cell? ⟨M,j,none⟩=some v:=by
 exact (World.cell?_of_block (a:=⟨M,j,none⟩) (zw w N a b c d e hne)).trans h
theorem zQ.of_set5 {r g o cap N B:Nat} {w w5:World} {us:List Tk} {l:List Ex} {v:Value} (k:Nat) (s:List UInt8) (n:Int) (line:Nat) (hK:zc r w w5) (hN:w.heap.size≤N) (hr:r<w.heap.size) (hg:g<w.heap.size) (hrow:yQ B w5 l v) (hB:N<B) (hrd:zh r g o cap us w5) :
  zQ r g w (.ok (.mk k s n l line,us)) (.returned (.agg #[.int .i64 k,.string (za s),.int .i64 n,v,.int .i64 line])) (set5 w5 N (.int .i64 k) (.string (za s)) (.int .i64 n) v (.int .i64 line)):=by
 refine ⟨yq hK hN _ _ _ _ _,_,o,cap,rfl,?_,hrd.keep (zw _ _ _ _ _ _ _ (by omega)) (zw _ _ _ _ _ _ _ (by omega))⟩
 have h:=hrow.kept (w':=set5 w5 N (.int .i64 k) (.string (za s)) (.int .i64 n) v (.int .i64 line)) (by simp) fun k hB _=>zw _ _ _ _ _ _ _ (by omega)
 exact ZO.of_row (h.mono (by omega)) k s n line
theorem zQ.of_set5' {r g o cap N B:Nat} {w w5:World} {us:List Tk} {x:Ex} {a b c d e:Value} (hK:zc r w w5) (hN:w.heap.size≤N) (hr:r<w.heap.size) (hg:g<w.heap.size) (hx:ZO B w5 x (.agg #[a,b,c,d,e])) (hB:N<B) (hrd:zh r g o cap us w5) :
  zQ r g w (.ok (x,us)) (.returned (.agg #[a,b,c,d,e])) (set5 w5 N a b c d e):=by
 refine ⟨yq hK hN _ _ _ _ _,_,o,cap,rfl,?_,hrd.keep (zw _ _ _ _ _ _ _ (by omega)) (zw _ _ _ _ _ _ _ (by omega))⟩
 exact ZO.mono (ZO.kept hx (w':=set5 w5 N a b c d e) (by simp) fun k hB _=>zw _ _ _ _ _ _ _ (by omega)) (by omega)
end Go.Proofs.YtpejpbbdgblbeaaGreatDoor
