import Derived.Test.YtdgpapchkpnijaaGreatDoorMC15
import Derived.Maps.AppendAt
namespace Go.Proofs.YtdgpapchkpnijaaGreatDoor
open Go.RowKit Go.Shelf
set_option maxHeartbeats 16000000
set_option maxRecDepth 100000
theorem zC (t:Tk) (ts:List Tk):zz (t::ts)=t:=by unfold zz;rfl
def Yc (t:Tk) (ts:List Tk) (res:PR (List Ex)):PR (List Ex) :=
 if zo t [40]=true then
  if zo (zz ts) [41]=true then .ok ([],ts.tail) else
  match res with
  | .error a=>.error a
  | .ok (l,us)=>if zo (zz us) [41]=true then .ok (l,us.tail) else .error (zz us).at0
 else .error t.at0
theorem vx (r g o cap:Nat) (f:Value) (t:Tk) (ts:List Tk) (w:World) (res:PR (List Ex)) (h:zg r g o cap (t::ts) w) (hE:zk (t::ts)) (hEnd:∀l us,res=.ok (l,us)→zk us)
  (hrow:zo t [40]=true→zo (zz ts) [41]=false→∀w1 o1 cap1,zg r g o1 cap1 ts w1→zb r w w1→Calls Tryz.prog 197 #[.pointer (some ⟨r,0,none⟩),f] w1 (XZ r g w1 res)) :
  Calls Tryz.prog 196 #[.pointer (some ⟨r,0,none⟩),f] w (XZ r g w (Yc t ts res)):=by
 have hr:=h.lt.1;have cn:=yF r g o cap t ts [40] w h (fun hi=>(hE.tail (zi hi)).ne)
 clear h
 unfold Yc
 by_cases hi:zo t [40]=true
 ·simp only [if_pos hi] at cn ⊢
  have hE1:=hE.tail (zi hi);obtain ⟨t1,ts1,rfl⟩:=hE1.cons;simp only [zC,List.tail_cons] at hrow ⊢
  by_cases hj:zo t1 [41]=true
  ·simp only [if_pos hj]
   clear hrow hEnd
   go_enter Tryz.func196,Tryz.ntmps196
   go_wp2_with fail
   refine cn.mono ?_;clear cn;rintro e w1 ⟨hk1,rfl,h1⟩;have cs:=Zu r g _ _ t1 ts1 [41] w1 h1 (fun hi=>(hE1.tail (zi hi)).ne)
   have HK1:Hid (zb r w w1):=hk1;rw [hj] at cs;clear h1 hk1;go_wp2_with fail
   refine cs.mono ?_;clear cs;rintro e w2 ⟨rfl,hk2,h2⟩;have HK2:Hid (zb r w w2):=HK1.out.trans hk2;have h2':zg r g (o+5+5) (cap-1-1) ts1 w2:=by simpa using h2
   have HR2:Hid (zg r g (o+5+5) (cap-1-1) ts1 w2):=h2';clear h2 h2' hk2;go_wp2
   refine bodyPost_ret (v:=.slice none 0 0) (by simp [results,Tryz.results196,go_sem]) rfl ⟨HK2.out,_,_,_,rfl,.inl ⟨rfl,rfl⟩,HR2.out⟩
  ·have hj':zo t1 [41]=false:=by simpa using hj
   simp only [if_neg hj]
   go_enter Tryz.func196,Tryz.ntmps196
   go_wp2_with fail
   refine cn.mono ?_;clear cn;rintro e w1 ⟨hk1,rfl,h1⟩;have cs:=Zu r g _ _ t1 ts1 [41] w1 h1 (fun hi=>(hE1.tail (zi hi)).ne)
   have HK1:Hid (zb r w w1):=hk1;rw [hj'] at cs;clear h1 hk1;go_wp2_with fail
   refine cs.mono ?_;clear cs;rintro e w2 ⟨rfl,hk2,h2⟩;have hkk:zb r w w2:=HK1.out.trans hk2;have HK2:Hid (zb r w w2):=hkk;have cr:=hrow hi hj' w2 _ _ (by simpa using h2) hkk
   clear h2 hk2 hkk hrow;go_wp2_with fail
   refine cr.mono ?_;clear cr;rintro e w3 ⟨hk3,hpost⟩;have HK3:Hid (zb r w w3):=HK2.out.trans hk3;rcases res with a | ⟨l,us⟩
   ·obtain rfl:=hpost
    exact ⟨rfl,HK3.out,rfl⟩
   ·obtain ⟨v,o3,cap3,rfl,hrw,hrd⟩:=hpost
    have hE3:=hEnd l us rfl;obtain ⟨t3,ts3,rfl⟩:=hE3.cons;have cn2:=yF r g o3 cap3 t3 ts3 [41] w3 hrd (fun hi=>(hE3.tail (zi hi)).ne)
    have hsz:w.heap.size≤w2.heap.size:=HK2.out.size;have hr2:r<w2.heap.size:=by omega
    have HRow:Hid (Z9 w2.heap.size w3 l v):=hrw;clear hrd hrw hk3 hEnd
    by_cases hm:zo t3 [41]=true
    ·simp only [if_pos hm] at cn2
     go_wp2_with fail
     refine cn2.mono ?_;clear cn2;rintro e w4 ⟨hk4,rfl,h4⟩;have HK4:Hid (zb r w w4):=HK3.out.trans hk4;have HRow4:Hid (Z9 w2.heap.size w4 l v):=HRow.out.kept hk4.size fun k hB hlt=>hk4.block k hlt (by omega)
     have HR4:Hid (zg r g (o3+5) (cap3-1) ts3 w4):=h4;clear hk4 h4;go_wp2
     refine bodyPost_ret (v:=v) (by simp [results,Tryz.results196,go_sem]) rfl ⟨HK4.out,_,_,_,rfl,HRow4.out.mono hsz,HR4.out⟩
    ·simp only [if_neg hm] at cn2
     have hm':zo t3 [41]=false:=by simpa using hm
     go_wp2_with fail
     refine cn2.mono ?_;clear cn2;rintro e w4 ⟨hk4,rfl⟩;refine ⟨rfl,HK3.out.trans hk4,?_⟩;simp only [zC,hm',Bool.false_eq_true,if_false]
 ·simp only [if_neg hi] at cn ⊢
  clear hrow hEnd
  go_enter Tryz.func196,Tryz.ntmps196
  go_wp2_with fail
  refine cn.mono ?_;clear cn;rintro e w1 ⟨hk1,rfl⟩;exact ⟨rfl,hk1,rfl⟩
def yU {α:Type} (p:Nat→Option (PR α)) (n:Nat):Prop:=∃f r,(∀k,p (f+k)=some r)∧∀x us,r=.ok (x,us)→us.length≤n
theorem yS {ts:List Tk} (h:(zz ts).k≠0):ts.tail.length+1=ts.length:=by
 cases ts with
 | nil=>exact absurd rfl h
 | cons t us=>simp
theorem Zh {ts:List Tk} {s:List UInt8} (h:zo (zz ts) s=true):ts.tail.length+1=ts.length:=yS (zi h)
theorem yU.then {α β:Type} {p:Nat→Option (PR α)} {q:Nat→α→List Tk→Option (PR β)} {n m:Nat} (h:yU p n) (hq:∀x us,us.length≤n→yU (fun f=>q f x us) m):yU (fun f=>zn (p f) (q f)) m:=by
 obtain ⟨f,r,hr,hn⟩:=h;cases r with
 | error a=>exact ⟨f,.error a,fun k=>by simp [zn,hr k],fun x us h=>by cases h⟩
 | ok y =>
  obtain ⟨g,s,hs,hm⟩:=hq y.1 y.2 (hn _ _ rfl);refine ⟨f+g,s,fun k=>?_,hm⟩
  have h1:=hr (g+k);have h2:=hs (f+k);rw [show f+(g+k)=f+g+k by omega] at h1
  rw [show g+(f+k)=f+g+k by omega] at h2
  simp only [zn,h1];exact h2
theorem Zz {α:Type} (x:α) (us:List Tk) {n:Nat} (h:us.length≤n):yU (fun _=>(some (.ok (x,us)):Option (PR α))) n:=⟨0,.ok (x,us),fun _=>rfl,fun y vs h'=>by cases h';exact h⟩
theorem Yt (s:List UInt8) (ts:List Tk) {n:Nat} (h:ts.length≤n+1):yU (fun _=>zV s ts) n:=by
 refine ⟨0,_,fun _=>rfl,fun x us h'=>?_⟩
 split at h'
 ·rename_i hc;have:=Zh hc;cases h';omega
 ·cases h'
theorem Vq (ts:List Tk) {n:Nat} (h:ts.length≤n+1):yU (fun _=>yB ts) n:=by
 refine ⟨0,_,fun _=>rfl,fun x us h'=>?_⟩
 split at h'
 ·rename_i hc;have:=yS (ts:=ts) (by omega);cases h';omega
 ·cases h'
theorem yU.step {α:Type} {p q:Nat→Option (PR α)} {n:Nat} (h:yU q n) (hp:∀f,p (f+1)=q f):yU p n:=by
 obtain ⟨f,r,hr,hn⟩:=h;exact ⟨f+1,r,fun k=>by rw [show f+1+k=f+k+1 by omega,hp];exact hr k,hn⟩
theorem yU.le {α:Type} {p:Nat→Option (PR α)} {n m:Nat} (h:yU p n) (hm:n≤m):yU p m:=by
 obtain ⟨f,r,hr,hn⟩:=h;exact ⟨f,r,hr,fun x us h=>Nat.le_trans (hn x us h) hm⟩
theorem ut {α:Type} (a:Nat) (n:Nat):yU (fun _=>(some (.error a):Option (PR α))) n:=⟨0,.error a,fun _=>rfl,fun _ _ h=>by cases h⟩
theorem xw (n:Nat):∀ts:List Tk,ts.length≤n→(∀least,yU (fun f=>zh f least ts) (n-1))∧(∀pre,yU (fun f=>yy f pre ts) (n-1))∧(∀least e,yU (fun f=>ZI f least e ts) n)∧(∀e,yU (fun f=>zH f e ts) n)∧yU (fun f=>zK f ts) (n-1)∧yU (fun f=>Zw f ts) (n-1):=by
 induction n with
 | zero =>
  intro ts hl;obtain rfl:ts=[]:=List.length_eq_zero_iff.1 (by omega)
  have hS:yU (fun f=>zP f []) 0:=(ut 0 0).step fun f=>by simp [zP,zz,zo,zn,zV]
  have hB:∀e,yU (fun f=>zH f e []) 0:=fun e=>(Zz e [] (n:=0) (by simp)).step fun f=>by simp [zH,zz,zo]
  have hM:∀least e,yU (fun f=>ZI f least e []) 0:=fun least e=>(Zz e [] (n:=0) (by simp)).step fun f=>by simp [ZI,zz]
  have hU:yU (fun f=>Zw f []) 0:=(hS.then (q:=fun f e ts=>zH f e ts) (m:=0) fun e us hu=>by
   obtain rfl:us=[]:=List.length_eq_zero_iff.1 (by omega)
   exact hB e).step fun f=>by simp [Zw,zz]
  have hBt:∀d least,7-least≤d→yU (fun f=>zh f least []) 0:=fun d=>by
   induction d with
   | zero=>intro least hd;exact hU.step fun f=>by rw [zh,if_pos (by omega)]
   | succ d ih =>
    intro least hd
    by_cases hc:6<least
    ·exact hU.step fun f=>by rw [zh,if_pos hc]
    ·exact ((ih (least+1) (by omega)).then (q:=fun f e ts=>ZI f least e ts) (m:=0) fun e us hu=>by
      obtain rfl:us=[]:=List.length_eq_zero_iff.1 (by omega)
      exact hM least e).step fun f=>by rw [zh,if_neg hc]
  refine ⟨fun least=>hBt _ least (Nat.le_refl _),fun pre=>?_,hM,hB,?_,hU⟩
  ·exact ((hBt _ 1 (Nat.le_refl _)).then (q:=fun f e ts=>if zo (zz ts) [44]=true then yy f (pre++[e]) ts.tail else some (.ok (pre++[e],ts))) (m:=0) fun e us hu=>by
    obtain rfl:us=[]:=List.length_eq_zero_iff.1 (by omega)
    simpa [zz,zo] using Zz (pre++[e]) [] (n:=0) (by simp)).step fun f=>by rw [yy]
  ·exact (ut 0 0).step fun f=>by simp [zK,zz,zo,zn,zV]
 | succ n ih =>
  intro ts hl;have B:=fun ts h least=>(ih ts h).1 least
  have Rw:=fun ts h pre=>(ih ts h).2.1 pre
  have M:=fun ts h least e=>(ih ts h).2.2.1 least e
  have Bh:=fun ts h e=>(ih ts h).2.2.2.1 e
  have Br:=fun ts h=>(ih ts h).2.2.2.2.1
  have Un:=fun ts h=>(ih ts h).2.2.2.2.2
  have hBr:yU (fun f=>zK f ts) (n+1-1):=by
   refine ((Yt [40] ts (n:=n) hl).then (q:=fun f _ ts=>if zo (zz ts) [41]=true then some (.ok ([],ts.tail)) else zn (yy f [] ts) fun l ts=>zn (zV [41] ts) fun _ ts=>some (.ok (l,ts))) (m:=n) fun _ us hu=>?_).step fun f=>by rw [zK]
   by_cases hc:zo (zz us) [41]=true
   ·simp only [if_pos hc];exact Zz _ _ (by simp;omega)
   ·simp only [if_neg hc]
    exact (Rw us hu []).then (q:=fun _ l ts=>zn (zV [41] ts) fun _ ts=>some (.ok (l,ts))) fun l vs hv=>(Yt [41] vs (n:=n) (by omega)).then (q:=fun _ _ ts=>some (.ok (l,ts))) fun _ xs hx=>Zz _ _ hx
  have hM:∀least e,yU (fun f=>ZI f least e ts) (n+1):=fun least e=>by
   by_cases hc:(zz ts).k=4∧levelOf (zz ts).s=least
   ·have hne:=yS (ts:=ts) (by omega)
    exact ((B ts.tail (by omega) (least+1)).then (q:=fun f e2 ts'=>ZI f least (Ex.mk 7 (zz ts).s 0 [e,e2] e.line) ts') (m:=n+1) fun e2 us hu=>(M us (by omega) least _).le (by omega)).step fun f=>by rw [ZI,if_pos hc]
   ·exact (Zz e ts hl).step fun f=>by rw [ZI,if_neg hc]
  have hBh:∀e,yU (fun f=>zH f e ts) (n+1):=fun e=>by
   by_cases hc:zo (zz ts) [91]=true
   ·have hne:=Zh hc
    exact ((B ts.tail (by omega) 1).then (q:=fun f i ts=>zn (zV [93] ts) fun _ ts=>zH f (Ex.mk 8 [] 0 [e,i] e.line) ts) (m:=n+1) fun i us hu =>
     (Yt [93] us (n:=n) (by omega)).then (q:=fun f _ ts=>zH f (Ex.mk 8 [] 0 [e,i] e.line) ts) fun _ vs hv=>(Bh vs hv _).le (by omega)).step fun f=>by rw [zH,if_pos hc]
   ·by_cases hd:zo (zz ts) [46]=true
    ·have hne:=Zh hd
     exact ((Vq ts.tail (n:=n) (by omega)).then (q:=fun f s ts=>zH f (Ex.mk 9 s 0 [e] e.line) ts) (m:=n+1) fun s us hu=>(Bh us hu _).le (by omega)).step fun f=>by rw [zH,if_neg hc,if_pos hd]
    ·exact (Zz e ts hl).step fun f=>by rw [zH,if_neg hc,if_neg hd]
  have hS:yU (fun f=>zP f ts) n:=by
   by_cases c1:(zz ts).k=2
   ·have hne:=yS (ts:=ts) (by omega)
    exact (Zz (Ex.mk 1 [] (zz ts).n [] (zz ts).line) ts.tail (n:=n) (by omega)).step fun f=>by rw [zP,if_pos c1]
   by_cases c2:(zz ts).k=3
   ·have hne:=yS (ts:=ts) (by omega)
    exact (Zz (Ex.mk 3 (zz ts).s 0 [] (zz ts).line) ts.tail (n:=n) (by omega)).step fun f=>by rw [zP,if_neg c1,if_pos c2]
   by_cases c3:(zz ts).k=1
   ·have hne:=yS (ts:=ts) (by omega)
    by_cases d:zo (zz ts.tail) [40]=true
    ·exact ((Br ts.tail (by omega)).then (q:=fun _ l ts'=>some (.ok (Ex.mk 5 (zz ts).s 0 l (zz ts).line,ts'))) (m:=n) fun l us hu=>Zz _ _ (by omega)).step fun f=>by rw [zP,if_neg c1,if_neg c2,if_pos c3,if_pos d]
    ·exact (Zz (Ex.mk 4 (zz ts).s 0 [] (zz ts).line) ts.tail (n:=n) (by omega)).step fun f=>by rw [zP,if_neg c1,if_neg c2,if_pos c3,if_neg d]
   by_cases c4:zo (zz ts) [116,114,117,101]=true
   ·have hne:=Zh c4
    exact (Zz (Ex.mk 2 [] 1 [] (zz ts).line) ts.tail (n:=n) (by omega)).step fun f=>by rw [zP,if_neg c1,if_neg c2,if_neg c3,if_pos c4]
   by_cases c5:zo (zz ts) [102,97,108,115,101]=true
   ·have hne:=Zh c5
    exact (Zz (Ex.mk 2 [] 0 [] (zz ts).line) ts.tail (n:=n) (by omega)).step fun f=>by rw [zP,if_neg c1,if_neg c2,if_neg c3,if_neg c4,if_pos c5]
   by_cases c6:zo (zz ts) [110,101,119]=true
   ·have hne:=Zh c6
    exact ((Vq ts.tail (n:=n) (by omega)).then (q:=fun f s ts'=>zn (zK f ts') fun l ts'=>some (.ok (Ex.mk 11 s 0 l (zz ts).line,ts'))) (m:=n) fun s us hu =>
     (Br us hu).then (q:=fun _ l ts'=>some (.ok (Ex.mk 11 s 0 l (zz ts).line,ts'))) fun l vs hv=>Zz _ _ (by omega)).step fun f=>by rw [zP,if_neg c1,if_neg c2,if_neg c3,if_neg c4,if_neg c5,if_pos c6]
   by_cases c7:zo (zz ts) [91]=true
   ·have hne:=Zh c7
    exact ((Rw ts.tail (by omega) []).then (q:=fun _ l ts'=>zn (zV [93] ts') fun _ ts'=>some (.ok (Ex.mk 10 [] 0 l (zz ts).line,ts'))) (m:=n) fun l us hu =>
     (Yt [93] us (n:=n) (by omega)).then (q:=fun _ _ ts'=>some (.ok (Ex.mk 10 [] 0 l (zz ts).line,ts'))) fun _ vs hv=>Zz _ _ (by omega)).step fun f=>by rw [zP,if_neg c1,if_neg c2,if_neg c3,if_neg c4,if_neg c5,if_neg c6,if_pos c7]
   ·exact ((Yt [40] ts (n:=n) hl).then (q:=fun f _ ts=>zn (zh f 1 ts) fun e ts=>zn (zV [41] ts) fun _ ts=>some (.ok (e,ts))) (m:=n) fun _ us hu =>
     (B us hu 1).then (q:=fun _ e ts=>zn (zV [41] ts) fun _ ts=>some (.ok (e,ts))) fun e vs hv=>(Yt [41] vs (n:=n) (by omega)).then (q:=fun _ _ ts=>some (.ok (e,ts))) fun _ xs hx=>Zz _ _ hx).step fun f=>by rw [zP,if_neg c1,if_neg c2,if_neg c3,if_neg c4,if_neg c5,if_neg c6,if_neg c7]
  have hU:yU (fun f=>Zw f ts) n:=by
   by_cases hc:(zz ts).k=4∧((zz ts).s=[45]∨(zz ts).s=[33])
   ·have hne:=yS (ts:=ts) (by omega)
    exact ((Un ts.tail (by omega)).then (q:=fun _ e ts'=>some (.ok (Ex.mk 6 (zz ts).s 0 [e] (zz ts).line,ts'))) (m:=n) fun e us hu=>Zz _ _ (by omega)).step fun f=>by rw [Zw,if_pos hc]
   ·exact (hS.then (q:=fun f e ts=>zH f e ts) (m:=n) fun e us hu=>Bh us hu e).step fun f=>by rw [Zw,if_neg hc]
  have hBt:∀d least,7-least≤d→yU (fun f=>zh f least ts) n:=fun d=>by
   induction d with
   | zero=>intro least hd;exact hU.step fun f=>by rw [zh,if_pos (by omega)]
   | succ d ih =>
    intro least hd
    by_cases hc:6<least
    ·exact hU.step fun f=>by rw [zh,if_pos hc]
    ·exact ((ih (least+1) (by omega)).then (q:=fun f e ts=>ZI f least e ts) (m:=n) fun e us hu=>M us hu least e).step fun f=>by rw [zh,if_neg hc]
  refine ⟨fun least=>hBt _ least (Nat.le_refl _),fun pre=>?_,hM,hBh,hBr,hU⟩
  refine ((hBt _ 1 (Nat.le_refl _)).then (q:=fun f e ts=>if zo (zz ts) [44]=true then yy f (pre++[e]) ts.tail else some (.ok (pre++[e],ts))) (m:=n) fun e us hu=>?_).step fun f=>by rw [yy]
  by_cases hc:zo (zz us) [44]=true
  ·simp only [if_pos hc]
   have hne:=Zh hc;exact (Rw us.tail (by omega) (pre++[e])).le (by omega)
  ·simp only [if_neg hc]
   exact Zz _ _ hu
structure Z8 {α:Type} (E:(Nat→Prop)→World→α→List Value→Prop):Prop where
 kept:∀{S:Nat→Prop} {w w':World} {x:α} {c:List Value},E S w x c→w.heap.size≤w'.heap.size→(∀k,S k→k<w.heap.size→w'.heap[k]?=w.heap[k]?)→E S w' x c
 wide:∀{S S':Nat→Prop} {w:World} {x:α} {c:List Value},E S w x c→(∀k,S k→S' k)→E S' w x c
 low:∀{S:Nat→Prop} {w:World} {x:α} {c:List Value},E S w x c→E (fun k=>S k∧k<w.heap.size) w x c
structure Zf {α:Type} (E:(Nat→Prop)→World→α→List Value→Prop) (sz ty B:Nat) (w:World) (l:List α) (v:Value) (g cap:Nat) (us:List (List Value)):Prop where
 val:v=.slice (some ⟨g,0,none⟩) l.length cap
 ne:l≠[]
 own:w.ownsRow B ty sz v l.length us.flatten
 len:us.length=l.length
 wid:∀c∈us,c.length=sz
 kids:∀(j:Nat) (x:α) (c:List Value),l[j]?=some x→us[j]?=some c→E (fun k=>B≤k∧k≠g) w x c
theorem Zf.block {α:Type} {E:(Nat→Prop)→World→α→List Value→Prop} {sz ty B:Nat} {w:World} {l:List α} {v:Value} {g cap:Nat} {us:List (List Value)} (h:Zf E sz ty B w l v g cap us):B≤g∧g<w.heap.size∧l.length≤cap∧cap≤maxLen:=by
 have hl:=h.own.lt g (by rw [h.val];rfl)
 refine ⟨hl.1,hl.2,?_⟩;rcases h.own.2 with ⟨hv,_⟩ | ⟨g',cap',cur,hv,_,_,h1,h2,_⟩
 ·rw [h.val] at hv;cases hv
 ·rw [h.val] at hv
  cases hv
  exact ⟨h1,h2⟩
theorem Zf.kept {α:Type} {E:(Nat→Prop)→World→α→List Value→Prop} (L:Z8 E) {sz ty B:Nat} {w w':World} {l:List α} {v:Value} {g cap:Nat} {us:List (List Value)} (h:Zf E sz ty B w l v g cap us)
  (hs:w.heap.size≤w'.heap.size) (hb:∀k,B≤k→k<w.heap.size→w'.heap[k]?=w.heap[k]?):Zf E sz ty B w' l v g cap us where
 val:=h.val
 ne:=h.ne
 own:=by
  refine ⟨h.own.1,?_⟩;rcases h.own.2 with h1 | ⟨g',cap',cur,h1,h2,h3,h4⟩
  ·exact .inl h1
  ·exact .inr ⟨g',cap',cur,h1,h2,(hb g' h2 (Array.getElem?_eq_some_iff.1 h3).1).trans h3,h4⟩
 len:=h.len
 wid:=h.wid
 kids:=fun j x c hx hc=>L.kept (h.kids j x c hx hc) hs fun k hk hlt=>hb k hk.1 hlt
theorem Zf.first {α:Type} {E:(Nat→Prop)→World→α→List Value→Prop} (L:Z8 E) {sz ty B:Nat} {w:World} {x:α} {c:List Value} (hx:E (fun k=>B≤k) w x c) (hc:c.length=sz) (hB:B≤w.heap.size) :
  Zf E sz ty B (w.alloc (.cells c.toArray ty)) [x] (.slice (some ⟨w.heap.size,0,none⟩) 1 1) w.heap.size 1 [c] where
 val:=rfl
 ne:=by simp
 own:=by
  refine ⟨by simp [hc],.inr ⟨w.heap.size,1,c.toArray,rfl,hB,World.alloc_heap_new _ _,Nat.le_refl _,by simp [maxLen],by simp [hc],?_⟩⟩
  simp [hc,List.take_of_length_le]
 len:=rfl
 wid:=by simp [hc]
 kids:=fun j y d hy hd=>by
  cases j with
  | succ j=>simp at hy
  | zero =>
   simp only [List.getElem?_cons_zero,Option.some.injEq] at hy hd;subst hy hd;exact L.wide (L.kept (L.low hx) (by simp) fun k hk _=>Below.heap_alloc _ _ _ hk.2) fun k hk=>⟨hk.1,by omega⟩
theorem Zf.snoc {α:Type} {E:(Nat→Prop)→World→α→List Value→Prop} (L:Z8 E) {sz ty B:Nat} {w w':World} {l:List α} {v v':Value} {g cap:Nat} {us:List (List Value)} (h:Zf E sz ty B w l v g cap us) {x:α} {c:List Value} {ob:Obj}
  (hx:E (fun k=>B≤k∧k≠g) w x c) (hc:c.length=sz) (ho:w'.ownsRow B ty sz v' (l.length+1) (us.flatten++c)) (hg:(w.alloc ob).grownBy w' v.ownBlock) (ha:v'.ownBlock=v.ownBlock∨v'.ownBlock=some (w.alloc ob).heap.size) :
  ∃g' cap',Zf E sz ty B w' (l++[x]) v' g' cap' (us++[c])∧(g'=g∨w.heap.size≤g'):=by
 have hb:=h.block;have hvg:v.ownBlock=some g:=by rw [h.val];rfl
 rw [hvg] at hg ha
 obtain ⟨g',cap',hv'⟩:∃g' cap',v'=.slice (some ⟨g',0,none⟩) (l.length+1) cap':=by
  rcases ho.2 with ⟨_,h0⟩ | ⟨g',cap',_,h1,_⟩
  ·omega
  ·exact ⟨g',cap',h1⟩
 have hg':g'=g∨g'=(w.alloc ob).heap.size:=by
  rw [hv'] at ha
  simpa [Value.ownBlock] using ha
 have hsz:(w.alloc ob).heap.size=w.heap.size+1:=by simp
 have hs:w.heap.size≤w'.heap.size:=by have:=hg.size;omega
 have hkeep:∀k,k≠g→k<w.heap.size→w'.heap[k]?=w.heap[k]?:=fun k hk hlt=>(hg.block k (by omega) (by simpa using hk)).trans (Below.heap_alloc _ _ _ hlt)
 have hkid:∀y d,E (fun k=>B≤k∧k≠g) w y d→E (fun k=>B≤k∧k≠g') w' y d:=fun y d hy =>
  L.wide (L.kept (L.low hy) hs fun k hk _=>hkeep k hk.1.2 hk.2) fun k hk=>⟨hk.1.1,by omega⟩
 refine ⟨g',cap',⟨by rw [hv',List.length_append];rfl,by simp,?_,by simp [h.len],?_,fun j y d hy hd=>?_⟩,by omega⟩
 ·rw [List.length_append,List.flatten_append]
  simpa using ho
 ·intro d hd
  rcases List.mem_append.1 hd with hd | hd
  ·exact h.wid d hd
  ·simp only [List.mem_singleton] at hd;rw [hd];exact hc
 ·rw [List.getElem?_append] at hy hd
  rw [h.len] at hd
  split at hy
  ·rename_i hj
   rw [if_pos hj] at hd;exact hkid y d (h.kids j y d hy hd)
  ·rename_i hj
   rw [if_neg hj] at hd
   have:j-l.length=0:=by
    rcases Nat.eq_zero_or_pos (j-l.length) with h0 | h0
    ·exact h0
    ·rw [List.getElem?_eq_none (by simp;omega)] at hy;cases hy
   rw [this] at hy hd;simp only [List.getElem?_cons_zero,Option.some.injEq] at hy hd;subst hy hd;exact hkid _ _ hx
def uV (S:Nat→Prop) (w:World) (x:Ex) (c:List Value):Prop:=zQ S w x (.agg c.toArray)
theorem yQ:Z8 uV:=⟨fun h hs hb=>zQ.kept h hs hb,fun h hS=>zQ.wide h hS,fun h=>zQ.low h⟩
theorem Zf.row {ty B:Nat} {w:World} {l:List Ex} {v:Value} {g cap:Nat} {us:List (List Value)} (h:Zf uV 5 ty B w l v g cap us):Z9 B w l v:=by
 have hb:=h.block;refine .inr ⟨g,cap,us,h.val,h.ne,h.len,hb.1,hb.2.1,hb.2.2.1,hb.2.2.2,fun j u hj=>?_,h.wid,fun j x c hx hc=>zQ.wide (h.kids j x c hx hc) fun k hk=>hk.1⟩
 have hx:=h.own.cells (g:=g) (by rw [h.val];rfl) j u hj
 by_cases h0:j=0
 ·subst h0;simpa [Addr.add] using hx
 ·simpa [Addr.add,h0] using hx
theorem Yi {f least:Nat} {ts us:List Tk} {x:Ex} (h:zh f least ts=some (.ok (x,us))):us.length≤ts.length-1:=by
 obtain ⟨f',r',h1,h2⟩:=(xw ts.length ts (Nat.le_refl _)).1 least;exact h2 x us (xI (h1 0) h)
def V0 (f:Nat) (l:List Ex) (ts:List Tk):Option (PR (List Ex)):=if zo (zz ts) [44]=true then yy f l ts.tail else some (.ok (l,ts))
def ZQ (r:Nat) (w:World):Nat:=match w.cell? ⟨r,0,none⟩ with | some (.slice _ n _)=>n | _=>0
theorem zg.left {r g o cap:Nat} {ts:List Tk} {w:World} (h:zg r g o cap ts w):ZQ r w=ts.length:=by unfold ZQ;rw [h.cell]
end Go.Proofs.YtdgpapchkpnijaaGreatDoor
