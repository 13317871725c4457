import Derived.Test.YtpejpbbdgblbeaaGreatDoorMC22
import Derived.Test.YtpejpbbdgblbeaaGreatDoorMC15
namespace Go.Proofs.YtpejpbbdgblbeaaGreatDoor
open Go.RowKit Go.Shelf
set_option maxHeartbeats 16000000
set_option maxRecDepth 100000
def Yd {α:Type} (p:Nat→Option (PR α)) (n:Nat):Prop:=∃f r,(∀k,p (f+k)=some r)∧∀x us,r=.ok (x,us)→us.length≤n∧zj us
theorem YP.toE {α:Type} {p:Nat→Option (PR α)} {n:Nat} (h:YP p n) (hE:∀f x us,p f=some (.ok (x,us))→zj us):Yd p n:=by
 obtain ⟨f,r,hr,hn⟩:=h;exact ⟨f,r,hr,fun x us e=>⟨hn x us e,hE (f+0) x us (by rw [hr 0,e])⟩⟩
theorem Yd.then {α β:Type} {p:Nat→Option (PR α)} {q:Nat→α→List Tk→Option (PR β)} {n m:Nat} (h:Yd p n) (hq:∀x us,us.length≤n→zj us→Yd (fun f=>q f x us) m):Yd (fun f=>zq (p f) (q f)) m:=by
 obtain ⟨f,r,hr,hn⟩:=h;cases r with
 | error a=>exact ⟨f,.error a,fun k=>by simp [zq,hr k],fun x us h=>by cases h⟩
 | ok y =>
  obtain ⟨g,s,hs,hm⟩:=hq y.1 y.2 (hn _ _ rfl).1 (hn _ _ rfl).2;refine ⟨f+g,s,fun k=>?_,hm⟩
  have h1:=hr (g+k);have h2:=hs (f+k);rw [show f+(g+k)=f+g+k by omega] at h1
  rw [show g+(f+k)=f+g+k by omega] at h2
  simp only [zq,h1];exact h2
theorem Z3 {α:Type} (x:α) (us:List Tk) {n:Nat} (h:us.length≤n) (hE:zj us):Yd (fun _=>(some (.ok (x,us)):Option (PR α))) n:=⟨0,.ok (x,us),fun _=>rfl,fun y vs h'=>by cases h';exact ⟨h,hE⟩⟩
theorem vW {α:Type} (a:Nat) (n:Nat):Yd (fun _=>(some (.error a):Option (PR α))) n:=⟨0,.error a,fun _=>rfl,fun _ _ h=>by cases h⟩
theorem y7 (s:List UInt8) (ts:List Tk) {n:Nat} (h:ts.length≤n+1) (hE:zj ts):Yd (fun _=>Zf s ts) n:=(xC s ts h).toE fun _ _ _ h=>Zt h hE
theorem VV (ts:List Tk) {n:Nat} (h:ts.length≤n+1) (hE:zj ts):Yd (fun _=>Yg ts) n:=(uU ts h).toE fun _ _ _ h=>yM h hE
theorem Yd.step {α:Type} {p q:Nat→Option (PR α)} {n:Nat} (h:Yd q n) (hp:∀f,p (f+1)=q f):Yd p n:=by
 obtain ⟨f,r,hr,hn⟩:=h;exact ⟨f+1,r,fun k=>by rw [show f+1+k=f+k+1 by omega,hp];exact hr k,hn⟩
theorem Yd.le {α:Type} {p:Nat→Option (PR α)} {n m:Nat} (h:Yd p n) (hm:n≤m):Yd p m:=by
 obtain ⟨f,r,hr,hn⟩:=h;exact ⟨f,r,hr,fun x us h=>⟨Nat.le_trans (hn x us h).1 hm,(hn x us h).2⟩⟩
theorem xE (ts:List Tk) {n:Nat} (h:ts.length≤n) (hE:zj ts):Yd (fun f=>zk f 1 ts) (n-1):=((vS n ts h).1 1).toE fun f _ _ h=>(ZF f).1 _ _ _ _ h hE
theorem zj.pos {ts:List Tk} (h:zj ts):0<ts.length:=by
 obtain ⟨t,us,rfl⟩:=h.cons
 simp
theorem qh (n:Nat):∀ts:List Tk,ts.length≤n→zj ts→Yd (fun f=>ZQ f ts) (n-1)∧Yd (fun f=>zU f ts) (n-1)∧∀pre,Yd (fun f=>ZH f pre ts) (n-1):=by
 induction n with
 | zero=>intro ts hl hE;have:=hE.pos;omega
 | succ n ih =>
  intro ts hl hE;have hB:Yd (fun f=>zU f ts) n:=((y7 [123] ts (n:=n) hl hE).then (q:=fun f _ us=>ZH f [] us) (m:=n) fun _ us hu hEu=>((ih us hu hEu).2.2 []).le (by omega)).step fun f=>by rw [zU]
  have hS:Yd (fun f=>ZQ f ts) n:=by
   by_cases c1:zn (zx ts) [108,101,116]=true
   ·have hne:=Zq c1
    have hE1:=zT hE c1;refine ((VV ts.tail (n:=n) (by omega) hE1).then (q:=fun f s us=>zq (Zf [61] us) fun _ us=>zq (zk f 1 us) fun e us=>zq (Zf [59] us) fun _ us=>some (.ok (St.mk 1 s [e] [] [] (zx ts).line,us))) (m:=n) fun s us hu hEu=>?_).step fun f=>by rw [ZQ,if_pos c1]
    refine (y7 [61] us (n:=n) (by omega) hEu).then (q:=fun f _ us=>zq (zk f 1 us) fun e us=>zq (Zf [59] us) fun _ us=>some (.ok (St.mk 1 s [e] [] [] (zx ts).line,us))) fun _ us hu hEu=>?_
    refine (xE us hu hEu).then (q:=fun f e us=>zq (Zf [59] us) fun _ us=>some (.ok (St.mk 1 s [e] [] [] (zx ts).line,us))) fun e us hu hEu=>?_
    exact (y7 [59] us (n:=n) (by omega) hEu).then (q:=fun f _ us=>some (.ok (St.mk 1 s [e] [] [] (zx ts).line,us))) fun _ us hu hEu=>Z3 _ _ hu hEu
   by_cases c2:zn (zx ts) [105,102]=true
   ·have hne:=Zq c2
    have hE1:=zT hE c2;refine ((xE ts.tail (n:=n) (by omega) hE1).then (q:=fun f e us=>zq (zU f us) fun b us=>if zn (zx us) [101,108,115,101]=true then zq (zU f us.tail) fun c us=>some (.ok (St.mk 4 [] [e] b c (zx ts).line,us)) else some (.ok (St.mk 3 [] [e] b [] (zx ts).line,us))) (m:=n) fun e us hu hEu=>?_).step fun f=>by rw [ZQ,if_neg c1,if_pos c2]
    refine (ih us (by omega) hEu).2.1.then (q:=fun f b us=>if zn (zx us) [101,108,115,101]=true then zq (zU f us.tail) fun c us=>some (.ok (St.mk 4 [] [e] b c (zx ts).line,us)) else some (.ok (St.mk 3 [] [e] b [] (zx ts).line,us))) fun b us hu hEu=>?_
    by_cases d:zn (zx us) [101,108,115,101]=true
    ·have hne2:=Zq d
     simp only [if_pos d];exact (ih us.tail (by omega) (zT hEu d)).2.1.then (q:=fun f c us=>some (.ok (St.mk 4 [] [e] b c (zx ts).line,us))) fun c us hu hEu=>Z3 _ _ (by omega) hEu
    ·simp only [if_neg d]
     exact Z3 _ _ (by omega) hEu
   by_cases c3:zn (zx ts) [119,104,105,108,101]=true
   ·have hne:=Zq c3
    have hE1:=zT hE c3;refine ((xE ts.tail (n:=n) (by omega) hE1).then (q:=fun f e us=>zq (zU f us) fun b us=>some (.ok (St.mk 5 [] [e] b [] (zx ts).line,us))) (m:=n) fun e us hu hEu=>?_).step fun f=>by rw [ZQ,if_neg c1,if_neg c2,if_pos c3]
    exact (ih us (by omega) hEu).2.1.then (q:=fun f b us=>some (.ok (St.mk 5 [] [e] b [] (zx ts).line,us))) fun b us hu hEu=>Z3 _ _ (by omega) hEu
   by_cases c4:zn (zx ts) [114,101,116,117,114,110]=true
   ·have hne:=Zq c4
    have hE1:=zT hE c4
    by_cases d:zn (zx ts.tail) [59]=true
    ·have hne2:=Zq d
     exact (Z3 (St.mk 6 [] [] [] [] (zx ts).line) ts.tail.tail (n:=n) (by omega) (zT hE1 d)).step fun f=>by rw [ZQ,if_neg c1,if_neg c2,if_neg c3,if_pos c4,if_pos d]
    ·refine ((xE ts.tail (n:=n) (by omega) hE1).then (q:=fun f e us=>zq (Zf [59] us) fun _ us=>some (.ok (St.mk 6 [] [e] [] [] (zx ts).line,us))) (m:=n) fun e us hu hEu=>?_).step fun f=>by rw [ZQ,if_neg c1,if_neg c2,if_neg c3,if_pos c4,if_neg d]
     exact (y7 [59] us (n:=n) (by omega) hEu).then (q:=fun f _ us=>some (.ok (St.mk 6 [] [e] [] [] (zx ts).line,us))) fun _ us hu hEu=>Z3 _ _ hu hEu
   ·refine ((xE ts (n:=n+1) hl hE).then (q:=fun f e us=>if zn (zx us) [61]=true then (if YQ e=true then zq (zk f 1 us.tail) fun e2 us=>zq (Zf [59] us) fun _ us=>some (.ok (St.mk 2 [] [e,e2] [] [] (zx ts).line,us)) else some (.error (zx us).at0)) else zq (Zf [59] us) fun _ us=>some (.ok (St.mk 7 [] [e] [] [] (zx ts).line,us))) (m:=n) fun e us hu hEu=>?_).step fun f=>by rw [ZQ,if_neg c1,if_neg c2,if_neg c3,if_neg c4]
    by_cases d:zn (zx us) [61]=true
    ·have hne2:=Zq d
     simp only [if_pos d]
     by_cases d2:YQ e=true
     ·simp only [if_pos d2]
      refine (xE us.tail (n:=n) (by omega) (zT hEu d)).then (q:=fun f e2 us=>zq (Zf [59] us) fun _ us=>some (.ok (St.mk 2 [] [e,e2] [] [] (zx ts).line,us))) fun e2 us hu hEu=>?_
      exact (y7 [59] us (n:=n) (by omega) hEu).then (q:=fun f _ us=>some (.ok (St.mk 2 [] [e,e2] [] [] (zx ts).line,us))) fun _ us hu hEu=>Z3 _ _ hu hEu
     ·simp only [if_neg d2]
      exact vW _ _
    ·simp only [if_neg d]
     exact (y7 [59] us (n:=n) (by omega) hEu).then (q:=fun f _ us=>some (.ok (St.mk 7 [] [e] [] [] (zx ts).line,us))) fun _ us hu hEu=>Z3 _ _ hu hEu
  refine ⟨hS,hB,fun pre=>?_⟩
  by_cases c:zn (zx ts) [125]=true
  ·have hne:=Zq c
   exact (Z3 pre ts.tail (n:=n) (by omega) (zT hE c)).step fun f=>by rw [ZH,if_pos c]
  ·exact (hS.then (q:=fun f s us=>ZH f (pre++[s]) us) (m:=n) fun s us hu hEu=>((ih us hu hEu).2.2 _).le (by omega)).step fun f=>by rw [ZH,if_neg c]
theorem zY.kind_eq {S:Nat→Prop} {w:World} {x:Ex} {a:Int} {b c d e:Value} (h:zY S w x (.agg #[.int .i64 a,b,c,d,e])):a=(x.kind:Int):=by
 cases h <;> rfl
theorem zbt (a:Nat) (xb:ByteArray) (xc:Int) (x0:Option Addr) (x1 x2:Nat) (xl:Int) (w:World) :
  Calls Tryz.prog 189 #[.agg #[.int .i64 (a:Int),.string xb,.int .i64 xc,.slice x0 x1 x2,.int .i64 xl]] w fun e w'=>e=.returned (.bool (a==4||a==8||a==9))∧w'=w.alloc (.cells #[.int .i64 (a:Int),.string xb,.int .i64 xc,.slice x0 x1 x2,.int .i64 xl] 45):=by
 by_cases h4:a=4
 ·subst h4
  go_enter Tryz.func189,Tryz.ntmps189
  go_wp2
  go_ret
  exact ⟨rfl,rfl⟩
 ·have f4:(a==4)=false:=by simpa using h4
  have g4:((a:Int)==4)=false:=by rw [beq_eq_false_iff_ne];omega
  by_cases h8:a=8
  ·subst h8
   go_enter Tryz.func189,Tryz.ntmps189
   go_wp2
   go_ret
   exact ⟨rfl,rfl⟩
  ·have f8:(a==8)=false:=by simpa using h8
   have g8:((a:Int)==8)=false:=by rw [beq_eq_false_iff_ne];omega
   by_cases h9:a=9
   ·subst h9
    go_enter Tryz.func189,Tryz.ntmps189
    go_wp2
    go_ret
    exact ⟨rfl,rfl⟩
   ·have f9:(a==9)=false:=by simpa using h9
    have g9:((a:Int)==9)=false:=by rw [beq_eq_false_iff_ne];omega
    rw [f4,f8,f9];clear h4 h8 h9 f4 f8 f9
    go_enter Tryz.func189,Tryz.ntmps189
    go_wp2
    go_ret
    exact ⟨rfl,rfl⟩
theorem zv.keptR {S:Nat→Prop} {r:Nat} {w w':World} {l:List Ex} {v:Value} (h:zv S w l v) (hk:zc r w w') (hS:∀k,S k→k≠r):zv S w' l v:=h.kept hk.size fun k hs hlt=>hk.block k hlt (hS k hs)
theorem zv.setP {S:Nat→Prop} {P j:Nat} {w:World} {l:List Ex} {v:Value} (h:zv S w l v) (u:Value) (hS:∀k,S k→k≠P):zv S (w.setCell ⟨P,j,none⟩ u) l v:=h.kept (by simp) fun k hs _=>Below.heap_setCell _ _ _ _ (by simpa using hS k hs)
theorem zD.keptR {S:Nat→Prop} {r:Nat} {w w':World} {l:List St} {v:Value} (h:zD S w l v) (hk:zc r w w') (hS:∀k,S k→k≠r):zD S w' l v:=h.kept hk.size fun k hs hlt=>hk.block k hlt (hS k hs)
theorem zD.setP {S:Nat→Prop} {P j:Nat} {w:World} {l:List St} {v:Value} (h:zD S w l v) (u:Value) (hS:∀k,S k→k≠P):zD S (w.setCell ⟨P,j,none⟩ u) l v:=h.kept (by simp) fun k hs _=>Below.heap_setCell _ _ _ _ (by simpa using hS k hs)
theorem zh.setP {r g o cap P j:Nat} {ts:List Tk} {w:World} (h:zh r g o cap ts w) (u:Value) (hr:r≠P) (hg:g≠P):zh r g o cap ts (w.setCell ⟨P,j,none⟩ u):=h.keep (Below.heap_setCell _ _ _ _ (by simpa using hr)) (Below.heap_setCell _ _ _ _ (by simpa using hg))
def St.at:Nat→St→St
 | l,.mk k s es b e _=>.mk k s es b e l
def atL (l:Nat) (R:PR St):PR St:=match R with
 | .error a=>.error a
 | .ok (s,us)=>.ok (s.at l,us)
def uq (f:Nat) (ts:List Tk) (line:Nat):Option (PR St):=zq (zk f 1 ts) fun e us=>zq (zU f us) fun b us=>if zn (zx us) [101,108,115,101]=true then zq (zU f us.tail) fun c us=>some (.ok (.mk 4 [] [e] b c line,us)) else some (.ok (.mk 3 [] [e] b [] line,us))
theorem zcI (f:Nat) (ts:List Tk) (line:Nat) {R:PR St} (h:uq f ts line=some R):∃R0,uq f ts 0=some R0∧atL line R0=R:=by
 unfold uq at h ⊢
 cases h1:zk f 1 ts with
 | none=>rw [h1] at h;cases h
 | some r1 =>
  rw [h1] at h;rcases r1 with a | ⟨e,us⟩
  ·simp only [zq,Option.some.injEq] at h ⊢
   exact ⟨_,rfl,h⟩
  ·simp only [zq] at h ⊢
   cases h2:zU f us with
   | none=>rw [h2] at h;cases h
   | some r2 =>
    rw [h2] at h;rcases r2 with a | ⟨b,us2⟩
    ·simp only [Option.some.injEq] at h ⊢
     exact ⟨_,rfl,h⟩
    ·simp only at h ⊢
     by_cases hc:zn (zx us2) [101,108,115,101]=true
     ·rw [if_pos hc] at h ⊢
      cases h3:zU f us2.tail with
      | none=>rw [h3] at h;cases h
      | some r3 =>
       rw [h3] at h;rcases r3 with a | ⟨c,us3⟩
       ·simp only [Option.some.injEq] at h ⊢
        exact ⟨_,rfl,h⟩
       ·simp only [Option.some.injEq] at h ⊢
        exact ⟨_,rfl,h⟩
     ·rw [if_neg hc] at h ⊢
      simp only [Option.some.injEq] at h ⊢;exact ⟨_,rfl,h⟩
def setP (f:Nat) (ts:List Tk) (line:Nat):Option (PR St):=zq (zk f 1 ts) fun e us=>if zn (zx us) [61]=true then (if YQ e=true then zq (zk f 1 us.tail) fun e2 us=>zq (Zf [59] us) fun _ us=>some (.ok (.mk 2 [] [e,e2] [] [] line,us)) else some (.error (zx us).at0)) else zq (Zf [59] us) fun _ us=>some (.ok (.mk 7 [] [e] [] [] line,us))
theorem zgJ (f:Nat) (ts:List Tk) (line:Nat) {R:PR St} (h:setP f ts line=some R):∃R0,setP f ts 0=some R0∧atL line R0=R:=by
 unfold setP Zf at h ⊢
 cases h1:zk f 1 ts with
 | none=>rw [h1] at h;cases h
 | some r1 =>
  rw [h1] at h;rcases r1 with a | ⟨e,us⟩
  ·simp only [zq,Option.some.injEq] at h ⊢
   exact ⟨_,rfl,h⟩
  ·simp only [zq] at h ⊢
   by_cases hc:zn (zx us) [61]=true
   ·rw [if_pos hc] at h ⊢
    by_cases hd:YQ e=true
    ·rw [if_pos hd] at h ⊢
     cases h2:zk f 1 us.tail with
     | none=>rw [h2] at h;cases h
     | some r2 =>
      rw [h2] at h;rcases r2 with a | ⟨e2,us2⟩
      ·simp only [Option.some.injEq] at h ⊢
       exact ⟨_,rfl,h⟩
      ·simp only at h ⊢
       by_cases he:zn (zx us2) [59]=true
       ·simp only [if_pos he,Option.some.injEq] at h ⊢;exact ⟨_,rfl,h⟩
       ·simp only [if_neg he,Option.some.injEq] at h ⊢;exact ⟨_,rfl,h⟩
    ·rw [if_neg hd] at h ⊢
     simp only [Option.some.injEq] at h ⊢;exact ⟨_,rfl,h⟩
   ·rw [if_neg hc] at h ⊢
    by_cases he:zn (zx us) [59]=true
    ·simp only [if_pos he,Option.some.injEq] at h ⊢;exact ⟨_,rfl,h⟩
    ·simp only [if_neg he,Option.some.injEq] at h ⊢;exact ⟨_,rfl,h⟩
abbrev vC (k:Int) (s:ByteArray) (e b l:Value) (line:Int):Obj:=.cells #[.int .i64 k,.string s,e,b,l,.int .i64 line] 108
abbrev exO (a:Int) (b:ByteArray) (c:Int) (d:Value) (e:Int):Obj:=.cells #[.int .i64 a,.string b,.int .i64 c,d,.int .i64 e] 45
theorem zfC (r g o cap F:Nat) (ts:List Tk) (w:World) (R:PR St) (h:zh r g o cap ts w) (hE:zj ts) (hp:uq F ts 0=some R)
  (hex:∀w1 o1 cap1 ts1 r1,zk F 1 ts1=some r1→zj ts1→zh r g o1 cap1 ts1 w1→zc r w w1→Calls Tryz.prog 44 #[.pointer (some ⟨r,0,none⟩)] w1 (zQ r g w1 r1))
  (hbl:∀w1 o1 cap1 ts1 r1,zU F ts1=some r1→zj ts1→zh r g o1 cap1 ts1 w1→zc r w w1→Calls Tryz.prog 100 #[.pointer (some ⟨r,0,none⟩)] w1 (vV r g w1 r1)) :
  Calls Tryz.prog 167 #[.pointer (some ⟨r,0,none⟩)] w (Z0 r g w R):=by
 obtain ⟨t0,ts0,rfl⟩:=hE.cons;have hr:=h.lt.1;have hgw:=h.lt.2
 unfold uq at hp
 obtain ⟨w0,hw0⟩:∃w0,w0=w.alloc YR:=⟨_,rfl⟩;have h0:zh r g o cap (t0::ts0) w0:=by rw [hw0];exact h.alloc _
 have k0:zc r w w0:=by rw [hw0];exact (zc.refl r w).alloc _
 have b0:w0.heap[w.heap.size]?=some YR:=by rw [hw0];exact World.alloc_heap_new _ _
 have hs0:w0.heap.size=w.heap.size+1:=by rw [hw0];simp
 have HW0:Hid (w0=w.alloc YR):=hw0;have HBL:Hid (∀w1 o1 cap1 ts1 r1,zU F ts1=some r1→zj ts1→zh r g o1 cap1 ts1 w1→zc r w w1→Calls Tryz.prog 100 #[.pointer (some ⟨r,0,none⟩)] w1 (vV r g w1 r1)):=hbl;cases hb1:zk F 1 (t0::ts0) with
 | none=>rw [hb1] at hp;cases hp
 | some r1 =>
  have ce:=hex w0 o cap (t0::ts0) r1 hb1 hE h0 k0;rw [hb1] at hp;clear hex hbl h h0 hw0
  go_enter Tryz.func167,Tryz.ntmps167
  go_wp2_with fail
  rw [←HW0.out];refine ce.mono ?_;clear ce HW0;rintro e w1 ⟨hk1,hpost⟩;rcases r1 with a | ⟨x,us⟩
  ·obtain rfl:=hpost
   simp only [zq,Option.some.injEq] at hp;subst hp;exact ⟨rfl,k0.trans hk1,rfl⟩
  ·obtain ⟨v,o1,cap1,rfl,hx,hrd⟩:=hpost
   obtain ⟨xa,xb,xc,x0,x1,x2,xl,rfl⟩:=hx.agg;have hE1:=(ZF F).1 _ _ _ _ hb1 hE;simp only [zq] at hp;cases hb2:zU F us with
   | none=>rw [hb2] at hp;cases hp
   | some r2 =>
    rw [hb2] at hp;have hs1:=hk1.size;obtain ⟨P,hP⟩:∃P,P=w1.heap.size+1:=⟨_,rfl⟩;obtain ⟨w2,hw2⟩:∃w2,w2=(w1.alloc (exO xa xb xc (.slice x0 x1 x2) xl)).alloc (vC 3 ⟨#[]⟩ (.slice (some ⟨w1.heap.size,0,none⟩) 1 1) (.slice none 0 0) (.slice none 0 0) 0):=⟨_,rfl⟩;have hs2:w2.heap.size=P+1:=by rw [hw2,hP];simp
    have hbP:w2.heap[P]?=some (vC 3 ⟨#[]⟩ (.slice (some ⟨w1.heap.size,0,none⟩) 1 1) (.slice none 0 0) (.slice none 0 0) 0):=by
     rw [hw2,hP]
     have:=World.alloc_heap_new (w1.alloc (exO xa xb xc (.slice x0 x1 x2) xl)) (vC 3 ⟨#[]⟩ (.slice (some ⟨w1.heap.size,0,none⟩) 1 1) (.slice none 0 0) (.slice none 0 0) 0)
     simpa using this
    have k02:zc r w w2:=by rw [hw2];exact ((k0.trans hk1).alloc _).alloc _
    have b2:w2.heap[w.heap.size]?=some YR:=by
     rw [hw2,Below.heap_alloc _ _ _ (by simp;omega),Below.heap_alloc _ _ _ (by omega)]
     exact (hk1.block _ (by omega) (by omega)).trans b0
    obtain ⟨t1,us1,rfl⟩:=hE1.cons;have hrd2:zh r g o1 cap1 (t1::us1) w2:=by rw [hw2];exact (hrd.alloc _).alloc _
    have hrow1:=zv.one (S:=fun k=>w0.heap.size≤k) 45 (c:=[.int .i64 xa,.string xb,.int .i64 xc,.slice x0 x1 x2,.int .i64 xl]) hx rfl (by omega)
    have hrow2:zv (fun k=>w0.heap.size≤k∧k<P) w2 [x] (.slice (some ⟨w1.heap.size,0,none⟩) 1 1):=by
     have h9:=hrow1.lower;have e9:(w1.alloc (.cells [Value.int .i64 xa,.string xb,.int .i64 xc,.slice x0 x1 x2,.int .i64 xl].toArray 45)).heap.size=P:=by rw [hP];simp
     rw [e9] at h9;rw [hw2];exact h9.kept (by simp) fun k hk _=>Below.heap_alloc _ _ _ (by rw [e9];exact hk.2)
    have cb:=HBL.out w2 o1 cap1 (t1::us1) r2 hb2 hE1 hrd2 k02;have HW2:Hid (w2=(w1.alloc (exO xa xb xc (.slice x0 x1 x2) xl)).alloc (vC 3 ⟨#[]⟩ (.slice (some ⟨w1.heap.size,0,none⟩) 1 1) (.slice none 0 0) (.slice none 0 0) 0)):=hw2;have HROW:Hid (zv (fun k=>w0.heap.size≤k∧k<P) w2 [x] (.slice (some ⟨w1.heap.size,0,none⟩) 1 1)):=hrow2
    have HB:Hid (w2.heap[w.heap.size]?=some YR∧w2.heap[P]?=some (vC 3 ⟨#[]⟩ (.slice (some ⟨w1.heap.size,0,none⟩) 1 1) (.slice none 0 0) (.slice none 0 0) 0)):=⟨b2,hbP⟩;have HK2:Hid (zc r w w2):=k02;have HS:Hid (w0.heap.size=w.heap.size+1∧w1.heap.size+1=P∧w2.heap.size=P+1∧w0.heap.size≤w1.heap.size):=⟨hs0,hP.symm,hs2,hs1⟩;have HPP:Hid (w1.heap.size+1=P):=hP.symm;clear hw2 hrow1 hrow2 hbP b2 b0 k0 hk1 hx hrd hrd2 k02 hs2 hs1 hs0 hP;go_wp2_with fail
    rw [←HW2.out];refine cb.mono ?_;clear cb HW2;rintro e w3 ⟨hk3,hpost⟩;rcases r2 with a | ⟨bl,us2⟩
    ·obtain rfl:=hpost
     simp only [Option.some.injEq] at hp;subst hp;exact ⟨rfl,HK2.out.trans hk3,rfl⟩
    ·obtain ⟨vb,o3,cap3,rfl,hbs,hrd3⟩:=hpost
     simp only at hp;obtain ⟨c0,c1,c2,rfl⟩:=hbs.slice;have hE2:=(uW F).2.1 _ _ _ hb2 hE1;obtain ⟨t2,us3,rfl⟩:=hE2.cons;have hS:=HS.out;have hs3:=hk3.size;have b3:=(hk3.block w.heap.size (by omega) (by omega)).trans HB.out.1
     have p3:=(hk3.block P (by omega) (by omega)).trans HB.out.2
     obtain ⟨g0,g1,g2,g3,g4,g5,gf⟩:=zp p3;have gf3:=gf 3;obtain ⟨w4,hw4⟩:∃w4,w4=w3.setCell ⟨P,3,none⟩ (.slice c0 c1 c2):=⟨_,rfl⟩;have p4:w4.heap[P]?=some (vC 3 ⟨#[]⟩ (.slice (some ⟨w1.heap.size,0,none⟩) 1 1) (.slice c0 c1 c2) (.slice none 0 0) 0):=by rw [hw4];exact zm _ p3
     have b4:w4.heap[w.heap.size]?=some YR:=by rw [hw4,Below.heap_setCell _ _ _ _ (by simp;omega)];exact b3
     have hz4:w4.heap.size=w3.heap.size:=by rw [hw4];simp
     have hrd4:zh r g o3 cap3 (t2::us3) w4:=by rw [hw4];exact hrd3.setP _ (by omega) (by omega)
     have k4:zc r w w4:=by rw [hw4];exact (HK2.out.trans hk3).setOther (by simp;omega) _
     have hrow4:zv (fun k=>w0.heap.size≤k∧k<P) w4 [x] (.slice (some ⟨w1.heap.size,0,none⟩) 1 1):=by rw [hw4];exact (HROW.out.keptR hk3 fun k hk=>by omega).setP _ fun k hk=>by omega
     have hbs4:zD (fun k=>w2.heap.size≤k) w4 bl (.slice c0 c1 c2):=by rw [hw4];exact hbs.setP _ fun k hk=>by omega
     have cs:=ZL r g o3 cap3 t2 us3 [101,108,115,101] w4 hrd4 (fun hi=>(hE2.tail (zl hi)).ne)
     have HB4:Hid (w4.heap[w.heap.size]?=some YR∧w4.heap[P]?=some (vC 3 ⟨#[]⟩ (.slice (some ⟨w1.heap.size,0,none⟩) 1 1) (.slice c0 c1 c2) (.slice none 0 0) 0)):=⟨b4,p4⟩;have HK4:Hid (zc r w w4):=k4;have HROW4:Hid (zv (fun k=>w0.heap.size≤k∧k<P) w4 [x] (.slice (some ⟨w1.heap.size,0,none⟩) 1 1)):=hrow4
     have HBS4:Hid (zD (fun k=>w2.heap.size≤k) w4 bl (.slice c0 c1 c2)):=hbs4
     have HZ4:Hid (w2.heap.size≤w4.heap.size):=show _≤_ by omega
     have hw4':=hw4.symm;have hE3:=hE2;simp only [zI,List.tail_cons] at hp;rw [HPP.out];clear hw4 p4 b4 hz4 hrd4 k4 hrow4 hbs4 hbs hrd3 b3 p3 gf g0 g1 g2 g4 g5 hk3 hs3 hS HB HROW HK2 hE2
     by_cases hi:zn t2 [101,108,115,101]=true
     ·rw [hi] at cs
      rw [if_pos hi] at hp;have hE4:=hE3.tail (zl hi);cases hb3:zU F us3 with
      | none=>rw [hb3] at hp;cases hp
      | some r3 =>
       rw [hb3] at hp;go_wp2_with fail
       refine cs.mono ?_;clear cs hw4' g3 gf3;rintro e w5 ⟨rfl,hk5,h5⟩;have hS:=HS.out;have hz4:=HZ4.out;have hs5:=hk5.size;have h5':zh r g (o3+5) (cap3-1) us3 w5:=by simpa using h5
       have b5:=(hk5.block w.heap.size (by omega) (by omega)).trans HB4.out.1
       have p5:=(hk5.block P (by omega) (by omega)).trans HB4.out.2
       obtain ⟨g0,-,-,-,-,-,gf⟩:=zp p5;have gf0:=gf 0;obtain ⟨w6,hw6⟩:∃w6,w6=w5.setCell ⟨P,0,none⟩ (.int .i64 4):=⟨_,rfl⟩;have p6:w6.heap[P]?=some (vC 4 ⟨#[]⟩ (.slice (some ⟨w1.heap.size,0,none⟩) 1 1) (.slice c0 c1 c2) (.slice none 0 0) 0):=by rw [hw6];exact zm _ p5
       have b6:w6.heap[w.heap.size]?=some YR:=by rw [hw6,Below.heap_setCell _ _ _ _ (by simp;omega)];exact b5
       have hz6:w6.heap.size=w5.heap.size:=by rw [hw6];simp
       have hrd6:zh r g (o3+5) (cap3-1) us3 w6:=by rw [hw6];exact h5'.setP _ (by omega) (by omega)
       have k6:zc r w w6:=by rw [hw6];exact (HK4.out.trans hk5).setOther (by simp;omega) _
       have hrow6:zv (fun k=>w0.heap.size≤k∧k<P) w6 [x] (.slice (some ⟨w1.heap.size,0,none⟩) 1 1):=by rw [hw6];exact (HROW4.out.keptR hk5 fun k hk=>by omega).setP _ fun k hk=>by omega
       have hbs6:zD (fun k=>w2.heap.size≤k) w6 bl (.slice c0 c1 c2):=by rw [hw6];exact (HBS4.out.keptR hk5 fun k hk=>by omega).setP _ fun k hk=>by omega
       have cb:=HBL.out w6 _ _ us3 r3 hb3 hE4 hrd6 k6;have HB6:Hid (w6.heap[w.heap.size]?=some YR∧w6.heap[P]?=some (vC 4 ⟨#[]⟩ (.slice (some ⟨w1.heap.size,0,none⟩) 1 1) (.slice c0 c1 c2) (.slice none 0 0) 0)):=⟨b6,p6⟩;have HK6:Hid (zc r w w6):=k6;have HROW6:Hid (zv (fun k=>w0.heap.size≤k∧k<P) w6 [x] (.slice (some ⟨w1.heap.size,0,none⟩) 1 1)):=hrow6
       have HBS6:Hid (zD (fun k=>w2.heap.size≤k) w6 bl (.slice c0 c1 c2)):=hbs6
       have HZ6:Hid (w2.heap.size≤w6.heap.size):=show _≤_ by omega
       have hw6':=hw6.symm;clear hw6 p6 b6 hz6 hrd6 k6 hrow6 hbs6 b5 p5 gf hk5 hs5 hS hz4 h5 h5' HB4 HROW4 HBS4 HK4 HZ4;go_wp2_with fail
       refine cb.mono ?_;clear cb hw6' g0 gf0;rintro e w7 ⟨hk7,hpost⟩;rcases r3 with a | ⟨cl,us4⟩
       ·obtain rfl:=hpost
        simp only [Option.some.injEq] at hp;subst hp;exact ⟨rfl,HK6.out.trans hk7,rfl⟩
       ·obtain ⟨vl,o7,cap7,rfl,hls,hrd7⟩:=hpost
        simp only [Option.some.injEq] at hp;subst hp;obtain ⟨d0,d1,d2,rfl⟩:=hls.slice;have hS:=HS.out;have hz6:=HZ6.out;have hs7:=hk7.size;have b7:=(hk7.block w.heap.size (by omega) (by omega)).trans HB6.out.1
        have p7:=(hk7.block P (by omega) (by omega)).trans HB6.out.2
        obtain ⟨-,-,-,-,g4,-,gf⟩:=zp p7;have gf4:=gf 4;obtain ⟨w8,hw8⟩:∃w8,w8=w7.setCell ⟨P,4,none⟩ (.slice d0 d1 d2):=⟨_,rfl⟩;have p8:w8.heap[P]?=some (vC 4 ⟨#[]⟩ (.slice (some ⟨w1.heap.size,0,none⟩) 1 1) (.slice c0 c1 c2) (.slice d0 d1 d2) 0):=by rw [hw8];exact zm _ p7
        have b8:w8.heap[w.heap.size]?=some YR:=by rw [hw8,Below.heap_setCell _ _ _ _ (by simp;omega)];exact b7
        have hrd8:zh r g o7 cap7 us4 w8:=by rw [hw8];exact hrd7.setP _ (by omega) (by omega)
        have k8:zc r w w8:=by rw [hw8];exact (HK6.out.trans hk7).setOther (by simp;omega) _
        have hrow8:zv (fun k=>w0.heap.size≤k) w8 [x] (.slice (some ⟨w1.heap.size,0,none⟩) 1 1):=by rw [hw8];exact ((HROW6.out.keptR hk7 fun k hk=>by omega).setP _ fun k hk=>by omega).wide fun k hk=>hk.1
        have hbs8:zD (fun k=>w0.heap.size≤k) w8 bl (.slice c0 c1 c2):=by rw [hw8];exact ((HBS6.out.keptR hk7 fun k hk=>by omega).setP _ fun k hk=>by omega).wide fun k hk=>by omega
        have hls8:zD (fun k=>w0.heap.size≤k) w8 cl (.slice d0 d1 d2):=by rw [hw8];exact (hls.setP _ fun k hk=>by omega).wide fun k hk=>by omega
        obtain ⟨e0,e1,e2,e3,e4,e5,-⟩:=zp p8;obtain ⟨q0,q1,q2,q3,q4,q5,qf⟩:=zp b8;obtain ⟨z0,z1,z2,z3,z4,z5,-⟩:=zp (zP b8 (.int .i64 4) (.string ⟨#[]⟩) (.slice (some ⟨w1.heap.size,0,none⟩) 1 1) (.slice c0 c1 c2) (.slice d0 d1 d2) (.int .i64 0))
        have HP:Hid (Z0 r g w (.ok (.mk 4 [] [x] bl cl 0,us4)) (.returned (.agg #[.int .i64 4,.string ⟨#[]⟩,.slice (some ⟨w1.heap.size,0,none⟩) 1 1,.slice c0 c1 c2,.slice d0 d1 d2,.int .i64 0])) (Yu w8 w.heap.size (.int .i64 4) (.string ⟨#[]⟩) (.slice (some ⟨w1.heap.size,0,none⟩) 1 1) (.slice c0 c1 c2) (.slice d0 d1 d2) (.int .i64 0))) :=
         Z0.of_set6 (B:=w0.heap.size) 4 [] 0 k8 (Nat.le_refl _) hr hgw hrow8 hbs8 hls8 (by omega) hrd8
        have hw8':=hw8.symm;clear hw8 p8 b8 hrd8 k8 hrow8 hbs8 hls8 b7 p7 gf hk7 hs7 hS hz6 hls hrd7 HB6 HROW6 HBS6 HK6 HZ6;go_wp2
        exact bodyPost_ret (v:=.agg #[.int .i64 4,.string ⟨#[]⟩,.slice (some ⟨w1.heap.size,0,none⟩) 1 1,.slice c0 c1 c2,.slice d0 d1 d2,.int .i64 0]) (by simp [results,Tryz.results167,go_sem,z0,z1,z2,z3,z4,z5]) rfl HP.out
     ·have hi':zn t2 [101,108,115,101]=false:=by simpa using hi
      rw [hi'] at cs;rw [if_neg hi] at hp;simp only [Option.some.injEq] at hp;subst hp;go_wp2_with fail
      refine cs.mono ?_;clear cs hw4' g3 gf3;rintro e w5 ⟨rfl,hk5,h5⟩;have hS:=HS.out;have hz4:=HZ4.out;have hs5:=hk5.size;have h5':zh r g o3 cap3 (t2::us3) w5:=by simpa using h5
      have b5:=(hk5.block w.heap.size (by omega) (by omega)).trans HB4.out.1
      have p5:=(hk5.block P (by omega) (by omega)).trans HB4.out.2
      have k5:zc r w w5:=HK4.out.trans hk5;have hrow5:zv (fun k=>w0.heap.size≤k) w5 [x] (.slice (some ⟨w1.heap.size,0,none⟩) 1 1):=(HROW4.out.keptR hk5 fun k hk=>by omega).wide fun k hk=>hk.1
      have hbs5:zD (fun k=>w0.heap.size≤k) w5 bl (.slice c0 c1 c2):=(HBS4.out.keptR hk5 fun k hk=>by omega).wide fun k hk=>by omega
      obtain ⟨e0,e1,e2,e3,e4,e5,-⟩:=zp p5;obtain ⟨q0,q1,q2,q3,q4,q5,qf⟩:=zp b5;obtain ⟨z0,z1,z2,z3,z4,z5,-⟩:=zp (zP b5 (.int .i64 3) (.string ⟨#[]⟩) (.slice (some ⟨w1.heap.size,0,none⟩) 1 1) (.slice c0 c1 c2) (.slice none 0 0) (.int .i64 0))
      have HP:Hid (Z0 r g w (.ok (.mk 3 [] [x] bl [] 0,t2::us3)) (.returned (.agg #[.int .i64 3,.string ⟨#[]⟩,.slice (some ⟨w1.heap.size,0,none⟩) 1 1,.slice c0 c1 c2,.slice none 0 0,.int .i64 0])) (Yu w5 w.heap.size (.int .i64 3) (.string ⟨#[]⟩) (.slice (some ⟨w1.heap.size,0,none⟩) 1 1) (.slice c0 c1 c2) (.slice none 0 0) (.int .i64 0))) :=
       Z0.of_set6 (B:=w0.heap.size) 3 [] 0 k5 (Nat.le_refl _) hr hgw hrow5 hbs5 (zD.nil _ _) (by omega) h5'
      clear b5 p5 k5 hrow5 hbs5 hk5 hs5 hS hz4 h5 h5' HB4 HROW4 HBS4 HK4 HZ4;go_wp2
      exact bodyPost_ret (v:=.agg #[.int .i64 3,.string ⟨#[]⟩,.slice (some ⟨w1.heap.size,0,none⟩) 1 1,.slice c0 c1 c2,.slice none 0 0,.int .i64 0]) (by simp [results,Tryz.results167,go_sem,z0,z1,z2,z3,z4,z5]) rfl HP.out
def Z6 {α:Type} (E:(Nat→Prop)→World→α→List Value→Prop) (sz ty B:Nat) (w:World) (l:List α) (v:Value):Prop :=
 (l=[]∧v=.slice none 0 0)∨∃g cap us,Zu E sz ty B w l v g cap us
theorem Z6.nil {α:Type} (E:(Nat→Prop)→World→α→List Value→Prop) (sz ty B:Nat) (w:World):Z6 E sz ty B w [] (.slice none 0 0):=.inl ⟨rfl,rfl⟩
theorem Z6.kept {α:Type} {E:(Nat→Prop)→World→α→List Value→Prop} (L:yO E) {sz ty B:Nat} {w w':World} {l:List α} {v:Value} (h:Z6 E sz ty B w l v) (hs:w.heap.size≤w'.heap.size) (hb:∀k,B≤k→k<w.heap.size→w'.heap[k]?=w.heap[k]?):Z6 E sz ty B w' l v:=by
 rcases h with h | ⟨g,cap,us,h⟩
 ·exact .inl h
 ·exact .inr ⟨g,cap,us,h.kept L hs hb⟩
theorem Z6.slice {α:Type} {E:(Nat→Prop)→World→α→List Value→Prop} {sz ty B:Nat} {w:World} {l:List α} {v:Value} (h:Z6 E sz ty B w l v):∃b c,v=.slice b l.length c:=by
 rcases h with ⟨rfl,rfl⟩ | ⟨g,cap,us,h⟩
 ·exact ⟨none,0,rfl⟩
 ·exact ⟨_,_,h.val⟩
theorem Z6.block {α:Type} {E:(Nat→Prop)→World→α→List Value→Prop} {sz ty B:Nat} {w:World} {l:List α} {v:Value} (h:Z6 E sz ty B w l v):∀q,v.ownBlock=some q→B≤q∧q<w.heap.size:=by
 intro q hq;rcases h with ⟨rfl,rfl⟩ | ⟨g,cap,us,h⟩
 ·simp [Value.ownBlock] at hq
 ·rw [h.val] at hq
  have e:g=q:=by simpa [Value.ownBlock] using hq
  subst e;exact ⟨h.block.1,h.block.2.1⟩
theorem Z6.more {α:Type} {E:(Nat→Prop)→World→α→List Value→Prop} (L:yO E) {sz ty B:Nat} {w:World} {l:List α} {v:Value} (h:Z6 E sz ty B w l v):∃us:List (List Value),w.ownsRow B ty sz v l.length us.flatten ∧
  ∀{w':World} {v':Value} {x:α} {c:List Value} {ob:Obj} {N:Nat},E (fun k=>N≤k) w x c→B≤N→(∀q,v.ownBlock=some q→q<N)→c.length=sz→w'.ownsRow B ty sz v' (l.length+1) (us.flatten++c)→(w.alloc ob).grownBy w' v.ownBlock→(v'.ownBlock=v.ownBlock∨v'.ownBlock=some (w.alloc ob).heap.size)→Z6 E sz ty B w' (l++[x]) v':=by
 rcases h with ⟨rfl,rfl⟩ | ⟨g,cap,us,h⟩
 ·refine ⟨[],World.ownsRow_nil _ _ _ _,?_⟩
  intro w' v' x c ob N hx hBN _ hc ho hg ha;simp only [List.flatten_nil,List.nil_append,List.length_nil,Nat.zero_add] at ho
  obtain ⟨g',cap',hv',hBg⟩:∃g' cap',v'=.slice (some ⟨g',0,none⟩) 1 cap'∧B≤g':=by
   rcases ho.2 with ⟨_,h0⟩ | ⟨g',cap',_,h1,h2,_⟩
   ·omega
   ·exact ⟨g',cap',h1,h2⟩
  have hg':g'=w.heap.size+1:=by
   rw [hv'] at ha
   simpa [Value.ownBlock] using ha
  have hs:w.heap.size≤w'.heap.size:=by have:=hg.size;simp at this;omega
  have hkeep:∀k,k<w.heap.size→w'.heap[k]?=w.heap[k]?:=fun k hlt=>(hg.block k (by simp;omega) (by simp [Value.ownBlock])).trans (Below.heap_alloc _ _ _ hlt)
  refine .inr ⟨g',cap',[c],⟨hv',by simp,by simpa using ho,rfl,by simpa using hc,fun j y d hy hd=>?_⟩⟩
  cases j with
  | succ j=>simp at hy
  | zero =>
   simp only [List.nil_append,List.getElem?_cons_zero,Option.some.injEq] at hy hd;subst hy hd;exact L.wide (L.kept (L.low hx) hs fun k hk _=>hkeep k hk.2) fun k hk=>⟨by omega,by omega⟩
 ·refine ⟨us,h.own,?_⟩
  intro w' v' x c ob N hx hBN hN hc ho hg ha;have hgN:g<N:=hN g (by rw [h.val];rfl)
  obtain ⟨g',cap',h',-⟩:=h.snoc L (x:=x) (c:=c) (ob:=ob) (L.wide hx fun k hk=>⟨by omega,by omega⟩) hc ho hg ha
  exact .inr ⟨g',cap',_,h'⟩
theorem Z6.sts {ty B:Nat} {w:World} {l:List St} {v:Value} (h:Z6 StE 6 ty B w l v):zD (fun k=>B≤k) w l v:=by
 rcases h with ⟨rfl,rfl⟩ | ⟨g,cap,us,h⟩
 ·exact zD.nil _ _
 ·exact h.sts
theorem zv.slice {S:Nat→Prop} {w:World} {l:List Ex} {v:Value} (h:zv S w l v):∃d0 d1 d2,v=.slice d0 d1 d2:=by
 rcases h with ⟨_,rfl⟩ | ⟨g,cap,us,rfl,_⟩
 ·exact ⟨_,_,_,rfl⟩
 ·exact ⟨_,_,_,rfl⟩
theorem yS.agg {S:Nat→Prop} {w:World} {x:St} {v:Value} (h:yS S w x v):∃(a:Int) (b:ByteArray) (e0:Option Addr) (e1 e2:Nat) (b0:Option Addr) (b1 b2:Nat) (l0:Option Addr) (l1 l2:Nat) (c:Int),v=.agg #[.int .i64 a,.string b,.slice e0 e1 e2,.slice b0 b1 b2,.slice l0 l1 l2,.int .i64 c]:=by
 cases h with
 | mk k s es body els line ve vb vl gb cb gl cl ub ul he hb hbk hl hlk =>
  obtain ⟨e0,e1,e2,rfl⟩:=he.slice;obtain ⟨b0,b1,b2,rfl⟩:=zD.slice (S:=S) (w:=w) (l:=body) (v:=vb) ⟨gb,cb,ub,hb,hbk⟩;obtain ⟨l0,l1,l2,rfl⟩:=zD.slice (S:=S) (w:=w) (l:=els) (v:=vl) ⟨gl,cl,ul,hl,hlk⟩;exact ⟨_,_,_,_,_,_,_,_,_,_,_,_,rfl⟩
theorem QP:(Tryz.prog.info? 108).map (fun i=>(i.zero,i.size,i.bytes))=some (some (.agg #[.int .i64 0,.string ⟨#[]⟩,.slice none 0 0,.slice none 0 0,.slice none 0 0,.int .i64 0]),6,104):=by kernel_rfl
theorem zbu {f k:Nat} {ts:List Tk} {r:PR St} (h:ZQ f ts=some r):ZQ (f+k) ts=some r:=by
 induction k with
 | zero=>exact h
 | succ k ih=>exact (QO (f+k)).1 _ _ ih
theorem zeo {f:Nat} {ts us:List Tk} {x:St} (h:ZQ f ts=some (.ok (x,us))) (hE:zj ts):us.length<ts.length:=by
 obtain ⟨f',r',h1,h2⟩:=(qh ts.length ts (Nat.le_refl _) hE).1;have a:=zbu (k:=f') h;have b:=h1 f;rw [Nat.add_comm] at a;have e:=Option.some.inj (a.symm.trans b)
 have:=(h2 x us e.symm).1
 have:=hE.pos
 omega
theorem zgK (r g o cap F:Nat) (ts:List Tk) (w:World) (res:PR (List St)) (h:zh r g o cap ts w) (hE:zj ts) (hp:zU (F+1) ts=some res)
  (hone:∀w1 o1 cap1 ts1 r1,ZQ F ts1=some r1→zj ts1→zh r g o1 cap1 ts1 w1→zc r w w1→Calls Tryz.prog 136 #[.pointer (some ⟨r,0,none⟩)] w1 (Z0 r g w1 r1)) :
  Calls Tryz.prog 100 #[.pointer (some ⟨r,0,none⟩)] w (vV r g w res):=by
 obtain ⟨i0,hi0,hz0,hz1,hz2⟩:=info_parts QP;have hN:=h.few;obtain ⟨t0,ts0,rfl⟩:=hE.cons;have hr:=h.lt.1;have hgw:=h.lt.2;rw [zU] at hp
 unfold Zf at hp
 simp only [zI,List.tail_cons] at hp;have cn:=Yt r g o cap t0 ts0 [123] w h (fun hi=>(hE.tail (zl hi)).ne)
 have HONE:Hid (∀w1 o1 cap1 ts1 r1,ZQ F ts1=some r1→zj ts1→zh r g o1 cap1 ts1 w1→zc r w w1→Calls Tryz.prog 136 #[.pointer (some ⟨r,0,none⟩)] w1 (Z0 r g w1 r1)):=hone;clear h hone
 by_cases hi:zn t0 [123]=true
 ·simp only [if_pos hi] at cn
  rw [if_pos hi] at hp;simp only [zq] at hp;have hE1:=hE.tail (zl hi)
  go_enter Tryz.func100,Tryz.ntmps100
  go_wp2_with fail
  refine cn.mono ?_;clear cn;rintro e w1 ⟨hk1,rfl,h1⟩;have HR1:Hid (zh r g (o+5) (cap-1) ts0 w1):=h1;have HK1:Hid (zc r w w1):=hk1;have HP:Hid (ZH F [] ts0=some res):=hp;have HE1:Hid (zj ts0):=hE1;have hn:ts0.length≤1099511627776:=by simp only [List.length_cons] at hN;omega
  clear h1 hk1 hp hE1 hE hN;go_wp2_with fail
  go_loopw [3] (fun v wr=>∃(L:List St) (o2 cap2:Nat) (ts2:List Tk) (f2:Nat),f2≤F∧ZH f2 L ts2=some res∧zj ts2∧L.length+ts2.length≤1099511627776∧Z6 StE 6 108 w.heap.size wr L v∧zh r g o2 cap2 ts2 wr∧zc r w wr) (fun _ wr=>yu r wr)
  case atStart=>exact ⟨[],_,_,ts0,F,Nat.le_refl _,HP.out,HE1.out,by simpa using hn,Z6.nil _ _ _ _ _,HR1.out,HK1.out⟩
  case round =>
   obtain ⟨L,o2,cap2,ts2,f2,hf2,hT,hE2,hN2,hrow,hrd2,hk2⟩:=hrel;clear HP HR1 HK1 HE1 hn;obtain ⟨t2,ts3,rfl⟩:=hE2.cons;have cs:=ZL r g o2 cap2 t2 ts3 [125] wr hrd2 (fun hi=>(hE2.tail (zl hi)).ne)
   have hleft:=hrd2.left;have HROW:Hid (Z6 StE 6 108 w.heap.size wr L _):=hrow;have HK2:Hid (zc r w wr):=hk2;obtain ⟨lb,lc,hval⟩:=hrow.slice;subst hval;cases f2 with
   | zero=>simp [ZH] at hT
   | succ f3 =>
   rw [ZH] at hT;simp only [zI,List.tail_cons] at hT
   by_cases hj:zn t2 [125]=true
   ·rw [hj] at cs
    rw [if_pos hj] at hT;clear hrow hk2 hrd2 hE2;go_wp2_with fail
    refine cs.mono ?_;clear cs;rintro e w3 ⟨rfl,hk3,h3⟩;have HK3:Hid (zc r w w3):=HK2.out.trans hk3;have HROW3:Hid (zD (fun k=>w.heap.size≤k) w3 L (.slice lb L.length lc)):=(HROW.out.kept XC hk3.size fun k hB hlt=>hk3.block k hlt (by omega)).sts
    have HR3:Hid (zh r g (o2+5) (cap2-1) ts3 w3):=show zh _ _ _ _ _ _ by simpa using h3
    simp only [Option.some.injEq] at hT;subst hT;clear hk3 h3;go_wp2
    refine bodyPost_ret (v:=.slice lb L.length lc) (by simp [results,Tryz.results100,go_sem]) rfl ⟨HK3.out,_,_,_,rfl,HROW3.out,HR3.out⟩
   ·have hj':zn t2 [125]=false:=by simpa using hj
    rw [hj'] at cs;rw [if_neg hj] at hT;cases hb3:ZQ f3 (t2::ts3) with
    | none=>rw [hb3] at hT;cases hT
    | some r3 =>
     rw [hb3] at hT;simp only [zq] at hT
     have hb4:ZQ F (t2::ts3)=some r3:=by
      have:=zbu (k:=F-f3) hb3
      rwa [show f3+(F-f3)=F by omega] at this
     have HE2:Hid (zj (t2::ts3)):=hE2;clear hrow hk2 hrd2 hE2 hb3;go_wp2_with fail
     refine cs.mono ?_;clear cs;rintro e w3 ⟨rfl,hk3,h3⟩;have h3':zh r g o2 cap2 (t2::ts3) w3:=by simpa using h3
     have hkk:zc r w w3:=HK2.out.trans hk3;have hrow3:=HROW.out.kept XC hk3.size fun k hB hlt=>hk3.block k hlt (by omega)
     have c3:=HONE.out w3 _ _ (t2::ts3) r3 hb4 HE2.out h3' hkk;have HROW3:Hid (Z6 StE 6 108 w.heap.size w3 L (.slice lb L.length lc)):=hrow3;have HK3:Hid (zc r w w3):=hkk;clear h3 h3' hkk hk3 hrow3;go_wp2_with fail
     refine c3.mono ?_;clear c3;rintro e w4 ⟨hk4,hpost⟩;have HK4:Hid (zc r w w4):=HK3.out.trans hk4;rcases r3 with a | ⟨x3,us3⟩
     ·obtain rfl:=hpost
      simp only [Option.some.injEq] at hT;subst hT;exact ⟨rfl,HK4.out,rfl⟩
     ·obtain ⟨v,o4,cap4,rfl,hx,hrd⟩:=hpost
      obtain ⟨qa,qb,e0,e1,e2,b0,b1,b2,l0,l1,l2,qc,rfl⟩:=hx.agg;have hrow4:=HROW3.out.kept XC hk4.size fun k hB hlt=>hk4.block k hlt (by omega)
      have hsz3:w.heap.size≤w3.heap.size:=HK3.out.size;have hsz4:w.heap.size≤w4.heap.size:=HK4.out.size;obtain ⟨us,hown,hnext⟩:=hrow4.more XC;have HX4:Hid (StE (fun k=>w3.heap.size≤k) w4 x3 [.int .i64 qa,.string qb,.slice e0 e1 e2,.slice b0 b1 b2,.slice l0 l1 l2,.int .i64 qc]):=hx
      have HB3:Hid (∀q,(Value.slice lb L.length lc).ownBlock=some q→q<w3.heap.size):=fun q hq=>(HROW3.out.block q hq).2
      have HBB:Hid (∀q,(Value.slice lb L.length lc).ownBlock=some q→w.heap.size≤q):=fun q hq=>(HROW3.out.block q hq).1
      have HNX:Hid (∀{w':World} {v':Value} {x:St} {c:List Value} {ob:Obj} {N:Nat},StE (fun k=>N≤k) w4 x c→w.heap.size≤N→(∀q,(Value.slice lb L.length lc).ownBlock=some q→q<N)→c.length=6→w'.ownsRow w.heap.size 108 6 v' (L.length+1) (us.flatten++c)→(w4.alloc ob).grownBy w' (Value.slice lb L.length lc).ownBlock→(v'.ownBlock=(Value.slice lb L.length lc).ownBlock∨v'.ownBlock=some (w4.alloc ob).heap.size)→Z6 StE 6 108 w.heap.size w' (L++[x]) v'):=hnext
      have HRD:Hid (zh r g o4 cap4 us3 w4):=hrd;have hE5:=(uW F).1 _ _ _ hb4 HE2.out;have hl5:=zeo hb4 HE2.out;have HOWN:=(hown.alloc (.cells #[.int .i64 qa,.string qb,.slice e0 e1 e2,.slice b0 b1 b2,.slice l0 l1 l2,.int .i64 qc] 108));have HT:Hid (ZH f3 (L++[x3]) us3=some res):=hT;have HE5:Hid (zj us3):=hE5;clear hrow4 hx hrd hT hk4 hown hnext hE5
      go_wp2_with (at_builtin;refine wpList_append_own_at _ rfl _ _ 70 rfl w.heap.size 108 i0 _ 6 104 Tryz.underlying70 hi0 hz0 hz1 hz2 rfl (by decide) _ _ _ rfl HOWN ⟨w4.heap.size,0,none⟩ 1 1 [.int .i64 qa,.string qb,.slice e0 e1 e2,.slice b0 b1 b2,.slice l0 l1 l2,.int .i64 qc] rfl rfl (Zl _ _ _) (by simp [Value.oneCell']) (by unfold maxLen;simp only [List.length_cons] at hN2;omega) (by simp only [List.length_cons] at hN2;omega) (by simp;omega) ?_;intro v' w5 hown' hgrow _ hat)
      have hrow5:=HNX.out (ob:=.cells #[.int .i64 qa,.string qb,.slice e0 e1 e2,.slice b0 b1 b2,.slice l0 l1 l2,.int .i64 qc] 108) HX4.out hsz3 HB3.out rfl hown' hgrow hat
      have hk5:zc r w w5:=(HK4.out.alloc _).grown hgrow HBB.out;have hr4:w.heap.size≤w4.heap.size:=HK4.out.size;have hrd5:zh r g o4 cap4 us3 w5:=HRD.out.keep ((hgrow.block r (by simp;omega) (fun e=>by have:=HBB.out r e.symm;omega)).trans (Below.heap_alloc _ _ _ (by omega))) ((hgrow.block g (by simp;omega) (fun e=>by have:=HBB.out g e.symm;omega)).trans (Below.heap_alloc _ _ _ (by omega)))
      refine ⟨⟨L++[x3],o4,cap4,us3,f3,by omega,HT.out,HE5.out,?_,hrow5,hrd5,hk5⟩,?_⟩
      ·simp only [List.length_append,List.length_cons,List.length_nil] at hN2 hl5 ⊢;omega
      ·rw [hrd5.left,hleft];exact hl5
 ·simp only [if_neg hi] at cn
  rw [if_neg hi] at hp;simp only [zq,Option.some.injEq] at hp;subst hp
  go_enter Tryz.func100,Tryz.ntmps100
  go_wp2_with fail
  refine cn.mono ?_;clear cn;rintro e w1 ⟨hk1,rfl⟩;exact ⟨rfl,hk1,rfl⟩
end Go.Proofs.YtpejpbbdgblbeaaGreatDoor
