import Derived.Test.YtpejpbbdgblbeaaGreatDoorMC22
import Derived.Test.YtpejpbbdgblbeaaGreatDoorMC15
namespace Go.Proofs.YtpejpbbdgblbeaaGreatDoor
open Go.RowKit Go.Shelf
set_option maxHeartbeats 16000000
set_option maxRecDepth 100000
def yr {α:Type} (p:Nat→Option (PR α)) (n:Nat):Prop:=∃f r,(∀k,p (f+k)=some r)∧∀x us,r=.ok (x,us)→us.length≤n∧zg us
theorem yW.toE {α:Type} {p:Nat→Option (PR α)} {n:Nat} (h:yW p n) (hE:∀f x us,p f=some (.ok (x,us))→zg us):yr p n:=by
 obtain ⟨f,r,o,s⟩:=h;exact ⟨f,r,o,fun x us e=>⟨s x us e,hE (f+0) x us (by rw [o 0,e])⟩⟩
theorem yr.then {α β:Type} {p:Nat→Option (PR α)} {q:Nat→α→List Tk→Option (PR β)} {n m:Nat} (h:yr p n) (hq:∀x us,us.length≤n→zg us→yr (fun f=>q f x us) m):yr (fun f=>zm (p f) (q f)) m:=by
 obtain ⟨f,r,o,z⟩:=h;cases r with
 | error a=>exact ⟨f,.error a,fun k=>by simp [zm,o k],fun x us h=>by cases h⟩
 | ok y =>
  obtain ⟨g,s,G,H⟩:=hq y.1 y.2 (z _ _ rfl).1 (z _ _ rfl).2;refine ⟨f+g,s,fun k=>?_,H⟩
  have A:=o (g+k);have D:=G (f+k);rw [show f+(g+k)=f+g+k by omega] at A
  rw [show g+(f+k)=f+g+k by omega] at D
  simp only [zm,A];exact D
theorem ZI {α:Type} (x:α) (us:List Tk) {n:Nat} (h:us.length≤n) (hE:zg us):yr (fun _=>(some (.ok (x,us)):Option (PR α))) n:=⟨0,.ok (x,us),fun _=>rfl,fun y vs h'=>by cases h';exact ⟨h,hE⟩⟩
theorem XE {α:Type} (a:Nat) (n:Nat):yr (fun _=>(some (.error a):Option (PR α))) n:=⟨0,.error a,fun _=>rfl,fun _ _ h=>by cases h⟩
theorem yd (s:List UInt8) (ts:List Tk) {n:Nat} (h:ts.length≤n+1) (hE:zg ts):yr (fun _=>zW s ts) n:=(Yw s ts h).toE fun _ _ _ h=>zU h hE
theorem vG (ts:List Tk) {n:Nat} (h:ts.length≤n+1) (hE:zg ts):yr (fun _=>yo ts) n:=(Vx ts h).toE fun _ _ _ h=>ZM h hE
theorem yr.step {α:Type} {p q:Nat→Option (PR α)} {n:Nat} (h:yr q n) (hp:∀f,p (f+1)=q f):yr p n:=by
 obtain ⟨f,r,s,o⟩:=h;exact ⟨f+1,r,fun k=>by rw [show f+1+k=f+k+1 by omega,hp];exact s k,o⟩
theorem yr.le {α:Type} {p:Nat→Option (PR α)} {n m:Nat} (h:yr p n) (hm:n≤m):yr p m:=by
 obtain ⟨f,r,s,o⟩:=h;exact ⟨f,r,s,fun x us h=>⟨Nat.le_trans (o x us h).1 hm,(o x us h).2⟩⟩
theorem Yz (ts:List Tk) {n:Nat} (h:ts.length≤n) (hE:zg ts):yr (fun f=>zh f 1 ts) (n-1):=((Xz n ts h).1 1).toE fun f _ _ h=>(Ze f).1 _ _ _ _ h hE
theorem zg.pos {ts:List Tk} (h:zg ts):0<ts.length:=by
 obtain ⟨t,o,rfl⟩:=h.cons
 simp
theorem uK (n:Nat):∀ts:List Tk,ts.length≤n→zg ts→yr (fun f=>Zw f ts) (n-1)∧yr (fun f=>zO f ts) (n-1)∧∀pre,yr (fun f=>Zn f pre ts) (n-1):=by
 induction n with
 | zero=>intro ts A o;have:=o.pos;omega
 | succ n ih =>
  intro ts A o;have G:yr (fun f=>zO f ts) n:=((yd [123] ts (n:=n) A o).then (q:=fun f _ us=>Zn f [] us) (m:=n) fun _ us hu hEu=>((ih us hu hEu).2.2 []).le (by omega)).step fun f=>by rw [zO]
  have D:yr (fun f=>Zw f ts) n:=by
   by_cases c1:zo (zw ts) [108,101,116]=true
   ·have y:=Zc c1
    have h:=zy o c1;refine ((vG ts.tail (n:=n) (by omega) h).then (q:=fun f s us=>zm (zW [61] us) fun _ us=>zm (zh f 1 us) fun e us=>zm (zW [59] us) fun _ us=>some (.ok (St.mk 1 s [e] [] [] (zw ts).line,us))) (m:=n) fun s us hu hEu=>?_).step fun f=>by rw [Zw,if_pos c1]
    refine (yd [61] us (n:=n) (by omega) hEu).then (q:=fun f _ us=>zm (zh f 1 us) fun e us=>zm (zW [59] us) fun _ us=>some (.ok (St.mk 1 s [e] [] [] (zw ts).line,us))) fun _ us hu hEu=>?_
    refine (Yz us hu hEu).then (q:=fun f e us=>zm (zW [59] us) fun _ us=>some (.ok (St.mk 1 s [e] [] [] (zw ts).line,us))) fun e us hu hEu=>?_
    exact (yd [59] us (n:=n) (by omega) hEu).then (q:=fun f _ us=>some (.ok (St.mk 1 s [e] [] [] (zw ts).line,us))) fun _ us hu hEu=>ZI _ _ hu hEu
   by_cases c2:zo (zw ts) [105,102]=true
   ·have y:=Zc c2
    have h:=zy o c2;refine ((Yz ts.tail (n:=n) (by omega) h).then (q:=fun f e us=>zm (zO f us) fun b us=>if zo (zw us) [101,108,115,101]=true then zm (zO f us.tail) fun c us=>some (.ok (St.mk 4 [] [e] b c (zw ts).line,us)) else some (.ok (St.mk 3 [] [e] b [] (zw ts).line,us))) (m:=n) fun e us hu hEu=>?_).step fun f=>by rw [Zw,if_neg c1,if_pos c2]
    refine (ih us (by omega) hEu).2.1.then (q:=fun f b us=>if zo (zw us) [101,108,115,101]=true then zm (zO f us.tail) fun c us=>some (.ok (St.mk 4 [] [e] b c (zw ts).line,us)) else some (.ok (St.mk 3 [] [e] b [] (zw ts).line,us))) fun b us hu hEu=>?_
    by_cases d:zo (zw us) [101,108,115,101]=true
    ·have z:=Zc d
     simp only [if_pos d];exact (ih us.tail (by omega) (zy hEu d)).2.1.then (q:=fun f c us=>some (.ok (St.mk 4 [] [e] b c (zw ts).line,us))) fun c us hu hEu=>ZI _ _ (by omega) hEu
    ·simp only [if_neg d]
     exact ZI _ _ (by omega) hEu
   by_cases c3:zo (zw ts) [119,104,105,108,101]=true
   ·have y:=Zc c3
    have h:=zy o c3;refine ((Yz ts.tail (n:=n) (by omega) h).then (q:=fun f e us=>zm (zO f us) fun b us=>some (.ok (St.mk 5 [] [e] b [] (zw ts).line,us))) (m:=n) fun e us hu hEu=>?_).step fun f=>by rw [Zw,if_neg c1,if_neg c2,if_pos c3]
    exact (ih us (by omega) hEu).2.1.then (q:=fun f b us=>some (.ok (St.mk 5 [] [e] b [] (zw ts).line,us))) fun b us hu hEu=>ZI _ _ (by omega) hEu
   by_cases c4:zo (zw ts) [114,101,116,117,114,110]=true
   ·have y:=Zc c4
    have h:=zy o c4
    by_cases d:zo (zw ts.tail) [59]=true
    ·have z:=Zc d
     exact (ZI (St.mk 6 [] [] [] [] (zw ts).line) ts.tail.tail (n:=n) (by omega) (zy h d)).step fun f=>by rw [Zw,if_neg c1,if_neg c2,if_neg c3,if_pos c4,if_pos d]
    ·refine ((Yz ts.tail (n:=n) (by omega) h).then (q:=fun f e us=>zm (zW [59] us) fun _ us=>some (.ok (St.mk 6 [] [e] [] [] (zw ts).line,us))) (m:=n) fun e us hu hEu=>?_).step fun f=>by rw [Zw,if_neg c1,if_neg c2,if_neg c3,if_pos c4,if_neg d]
     exact (yd [59] us (n:=n) (by omega) hEu).then (q:=fun f _ us=>some (.ok (St.mk 6 [] [e] [] [] (zw ts).line,us))) fun _ us hu hEu=>ZI _ _ hu hEu
   ·refine ((Yz ts (n:=n+1) A o).then (q:=fun f e us=>if zo (zw us) [61]=true then (if Yy e=true then zm (zh f 1 us.tail) fun e2 us=>zm (zW [59] us) fun _ us=>some (.ok (St.mk 2 [] [e,e2] [] [] (zw ts).line,us)) else some (.error (zw us).at0)) else zm (zW [59] us) fun _ us=>some (.ok (St.mk 7 [] [e] [] [] (zw ts).line,us))) (m:=n) fun e us hu hEu=>?_).step fun f=>by rw [Zw,if_neg c1,if_neg c2,if_neg c3,if_neg c4]
    by_cases d:zo (zw us) [61]=true
    ·have z:=Zc d
     simp only [if_pos d]
     by_cases d2:Yy e=true
     ·simp only [if_pos d2]
      refine (Yz us.tail (n:=n) (by omega) (zy hEu d)).then (q:=fun f e2 us=>zm (zW [59] us) fun _ us=>some (.ok (St.mk 2 [] [e,e2] [] [] (zw ts).line,us))) fun e2 us hu hEu=>?_
      exact (yd [59] us (n:=n) (by omega) hEu).then (q:=fun f _ us=>some (.ok (St.mk 2 [] [e,e2] [] [] (zw ts).line,us))) fun _ us hu hEu=>ZI _ _ hu hEu
     ·simp only [if_neg d2]
      exact XE _ _
    ·simp only [if_neg d]
     exact (yd [59] us (n:=n) (by omega) hEu).then (q:=fun f _ us=>some (.ok (St.mk 7 [] [e] [] [] (zw ts).line,us))) fun _ us hu hEu=>ZI _ _ hu hEu
  refine ⟨D,G,fun pre=>?_⟩
  by_cases c:zo (zw ts) [125]=true
  ·have y:=Zc c
   exact (ZI pre ts.tail (n:=n) (by omega) (zy o c)).step fun f=>by rw [Zn,if_pos c]
  ·exact (D.then (q:=fun f s us=>Zn f (pre++[s]) us) (m:=n) fun s us hu hEu=>((ih us hu hEu).2.2 _).le (by omega)).step fun f=>by rw [Zn,if_neg c]
theorem zV.kind_eq {S:Nat→Prop} {w:World} {x:Ex} {a:Int} {b c d e:Value} (h:zV S w x (.agg #[.int .i64 a,b,c,d,e])):a=(x.kind:Int):=by
 cases h <;> rfl
theorem QN (a:Nat) (xb:ByteArray) (xc:Int) (x0:Option Addr) (x1 x2:Nat) (xl:Int) (w:World) :
  Calls Tryz.prog 189 #[.agg #[.int .i64 (a:Int),.string xb,.int .i64 xc,.slice x0 x1 x2,.int .i64 xl]] w fun e w'=>e=.returned (.bool (a==4||a==8||a==9))∧w'=w.alloc (.cells #[.int .i64 (a:Int),.string xb,.int .i64 xc,.slice x0 x1 x2,.int .i64 xl] 45):=by
 by_cases h4:a=4
 ·subst h4
  go_enter Tryz.func189,Tryz.ntmps189
  go_wp2
  go_ret
  exact ⟨rfl,rfl⟩
 ·have o:(a==4)=false:=by simpa using h4
  have z:((a:Int)==4)=false:=by rw [beq_eq_false_iff_ne];omega
  by_cases h8:a=8
  ·subst h8
   go_enter Tryz.func189,Tryz.ntmps189
   go_wp2
   go_ret
   exact ⟨rfl,rfl⟩
  ·have h:(a==8)=false:=by simpa using h8
   have A:((a:Int)==8)=false:=by rw [beq_eq_false_iff_ne];omega
   by_cases h9:a=9
   ·subst h9
    go_enter Tryz.func189,Tryz.ntmps189
    go_wp2
    go_ret
    exact ⟨rfl,rfl⟩
   ·have s:(a==9)=false:=by simpa using h9
    have y:((a:Int)==9)=false:=by rw [beq_eq_false_iff_ne];omega
    rw [o,h,s];clear h4 h8 h9 o h s
    go_enter Tryz.func189,Tryz.ntmps189
    go_wp2
    go_ret
    exact ⟨rfl,rfl⟩
theorem zI.keptR {S:Nat→Prop} {r:Nat} {w w':World} {l:List Ex} {v:Value} (h:zI S w l v) (hk:zd r w w') (hS:∀k,S k→k≠r):zI S w' l v:=h.kept hk.size fun k hs hlt=>hk.block k hlt (hS k hs)
theorem zI.setP {S:Nat→Prop} {P j:Nat} {w:World} {l:List Ex} {v:Value} (h:zI S w l v) (u:Value) (hS:∀k,S k→k≠P):zI S (w.setCell ⟨P,j,none⟩ u) l v:=h.kept (by simp) fun k hs _=>Below.heap_setCell _ _ _ _ (by simpa using hS k hs)
theorem z6.keptR {S:Nat→Prop} {r:Nat} {w w':World} {l:List St} {v:Value} (h:z6 S w l v) (hk:zd r w w') (hS:∀k,S k→k≠r):z6 S w' l v:=h.kept hk.size fun k hs hlt=>hk.block k hlt (hS k hs)
theorem z6.setP {S:Nat→Prop} {P j:Nat} {w:World} {l:List St} {v:Value} (h:z6 S w l v) (u:Value) (hS:∀k,S k→k≠P):z6 S (w.setCell ⟨P,j,none⟩ u) l v:=h.kept (by simp) fun k hs _=>Below.heap_setCell _ _ _ _ (by simpa using hS k hs)
theorem zf.setP {r g o cap P j:Nat} {ts:List Tk} {w:World} (h:zf r g o cap ts w) (u:Value) (hr:r≠P) (hg:g≠P):zf r g o cap ts (w.setCell ⟨P,j,none⟩ u):=h.keep (Below.heap_setCell _ _ _ _ (by simpa using hr)) (Below.heap_setCell _ _ _ _ (by simpa using hg))
def St.at:Nat→St→St
 | l,.mk k s es b e _=>.mk k s es b e l
def atL (l:Nat) (R:PR St):PR St:=match R with
 | .error a=>.error a
 | .ok (s,us)=>.ok (s.at l,us)
def vW (f:Nat) (ts:List Tk) (line:Nat):Option (PR St):=zm (zh f 1 ts) fun e us=>zm (zO f us) fun b us=>if zo (zw us) [101,108,115,101]=true then zm (zO f us.tail) fun c us=>some (.ok (.mk 4 [] [e] b c line,us)) else some (.ok (.mk 3 [] [e] b [] line,us))
theorem zaP (f:Nat) (ts:List Tk) (line:Nat) {R:PR St} (h:vW f ts line=some R):∃R0,vW f ts 0=some R0∧atL line R0=R:=by
 unfold vW at h ⊢
 cases h1:zh f 1 ts with
 | none=>rw [h1] at h;cases h
 | some r1 =>
  rw [h1] at h;rcases r1 with a | ⟨e,y⟩
  ·simp only [zm,Option.some.injEq] at h ⊢
   exact ⟨_,rfl,h⟩
  ·simp only [zm] at h ⊢
   cases h2:zO f y with
   | none=>rw [h2] at h;cases h
   | some r2 =>
    rw [h2] at h;rcases r2 with a | ⟨b,o⟩
    ·simp only [Option.some.injEq] at h ⊢
     exact ⟨_,rfl,h⟩
    ·simp only at h ⊢
     by_cases hc:zo (zw o) [101,108,115,101]=true
     ·rw [if_pos hc] at h ⊢
      cases h3:zO f o.tail with
      | none=>rw [h3] at h;cases h
      | some r3 =>
       rw [h3] at h;rcases r3 with a | ⟨c,s⟩
       ·simp only [Option.some.injEq] at h ⊢
        exact ⟨_,rfl,h⟩
       ·simp only [Option.some.injEq] at h ⊢
        exact ⟨_,rfl,h⟩
     ·rw [if_neg hc] at h ⊢
      simp only [Option.some.injEq] at h ⊢;exact ⟨_,rfl,h⟩
def setP (f:Nat) (ts:List Tk) (line:Nat):Option (PR St):=zm (zh f 1 ts) fun e us=>if zo (zw us) [61]=true then (if Yy e=true then zm (zh f 1 us.tail) fun e2 us=>zm (zW [59] us) fun _ us=>some (.ok (.mk 2 [] [e,e2] [] [] line,us)) else some (.error (zw us).at0)) else zm (zW [59] us) fun _ us=>some (.ok (.mk 7 [] [e] [] [] line,us))
theorem zeE (f:Nat) (ts:List Tk) (line:Nat) {R:PR St} (h:setP f ts line=some R):∃R0,setP f ts 0=some R0∧atL line R0=R:=by
 unfold setP zW at h ⊢
 cases h1:zh f 1 ts with
 | none=>rw [h1] at h;cases h
 | some r1 =>
  rw [h1] at h;rcases r1 with a | ⟨e,s⟩
  ·simp only [zm,Option.some.injEq] at h ⊢
   exact ⟨_,rfl,h⟩
  ·simp only [zm] at h ⊢
   by_cases hc:zo (zw s) [61]=true
   ·rw [if_pos hc] at h ⊢
    by_cases hd:Yy e=true
    ·rw [if_pos hd] at h ⊢
     cases h2:zh f 1 s.tail with
     | none=>rw [h2] at h;cases h
     | some r2 =>
      rw [h2] at h;rcases r2 with a | ⟨y,o⟩
      ·simp only [Option.some.injEq] at h ⊢
       exact ⟨_,rfl,h⟩
      ·simp only at h ⊢
       by_cases he:zo (zw o) [59]=true
       ·simp only [if_pos he,Option.some.injEq] at h ⊢;exact ⟨_,rfl,h⟩
       ·simp only [if_neg he,Option.some.injEq] at h ⊢;exact ⟨_,rfl,h⟩
    ·rw [if_neg hd] at h ⊢
     simp only [Option.some.injEq] at h ⊢;exact ⟨_,rfl,h⟩
   ·rw [if_neg hc] at h ⊢
    by_cases he:zo (zw s) [59]=true
    ·simp only [if_pos he,Option.some.injEq] at h ⊢;exact ⟨_,rfl,h⟩
    ·simp only [if_neg he,Option.some.injEq] at h ⊢;exact ⟨_,rfl,h⟩
abbrev Xg (k:Int) (s:ByteArray) (e b l:Value) (line:Int):Obj:=.cells #[.int .i64 k,.string s,e,b,l,.int .i64 line] 108
abbrev exO (a:Int) (b:ByteArray) (c:Int) (d:Value) (e:Int):Obj:=.cells #[.int .i64 a,.string b,.int .i64 c,d,.int .i64 e] 45
theorem zdw (r g o cap F:Nat) (ts:List Tk) (w:World) (R:PR St) (h:zf r g o cap ts w) (hE:zg ts) (hp:vW F ts 0=some R)
  (hex:∀s o1 A ts1 r1,zh F 1 ts1=some r1→zg ts1→zf r g o1 A ts1 s→zd r w s→Calls Tryz.prog 44 #[.pointer (some ⟨r,0,none⟩)] s (zH r g s r1))
  (hbl:∀s o1 A ts1 r1,zO F ts1=some r1→zg ts1→zf r g o1 A ts1 s→zd r w s→Calls Tryz.prog 100 #[.pointer (some ⟨r,0,none⟩)] s (XD r g s r1)) :
  Calls Tryz.prog 167 #[.pointer (some ⟨r,0,none⟩)] w (ZG r g w R):=by
 obtain ⟨t0,aF,rfl⟩:=hE.cons;have hr:=h.lt.1;have aU:=h.lt.2
 unfold vW at hp
 obtain ⟨w0,U⟩:∃w0,w0=w.alloc xf:=⟨_,rfl⟩;have h0:zf r g o cap (t0::aF) w0:=by rw [U];exact h.alloc _
 have k0:zd r w w0:=by rw [U];exact (zd.refl r w).alloc _
 have b0:w0.heap[w.heap.size]?=some xf:=by rw [U];exact World.alloc_heap_new _ _
 have aX:w0.heap.size=w.heap.size+1:=by rw [U];simp
 have aP:Hid (w0=w.alloc xf):=U;have aS:Hid (∀s o1 A ts1 r1,zO F ts1=some r1→zg ts1→zf r g o1 A ts1 s→zd r w s→Calls Tryz.prog 100 #[.pointer (some ⟨r,0,none⟩)] s (XD r g s r1)):=hbl;cases hb1:zh F 1 (t0::aF) with
 | none=>rw [hb1] at hp;cases hp
 | some r1 =>
  have ce:=hex w0 o cap (t0::aF) r1 hb1 hE h0 k0;rw [hb1] at hp;clear hex hbl h h0 U
  go_enter Tryz.func167,Tryz.ntmps167
  go_wp2_with fail
  rw [←aP.out];refine ce.mono ?_;clear ce aP;rintro e s ⟨W,y⟩;rcases r1 with a | ⟨x,us⟩
  ·obtain rfl:=y
   simp only [zm,Option.some.injEq] at hp;subst hp;exact ⟨rfl,k0.trans W,rfl⟩
  ·obtain ⟨v,o1,A,rfl,hx,aL⟩:=y
   obtain ⟨xa,xb,xc,x0,x1,x2,xl,rfl⟩:=hx.agg;have aH:=(Ze F).1 _ _ _ _ hb1 hE;simp only [zm] at hp;cases hb2:zO F us with
   | none=>rw [hb2] at hp;cases hp
   | some r2 =>
    rw [hb2] at hp;have aR:=W.size;obtain ⟨P,hP⟩:∃P,P=s.heap.size+1:=⟨_,rfl⟩;obtain ⟨w2,L⟩:∃w2,w2=(s.alloc (exO xa xb xc (.slice x0 x1 x2) xl)).alloc (Xg 3 ⟨#[]⟩ (.slice (some ⟨s.heap.size,0,none⟩) 1 1) (.slice none 0 0) (.slice none 0 0) 0):=⟨_,rfl⟩;have aT:w2.heap.size=P+1:=by rw [L,hP];simp
    have aW:w2.heap[P]?=some (Xg 3 ⟨#[]⟩ (.slice (some ⟨s.heap.size,0,none⟩) 1 1) (.slice none 0 0) (.slice none 0 0) 0):=by
     rw [L,hP]
     have:=World.alloc_heap_new (s.alloc (exO xa xb xc (.slice x0 x1 x2) xl)) (Xg 3 ⟨#[]⟩ (.slice (some ⟨s.heap.size,0,none⟩) 1 1) (.slice none 0 0) (.slice none 0 0) 0)
     simpa using this
    have aD:zd r w w2:=by rw [L];exact ((k0.trans W).alloc _).alloc _
    have b2:w2.heap[w.heap.size]?=some xf:=by
     rw [L,Below.heap_alloc _ _ _ (by simp;omega),Below.heap_alloc _ _ _ (by omega)]
     exact (W.block _ (by omega) (by omega)).trans b0
    obtain ⟨t1,aV,rfl⟩:=aH.cons;have aw:zf r g o1 A (t1::aV) w2:=by rw [L];exact (aL.alloc _).alloc _
    have aa:=zI.one (S:=fun k=>w0.heap.size≤k) 45 (c:=[.int .i64 xa,.string xb,.int .i64 xc,.slice x0 x1 x2,.int .i64 xl]) hx rfl (by omega)
    have Z:zI (fun k=>w0.heap.size≤k∧k<P) w2 [x] (.slice (some ⟨s.heap.size,0,none⟩) 1 1):=by
     have h9:=aa.lower;have e9:(s.alloc (.cells [Value.int .i64 xa,.string xb,.int .i64 xc,.slice x0 x1 x2,.int .i64 xl].toArray 45)).heap.size=P:=by rw [hP];simp
     rw [e9] at h9;rw [L];exact h9.kept (by simp) fun k hk _=>Below.heap_alloc _ _ _ (by rw [e9];exact hk.2)
    have cb:=aS.out w2 o1 A (t1::aV) r2 hb2 aH aw aD;have aO:Hid (w2=(s.alloc (exO xa xb xc (.slice x0 x1 x2) xl)).alloc (Xg 3 ⟨#[]⟩ (.slice (some ⟨s.heap.size,0,none⟩) 1 1) (.slice none 0 0) (.slice none 0 0) 0)):=L;have av:Hid (zI (fun k=>w0.heap.size≤k∧k<P) w2 [x] (.slice (some ⟨s.heap.size,0,none⟩) 1 1)):=Z
    have HB:Hid (w2.heap[w.heap.size]?=some xf∧w2.heap[P]?=some (Xg 3 ⟨#[]⟩ (.slice (some ⟨s.heap.size,0,none⟩) 1 1) (.slice none 0 0) (.slice none 0 0) 0)):=⟨b2,aW⟩;have aK:Hid (zd r w w2):=aD;have HS:Hid (w0.heap.size=w.heap.size+1∧s.heap.size+1=P∧w2.heap.size=P+1∧w0.heap.size≤s.heap.size):=⟨aX,hP.symm,aT,aR⟩;have a1:Hid (s.heap.size+1=P):=hP.symm;clear L aa Z aW b2 b0 k0 W hx aL aw aD aT aR aX hP;go_wp2_with fail
    rw [←aO.out];refine cb.mono ?_;clear cb aO;rintro e w3 ⟨Q,y⟩;rcases r2 with a | ⟨bl,a9⟩
    ·obtain rfl:=y
     simp only [Option.some.injEq] at hp;subst hp;exact ⟨rfl,aK.out.trans Q,rfl⟩
    ·obtain ⟨vb,o3,O,rfl,aG,am⟩:=y
     simp only at hp;obtain ⟨D,c1,c2,rfl⟩:=aG.slice;have aj:=(XR F).2.1 _ _ _ hb2 aH;obtain ⟨t2,N,rfl⟩:=aj.cons;have hS:=HS.out;have a4:=Q.size;have b3:=(Q.block w.heap.size (by omega) (by omega)).trans HB.out.1
     have p3:=(Q.block P (by omega) (by omega)).trans HB.out.2
     obtain ⟨g0,g1,g2,g3,g4,g5,gf⟩:=zJ p3;have aQ:=gf 3;obtain ⟨w4,I⟩:∃w4,w4=w3.setCell ⟨P,3,none⟩ (.slice D c1 c2):=⟨_,rfl⟩;have p4:w4.heap[P]?=some (Xg 3 ⟨#[]⟩ (.slice (some ⟨s.heap.size,0,none⟩) 1 1) (.slice D c1 c2) (.slice none 0 0) 0):=by rw [I];exact zn _ p3
     have b4:w4.heap[w.heap.size]?=some xf:=by rw [I,Below.heap_setCell _ _ _ _ (by simp;omega)];exact b3
     have Y:w4.heap.size=w3.heap.size:=by rw [I];simp
     have al:zf r g o3 O (t2::N) w4:=by rw [I];exact am.setP _ (by omega) (by omega)
     have k4:zd r w w4:=by rw [I];exact (aK.out.trans Q).setOther (by simp;omega) _
     have ah:zI (fun k=>w0.heap.size≤k∧k<P) w4 [x] (.slice (some ⟨s.heap.size,0,none⟩) 1 1):=by rw [I];exact (av.out.keptR Q fun k hk=>by omega).setP _ fun k hk=>by omega
     have au:z6 (fun k=>w2.heap.size≤k) w4 bl (.slice D c1 c2):=by rw [I];exact aG.setP _ fun k hk=>by omega
     have cs:=Zt r g o3 O t2 N [101,108,115,101] w4 al (fun hi=>(aj.tail (zi hi)).ne)
     have V:Hid (w4.heap[w.heap.size]?=some xf∧w4.heap[P]?=some (Xg 3 ⟨#[]⟩ (.slice (some ⟨s.heap.size,0,none⟩) 1 1) (.slice D c1 c2) (.slice none 0 0) 0)):=⟨b4,p4⟩;have ai:Hid (zd r w w4):=k4;have J:Hid (zI (fun k=>w0.heap.size≤k∧k<P) w4 [x] (.slice (some ⟨s.heap.size,0,none⟩) 1 1)):=ah
     have T:Hid (z6 (fun k=>w2.heap.size≤k) w4 bl (.slice D c1 c2)):=au
     have ak:Hid (w2.heap.size≤w4.heap.size):=show _≤_ by omega
     have an:=I.symm;have a5:=aj;simp only [zz,List.tail_cons] at hp;rw [a1.out];clear I p4 b4 Y al k4 ah au aG am b3 p3 gf g0 g1 g2 g4 g5 Q a4 hS HB av aK aj
     by_cases hi:zo t2 [101,108,115,101]=true
     ·rw [hi] at cs
      rw [if_pos hi] at hp;have a3:=a5.tail (zi hi);cases hb3:zO F N with
      | none=>rw [hb3] at hp;cases hp
      | some r3 =>
       rw [hb3] at hp;go_wp2_with fail
       refine cs.mono ?_;clear cs an g3 aQ;rintro e w5 ⟨rfl,z,h5⟩;have hS:=HS.out;have Y:=ak.out;have aC:=z.size;have af:zf r g (o3+5) (O-1) N w5:=by simpa using h5
       have b5:=(z.block w.heap.size (by omega) (by omega)).trans V.out.1
       have p5:=(z.block P (by omega) (by omega)).trans V.out.2
       obtain ⟨g0,-,-,-,-,-,gf⟩:=zJ p5;have a0:=gf 0;obtain ⟨w6,G⟩:∃w6,w6=w5.setCell ⟨P,0,none⟩ (.int .i64 4):=⟨_,rfl⟩;have p6:w6.heap[P]?=some (Xg 4 ⟨#[]⟩ (.slice (some ⟨s.heap.size,0,none⟩) 1 1) (.slice D c1 c2) (.slice none 0 0) 0):=by rw [G];exact zn _ p5
       have b6:w6.heap[w.heap.size]?=some xf:=by rw [G,Below.heap_setCell _ _ _ _ (by simp;omega)];exact b5
       have aB:w6.heap.size=w5.heap.size:=by rw [G];simp
       have aq:zf r g (o3+5) (O-1) N w6:=by rw [G];exact af.setP _ (by omega) (by omega)
       have k6:zd r w w6:=by rw [G];exact (ai.out.trans z).setOther (by simp;omega) _
       have ab:zI (fun k=>w0.heap.size≤k∧k<P) w6 [x] (.slice (some ⟨s.heap.size,0,none⟩) 1 1):=by rw [G];exact (J.out.keptR z fun k hk=>by omega).setP _ fun k hk=>by omega
       have ap:z6 (fun k=>w2.heap.size≤k) w6 bl (.slice D c1 c2):=by rw [G];exact (T.out.keptR z fun k hk=>by omega).setP _ fun k hk=>by omega
       have cb:=aS.out w6 _ _ N r3 hb3 a3 aq k6;have aI:Hid (w6.heap[w.heap.size]?=some xf∧w6.heap[P]?=some (Xg 4 ⟨#[]⟩ (.slice (some ⟨s.heap.size,0,none⟩) 1 1) (.slice D c1 c2) (.slice none 0 0) 0)):=⟨b6,p6⟩;have aJ:Hid (zd r w w6):=k6;have ae:Hid (zI (fun k=>w0.heap.size≤k∧k<P) w6 [x] (.slice (some ⟨s.heap.size,0,none⟩) 1 1)):=ab
       have az:Hid (z6 (fun k=>w2.heap.size≤k) w6 bl (.slice D c1 c2)):=ap
       have aZ:Hid (w2.heap.size≤w6.heap.size):=show _≤_ by omega
       have aM:=G.symm;clear G p6 b6 aB aq k6 ab ap b5 p5 gf z aC hS Y h5 af V J T ai ak;go_wp2_with fail
       refine cb.mono ?_;clear cb aM g0 a0;rintro e w7 ⟨K,y⟩;rcases r3 with a | ⟨cl,aN⟩
       ·obtain rfl:=y
        simp only [Option.some.injEq] at hp;subst hp;exact ⟨rfl,aJ.out.trans K,rfl⟩
       ·obtain ⟨vl,o7,aY,rfl,aE,ax⟩:=y
        simp only [Option.some.injEq] at hp;subst hp;obtain ⟨d0,d1,d2,rfl⟩:=aE.slice;have hS:=HS.out;have aB:=aZ.out;have a6:=K.size;have b7:=(K.block w.heap.size (by omega) (by omega)).trans aI.out.1
        have p7:=(K.block P (by omega) (by omega)).trans aI.out.2
        obtain ⟨-,-,-,-,g4,-,gf⟩:=zJ p7;have a8:=gf 4;obtain ⟨w8,H⟩:∃w8,w8=w7.setCell ⟨P,4,none⟩ (.slice d0 d1 d2):=⟨_,rfl⟩;have p8:w8.heap[P]?=some (Xg 4 ⟨#[]⟩ (.slice (some ⟨s.heap.size,0,none⟩) 1 1) (.slice D c1 c2) (.slice d0 d1 d2) 0):=by rw [H];exact zn _ p7
        have b8:w8.heap[w.heap.size]?=some xf:=by rw [H,Below.heap_setCell _ _ _ _ (by simp;omega)];exact b7
        have ar:zf r g o7 aY aN w8:=by rw [H];exact ax.setP _ (by omega) (by omega)
        have k8:zd r w w8:=by rw [H];exact (aJ.out.trans K).setOther (by simp;omega) _
        have ad:zI (fun k=>w0.heap.size≤k) w8 [x] (.slice (some ⟨s.heap.size,0,none⟩) 1 1):=by rw [H];exact ((ae.out.keptR K fun k hk=>by omega).setP _ fun k hk=>by omega).wide fun k hk=>hk.1
        have aA:z6 (fun k=>w0.heap.size≤k) w8 bl (.slice D c1 c2):=by rw [H];exact ((az.out.keptR K fun k hk=>by omega).setP _ fun k hk=>by omega).wide fun k hk=>by omega
        have ao:z6 (fun k=>w0.heap.size≤k) w8 cl (.slice d0 d1 d2):=by rw [H];exact (aE.setP _ fun k hk=>by omega).wide fun k hk=>by omega
        obtain ⟨e0,e1,e2,e3,e4,e5,-⟩:=zJ p8;obtain ⟨q0,q1,q2,q3,q4,q5,qf⟩:=zJ b8;obtain ⟨z0,z1,z2,z3,z4,z5,-⟩:=zJ (Zq b8 (.int .i64 4) (.string ⟨#[]⟩) (.slice (some ⟨s.heap.size,0,none⟩) 1 1) (.slice D c1 c2) (.slice d0 d1 d2) (.int .i64 0))
        have HP:Hid (ZG r g w (.ok (.mk 4 [] [x] bl cl 0,aN)) (.returned (.agg #[.int .i64 4,.string ⟨#[]⟩,.slice (some ⟨s.heap.size,0,none⟩) 1 1,.slice D c1 c2,.slice d0 d1 d2,.int .i64 0])) (Xf w8 w.heap.size (.int .i64 4) (.string ⟨#[]⟩) (.slice (some ⟨s.heap.size,0,none⟩) 1 1) (.slice D c1 c2) (.slice d0 d1 d2) (.int .i64 0))) :=
         ZG.of_set6 (B:=w0.heap.size) 4 [] 0 k8 (Nat.le_refl _) hr aU ad aA ao (by omega) ar
        have a7:=H.symm;clear H p8 b8 ar k8 ad aA ao b7 p7 gf K a6 hS aB aE ax aI ae az aJ aZ;go_wp2
        exact bodyPost_ret (v:=.agg #[.int .i64 4,.string ⟨#[]⟩,.slice (some ⟨s.heap.size,0,none⟩) 1 1,.slice D c1 c2,.slice d0 d1 d2,.int .i64 0]) (by simp [results,Tryz.results167,go_sem,z0,z1,z2,z3,z4,z5]) rfl HP.out
     ·have a2:zo t2 [101,108,115,101]=false:=by simpa using hi
      rw [a2] at cs;rw [if_neg hi] at hp;simp only [Option.some.injEq] at hp;subst hp;go_wp2_with fail
      refine cs.mono ?_;clear cs an g3 aQ;rintro e w5 ⟨rfl,z,h5⟩;have hS:=HS.out;have Y:=ak.out;have aC:=z.size;have af:zf r g o3 O (t2::N) w5:=by simpa using h5
      have b5:=(z.block w.heap.size (by omega) (by omega)).trans V.out.1
      have p5:=(z.block P (by omega) (by omega)).trans V.out.2
      have k5:zd r w w5:=ai.out.trans z;have ag:zI (fun k=>w0.heap.size≤k) w5 [x] (.slice (some ⟨s.heap.size,0,none⟩) 1 1):=(J.out.keptR z fun k hk=>by omega).wide fun k hk=>hk.1
      have ay:z6 (fun k=>w0.heap.size≤k) w5 bl (.slice D c1 c2):=(T.out.keptR z fun k hk=>by omega).wide fun k hk=>by omega
      obtain ⟨e0,e1,e2,e3,e4,e5,-⟩:=zJ p5;obtain ⟨q0,q1,q2,q3,q4,q5,qf⟩:=zJ b5;obtain ⟨z0,z1,z2,z3,z4,z5,-⟩:=zJ (Zq b5 (.int .i64 3) (.string ⟨#[]⟩) (.slice (some ⟨s.heap.size,0,none⟩) 1 1) (.slice D c1 c2) (.slice none 0 0) (.int .i64 0))
      have HP:Hid (ZG r g w (.ok (.mk 3 [] [x] bl [] 0,t2::N)) (.returned (.agg #[.int .i64 3,.string ⟨#[]⟩,.slice (some ⟨s.heap.size,0,none⟩) 1 1,.slice D c1 c2,.slice none 0 0,.int .i64 0])) (Xf w5 w.heap.size (.int .i64 3) (.string ⟨#[]⟩) (.slice (some ⟨s.heap.size,0,none⟩) 1 1) (.slice D c1 c2) (.slice none 0 0) (.int .i64 0))) :=
       ZG.of_set6 (B:=w0.heap.size) 3 [] 0 k5 (Nat.le_refl _) hr aU ag ay (z6.nil _ _) (by omega) af
      clear b5 p5 k5 ag ay z aC hS Y h5 af V J T ai ak;go_wp2
      exact bodyPost_ret (v:=.agg #[.int .i64 3,.string ⟨#[]⟩,.slice (some ⟨s.heap.size,0,none⟩) 1 1,.slice D c1 c2,.slice none 0 0,.int .i64 0]) (by simp [results,Tryz.results167,go_sem,z0,z1,z2,z3,z4,z5]) rfl HP.out
def yC {α:Type} (E:(Nat→Prop)→World→α→List Value→Prop) (sz ty B:Nat) (w:World) (l:List α) (v:Value):Prop :=
 (l=[]∧v=.slice none 0 0)∨∃g cap us,Zf E sz ty B w l v g cap us
theorem yC.nil {α:Type} (E:(Nat→Prop)→World→α→List Value→Prop) (sz ty B:Nat) (w:World):yC E sz ty B w [] (.slice none 0 0):=.inl ⟨rfl,rfl⟩
theorem yC.kept {α:Type} {E:(Nat→Prop)→World→α→List Value→Prop} (L:Z2 E) {sz ty B:Nat} {w w':World} {l:List α} {v:Value} (h:yC E sz ty B w l v) (hs:w.heap.size≤w'.heap.size) (hb:∀k,B≤k→k<w.heap.size→w'.heap[k]?=w.heap[k]?):yC E sz ty B w' l v:=by
 rcases h with h | ⟨g,o,s,h⟩
 ·exact .inl h
 ·exact .inr ⟨g,o,s,h.kept L hs hb⟩
theorem yC.slice {α:Type} {E:(Nat→Prop)→World→α→List Value→Prop} {sz ty B:Nat} {w:World} {l:List α} {v:Value} (h:yC E sz ty B w l v):∃b c,v=.slice b l.length c:=by
 rcases h with ⟨rfl,rfl⟩ | ⟨g,o,s,h⟩
 ·exact ⟨none,0,rfl⟩
 ·exact ⟨_,_,h.val⟩
theorem yC.block {α:Type} {E:(Nat→Prop)→World→α→List Value→Prop} {sz ty B:Nat} {w:World} {l:List α} {v:Value} (h:yC E sz ty B w l v):∀q,v.ownBlock=some q→B≤q∧q<w.heap.size:=by
 intro q o;rcases h with ⟨rfl,rfl⟩ | ⟨g,s,y,h⟩
 ·simp [Value.ownBlock] at o
 ·rw [h.val] at o
  have e:g=q:=by simpa [Value.ownBlock] using o
  subst e;exact ⟨h.block.1,h.block.2.1⟩
theorem yC.more {α:Type} {E:(Nat→Prop)→World→α→List Value→Prop} (L:Z2 E) {sz ty B:Nat} {w:World} {l:List α} {v:Value} (h:yC E sz ty B w l v):∃D:List (List Value),w.ownsRow B ty sz v l.length D.flatten ∧
  ∀{w':World} {v':Value} {x:α} {c:List Value} {ob:Obj} {N:Nat},E (fun k=>N≤k) w x c→B≤N→(∀q,v.ownBlock=some q→q<N)→c.length=sz→w'.ownsRow B ty sz v' (l.length+1) (D.flatten++c)→(w.alloc ob).grownBy w' v.ownBlock→(v'.ownBlock=v.ownBlock∨v'.ownBlock=some (w.alloc ob).heap.size)→yC E sz ty B w' (l++[x]) v':=by
 rcases h with ⟨rfl,rfl⟩ | ⟨g,T,D,h⟩
 ·refine ⟨[],World.ownsRow_nil _ _ _ _,?_⟩
  intro w' v' x c ob N J I _ K A H G;simp only [List.flatten_nil,List.nil_append,List.length_nil,Nat.zero_add] at A
  obtain ⟨g',o,z,O⟩:∃g' o,v'=.slice (some ⟨g',0,none⟩) 1 o∧B≤g':=by
   rcases A.2 with ⟨_,h0⟩ | ⟨g',o,_,Y,R,_⟩
   ·omega
   ·exact ⟨g',o,Y,R⟩
  have W:g'=w.heap.size+1:=by
   rw [z] at G
   simpa [Value.ownBlock] using G
  have U:w.heap.size≤w'.heap.size:=by have:=H.size;simp at this;omega
  have s:∀k,k<w.heap.size→w'.heap[k]?=w.heap[k]?:=fun k hlt=>(H.block k (by simp;omega) (by simp [Value.ownBlock])).trans (Below.heap_alloc _ _ _ hlt)
  refine .inr ⟨g',o,[c],⟨z,by simp,by simpa using A,rfl,by simpa using K,fun j y d hy hd=>?_⟩⟩
  cases j with
  | succ j=>simp at hy
  | zero =>
   simp only [List.nil_append,List.getElem?_cons_zero,Option.some.injEq] at hy hd;subst hy hd;exact L.wide (L.kept (L.low J) U fun k hk _=>s k hk.2) fun k hk=>⟨by omega,by omega⟩
 ·refine ⟨D,h.own,?_⟩
  intro w' v' x c ob N J I Z K A H G;have Q:g<N:=Z g (by rw [h.val];rfl)
  obtain ⟨g',o,V,-⟩:=h.snoc L (x:=x) (c:=c) (ob:=ob) (L.wide J fun k hk=>⟨by omega,by omega⟩) K A H G
  exact .inr ⟨g',o,_,V⟩
theorem yC.sts {ty B:Nat} {w:World} {l:List St} {v:Value} (h:yC StE 6 ty B w l v):z6 (fun k=>B≤k) w l v:=by
 rcases h with ⟨rfl,rfl⟩ | ⟨g,o,s,h⟩
 ·exact z6.nil _ _
 ·exact h.sts
theorem zI.slice {S:Nat→Prop} {w:World} {l:List Ex} {v:Value} (h:zI S w l v):∃d0 d1 d2,v=.slice d0 d1 d2:=by
 rcases h with ⟨_,rfl⟩ | ⟨g,o,s,rfl,_⟩
 ·exact ⟨_,_,_,rfl⟩
 ·exact ⟨_,_,_,rfl⟩
theorem yg.agg {S:Nat→Prop} {w:World} {x:St} {v:Value} (h:yg S w x v):∃(a:Int) (b:ByteArray) (y:Option Addr) (D I:Nat) (H:Option Addr) (z o:Nat) (G:Option Addr) (A J:Nat) (c:Int),v=.agg #[.int .i64 a,.string b,.slice y D I,.slice H z o,.slice G A J,.int .i64 c]:=by
 cases h with
 | mk k s es body els line ve vb vl gb cb gl cl ub ul he hb hbk hl hlk =>
  obtain ⟨y,D,I,rfl⟩:=he.slice;obtain ⟨H,z,o,rfl⟩:=z6.slice (S:=S) (w:=w) (l:=body) (v:=vb) ⟨gb,cb,ub,hb,hbk⟩;obtain ⟨G,A,J,rfl⟩:=z6.slice (S:=S) (w:=w) (l:=els) (v:=vl) ⟨gl,cl,ul,hl,hlk⟩;exact ⟨_,_,_,_,_,_,_,_,_,_,_,_,rfl⟩
theorem zcp:(Tryz.prog.info? 108).map (fun i=>(i.zero,i.size,i.bytes))=some (some (.agg #[.int .i64 0,.string ⟨#[]⟩,.slice none 0 0,.slice none 0 0,.slice none 0 0,.int .i64 0]),6,104):=by kernel_rfl
theorem QO {f k:Nat} {ts:List Tk} {r:PR St} (h:Zw f ts=some r):Zw (f+k) ts=some r:=by
 induction k with
 | zero=>exact h
 | succ k ih=>exact (U1 (f+k)).1 _ _ ih
theorem zcq {f:Nat} {ts us:List Tk} {x:St} (h:Zw f ts=some (.ok (x,us))) (hE:zg ts):us.length<ts.length:=by
 obtain ⟨s,z,o,y⟩:=(uK ts.length ts (Nat.le_refl _) hE).1;have a:=QO (k:=s) h;have b:=o f;rw [Nat.add_comm] at a;have e:=Option.some.inj (a.symm.trans b)
 have:=(y x us e.symm).1
 have:=hE.pos
 omega
theorem zeF (r g o cap F:Nat) (ts:List Tk) (w:World) (res:PR (List St)) (h:zf r g o cap ts w) (hE:zg ts) (hp:zO (F+1) ts=some res)
  (hone:∀J o1 cap1 ts1 r1,Zw F ts1=some r1→zg ts1→zf r g o1 cap1 ts1 J→zd r w J→Calls Tryz.prog 136 #[.pointer (some ⟨r,0,none⟩)] J (ZG r g J r1)) :
  Calls Tryz.prog 100 #[.pointer (some ⟨r,0,none⟩)] w (XD r g w res):=by
 obtain ⟨i0,aI,aO,aF,aH⟩:=info_parts zcp;have hN:=h.few;obtain ⟨t0,K,rfl⟩:=hE.cons;have hr:=h.lt.1;have aU:=h.lt.2;rw [zO] at hp
 unfold zW at hp
 simp only [zz,List.tail_cons] at hp;have cn:=yB r g o cap t0 K [123] w h (fun hi=>(hE.tail (zi hi)).ne)
 have ar:Hid (∀J o1 cap1 ts1 r1,Zw F ts1=some r1→zg ts1→zf r g o1 cap1 ts1 J→zd r w J→Calls Tryz.prog 136 #[.pointer (some ⟨r,0,none⟩)] J (ZG r g J r1)):=hone;clear h hone
 by_cases hi:zo t0 [123]=true
 ·simp only [if_pos hi] at cn
  rw [if_pos hi] at hp;simp only [zm] at hp;have aA:=hE.tail (zi hi)
  go_enter Tryz.func100,Tryz.ntmps100
  go_wp2_with fail
  refine cn.mono ?_;clear cn;rintro e J ⟨aa,rfl,h1⟩;have aw:Hid (zf r g (o+5) (cap-1) K J):=h1;have aC:Hid (zd r w J):=aa;have HP:Hid (Zn F [] K=some res):=hp;have ay:Hid (zg K):=aA;have hn:K.length≤1099511627776:=by simp only [List.length_cons] at hN;omega
  clear h1 aa hp aA hE hN;go_wp2_with fail
  go_loopw [3] (fun v wr=>∃(L:List St) (o2 A:Nat) (W:List Tk) (f2:Nat),f2≤F∧Zn f2 L W=some res∧zg W∧L.length+W.length≤1099511627776∧yC StE 6 108 w.heap.size wr L v∧zf r g o2 A W wr∧zd r w wr) (fun _ wr=>ZQ r wr)
  case atStart=>exact ⟨[],_,_,K,F,Nat.le_refl _,HP.out,ay.out,by simpa using hn,yC.nil _ _ _ _ _,aw.out,aC.out⟩
  case round =>
   obtain ⟨L,o2,A,W,f2,aV,D,T,an,I,H,ai⟩:=hrel;clear HP aw aC ay hn;obtain ⟨t2,G,rfl⟩:=T.cons;have cs:=Zt r g o2 A t2 G [125] wr H (fun hi=>(T.tail (zi hi)).ne)
   have ap:=H.left;have ag:Hid (yC StE 6 108 w.heap.size wr L _):=I;have aD:Hid (zd r w wr):=ai;obtain ⟨lb,lc,aq⟩:=I.slice;subst aq;cases f2 with
   | zero=>simp [Zn] at D
   | succ f3 =>
   rw [Zn] at D;simp only [zz,List.tail_cons] at D
   by_cases hj:zo t2 [125]=true
   ·rw [hj] at cs
    rw [if_pos hj] at D;clear I ai H T;go_wp2_with fail
    refine cs.mono ?_;clear cs;rintro e w3 ⟨rfl,y,h3⟩;have ad:Hid (zd r w w3):=aD.out.trans y;have s:Hid (z6 (fun k=>w.heap.size≤k) w3 L (.slice lb L.length lc)):=(ag.out.kept ui y.size fun k hB hlt=>y.block k hlt (by omega)).sts
    have aJ:Hid (zf r g (o2+5) (A-1) G w3):=show zf _ _ _ _ _ _ by simpa using h3
    simp only [Option.some.injEq] at D;subst D;clear y h3;go_wp2
    refine bodyPost_ret (v:=.slice lb L.length lc) (by simp [results,Tryz.results100,go_sem]) rfl ⟨ad.out,_,_,_,rfl,s.out,aJ.out⟩
   ·have aM:zo t2 [125]=false:=by simpa using hj
    rw [aM] at cs;rw [if_neg hj] at D;cases hb3:Zw f3 (t2::G) with
    | none=>rw [hb3] at D;cases D
    | some r3 =>
     rw [hb3] at D;simp only [zm] at D
     have al:Zw F (t2::G)=some r3:=by
      have:=QO (k:=F-f3) hb3
      rwa [show f3+(F-f3)=F by omega] at this
     have ak:Hid (zg (t2::G)):=T;clear I ai H T hb3;go_wp2_with fail
     refine cs.mono ?_;clear cs;rintro e w3 ⟨rfl,y,h3⟩;have av:zf r g o2 A (t2::G) w3:=by simpa using h3
     have am:zd r w w3:=aD.out.trans y;have O:=ag.out.kept ui y.size fun k hB hlt=>y.block k hlt (by omega)
     have c3:=ar.out w3 _ _ (t2::G) r3 al ak.out av am;have s:Hid (yC StE 6 108 w.heap.size w3 L (.slice lb L.length lc)):=O;have ad:Hid (zd r w w3):=am;clear h3 av am y O;go_wp2_with fail
     refine c3.mono ?_;clear c3;rintro e w4 ⟨ab,R⟩;have Z:Hid (zd r w w4):=ad.out.trans ab;rcases r3 with a | ⟨x3,Y⟩
     ·obtain rfl:=R
      simp only [Option.some.injEq] at D;subst D;exact ⟨rfl,Z.out,rfl⟩
     ·obtain ⟨v,o4,Q,rfl,hx,au⟩:=R
      obtain ⟨qa,qb,e0,e1,e2,b0,b1,b2,l0,l1,l2,qc,rfl⟩:=hx.agg;have V:=s.out.kept ui ab.size fun k hB hlt=>ab.block k hlt (by omega)
      have ax:w.heap.size≤w3.heap.size:=ad.out.size;have aS:w.heap.size≤w4.heap.size:=Z.out.size;obtain ⟨us,af,U⟩:=V.more ui;have aR:Hid (StE (fun k=>w3.heap.size≤k) w4 x3 [.int .i64 qa,.string qb,.slice e0 e1 e2,.slice b0 b1 b2,.slice l0 l1 l2,.int .i64 qc]):=hx
      have aN:Hid (∀q,(Value.slice lb L.length lc).ownBlock=some q→q<w3.heap.size):=fun q hq=>(s.out.block q hq).2
      have ao:Hid (∀q,(Value.slice lb L.length lc).ownBlock=some q→w.heap.size≤q):=fun q hq=>(s.out.block q hq).1
      have aL:Hid (∀{w':World} {v':Value} {x:St} {c:List Value} {ob:Obj} {N:Nat},StE (fun k=>N≤k) w4 x c→w.heap.size≤N→(∀q,(Value.slice lb L.length lc).ownBlock=some q→q<N)→c.length=6→w'.ownsRow w.heap.size 108 6 v' (L.length+1) (us.flatten++c)→(w4.alloc ob).grownBy w' (Value.slice lb L.length lc).ownBlock→(v'.ownBlock=(Value.slice lb L.length lc).ownBlock∨v'.ownBlock=some (w4.alloc ob).heap.size)→yC StE 6 108 w.heap.size w' (L++[x]) v'):=U
      have aK:Hid (zf r g o4 Q Y w4):=au;have aE:=(XR F).1 _ _ _ al ak.out;have aB:=zcq al ak.out;have az:=(af.alloc (.cells #[.int .i64 qa,.string qb,.slice e0 e1 e2,.slice b0 b1 b2,.slice l0 l1 l2,.int .i64 qc] 108));have HT:Hid (Zn f3 (L++[x3]) Y=some res):=D;have aG:Hid (zg Y):=aE;clear V hx au D ab af U aE
      go_wp2_with (at_builtin;refine wpList_append_own_at _ rfl _ _ 70 rfl w.heap.size 108 i0 _ 6 104 Tryz.underlying70 aI aO aF aH rfl (by decide) _ _ _ rfl az ⟨w4.heap.size,0,none⟩ 1 1 [.int .i64 qa,.string qb,.slice e0 e1 e2,.slice b0 b1 b2,.slice l0 l1 l2,.int .i64 qc] rfl rfl (ZR _ _ _) (by simp [Value.oneCell']) (by unfold maxLen;simp only [List.length_cons] at an;omega) (by simp only [List.length_cons] at an;omega) (by simp;omega) ?_;intro v' w5 ah z _ aQ)
      have aj:=aL.out (ob:=.cells #[.int .i64 qa,.string qb,.slice e0 e1 e2,.slice b0 b1 b2,.slice l0 l1 l2,.int .i64 qc] 108) aR.out ax aN.out rfl ah z aQ
      have aP:zd r w w5:=(Z.out.alloc _).grown z ao.out;have aT:w.heap.size≤w4.heap.size:=Z.out.size;have ae:zf r g o4 Q Y w5:=aK.out.keep ((z.block r (by simp;omega) (fun e=>by have:=ao.out r e.symm;omega)).trans (Below.heap_alloc _ _ _ (by omega))) ((z.block g (by simp;omega) (fun e=>by have:=ao.out g e.symm;omega)).trans (Below.heap_alloc _ _ _ (by omega)))
      refine ⟨⟨L++[x3],o4,Q,Y,f3,by omega,HT.out,aG.out,?_,aj,ae,aP⟩,?_⟩
      ·simp only [List.length_append,List.length_cons,List.length_nil] at an aB ⊢;omega
      ·rw [ae.left,ap];exact aB
 ·simp only [if_neg hi] at cn
  rw [if_neg hi] at hp;simp only [zm,Option.some.injEq] at hp;subst hp
  go_enter Tryz.func100,Tryz.ntmps100
  go_wp2_with fail
  refine cn.mono ?_;clear cn;rintro e J ⟨aa,rfl⟩;exact ⟨rfl,aa,rfl⟩
end Go.Proofs.YtpejpbbdgblbeaaGreatDoor
