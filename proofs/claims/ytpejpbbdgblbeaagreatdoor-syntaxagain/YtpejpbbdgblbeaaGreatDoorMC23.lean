import Derived.Test.YtpejpbbdgblbeaaGreatDoorMC22
import Derived.Test.YtpejpbbdgblbeaaGreatDoorMC15
namespace Go.Proofs.YtpejpbbdgblbeaaGreatDoor
open Go.RowKit Go.Shelf
set_option maxHeartbeats 16000000
set_option maxRecDepth 100000
def yy {α:Type} (p:Nat→Option (PR α)) (n:Nat):Prop:=∃f r,(∀k,p (f+k)=some r)∧∀x us,r=.ok (x,us)→us.length≤n∧zi us
theorem Yb.toE {α:Type} {p:Nat→Option (PR α)} {n:Nat} (h:Yb p n) (hE:∀f x us,p f=some (.ok (x,us))→zi us):yy p n:=by
 obtain ⟨f,r,o,y⟩:=h;exact ⟨f,r,o,fun x us e=>⟨y x us e,hE (f+0) x us (by rw [o 0,e])⟩⟩
theorem yy.then {α β:Type} {p:Nat→Option (PR α)} {q:Nat→α→List Tk→Option (PR β)} {n m:Nat} (h:yy p n) (hq:∀x us,us.length≤n→zi us→yy (fun f=>q f x us) m):yy (fun f=>zh (p f) (q f)) m:=by
 obtain ⟨f,r,A,D⟩:=h;cases r with
 | error a=>exact ⟨f,.error a,fun k=>by simp [zh,A k],fun x us h=>by cases h⟩
 | ok y =>
  obtain ⟨g,s,G,H⟩:=hq y.1 y.2 (D _ _ rfl).1 (D _ _ rfl).2;refine ⟨f+g,s,fun k=>?_,H⟩
  have z:=A (g+k);have o:=G (f+k);rw [show f+(g+k)=f+g+k by omega] at z
  rw [show g+(f+k)=f+g+k by omega] at o
  simp only [zh,z];exact o
theorem ZJ {α:Type} (x:α) (us:List Tk) {n:Nat} (h:us.length≤n) (hE:zi us):yy (fun _=>(some (.ok (x,us)):Option (PR α))) n:=⟨0,.ok (x,us),fun _=>rfl,fun y vs h'=>by cases h';exact ⟨h,hE⟩⟩
theorem X6 {α:Type} (a:Nat) (n:Nat):yy (fun _=>(some (.error a):Option (PR α))) n:=⟨0,.error a,fun _=>rfl,fun _ _ h=>by cases h⟩
theorem yr (s:List UInt8) (ts:List Tk) {n:Nat} (h:ts.length≤n+1) (hE:zi ts):yy (fun _=>zR s ts) n:=(YH s ts h).toE fun _ _ _ h=>zY h hE
theorem Vk (ts:List Tk) {n:Nat} (h:ts.length≤n+1) (hE:zi ts):yy (fun _=>Z3 ts) n:=(V9 ts h).toE fun _ _ _ h=>ZM h hE
theorem yy.step {α:Type} {p q:Nat→Option (PR α)} {n:Nat} (h:yy q n) (hp:∀f,p (f+1)=q f):yy p n:=by
 obtain ⟨f,r,y,o⟩:=h;exact ⟨f+1,r,fun k=>by rw [show f+1+k=f+k+1 by omega,hp];exact y k,o⟩
theorem yy.le {α:Type} {p:Nat→Option (PR α)} {n m:Nat} (h:yy p n) (hm:n≤m):yy p m:=by
 obtain ⟨f,r,y,o⟩:=h;exact ⟨f,r,y,fun x us h=>⟨Nat.le_trans (o x us h).1 hm,(o x us h).2⟩⟩
theorem YJ (ts:List Tk) {n:Nat} (h:ts.length≤n) (hE:zi ts):yy (fun f=>zf f 1 ts) (n-1):=((XY n ts h).1 1).toE fun f _ _ h=>(Zi f).1 _ _ _ _ h hE
theorem zi.pos {ts:List Tk} (h:zi ts):0<ts.length:=by
 obtain ⟨t,o,rfl⟩:=h.cons
 simp
theorem UB (n:Nat):∀ts:List Tk,ts.length≤n→zi ts→yy (fun f=>Ze f ts) (n-1)∧yy (fun f=>zH f ts) (n-1)∧∀pre,yy (fun f=>Zd f pre ts) (n-1):=by
 induction n with
 | zero=>intro ts A o;have:=o.pos;omega
 | succ n ih =>
  intro ts A o;have G:yy (fun f=>zH f ts) n:=((yr [123] ts (n:=n) A o).then (q:=fun f _ us=>Zd f [] us) (m:=n) fun _ us hu hEu=>((ih us hu hEu).2.2 []).le (by omega)).step fun f=>by rw [zH]
  have D:yy (fun f=>Ze f ts) n:=by
   by_cases c1:zm (zv ts) [108,101,116]=true
   ·have y:=Zf c1
    have h:=zD o c1;refine ((Vk ts.tail (n:=n) (by omega) h).then (q:=fun f s us=>zh (zR [61] us) fun _ us=>zh (zf f 1 us) fun e us=>zh (zR [59] us) fun _ us=>some (.ok (St.mk 1 s [e] [] [] (zv ts).line,us))) (m:=n) fun s us hu hEu=>?_).step fun f=>by rw [Ze,if_pos c1]
    refine (yr [61] us (n:=n) (by omega) hEu).then (q:=fun f _ us=>zh (zf f 1 us) fun e us=>zh (zR [59] us) fun _ us=>some (.ok (St.mk 1 s [e] [] [] (zv ts).line,us))) fun _ us hu hEu=>?_
    refine (YJ us hu hEu).then (q:=fun f e us=>zh (zR [59] us) fun _ us=>some (.ok (St.mk 1 s [e] [] [] (zv ts).line,us))) fun e us hu hEu=>?_
    exact (yr [59] us (n:=n) (by omega) hEu).then (q:=fun f _ us=>some (.ok (St.mk 1 s [e] [] [] (zv ts).line,us))) fun _ us hu hEu=>ZJ _ _ hu hEu
   by_cases c2:zm (zv ts) [105,102]=true
   ·have y:=Zf c2
    have h:=zD o c2;refine ((YJ ts.tail (n:=n) (by omega) h).then (q:=fun f e us=>zh (zH f us) fun b us=>if zm (zv us) [101,108,115,101]=true then zh (zH f us.tail) fun c us=>some (.ok (St.mk 4 [] [e] b c (zv ts).line,us)) else some (.ok (St.mk 3 [] [e] b [] (zv ts).line,us))) (m:=n) fun e us hu hEu=>?_).step fun f=>by rw [Ze,if_neg c1,if_pos c2]
    refine (ih us (by omega) hEu).2.1.then (q:=fun f b us=>if zm (zv us) [101,108,115,101]=true then zh (zH f us.tail) fun c us=>some (.ok (St.mk 4 [] [e] b c (zv ts).line,us)) else some (.ok (St.mk 3 [] [e] b [] (zv ts).line,us))) fun b us hu hEu=>?_
    by_cases d:zm (zv us) [101,108,115,101]=true
    ·have z:=Zf d
     simp only [if_pos d];exact (ih us.tail (by omega) (zD hEu d)).2.1.then (q:=fun f c us=>some (.ok (St.mk 4 [] [e] b c (zv ts).line,us))) fun c us hu hEu=>ZJ _ _ (by omega) hEu
    ·simp only [if_neg d]
     exact ZJ _ _ (by omega) hEu
   by_cases c3:zm (zv ts) [119,104,105,108,101]=true
   ·have y:=Zf c3
    have h:=zD o c3;refine ((YJ ts.tail (n:=n) (by omega) h).then (q:=fun f e us=>zh (zH f us) fun b us=>some (.ok (St.mk 5 [] [e] b [] (zv ts).line,us))) (m:=n) fun e us hu hEu=>?_).step fun f=>by rw [Ze,if_neg c1,if_neg c2,if_pos c3]
    exact (ih us (by omega) hEu).2.1.then (q:=fun f b us=>some (.ok (St.mk 5 [] [e] b [] (zv ts).line,us))) fun b us hu hEu=>ZJ _ _ (by omega) hEu
   by_cases c4:zm (zv ts) [114,101,116,117,114,110]=true
   ·have y:=Zf c4
    have h:=zD o c4
    by_cases d:zm (zv ts.tail) [59]=true
    ·have z:=Zf d
     exact (ZJ (St.mk 6 [] [] [] [] (zv ts).line) ts.tail.tail (n:=n) (by omega) (zD h d)).step fun f=>by rw [Ze,if_neg c1,if_neg c2,if_neg c3,if_pos c4,if_pos d]
    ·refine ((YJ ts.tail (n:=n) (by omega) h).then (q:=fun f e us=>zh (zR [59] us) fun _ us=>some (.ok (St.mk 6 [] [e] [] [] (zv ts).line,us))) (m:=n) fun e us hu hEu=>?_).step fun f=>by rw [Ze,if_neg c1,if_neg c2,if_neg c3,if_pos c4,if_neg d]
     exact (yr [59] us (n:=n) (by omega) hEu).then (q:=fun f _ us=>some (.ok (St.mk 6 [] [e] [] [] (zv ts).line,us))) fun _ us hu hEu=>ZJ _ _ hu hEu
   ·refine ((YJ ts (n:=n+1) A o).then (q:=fun f e us=>if zm (zv us) [61]=true then (if yX e=true then zh (zf f 1 us.tail) fun e2 us=>zh (zR [59] us) fun _ us=>some (.ok (St.mk 2 [] [e,e2] [] [] (zv ts).line,us)) else some (.error (zv us).at0)) else zh (zR [59] us) fun _ us=>some (.ok (St.mk 7 [] [e] [] [] (zv ts).line,us))) (m:=n) fun e us hu hEu=>?_).step fun f=>by rw [Ze,if_neg c1,if_neg c2,if_neg c3,if_neg c4]
    by_cases d:zm (zv us) [61]=true
    ·have z:=Zf d
     simp only [if_pos d]
     by_cases d2:yX e=true
     ·simp only [if_pos d2]
      refine (YJ us.tail (n:=n) (by omega) (zD hEu d)).then (q:=fun f e2 us=>zh (zR [59] us) fun _ us=>some (.ok (St.mk 2 [] [e,e2] [] [] (zv ts).line,us))) fun e2 us hu hEu=>?_
      exact (yr [59] us (n:=n) (by omega) hEu).then (q:=fun f _ us=>some (.ok (St.mk 2 [] [e,e2] [] [] (zv ts).line,us))) fun _ us hu hEu=>ZJ _ _ hu hEu
     ·simp only [if_neg d2]
      exact X6 _ _
    ·simp only [if_neg d]
     exact (yr [59] us (n:=n) (by omega) hEu).then (q:=fun f _ us=>some (.ok (St.mk 7 [] [e] [] [] (zv ts).line,us))) fun _ us hu hEu=>ZJ _ _ hu hEu
  refine ⟨D,G,fun pre=>?_⟩
  by_cases c:zm (zv ts) [125]=true
  ·have y:=Zf c
   exact (ZJ pre ts.tail (n:=n) (by omega) (zD o c)).step fun f=>by rw [Zd,if_pos c]
  ·exact (D.then (q:=fun f s us=>Zd f (pre++[s]) us) (m:=n) fun s us hu hEu=>((ih us hu hEu).2.2 _).le (by omega)).step fun f=>by rw [Zd,if_neg c]
theorem zZ.kind_eq {S:Nat→Prop} {w:World} {x:Ex} {a:Int} {b c d e:Value} (h:zZ S w x (.agg #[.int .i64 a,b,c,d,e])):a=(x.kind:Int):=by
 cases h <;> rfl
theorem zaU (a:Nat) (xb:ByteArray) (xc:Int) (x0:Option Addr) (x1 x2:Nat) (xl:Int) (w:World) :
  Calls Tryz.prog 189 #[.agg #[.int .i64 (a:Int),.string xb,.int .i64 xc,.slice x0 x1 x2,.int .i64 xl]] w fun e w'=>e=.returned (.bool (a==4||a==8||a==9))∧w'=w.alloc (.cells #[.int .i64 (a:Int),.string xb,.int .i64 xc,.slice x0 x1 x2,.int .i64 xl] 45):=by
 by_cases h4:a=4
 ·subst h4
  go_enter Tryz.func189,Tryz.ntmps189
  go_wp2
  go_ret
  exact ⟨rfl,rfl⟩
 ·have y:(a==4)=false:=by simpa using h4
  have z:((a:Int)==4)=false:=by rw [beq_eq_false_iff_ne];omega
  by_cases h8:a=8
  ·subst h8
   go_enter Tryz.func189,Tryz.ntmps189
   go_wp2
   go_ret
   exact ⟨rfl,rfl⟩
  ·have h:(a==8)=false:=by simpa using h8
   have D:((a:Int)==8)=false:=by rw [beq_eq_false_iff_ne];omega
   by_cases h9:a=9
   ·subst h9
    go_enter Tryz.func189,Tryz.ntmps189
    go_wp2
    go_ret
    exact ⟨rfl,rfl⟩
   ·have o:(a==9)=false:=by simpa using h9
    have A:((a:Int)==9)=false:=by rw [beq_eq_false_iff_ne];omega
    rw [y,h,o];clear h4 h8 h9 y h o
    go_enter Tryz.func189,Tryz.ntmps189
    go_wp2
    go_ret
    exact ⟨rfl,rfl⟩
theorem zK.keptR {S:Nat→Prop} {r:Nat} {w w':World} {l:List Ex} {v:Value} (h:zK S w l v) (hk:zd r w w') (hS:∀k,S k→k≠r):zK S w' l v:=h.kept hk.size fun k hs hlt=>hk.block k hlt (hS k hs)
theorem zK.setP {S:Nat→Prop} {P j:Nat} {w:World} {l:List Ex} {v:Value} (h:zK S w l v) (u:Value) (hS:∀k,S k→k≠P):zK S (w.setCell ⟨P,j,none⟩ u) l v:=h.kept (by simp) fun k hs _=>Below.heap_setCell _ _ _ _ (by simpa using hS k hs)
theorem z8.keptR {S:Nat→Prop} {r:Nat} {w w':World} {l:List St} {v:Value} (h:z8 S w l v) (hk:zd r w w') (hS:∀k,S k→k≠r):z8 S w' l v:=h.kept hk.size fun k hs hlt=>hk.block k hlt (hS k hs)
theorem z8.setP {S:Nat→Prop} {P j:Nat} {w:World} {l:List St} {v:Value} (h:z8 S w l v) (u:Value) (hS:∀k,S k→k≠P):z8 S (w.setCell ⟨P,j,none⟩ u) l v:=h.kept (by simp) fun k hs _=>Below.heap_setCell _ _ _ _ (by simpa using hS k hs)
theorem zg.setP {r g o cap P j:Nat} {ts:List Tk} {w:World} (h:zg r g o cap ts w) (u:Value) (hr:r≠P) (hg:g≠P):zg r g o cap ts (w.setCell ⟨P,j,none⟩ u):=h.keep (Below.heap_setCell _ _ _ _ (by simpa using hr)) (Below.heap_setCell _ _ _ _ (by simpa using hg))
def St.at:Nat→St→St
 | l,.mk k s es b e _=>.mk k s es b e l
def atL (l:Nat) (R:PR St):PR St:=match R with
 | .error a=>.error a
 | .ok (s,us)=>.ok (s.at l,us)
def VE (f:Nat) (ts:List Tk) (line:Nat):Option (PR St):=zh (zf f 1 ts) fun e us=>zh (zH f us) fun b us=>if zm (zv us) [101,108,115,101]=true then zh (zH f us.tail) fun c us=>some (.ok (.mk 4 [] [e] b c line,us)) else some (.ok (.mk 3 [] [e] b [] line,us))
theorem zbY (f:Nat) (ts:List Tk) (line:Nat) {R:PR St} (h:VE f ts line=some R):∃R0,VE f ts 0=some R0∧atL line R0=R:=by
 unfold VE at h ⊢
 cases h1:zf f 1 ts with
 | none=>rw [h1] at h;cases h
 | some r1 =>
  rw [h1] at h;rcases r1 with a | ⟨e,y⟩
  ·simp only [zh,Option.some.injEq] at h ⊢
   exact ⟨_,rfl,h⟩
  ·simp only [zh] at h ⊢
   cases h2:zH f y with
   | none=>rw [h2] at h;cases h
   | some r2 =>
    rw [h2] at h;rcases r2 with a | ⟨b,o⟩
    ·simp only [Option.some.injEq] at h ⊢
     exact ⟨_,rfl,h⟩
    ·simp only at h ⊢
     by_cases hc:zm (zv o) [101,108,115,101]=true
     ·rw [if_pos hc] at h ⊢
      cases h3:zH f o.tail with
      | none=>rw [h3] at h;cases h
      | some r3 =>
       rw [h3] at h;rcases r3 with a | ⟨c,z⟩
       ·simp only [Option.some.injEq] at h ⊢
        exact ⟨_,rfl,h⟩
       ·simp only [Option.some.injEq] at h ⊢
        exact ⟨_,rfl,h⟩
     ·rw [if_neg hc] at h ⊢
      simp only [Option.some.injEq] at h ⊢;exact ⟨_,rfl,h⟩
def setP (f:Nat) (ts:List Tk) (line:Nat):Option (PR St):=zh (zf f 1 ts) fun e us=>if zm (zv us) [61]=true then (if yX e=true then zh (zf f 1 us.tail) fun e2 us=>zh (zR [59] us) fun _ us=>some (.ok (.mk 2 [] [e,e2] [] [] line,us)) else some (.error (zv us).at0)) else zh (zR [59] us) fun _ us=>some (.ok (.mk 7 [] [e] [] [] line,us))
theorem zgv (f:Nat) (ts:List Tk) (line:Nat) {R:PR St} (h:setP f ts line=some R):∃R0,setP f ts 0=some R0∧atL line R0=R:=by
 unfold setP zR at h ⊢
 cases h1:zf f 1 ts with
 | none=>rw [h1] at h;cases h
 | some r1 =>
  rw [h1] at h;rcases r1 with a | ⟨e,o⟩
  ·simp only [zh,Option.some.injEq] at h ⊢
   exact ⟨_,rfl,h⟩
  ·simp only [zh] at h ⊢
   by_cases hc:zm (zv o) [61]=true
   ·rw [if_pos hc] at h ⊢
    by_cases hd:yX e=true
    ·rw [if_pos hd] at h ⊢
     cases h2:zf f 1 o.tail with
     | none=>rw [h2] at h;cases h
     | some r2 =>
      rw [h2] at h;rcases r2 with a | ⟨z,y⟩
      ·simp only [Option.some.injEq] at h ⊢
       exact ⟨_,rfl,h⟩
      ·simp only at h ⊢
       by_cases he:zm (zv y) [59]=true
       ·simp only [if_pos he,Option.some.injEq] at h ⊢;exact ⟨_,rfl,h⟩
       ·simp only [if_neg he,Option.some.injEq] at h ⊢;exact ⟨_,rfl,h⟩
    ·rw [if_neg hd] at h ⊢
     simp only [Option.some.injEq] at h ⊢;exact ⟨_,rfl,h⟩
   ·rw [if_neg hc] at h ⊢
    by_cases he:zm (zv o) [59]=true
    ·simp only [if_pos he,Option.some.injEq] at h ⊢;exact ⟨_,rfl,h⟩
    ·simp only [if_neg he,Option.some.injEq] at h ⊢;exact ⟨_,rfl,h⟩
abbrev XC (k:Int) (s:ByteArray) (e b l:Value) (line:Int):Obj:=.cells #[.int .i64 k,.string s,e,b,l,.int .i64 line] 108
abbrev exO (a:Int) (b:ByteArray) (c:Int) (d:Value) (e:Int):Obj:=.cells #[.int .i64 a,.string b,.int .i64 c,d,.int .i64 e] 45
theorem ze3 (r g o cap F:Nat) (ts:List Tk) (w:World) (R:PR St) (h:zg r g o cap ts w) (hE:zi ts) (hp:VE F ts 0=some R)
  (hex:∀y o1 D ts1 r1,zf F 1 ts1=some r1→zi ts1→zg r g o1 D ts1 y→zd r w y→Calls Tryz.prog 44 #[.pointer (some ⟨r,0,none⟩)] y (zJ r g y r1))
  (hbl:∀y o1 D ts1 r1,zH F ts1=some r1→zi ts1→zg r g o1 D ts1 y→zd r w y→Calls Tryz.prog 100 #[.pointer (some ⟨r,0,none⟩)] y (X5 r g y r1)) :
  Calls Tryz.prog 167 #[.pointer (some ⟨r,0,none⟩)] w (ZH r g w R):=by
 obtain ⟨t0,aE,rfl⟩:=hE.cons;have hr:=h.lt.1;have aP:=h.lt.2
 unfold VE at hp
 obtain ⟨w0,Y⟩:∃w0,w0=w.alloc xw:=⟨_,rfl⟩;have h0:zg r g o cap (t0::aE) w0:=by rw [Y];exact h.alloc _
 have k0:zd r w w0:=by rw [Y];exact (zd.refl r w).alloc _
 have b0:w0.heap[w.heap.size]?=some xw:=by rw [Y];exact World.alloc_heap_new _ _
 have aO:w0.heap.size=w.heap.size+1:=by rw [Y];simp
 have aW:Hid (w0=w.alloc xw):=Y;have aS:Hid (∀y o1 D ts1 r1,zH F ts1=some r1→zi ts1→zg r g o1 D ts1 y→zd r w y→Calls Tryz.prog 100 #[.pointer (some ⟨r,0,none⟩)] y (X5 r g y r1)):=hbl;cases hb1:zf F 1 (t0::aE) with
 | none=>rw [hb1] at hp;cases hp
 | some r1 =>
  have ce:=hex w0 o cap (t0::aE) r1 hb1 hE h0 k0;rw [hb1] at hp;clear hex hbl h h0 Y
  go_enter Tryz.func167,Tryz.ntmps167
  go_wp2_with fail
  rw [←aW.out];refine ce.mono ?_;clear ce aW;rintro e y ⟨af,z⟩;rcases r1 with a | ⟨x,us⟩
  ·obtain rfl:=z
   simp only [zh,Option.some.injEq] at hp;subst hp;exact ⟨rfl,k0.trans af,rfl⟩
  ·obtain ⟨v,o1,D,rfl,hx,a0⟩:=z
   obtain ⟨xa,xb,xc,x0,x1,x2,xl,rfl⟩:=hx.agg;have aH:=(Zi F).1 _ _ _ _ hb1 hE;simp only [zh] at hp;cases hb2:zH F us with
   | none=>rw [hb2] at hp;cases hp
   | some r2 =>
    rw [hb2] at hp;have a1:=af.size;obtain ⟨P,hP⟩:∃P,P=y.heap.size+1:=⟨_,rfl⟩;obtain ⟨w2,N⟩:∃w2,w2=(y.alloc (exO xa xb xc (.slice x0 x1 x2) xl)).alloc (XC 3 ⟨#[]⟩ (.slice (some ⟨y.heap.size,0,none⟩) 1 1) (.slice none 0 0) (.slice none 0 0) 0):=⟨_,rfl⟩;have aQ:w2.heap.size=P+1:=by rw [N,hP];simp
    have aN:w2.heap[P]?=some (XC 3 ⟨#[]⟩ (.slice (some ⟨y.heap.size,0,none⟩) 1 1) (.slice none 0 0) (.slice none 0 0) 0):=by
     rw [N,hP]
     have:=World.alloc_heap_new (y.alloc (exO xa xb xc (.slice x0 x1 x2) xl)) (XC 3 ⟨#[]⟩ (.slice (some ⟨y.heap.size,0,none⟩) 1 1) (.slice none 0 0) (.slice none 0 0) 0)
     simpa using this
    have aD:zd r w w2:=by rw [N];exact ((k0.trans af).alloc _).alloc _
    have b2:w2.heap[w.heap.size]?=some xw:=by
     rw [N,Below.heap_alloc _ _ _ (by simp;omega),Below.heap_alloc _ _ _ (by omega)]
     exact (af.block _ (by omega) (by omega)).trans b0
    obtain ⟨t1,aV,rfl⟩:=aH.cons;have aB:zg r g o1 D (t1::aV) w2:=by rw [N];exact (a0.alloc _).alloc _
    have ad:=zK.one (S:=fun k=>w0.heap.size≤k) 45 (c:=[.int .i64 xa,.string xb,.int .i64 xc,.slice x0 x1 x2,.int .i64 xl]) hx rfl (by omega)
    have aj:zK (fun k=>w0.heap.size≤k∧k<P) w2 [x] (.slice (some ⟨y.heap.size,0,none⟩) 1 1):=by
     have h9:=ad.lower;have e9:(y.alloc (.cells [Value.int .i64 xa,.string xb,.int .i64 xc,.slice x0 x1 x2,.int .i64 xl].toArray 45)).heap.size=P:=by rw [hP];simp
     rw [e9] at h9;rw [N];exact h9.kept (by simp) fun k hk _=>Below.heap_alloc _ _ _ (by rw [e9];exact hk.2)
    have cb:=aS.out w2 o1 D (t1::aV) r2 hb2 aH aB aD;have aZ:Hid (w2=(y.alloc (exO xa xb xc (.slice x0 x1 x2) xl)).alloc (XC 3 ⟨#[]⟩ (.slice (some ⟨y.heap.size,0,none⟩) 1 1) (.slice none 0 0) (.slice none 0 0) 0)):=N;have av:Hid (zK (fun k=>w0.heap.size≤k∧k<P) w2 [x] (.slice (some ⟨y.heap.size,0,none⟩) 1 1)):=aj
    have HB:Hid (w2.heap[w.heap.size]?=some xw∧w2.heap[P]?=some (XC 3 ⟨#[]⟩ (.slice (some ⟨y.heap.size,0,none⟩) 1 1) (.slice none 0 0) (.slice none 0 0) 0)):=⟨b2,aN⟩;have aL:Hid (zd r w w2):=aD;have HS:Hid (w0.heap.size=w.heap.size+1∧y.heap.size+1=P∧w2.heap.size=P+1∧w0.heap.size≤y.heap.size):=⟨aO,hP.symm,aQ,a1⟩;have a7:Hid (y.heap.size+1=P):=hP.symm;clear N ad aj aN b2 b0 k0 af hx a0 aB aD aQ a1 aO hP;go_wp2_with fail
    rw [←aZ.out];refine cb.mono ?_;clear cb aZ;rintro e w3 ⟨U,z⟩;rcases r2 with a | ⟨bl,bb⟩
    ·obtain rfl:=z
     simp only [Option.some.injEq] at hp;subst hp;exact ⟨rfl,aL.out.trans U,rfl⟩
    ·obtain ⟨vb,o3,O,rfl,aJ,ax⟩:=z
     simp only at hp;obtain ⟨G,c1,c2,rfl⟩:=aJ.slice;have am:=(vI F).2.1 _ _ _ hb2 aH;obtain ⟨t2,T,rfl⟩:=am.cons;have hS:=HS.out;have a3:=U.size;have b3:=(U.block w.heap.size (by omega) (by omega)).trans HB.out.1
     have p3:=(U.block P (by omega) (by omega)).trans HB.out.2
     obtain ⟨g0,g1,g2,g3,g4,g5,gf⟩:=zM p3;have aT:=gf 3;obtain ⟨w4,J⟩:∃w4,w4=w3.setCell ⟨P,3,none⟩ (.slice G c1 c2):=⟨_,rfl⟩;have p4:w4.heap[P]?=some (XC 3 ⟨#[]⟩ (.slice (some ⟨y.heap.size,0,none⟩) 1 1) (.slice G c1 c2) (.slice none 0 0) 0):=by rw [J];exact zq _ p3
     have b4:w4.heap[w.heap.size]?=some xw:=by rw [J,Below.heap_setCell _ _ _ _ (by simp;omega)];exact b3
     have aa:w4.heap.size=w3.heap.size:=by rw [J];simp
     have aq:zg r g o3 O (t2::T) w4:=by rw [J];exact ax.setP _ (by omega) (by omega)
     have k4:zd r w w4:=by rw [J];exact (aL.out.trans U).setOther (by simp;omega) _
     have Z:zK (fun k=>w0.heap.size≤k∧k<P) w4 [x] (.slice (some ⟨y.heap.size,0,none⟩) 1 1):=by rw [J];exact (av.out.keptR U fun k hk=>by omega).setP _ fun k hk=>by omega
     have ar:z8 (fun k=>w2.heap.size≤k) w4 bl (.slice G c1 c2):=by rw [J];exact aJ.setP _ fun k hk=>by omega
     have cs:=Zx r g o3 O t2 T [101,108,115,101] w4 aq (fun hi=>(am.tail (zj hi)).ne)
     have W:Hid (w4.heap[w.heap.size]?=some xw∧w4.heap[P]?=some (XC 3 ⟨#[]⟩ (.slice (some ⟨y.heap.size,0,none⟩) 1 1) (.slice G c1 c2) (.slice none 0 0) 0)):=⟨b4,p4⟩;have ak:Hid (zd r w w4):=k4;have I:Hid (zK (fun k=>w0.heap.size≤k∧k<P) w4 [x] (.slice (some ⟨y.heap.size,0,none⟩) 1 1)):=Z
     have V:Hid (z8 (fun k=>w2.heap.size≤k) w4 bl (.slice G c1 c2)):=ar
     have al:Hid (w2.heap.size≤w4.heap.size):=show _≤_ by omega
     have ay:=J.symm;have a2:=am;simp only [zE,List.tail_cons] at hp;rw [a7.out];clear J p4 b4 aa aq k4 Z ar aJ ax b3 p3 gf g0 g1 g2 g4 g5 U a3 hS HB av aL am
     by_cases hi:zm t2 [101,108,115,101]=true
     ·rw [hi] at cs
      rw [if_pos hi] at hp;have a5:=a2.tail (zj hi);cases hb3:zH F T with
      | none=>rw [hb3] at hp;cases hp
      | some r3 =>
       rw [hb3] at hp;go_wp2_with fail
       refine cs.mono ?_;clear cs ay g3 aT;rintro e w5 ⟨rfl,A,h5⟩;have hS:=HS.out;have aa:=al.out;have aK:=A.size;have ab:zg r g (o3+5) (O-1) T w5:=by simpa using h5
       have b5:=(A.block w.heap.size (by omega) (by omega)).trans W.out.1
       have p5:=(A.block P (by omega) (by omega)).trans W.out.2
       obtain ⟨g0,-,-,-,-,-,gf⟩:=zM p5;have a8:=gf 0;obtain ⟨w6,L⟩:∃w6,w6=w5.setCell ⟨P,0,none⟩ (.int .i64 4):=⟨_,rfl⟩;have p6:w6.heap[P]?=some (XC 4 ⟨#[]⟩ (.slice (some ⟨y.heap.size,0,none⟩) 1 1) (.slice G c1 c2) (.slice none 0 0) 0):=by rw [L];exact zq _ p5
       have b6:w6.heap[w.heap.size]?=some xw:=by rw [L,Below.heap_setCell _ _ _ _ (by simp;omega)];exact b5
       have aG:w6.heap.size=w5.heap.size:=by rw [L];simp
       have an:zg r g (o3+5) (O-1) T w6:=by rw [L];exact ab.setP _ (by omega) (by omega)
       have k6:zd r w w6:=by rw [L];exact (ak.out.trans A).setOther (by simp;omega) _
       have ae:zK (fun k=>w0.heap.size≤k∧k<P) w6 [x] (.slice (some ⟨y.heap.size,0,none⟩) 1 1):=by rw [L];exact (I.out.keptR A fun k hk=>by omega).setP _ fun k hk=>by omega
       have aA:z8 (fun k=>w2.heap.size≤k) w6 bl (.slice G c1 c2):=by rw [L];exact (V.out.keptR A fun k hk=>by omega).setP _ fun k hk=>by omega
       have cb:=aS.out w6 _ _ T r3 hb3 a5 an k6;have aI:Hid (w6.heap[w.heap.size]?=some xw∧w6.heap[P]?=some (XC 4 ⟨#[]⟩ (.slice (some ⟨y.heap.size,0,none⟩) 1 1) (.slice G c1 c2) (.slice none 0 0) 0)):=⟨b6,p6⟩;have aF:Hid (zd r w w6):=k6;have ah:Hid (zK (fun k=>w0.heap.size≤k∧k<P) w6 [x] (.slice (some ⟨y.heap.size,0,none⟩) 1 1)):=ae
       have ao:Hid (z8 (fun k=>w2.heap.size≤k) w6 bl (.slice G c1 c2)):=aA
       have aR:Hid (w2.heap.size≤w6.heap.size):=show _≤_ by omega
       have aU:=L.symm;clear L p6 b6 aG an k6 ae aA b5 p5 gf A aK hS aa h5 ab W I V ak al;go_wp2_with fail
       refine cb.mono ?_;clear cb aU g0 a8;rintro e w7 ⟨Q,z⟩;rcases r3 with a | ⟨cl,aY⟩
       ·obtain rfl:=z
        simp only [Option.some.injEq] at hp;subst hp;exact ⟨rfl,aF.out.trans Q,rfl⟩
       ·obtain ⟨vl,o7,aX,rfl,aM,aC⟩:=z
        simp only [Option.some.injEq] at hp;subst hp;obtain ⟨d0,d1,d2,rfl⟩:=aM.slice;have hS:=HS.out;have aG:=aR.out;have a6:=Q.size;have b7:=(Q.block w.heap.size (by omega) (by omega)).trans aI.out.1
        have p7:=(Q.block P (by omega) (by omega)).trans aI.out.2
        obtain ⟨-,-,-,-,g4,-,gf⟩:=zM p7;have ba:=gf 4;obtain ⟨w8,H⟩:∃w8,w8=w7.setCell ⟨P,4,none⟩ (.slice d0 d1 d2):=⟨_,rfl⟩;have p8:w8.heap[P]?=some (XC 4 ⟨#[]⟩ (.slice (some ⟨y.heap.size,0,none⟩) 1 1) (.slice G c1 c2) (.slice d0 d1 d2) 0):=by rw [H];exact zq _ p7
        have b8:w8.heap[w.heap.size]?=some xw:=by rw [H,Below.heap_setCell _ _ _ _ (by simp;omega)];exact b7
        have aw:zg r g o7 aX aY w8:=by rw [H];exact aC.setP _ (by omega) (by omega)
        have k8:zd r w w8:=by rw [H];exact (aF.out.trans Q).setOther (by simp;omega) _
        have ag:zK (fun k=>w0.heap.size≤k) w8 [x] (.slice (some ⟨y.heap.size,0,none⟩) 1 1):=by rw [H];exact ((ah.out.keptR Q fun k hk=>by omega).setP _ fun k hk=>by omega).wide fun k hk=>hk.1
        have ap:z8 (fun k=>w0.heap.size≤k) w8 bl (.slice G c1 c2):=by rw [H];exact ((ao.out.keptR Q fun k hk=>by omega).setP _ fun k hk=>by omega).wide fun k hk=>by omega
        have au:z8 (fun k=>w0.heap.size≤k) w8 cl (.slice d0 d1 d2):=by rw [H];exact (aM.setP _ fun k hk=>by omega).wide fun k hk=>by omega
        obtain ⟨e0,e1,e2,e3,e4,e5,-⟩:=zM p8;obtain ⟨q0,q1,q2,q3,q4,q5,qf⟩:=zM b8;obtain ⟨z0,z1,z2,z3,z4,z5,-⟩:=zM (Zu b8 (.int .i64 4) (.string ⟨#[]⟩) (.slice (some ⟨y.heap.size,0,none⟩) 1 1) (.slice G c1 c2) (.slice d0 d1 d2) (.int .i64 0))
        have HP:Hid (ZH r g w (.ok (.mk 4 [] [x] bl cl 0,aY)) (.returned (.agg #[.int .i64 4,.string ⟨#[]⟩,.slice (some ⟨y.heap.size,0,none⟩) 1 1,.slice G c1 c2,.slice d0 d1 d2,.int .i64 0])) (XB w8 w.heap.size (.int .i64 4) (.string ⟨#[]⟩) (.slice (some ⟨y.heap.size,0,none⟩) 1 1) (.slice G c1 c2) (.slice d0 d1 d2) (.int .i64 0))) :=
         ZH.of_set6 (B:=w0.heap.size) 4 [] 0 k8 (Nat.le_refl _) hr aP ag ap au (by omega) aw
        have a9:=H.symm;clear H p8 b8 aw k8 ag ap au b7 p7 gf Q a6 hS aG aM aC aI ah ao aF aR;go_wp2
        exact bodyPost_ret (v:=.agg #[.int .i64 4,.string ⟨#[]⟩,.slice (some ⟨y.heap.size,0,none⟩) 1 1,.slice G c1 c2,.slice d0 d1 d2,.int .i64 0]) (by simp [results,Tryz.results167,go_sem,z0,z1,z2,z3,z4,z5]) rfl HP.out
     ·have a4:zm t2 [101,108,115,101]=false:=by simpa using hi
      rw [a4] at cs;rw [if_neg hi] at hp;simp only [Option.some.injEq] at hp;subst hp;go_wp2_with fail
      refine cs.mono ?_;clear cs ay g3 aT;rintro e w5 ⟨rfl,A,h5⟩;have hS:=HS.out;have aa:=al.out;have aK:=A.size;have ab:zg r g o3 O (t2::T) w5:=by simpa using h5
      have b5:=(A.block w.heap.size (by omega) (by omega)).trans W.out.1
      have p5:=(A.block P (by omega) (by omega)).trans W.out.2
      have k5:zd r w w5:=ak.out.trans A;have ai:zK (fun k=>w0.heap.size≤k) w5 [x] (.slice (some ⟨y.heap.size,0,none⟩) 1 1):=(I.out.keptR A fun k hk=>by omega).wide fun k hk=>hk.1
      have az:z8 (fun k=>w0.heap.size≤k) w5 bl (.slice G c1 c2):=(V.out.keptR A fun k hk=>by omega).wide fun k hk=>by omega
      obtain ⟨e0,e1,e2,e3,e4,e5,-⟩:=zM p5;obtain ⟨q0,q1,q2,q3,q4,q5,qf⟩:=zM b5;obtain ⟨z0,z1,z2,z3,z4,z5,-⟩:=zM (Zu b5 (.int .i64 3) (.string ⟨#[]⟩) (.slice (some ⟨y.heap.size,0,none⟩) 1 1) (.slice G c1 c2) (.slice none 0 0) (.int .i64 0))
      have HP:Hid (ZH r g w (.ok (.mk 3 [] [x] bl [] 0,t2::T)) (.returned (.agg #[.int .i64 3,.string ⟨#[]⟩,.slice (some ⟨y.heap.size,0,none⟩) 1 1,.slice G c1 c2,.slice none 0 0,.int .i64 0])) (XB w5 w.heap.size (.int .i64 3) (.string ⟨#[]⟩) (.slice (some ⟨y.heap.size,0,none⟩) 1 1) (.slice G c1 c2) (.slice none 0 0) (.int .i64 0))) :=
       ZH.of_set6 (B:=w0.heap.size) 3 [] 0 k5 (Nat.le_refl _) hr aP ai az (z8.nil _ _) (by omega) ab
      clear b5 p5 k5 ai az A aK hS aa h5 ab W I V ak al;go_wp2
      exact bodyPost_ret (v:=.agg #[.int .i64 3,.string ⟨#[]⟩,.slice (some ⟨y.heap.size,0,none⟩) 1 1,.slice G c1 c2,.slice none 0 0,.int .i64 0]) (by simp [results,Tryz.results167,go_sem,z0,z1,z2,z3,z4,z5]) rfl HP.out
def yK {α:Type} (E:(Nat→Prop)→World→α→List Value→Prop) (sz ty B:Nat) (w:World) (l:List α) (v:Value):Prop :=
 (l=[]∧v=.slice none 0 0)∨∃g cap us,Zj E sz ty B w l v g cap us
theorem yK.nil {α:Type} (E:(Nat→Prop)→World→α→List Value→Prop) (sz ty B:Nat) (w:World):yK E sz ty B w [] (.slice none 0 0):=.inl ⟨rfl,rfl⟩
theorem yK.kept {α:Type} {E:(Nat→Prop)→World→α→List Value→Prop} (L:yd E) {sz ty B:Nat} {w w':World} {l:List α} {v:Value} (h:yK E sz ty B w l v) (hs:w.heap.size≤w'.heap.size) (hb:∀k,B≤k→k<w.heap.size→w'.heap[k]?=w.heap[k]?):yK E sz ty B w' l v:=by
 rcases h with h | ⟨g,o,y,h⟩
 ·exact .inl h
 ·exact .inr ⟨g,o,y,h.kept L hs hb⟩
theorem yK.slice {α:Type} {E:(Nat→Prop)→World→α→List Value→Prop} {sz ty B:Nat} {w:World} {l:List α} {v:Value} (h:yK E sz ty B w l v):∃b c,v=.slice b l.length c:=by
 rcases h with ⟨rfl,rfl⟩ | ⟨g,o,y,h⟩
 ·exact ⟨none,0,rfl⟩
 ·exact ⟨_,_,h.val⟩
theorem yK.block {α:Type} {E:(Nat→Prop)→World→α→List Value→Prop} {sz ty B:Nat} {w:World} {l:List α} {v:Value} (h:yK E sz ty B w l v):∀q,v.ownBlock=some q→B≤q∧q<w.heap.size:=by
 intro q o;rcases h with ⟨rfl,rfl⟩ | ⟨g,y,z,h⟩
 ·simp [Value.ownBlock] at o
 ·rw [h.val] at o
  have e:g=q:=by simpa [Value.ownBlock] using o
  subst e;exact ⟨h.block.1,h.block.2.1⟩
theorem yK.more {α:Type} {E:(Nat→Prop)→World→α→List Value→Prop} (L:yd E) {sz ty B:Nat} {w:World} {l:List α} {v:Value} (h:yK E sz ty B w l v):∃I:List (List Value),w.ownsRow B ty sz v l.length I.flatten ∧
  ∀{w':World} {v':Value} {x:α} {c:List Value} {ob:Obj} {N:Nat},E (fun k=>N≤k) w x c→B≤N→(∀q,v.ownBlock=some q→q<N)→c.length=sz→w'.ownsRow B ty sz v' (l.length+1) (I.flatten++c)→(w.alloc ob).grownBy w' v.ownBlock→(v'.ownBlock=v.ownBlock∨v'.ownBlock=some (w.alloc ob).heap.size)→yK E sz ty B w' (l++[x]) v':=by
 rcases h with ⟨rfl,rfl⟩ | ⟨g,U,I,h⟩
 ·refine ⟨[],World.ownsRow_nil _ _ _ _,?_⟩
  intro w' v' x c ob N J O _ Q D G H;simp only [List.flatten_nil,List.nil_append,List.length_nil,Nat.zero_add] at D
  obtain ⟨g',o,A,W⟩:∃g' o,v'=.slice (some ⟨g',0,none⟩) 1 o∧B≤g':=by
   rcases D.2 with ⟨_,h0⟩ | ⟨g',o,_,h1,Y,_⟩
   ·omega
   ·exact ⟨g',o,h1,Y⟩
  have R:g'=w.heap.size+1:=by
   rw [A] at H
   simpa [Value.ownBlock] using H
  have hs:w.heap.size≤w'.heap.size:=by have:=G.size;simp at this;omega
  have z:∀k,k<w.heap.size→w'.heap[k]?=w.heap[k]?:=fun k hlt=>(G.block k (by simp;omega) (by simp [Value.ownBlock])).trans (Below.heap_alloc _ _ _ hlt)
  refine .inr ⟨g',o,[c],⟨A,by simp,by simpa using D,rfl,by simpa using Q,fun j y d hy hd=>?_⟩⟩
  cases j with
  | succ j=>simp at hy
  | zero =>
   simp only [List.nil_append,List.getElem?_cons_zero,Option.some.injEq] at hy hd;subst hy hd;exact L.wide (L.kept (L.low J) hs fun k hk _=>z k hk.2) fun k hk=>⟨by omega,by omega⟩
 ·refine ⟨I,h.own,?_⟩
  intro w' v' x c ob N J O Z Q D G H;have T:g<N:=Z g (by rw [h.val];rfl)
  obtain ⟨g',o,V,-⟩:=h.snoc L (x:=x) (c:=c) (ob:=ob) (L.wide J fun k hk=>⟨by omega,by omega⟩) Q D G H
  exact .inr ⟨g',o,_,V⟩
theorem yK.sts {ty B:Nat} {w:World} {l:List St} {v:Value} (h:yK StE 6 ty B w l v):z8 (fun k=>B≤k) w l v:=by
 rcases h with ⟨rfl,rfl⟩ | ⟨g,o,y,h⟩
 ·exact z8.nil _ _
 ·exact h.sts
theorem zK.slice {S:Nat→Prop} {w:World} {l:List Ex} {v:Value} (h:zK S w l v):∃d0 d1 d2,v=.slice d0 d1 d2:=by
 rcases h with ⟨_,rfl⟩ | ⟨g,o,y,rfl,_⟩
 ·exact ⟨_,_,_,rfl⟩
 ·exact ⟨_,_,_,rfl⟩
theorem yv.agg {S:Nat→Prop} {w:World} {x:St} {v:Value} (h:yv S w x v):∃(a:Int) (b:ByteArray) (I:Option Addr) (J y:Nat) (H:Option Addr) (G D:Nat) (z:Option Addr) (o A:Nat) (c:Int),v=.agg #[.int .i64 a,.string b,.slice I J y,.slice H G D,.slice z o A,.int .i64 c]:=by
 cases h with
 | mk k s es body els line ve vb vl gb cb gl cl ub ul he hb hbk hl hlk =>
  obtain ⟨I,J,y,rfl⟩:=he.slice;obtain ⟨H,G,D,rfl⟩:=z8.slice (S:=S) (w:=w) (l:=body) (v:=vb) ⟨gb,cb,ub,hb,hbk⟩;obtain ⟨z,o,A,rfl⟩:=z8.slice (S:=S) (w:=w) (l:=els) (v:=vl) ⟨gl,cl,ul,hl,hlk⟩;exact ⟨_,_,_,_,_,_,_,_,_,_,_,_,rfl⟩
theorem zdL:(Tryz.prog.info? 108).map (fun i=>(i.zero,i.size,i.bytes))=some (some (.agg #[.int .i64 0,.string ⟨#[]⟩,.slice none 0 0,.slice none 0 0,.slice none 0 0,.int .i64 0]),6,104):=by kernel_rfl
theorem zaV {f k:Nat} {ts:List Tk} {r:PR St} (h:Ze f ts=some r):Ze (f+k) ts=some r:=by
 induction k with
 | zero=>exact h
 | succ k ih=>exact (Xh (f+k)).1 _ _ ih
theorem zdM {f:Nat} {ts us:List Tk} {x:St} (h:Ze f ts=some (.ok (x,us))) (hE:zi ts):us.length<ts.length:=by
 obtain ⟨y,A,z,o⟩:=(UB ts.length ts (Nat.le_refl _) hE).1;have a:=zaV (k:=y) h;have b:=z f;rw [Nat.add_comm] at a;have e:=Option.some.inj (a.symm.trans b)
 have:=(o x us e.symm).1
 have:=hE.pos
 omega
theorem zgw (r g o cap F:Nat) (ts:List Tk) (w:World) (res:PR (List St)) (h:zg r g o cap ts w) (hE:zi ts) (hp:zH (F+1) ts=some res)
  (hone:∀O o1 cap1 ts1 r1,Ze F ts1=some r1→zi ts1→zg r g o1 cap1 ts1 O→zd r w O→Calls Tryz.prog 136 #[.pointer (some ⟨r,0,none⟩)] O (ZH r g O r1)) :
  Calls Tryz.prog 100 #[.pointer (some ⟨r,0,none⟩)] w (X5 r g w res):=by
 obtain ⟨i0,aM,aP,aQ,aJ⟩:=info_parts zdL;have hN:=h.few;obtain ⟨t0,Q,rfl⟩:=hE.cons;have hr:=h.lt.1;have aX:=h.lt.2;rw [zH] at hp
 unfold zR at hp
 simp only [zE,List.tail_cons] at hp;have cn:=yJ r g o cap t0 Q [123] w h (fun hi=>(hE.tail (zj hi)).ne)
 have aB:Hid (∀O o1 cap1 ts1 r1,Ze F ts1=some r1→zi ts1→zg r g o1 cap1 ts1 O→zd r w O→Calls Tryz.prog 136 #[.pointer (some ⟨r,0,none⟩)] O (ZH r g O r1)):=hone;clear h hone
 by_cases hi:zm t0 [123]=true
 ·simp only [if_pos hi] at cn
  rw [if_pos hi] at hp;simp only [zh] at hp;have ay:=hE.tail (zj hi)
  go_enter Tryz.func100,Tryz.ntmps100
  go_wp2_with fail
  refine cn.mono ?_;clear cn;rintro e O ⟨af,rfl,h1⟩;have az:Hid (zg r g (o+5) (cap-1) Q O):=h1;have aD:Hid (zd r w O):=af;have HP:Hid (Zd F [] Q=some res):=hp;have av:Hid (zi Q):=ay;have hn:Q.length≤1099511627776:=by simp only [List.length_cons] at hN;omega
  clear h1 af hp ay hE hN;go_wp2_with fail
  go_loopw [3] (fun v wr=>∃(L:List St) (o2 D:Nat) (W:List Tk) (f2:Nat),f2≤F∧Zd f2 L W=some res∧zi W∧L.length+W.length≤1099511627776∧yK StE 6 108 w.heap.size wr L v∧zg r g o2 D W wr∧zd r w wr) (fun _ wr=>ZP r wr)
  case atStart=>exact ⟨[],_,_,Q,F,Nat.le_refl _,HP.out,av.out,by simpa using hn,yK.nil _ _ _ _ _,az.out,aD.out⟩
  case round =>
   obtain ⟨L,o2,D,W,f2,aV,G,Y,ao,I,J,aq⟩:=hrel;clear HP az aD av hn;obtain ⟨t2,H,rfl⟩:=Y.cons;have cs:=Zx r g o2 D t2 H [125] wr J (fun hi=>(Y.tail (zj hi)).ne)
   have an:=J.left;have ag:Hid (yK StE 6 108 w.heap.size wr L _):=I;have aE:Hid (zd r w wr):=aq;obtain ⟨lb,lc,aA⟩:=I.slice;subst aA;cases f2 with
   | zero=>simp [Zd] at G
   | succ f3 =>
   rw [Zd] at G;simp only [zE,List.tail_cons] at G
   by_cases hj:zm t2 [125]=true
   ·rw [hj] at cs
    rw [if_pos hj] at G;clear I aq J Y;go_wp2_with fail
    refine cs.mono ?_;clear cs;rintro e w3 ⟨rfl,A,h3⟩;have ae:Hid (zd r w w3):=aE.out.trans A;have y:Hid (z8 (fun k=>w.heap.size≤k) w3 L (.slice lb L.length lc)):=(ag.out.kept Ub A.size fun k hB hlt=>A.block k hlt (by omega)).sts
    have aN:Hid (zg r g (o2+5) (D-1) H w3):=show zg _ _ _ _ _ _ by simpa using h3
    simp only [Option.some.injEq] at G;subst G;clear A h3;go_wp2
    refine bodyPost_ret (v:=.slice lb L.length lc) (by simp [results,Tryz.results100,go_sem]) rfl ⟨ae.out,_,_,_,rfl,y.out,aN.out⟩
   ·have aO:zm t2 [125]=false:=by simpa using hj
    rw [aO] at cs;rw [if_neg hj] at G;cases hb3:Ze f3 (t2::H) with
    | none=>rw [hb3] at G;cases G
    | some r3 =>
     rw [hb3] at G;simp only [zh] at G
     have aj:Ze F (t2::H)=some r3:=by
      have:=zaV (k:=F-f3) hb3
      rwa [show f3+(F-f3)=F by omega] at this
     have ap:Hid (zi (t2::H)):=Y;clear I aq J Y hb3;go_wp2_with fail
     refine cs.mono ?_;clear cs;rintro e w3 ⟨rfl,A,h3⟩;have aF:zg r g o2 D (t2::H) w3:=by simpa using h3
     have am:zd r w w3:=aE.out.trans A;have T:=ag.out.kept Ub A.size fun k hB hlt=>A.block k hlt (by omega)
     have c3:=aB.out w3 _ _ (t2::H) r3 aj ap.out aF am;have y:Hid (yK StE 6 108 w.heap.size w3 L (.slice lb L.length lc)):=T;have ae:Hid (zd r w w3):=am;clear h3 aF am A T;go_wp2_with fail
     refine c3.mono ?_;clear c3;rintro e w4 ⟨ab,Z⟩;have ad:Hid (zd r w w4):=ae.out.trans ab;rcases r3 with a | ⟨x3,aa⟩
     ·obtain rfl:=Z
      simp only [Option.some.injEq] at G;subst G;exact ⟨rfl,ad.out,rfl⟩
     ·obtain ⟨v,o4,V,rfl,hx,aG⟩:=Z
      obtain ⟨qa,qb,e0,e1,e2,b0,b1,b2,l0,l1,l2,qc,rfl⟩:=hx.agg;have R:=y.out.kept Ub ab.size fun k hB hlt=>ab.block k hlt (by omega)
      have au:w.heap.size≤w3.heap.size:=ae.out.size;have aU:w.heap.size≤w4.heap.size:=ad.out.size;obtain ⟨us,ah,U⟩:=R.more Ub;have aH:Hid (StE (fun k=>w3.heap.size≤k) w4 x3 [.int .i64 qa,.string qb,.slice e0 e1 e2,.slice b0 b1 b2,.slice l0 l1 l2,.int .i64 qc]):=hx
      have aT:Hid (∀q,(Value.slice lb L.length lc).ownBlock=some q→q<w3.heap.size):=fun q hq=>(y.out.block q hq).2
      have ar:Hid (∀q,(Value.slice lb L.length lc).ownBlock=some q→w.heap.size≤q):=fun q hq=>(y.out.block q hq).1
      have aI:Hid (∀{w':World} {v':Value} {x:St} {c:List Value} {ob:Obj} {N:Nat},StE (fun k=>N≤k) w4 x c→w.heap.size≤N→(∀q,(Value.slice lb L.length lc).ownBlock=some q→q<N)→c.length=6→w'.ownsRow w.heap.size 108 6 v' (L.length+1) (us.flatten++c)→(w4.alloc ob).grownBy w' (Value.slice lb L.length lc).ownBlock→(v'.ownBlock=(Value.slice lb L.length lc).ownBlock∨v'.ownBlock=some (w4.alloc ob).heap.size)→yK StE 6 108 w.heap.size w' (L++[x]) v'):=U
      have aR:Hid (zg r g o4 V aa w4):=aG;have aC:=(vI F).1 _ _ _ aj ap.out;have aw:=zdM aj ap.out;have ax:=(ah.alloc (.cells #[.int .i64 qa,.string qb,.slice e0 e1 e2,.slice b0 b1 b2,.slice l0 l1 l2,.int .i64 qc] 108));have HT:Hid (Zd f3 (L++[x3]) aa=some res):=G;have aL:Hid (zi aa):=aC;clear R hx aG G ab ah U aC
      go_wp2_with (at_builtin;refine wpList_append_own_at _ rfl _ _ 70 rfl w.heap.size 108 i0 _ 6 104 Tryz.underlying70 aM aP aQ aJ rfl (by decide) _ _ _ rfl ax ⟨w4.heap.size,0,none⟩ 1 1 [.int .i64 qa,.string qb,.slice e0 e1 e2,.slice b0 b1 b2,.slice l0 l1 l2,.int .i64 qc] rfl rfl (ZQ _ _ _) (by simp [Value.oneCell']) (by unfold maxLen;simp only [List.length_cons] at ao;omega) (by simp only [List.length_cons] at ao;omega) (by simp;omega) ?_;intro v' w5 ak z _ aK)
      have al:=aI.out (ob:=.cells #[.int .i64 qa,.string qb,.slice e0 e1 e2,.slice b0 b1 b2,.slice l0 l1 l2,.int .i64 qc] 108) aH.out au aT.out rfl ak z aK
      have aS:zd r w w5:=(ad.out.alloc _).grown z ar.out;have aW:w.heap.size≤w4.heap.size:=ad.out.size;have ai:zg r g o4 V aa w5:=aR.out.keep ((z.block r (by simp;omega) (fun e=>by have:=ar.out r e.symm;omega)).trans (Below.heap_alloc _ _ _ (by omega))) ((z.block g (by simp;omega) (fun e=>by have:=ar.out g e.symm;omega)).trans (Below.heap_alloc _ _ _ (by omega)))
      refine ⟨⟨L++[x3],o4,V,aa,f3,by omega,HT.out,aL.out,?_,al,ai,aS⟩,?_⟩
      ·simp only [List.length_append,List.length_cons,List.length_nil] at ao aw ⊢;omega
      ·rw [ai.left,an];exact aw
 ·simp only [if_neg hi] at cn
  rw [if_neg hi] at hp;simp only [zh,Option.some.injEq] at hp;subst hp
  go_enter Tryz.func100,Tryz.ntmps100
  go_wp2_with fail
  refine cn.mono ?_;clear cn;rintro e O ⟨af,rfl⟩;exact ⟨rfl,af,rfl⟩
end Go.Proofs.YtpejpbbdgblbeaaGreatDoor
