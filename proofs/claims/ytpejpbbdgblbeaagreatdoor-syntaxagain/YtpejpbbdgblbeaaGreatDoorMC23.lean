import Derived.Test.YtpejpbbdgblbeaaGreatDoorMC22
import Derived.Test.YtpejpbbdgblbeaaGreatDoorMC15
namespace Go.Proofs.YtpejpbbdgblbeaaGreatDoor
open Go.RowKit Go.Shelf
set_option maxHeartbeats 16000000
set_option maxRecDepth 100000
def yy {α:Type} (p:Nat→Option (PR α)) (n:Nat):Prop:=∃f r,(∀k,p (f+k)=some r)∧∀x us,r=.ok (x,us)→us.length≤n∧zi us
theorem Yb.toE {α:Type} {p:Nat→Option (PR α)} {n:Nat} (h:Yb p n) (hE:∀f x us,p f=some (.ok (x,us))→zi us):yy p n:=by
 obtain ⟨f,r,o,y⟩:=h;exact ⟨f,r,o,fun x us e=>⟨y x us e,hE (f+0) x us (by rw [o 0,e])⟩⟩
theorem yy.then {α β:Type} {p:Nat→Option (PR α)} {q:Nat→α→List Tk→Option (PR β)} {n m:Nat} (h:yy p n) (hq:∀x us,us.length≤n→zi us→yy (fun f=>q f x us) m):yy (fun f=>zh (p f) (q f)) m:=by
 obtain ⟨f,r,o,A⟩:=h;cases r with
 | error a=>exact ⟨f,.error a,fun k=>by simp [zh,o k],fun x us h=>by cases h⟩
 | ok y =>
  obtain ⟨g,s,H,G⟩:=hq y.1 y.2 (A _ _ rfl).1 (A _ _ rfl).2;refine ⟨f+g,s,fun k=>?_,G⟩
  have z:=o (g+k);have D:=H (f+k);rw [show f+(g+k)=f+g+k by omega] at z
  rw [show g+(f+k)=f+g+k by omega] at D
  simp only [zh,z];exact D
theorem ZJ {α:Type} (x:α) (us:List Tk) {n:Nat} (h:us.length≤n) (hE:zi us):yy (fun _=>(some (.ok (x,us)):Option (PR α))) n:=⟨0,.ok (x,us),fun _=>rfl,fun y vs h'=>by cases h';exact ⟨h,hE⟩⟩
theorem X6 {α:Type} (a:Nat) (n:Nat):yy (fun _=>(some (.error a):Option (PR α))) n:=⟨0,.error a,fun _=>rfl,fun _ _ h=>by cases h⟩
theorem yr (s:List UInt8) (ts:List Tk) {n:Nat} (h:ts.length≤n+1) (hE:zi ts):yy (fun _=>zR s ts) n:=(YH s ts h).toE fun _ _ _ h=>zY h hE
theorem Vk (ts:List Tk) {n:Nat} (h:ts.length≤n+1) (hE:zi ts):yy (fun _=>Z3 ts) n:=(ua ts h).toE fun _ _ _ h=>ZM h hE
theorem yy.step {α:Type} {p q:Nat→Option (PR α)} {n:Nat} (h:yy q n) (hp:∀f,p (f+1)=q f):yy p n:=by
 obtain ⟨f,r,o,y⟩:=h;exact ⟨f+1,r,fun k=>by rw [show f+1+k=f+k+1 by omega,hp];exact o k,y⟩
theorem yy.le {α:Type} {p:Nat→Option (PR α)} {n m:Nat} (h:yy p n) (hm:n≤m):yy p m:=by
 obtain ⟨f,r,y,o⟩:=h;exact ⟨f,r,y,fun x us h=>⟨Nat.le_trans (o x us h).1 hm,(o x us h).2⟩⟩
theorem YJ (ts:List Tk) {n:Nat} (h:ts.length≤n) (hE:zi ts):yy (fun f=>zf f 1 ts) (n-1):=((XY n ts h).1 1).toE fun f _ _ h=>(Zi f).1 _ _ _ _ h hE
theorem zi.pos {ts:List Tk} (h:zi ts):0<ts.length:=by
 obtain ⟨t,o,rfl⟩:=h.cons
 simp
theorem UC (n:Nat):∀ts:List Tk,ts.length≤n→zi ts→yy (fun f=>Ze f ts) (n-1)∧yy (fun f=>zH f ts) (n-1)∧∀pre,yy (fun f=>Zd f pre ts) (n-1):=by
 induction n with
 | zero=>intro ts A y;have:=y.pos;omega
 | succ n ih =>
  intro ts A y;have G:yy (fun f=>zH f ts) n:=((yr [123] ts (n:=n) A y).then (q:=fun f _ us=>Zd f [] us) (m:=n) fun _ us hu hEu=>((ih us hu hEu).2.2 []).le (by omega)).step fun f=>by rw [zH]
  have D:yy (fun f=>Ze f ts) n:=by
   by_cases c1:zm (zv ts) [108,101,116]=true
   ·have o:=Zf c1
    have h:=zD y c1;refine ((Vk ts.tail (n:=n) (by omega) h).then (q:=fun f s us=>zh (zR [61] us) fun _ us=>zh (zf f 1 us) fun e us=>zh (zR [59] us) fun _ us=>some (.ok (St.mk 1 s [e] [] [] (zv ts).line,us))) (m:=n) fun s us hu hEu=>?_).step fun f=>by rw [Ze,if_pos c1]
    refine (yr [61] us (n:=n) (by omega) hEu).then (q:=fun f _ us=>zh (zf f 1 us) fun e us=>zh (zR [59] us) fun _ us=>some (.ok (St.mk 1 s [e] [] [] (zv ts).line,us))) fun _ us hu hEu=>?_
    refine (YJ us hu hEu).then (q:=fun f e us=>zh (zR [59] us) fun _ us=>some (.ok (St.mk 1 s [e] [] [] (zv ts).line,us))) fun e us hu hEu=>?_
    exact (yr [59] us (n:=n) (by omega) hEu).then (q:=fun f _ us=>some (.ok (St.mk 1 s [e] [] [] (zv ts).line,us))) fun _ us hu hEu=>ZJ _ _ hu hEu
   by_cases c2:zm (zv ts) [105,102]=true
   ·have o:=Zf c2
    have h:=zD y c2;refine ((YJ ts.tail (n:=n) (by omega) h).then (q:=fun f e us=>zh (zH f us) fun b us=>if zm (zv us) [101,108,115,101]=true then zh (zH f us.tail) fun c us=>some (.ok (St.mk 4 [] [e] b c (zv ts).line,us)) else some (.ok (St.mk 3 [] [e] b [] (zv ts).line,us))) (m:=n) fun e us hu hEu=>?_).step fun f=>by rw [Ze,if_neg c1,if_pos c2]
    refine (ih us (by omega) hEu).2.1.then (q:=fun f b us=>if zm (zv us) [101,108,115,101]=true then zh (zH f us.tail) fun c us=>some (.ok (St.mk 4 [] [e] b c (zv ts).line,us)) else some (.ok (St.mk 3 [] [e] b [] (zv ts).line,us))) fun b us hu hEu=>?_
    by_cases d:zm (zv us) [101,108,115,101]=true
    ·have z:=Zf d
     simp only [if_pos d];exact (ih us.tail (by omega) (zD hEu d)).2.1.then (q:=fun f c us=>some (.ok (St.mk 4 [] [e] b c (zv ts).line,us))) fun c us hu hEu=>ZJ _ _ (by omega) hEu
    ·simp only [if_neg d]
     exact ZJ _ _ (by omega) hEu
   by_cases c3:zm (zv ts) [119,104,105,108,101]=true
   ·have o:=Zf c3
    have h:=zD y c3;refine ((YJ ts.tail (n:=n) (by omega) h).then (q:=fun f e us=>zh (zH f us) fun b us=>some (.ok (St.mk 5 [] [e] b [] (zv ts).line,us))) (m:=n) fun e us hu hEu=>?_).step fun f=>by rw [Ze,if_neg c1,if_neg c2,if_pos c3]
    exact (ih us (by omega) hEu).2.1.then (q:=fun f b us=>some (.ok (St.mk 5 [] [e] b [] (zv ts).line,us))) fun b us hu hEu=>ZJ _ _ (by omega) hEu
   by_cases c4:zm (zv ts) [114,101,116,117,114,110]=true
   ·have o:=Zf c4
    have h:=zD y c4
    by_cases d:zm (zv ts.tail) [59]=true
    ·have z:=Zf d
     exact (ZJ (St.mk 6 [] [] [] [] (zv ts).line) ts.tail.tail (n:=n) (by omega) (zD h d)).step fun f=>by rw [Ze,if_neg c1,if_neg c2,if_neg c3,if_pos c4,if_pos d]
    ·refine ((YJ ts.tail (n:=n) (by omega) h).then (q:=fun f e us=>zh (zR [59] us) fun _ us=>some (.ok (St.mk 6 [] [e] [] [] (zv ts).line,us))) (m:=n) fun e us hu hEu=>?_).step fun f=>by rw [Ze,if_neg c1,if_neg c2,if_neg c3,if_pos c4,if_neg d]
     exact (yr [59] us (n:=n) (by omega) hEu).then (q:=fun f _ us=>some (.ok (St.mk 6 [] [e] [] [] (zv ts).line,us))) fun _ us hu hEu=>ZJ _ _ hu hEu
   ·refine ((YJ ts (n:=n+1) A y).then (q:=fun f e us=>if zm (zv us) [61]=true then (if yX e=true then zh (zf f 1 us.tail) fun e2 us=>zh (zR [59] us) fun _ us=>some (.ok (St.mk 2 [] [e,e2] [] [] (zv ts).line,us)) else some (.error (zv us).at0)) else zh (zR [59] us) fun _ us=>some (.ok (St.mk 7 [] [e] [] [] (zv ts).line,us))) (m:=n) fun e us hu hEu=>?_).step fun f=>by rw [Ze,if_neg c1,if_neg c2,if_neg c3,if_neg c4]
    by_cases d:zm (zv us) [61]=true
    ·have z:=Zf d
     simp only [if_pos d]
     by_cases d2:yX e=true
     ·simp only [if_pos d2]
      refine (YJ us.tail (n:=n) (by omega) (zD hEu d)).then (q:=fun f e2 us=>zh (zR [59] us) fun _ us=>some (.ok (St.mk 2 [] [e,e2] [] [] (zv ts).line,us))) fun e2 us hu hEu=>?_
      exact (yr [59] us (n:=n) (by omega) hEu).then (q:=fun f _ us=>some (.ok (St.mk 2 [] [e,e2] [] [] (zv ts).line,us))) fun _ us hu hEu=>ZJ _ _ hu hEu
     ·simp only [if_neg d2]
      exact X6 _ _
    ·simp only [if_neg d]
     exact (yr [59] us (n:=n) (by omega) hEu).then (q:=fun f _ us=>some (.ok (St.mk 7 [] [e] [] [] (zv ts).line,us))) fun _ us hu hEu=>ZJ _ _ hu hEu
  refine ⟨D,G,fun pre=>?_⟩
  by_cases c:zm (zv ts) [125]=true
  ·have o:=Zf c
   exact (ZJ pre ts.tail (n:=n) (by omega) (zD y c)).step fun f=>by rw [Zd,if_pos c]
  ·exact (D.then (q:=fun f s us=>Zd f (pre++[s]) us) (m:=n) fun s us hu hEu=>((ih us hu hEu).2.2 _).le (by omega)).step fun f=>by rw [Zd,if_neg c]
theorem zZ.kind_eq {S:Nat→Prop} {w:World} {x:Ex} {a:Int} {b c d e:Value} (h:zZ S w x (.agg #[.int .i64 a,b,c,d,e])):a=(x.kind:Int):=by
 cases h <;> rfl
theorem zaW (a:Nat) (xb:ByteArray) (xc:Int) (x0:Option Addr) (x1 x2:Nat) (xl:Int) (w:World) :
  Calls Tryz.prog 189 #[.agg #[.int .i64 (a:Int),.string xb,.int .i64 xc,.slice x0 x1 x2,.int .i64 xl]] w fun e w'=>e=.returned (.bool (a==4||a==8||a==9))∧w'=w.alloc (.cells #[.int .i64 (a:Int),.string xb,.int .i64 xc,.slice x0 x1 x2,.int .i64 xl] 45):=by
 by_cases h4:a=4
 ·subst h4
  go_enter Tryz.func189,Tryz.ntmps189
  go_wp2
  go_ret
  exact ⟨rfl,rfl⟩
 ·have y:(a==4)=false:=by simpa using h4
  have A:((a:Int)==4)=false:=by rw [beq_eq_false_iff_ne];omega
  by_cases h8:a=8
  ·subst h8
   go_enter Tryz.func189,Tryz.ntmps189
   go_wp2
   go_ret
   exact ⟨rfl,rfl⟩
  ·have o:(a==8)=false:=by simpa using h8
   have D:((a:Int)==8)=false:=by rw [beq_eq_false_iff_ne];omega
   by_cases h9:a=9
   ·subst h9
    go_enter Tryz.func189,Tryz.ntmps189
    go_wp2
    go_ret
    exact ⟨rfl,rfl⟩
   ·have h:(a==9)=false:=by simpa using h9
    have z:((a:Int)==9)=false:=by rw [beq_eq_false_iff_ne];omega
    rw [y,o,h];clear h4 h8 h9 y o h
    go_enter Tryz.func189,Tryz.ntmps189
    go_wp2
    go_ret
    exact ⟨rfl,rfl⟩
theorem zK.keptR {S:Nat→Prop} {r:Nat} {w w':World} {l:List Ex} {v:Value} (h:zK S w l v) (hk:zd r w w') (hS:∀k,S k→k≠r):zK S w' l v:=h.kept hk.size fun k hs hlt=>hk.block k hlt (hS k hs)
theorem zK.setP {S:Nat→Prop} {P j:Nat} {w:World} {l:List Ex} {v:Value} (h:zK S w l v) (u:Value) (hS:∀k,S k→k≠P):zK S (w.setCell ⟨P,j,none⟩ u) l v:=h.kept (by simp) fun k hs _=>Below.heap_setCell _ _ _ _ (by simpa using hS k hs)
theorem z8.keptR {S:Nat→Prop} {r:Nat} {w w':World} {l:List St} {v:Value} (h:z8 S w l v) (hk:zd r w w') (hS:∀k,S k→k≠r):z8 S w' l v:=h.kept hk.size fun k hs hlt=>hk.block k hlt (hS k hs)
theorem z8.setP {S:Nat→Prop} {P j:Nat} {w:World} {l:List St} {v:Value} (h:z8 S w l v) (u:Value) (hS:∀k,S k→k≠P):z8 S (w.setCell ⟨P,j,none⟩ u) l v:=h.kept (by simp) fun k hs _=>Below.heap_setCell _ _ _ _ (by simpa using hS k hs)
theorem zg.setP {r g o cap P j:Nat} {ts:List Tk} {w:World} (h:zg r g o cap ts w) (u:Value) (hr:r≠P) (hg:g≠P):zg r g o cap ts (w.setCell ⟨P,j,none⟩ u):=h.keep (Below.heap_setCell _ _ _ _ (by simpa using hr)) (Below.heap_setCell _ _ _ _ (by simpa using hg))
def St.at:Nat→St→St
 | l,.mk k s es b e _=>.mk k s es b e l
def atL (l:Nat) (R:PR St):PR St:=match R with
 | .error a=>.error a
 | .ok (s,us)=>.ok (s.at l,us)
def VF (f:Nat) (ts:List Tk) (line:Nat):Option (PR St):=zh (zf f 1 ts) fun e us=>zh (zH f us) fun b us=>if zm (zv us) [101,108,115,101]=true then zh (zH f us.tail) fun c us=>some (.ok (.mk 4 [] [e] b c line,us)) else some (.ok (.mk 3 [] [e] b [] line,us))
theorem zbY (f:Nat) (ts:List Tk) (line:Nat) {R:PR St} (h:VF f ts line=some R):∃R0,VF f ts 0=some R0∧atL line R0=R:=by
 unfold VF at h ⊢
 cases h1:zf f 1 ts with
 | none=>rw [h1] at h;cases h
 | some r1 =>
  rw [h1] at h;rcases r1 with a | ⟨e,z⟩
  ·simp only [zh,Option.some.injEq] at h ⊢
   exact ⟨_,rfl,h⟩
  ·simp only [zh] at h ⊢
   cases h2:zH f z with
   | none=>rw [h2] at h;cases h
   | some r2 =>
    rw [h2] at h;rcases r2 with a | ⟨b,o⟩
    ·simp only [Option.some.injEq] at h ⊢
     exact ⟨_,rfl,h⟩
    ·simp only at h ⊢
     by_cases hc:zm (zv o) [101,108,115,101]=true
     ·rw [if_pos hc] at h ⊢
      cases h3:zH f o.tail with
      | none=>rw [h3] at h;cases h
      | some r3 =>
       rw [h3] at h;rcases r3 with a | ⟨c,y⟩
       ·simp only [Option.some.injEq] at h ⊢
        exact ⟨_,rfl,h⟩
       ·simp only [Option.some.injEq] at h ⊢
        exact ⟨_,rfl,h⟩
     ·rw [if_neg hc] at h ⊢
      simp only [Option.some.injEq] at h ⊢;exact ⟨_,rfl,h⟩
def setP (f:Nat) (ts:List Tk) (line:Nat):Option (PR St):=zh (zf f 1 ts) fun e us=>if zm (zv us) [61]=true then (if yX e=true then zh (zf f 1 us.tail) fun e2 us=>zh (zR [59] us) fun _ us=>some (.ok (.mk 2 [] [e,e2] [] [] line,us)) else some (.error (zv us).at0)) else zh (zR [59] us) fun _ us=>some (.ok (.mk 7 [] [e] [] [] line,us))
theorem zgv (f:Nat) (ts:List Tk) (line:Nat) {R:PR St} (h:setP f ts line=some R):∃R0,setP f ts 0=some R0∧atL line R0=R:=by
 unfold setP zR at h ⊢
 cases h1:zf f 1 ts with
 | none=>rw [h1] at h;cases h
 | some r1 =>
  rw [h1] at h;rcases r1 with a | ⟨e,y⟩
  ·simp only [zh,Option.some.injEq] at h ⊢
   exact ⟨_,rfl,h⟩
  ·simp only [zh] at h ⊢
   by_cases hc:zm (zv y) [61]=true
   ·rw [if_pos hc] at h ⊢
    by_cases hd:yX e=true
    ·rw [if_pos hd] at h ⊢
     cases h2:zf f 1 y.tail with
     | none=>rw [h2] at h;cases h
     | some r2 =>
      rw [h2] at h;rcases r2 with a | ⟨z,o⟩
      ·simp only [Option.some.injEq] at h ⊢
       exact ⟨_,rfl,h⟩
      ·simp only at h ⊢
       by_cases he:zm (zv o) [59]=true
       ·simp only [if_pos he,Option.some.injEq] at h ⊢;exact ⟨_,rfl,h⟩
       ·simp only [if_neg he,Option.some.injEq] at h ⊢;exact ⟨_,rfl,h⟩
    ·rw [if_neg hd] at h ⊢
     simp only [Option.some.injEq] at h ⊢;exact ⟨_,rfl,h⟩
   ·rw [if_neg hc] at h ⊢
    by_cases he:zm (zv y) [59]=true
    ·simp only [if_pos he,Option.some.injEq] at h ⊢;exact ⟨_,rfl,h⟩
    ·simp only [if_neg he,Option.some.injEq] at h ⊢;exact ⟨_,rfl,h⟩
abbrev XC (k:Int) (s:ByteArray) (e b l:Value) (line:Int):Obj:=.cells #[.int .i64 k,.string s,e,b,l,.int .i64 line] 108
abbrev exO (a:Int) (b:ByteArray) (c:Int) (d:Value) (e:Int):Obj:=.cells #[.int .i64 a,.string b,.int .i64 c,d,.int .i64 e] 45
theorem ze3 (r g o cap F:Nat) (ts:List Tk) (w:World) (R:PR St) (h:zg r g o cap ts w) (hE:zi ts) (hp:VF F ts 0=some R)
  (hex:∀y o1 D ts1 r1,zf F 1 ts1=some r1→zi ts1→zg r g o1 D ts1 y→zd r w y→Calls Tryz.prog 44 #[.pointer (some ⟨r,0,none⟩)] y (zJ r g y r1))
  (hbl:∀y o1 D ts1 r1,zH F ts1=some r1→zi ts1→zg r g o1 D ts1 y→zd r w y→Calls Tryz.prog 100 #[.pointer (some ⟨r,0,none⟩)] y (X5 r g y r1)) :
  Calls Tryz.prog 167 #[.pointer (some ⟨r,0,none⟩)] w (ZH r g w R):=by
 obtain ⟨t0,aF,rfl⟩:=hE.cons;have hr:=h.lt.1;have aS:=h.lt.2
 unfold VF at hp
 obtain ⟨w0,Y⟩:∃w0,w0=w.alloc xw:=⟨_,rfl⟩;have h0:zg r g o cap (t0::aF) w0:=by rw [Y];exact h.alloc _
 have k0:zd r w w0:=by rw [Y];exact (zd.refl r w).alloc _
 have b0:w0.heap[w.heap.size]?=some xw:=by rw [Y];exact World.alloc_heap_new _ _
 have aX:w0.heap.size=w.heap.size+1:=by rw [Y];simp
 have aP:Hid (w0=w.alloc xw):=Y;have aT:Hid (∀y o1 D ts1 r1,zH F ts1=some r1→zi ts1→zg r g o1 D ts1 y→zd r w y→Calls Tryz.prog 100 #[.pointer (some ⟨r,0,none⟩)] y (X5 r g y r1)):=hbl;cases hb1:zf F 1 (t0::aF) with
 | none=>rw [hb1] at hp;cases hp
 | some r1 =>
  have ce:=hex w0 o cap (t0::aF) r1 hb1 hE h0 k0;rw [hb1] at hp;clear hex hbl h h0 Y
  go_enter Tryz.func167,Tryz.ntmps167
  go_wp2_with fail
  rw [←aP.out];refine ce.mono ?_;clear ce aP;rintro e y ⟨ah,z⟩;rcases r1 with a | ⟨x,us⟩
  ·obtain rfl:=z
   simp only [zh,Option.some.injEq] at hp;subst hp;exact ⟨rfl,k0.trans ah,rfl⟩
  ·obtain ⟨v,o1,D,rfl,hx,aU⟩:=z
   obtain ⟨xa,xb,xc,x0,x1,x2,xl,rfl⟩:=hx.agg;have aM:=(Zi F).1 _ _ _ _ hb1 hE;simp only [zh] at hp;cases hb2:zH F us with
   | none=>rw [hb2] at hp;cases hp
   | some r2 =>
    rw [hb2] at hp;have aZ:=ah.size;obtain ⟨P,hP⟩:∃P,P=y.heap.size+1:=⟨_,rfl⟩;obtain ⟨w2,O⟩:∃w2,w2=(y.alloc (exO xa xb xc (.slice x0 x1 x2) xl)).alloc (XC 3 ⟨#[]⟩ (.slice (some ⟨y.heap.size,0,none⟩) 1 1) (.slice none 0 0) (.slice none 0 0) 0):=⟨_,rfl⟩;have aW:w2.heap.size=P+1:=by rw [O,hP];simp
    have aR:w2.heap[P]?=some (XC 3 ⟨#[]⟩ (.slice (some ⟨y.heap.size,0,none⟩) 1 1) (.slice none 0 0) (.slice none 0 0) 0):=by
     rw [O,hP]
     have:=World.alloc_heap_new (y.alloc (exO xa xb xc (.slice x0 x1 x2) xl)) (XC 3 ⟨#[]⟩ (.slice (some ⟨y.heap.size,0,none⟩) 1 1) (.slice none 0 0) (.slice none 0 0) 0)
     simpa using this
    have aI:zd r w w2:=by rw [O];exact ((k0.trans ah).alloc _).alloc _
    have b2:w2.heap[w.heap.size]?=some xw:=by
     rw [O,Below.heap_alloc _ _ _ (by simp;omega),Below.heap_alloc _ _ _ (by omega)]
     exact (ah.block _ (by omega) (by omega)).trans b0
    obtain ⟨t1,aY,rfl⟩:=aM.cons;have aB:zg r g o1 D (t1::aY) w2:=by rw [O];exact (aU.alloc _).alloc _
    have aa:=zK.one (S:=fun k=>w0.heap.size≤k) 45 (c:=[.int .i64 xa,.string xb,.int .i64 xc,.slice x0 x1 x2,.int .i64 xl]) hx rfl (by omega)
    have ab:zK (fun k=>w0.heap.size≤k∧k<P) w2 [x] (.slice (some ⟨y.heap.size,0,none⟩) 1 1):=by
     have h9:=aa.lower;have e9:(y.alloc (.cells [Value.int .i64 xa,.string xb,.int .i64 xc,.slice x0 x1 x2,.int .i64 xl].toArray 45)).heap.size=P:=by rw [hP];simp
     rw [e9] at h9;rw [O];exact h9.kept (by simp) fun k hk _=>Below.heap_alloc _ _ _ (by rw [e9];exact hk.2)
    have cb:=aT.out w2 o1 D (t1::aY) r2 hb2 aM aB aI;have a0:Hid (w2=(y.alloc (exO xa xb xc (.slice x0 x1 x2) xl)).alloc (XC 3 ⟨#[]⟩ (.slice (some ⟨y.heap.size,0,none⟩) 1 1) (.slice none 0 0) (.slice none 0 0) 0)):=O;have ao:Hid (zK (fun k=>w0.heap.size≤k∧k<P) w2 [x] (.slice (some ⟨y.heap.size,0,none⟩) 1 1)):=ab
    have HB:Hid (w2.heap[w.heap.size]?=some xw∧w2.heap[P]?=some (XC 3 ⟨#[]⟩ (.slice (some ⟨y.heap.size,0,none⟩) 1 1) (.slice none 0 0) (.slice none 0 0) 0)):=⟨b2,aR⟩;have aE:Hid (zd r w w2):=aI;have HS:Hid (w0.heap.size=w.heap.size+1∧y.heap.size+1=P∧w2.heap.size=P+1∧w0.heap.size≤y.heap.size):=⟨aX,hP.symm,aW,aZ⟩;have a3:Hid (y.heap.size+1=P):=hP.symm;clear O aa ab aR b2 b0 k0 ah hx aU aB aI aW aZ aX hP;go_wp2_with fail
    rw [←a0.out];refine cb.mono ?_;clear cb a0;rintro e w3 ⟨U,z⟩;rcases r2 with a | ⟨bl,bb⟩
    ·obtain rfl:=z
     simp only [Option.some.injEq] at hp;subst hp;exact ⟨rfl,aE.out.trans U,rfl⟩
    ·obtain ⟨vb,o3,Q,rfl,aK,ar⟩:=z
     simp only at hp;obtain ⟨G,c1,c2,rfl⟩:=aK.slice;have al:=(vI F).2.1 _ _ _ hb2 aM;obtain ⟨t2,T,rfl⟩:=al.cons;have hS:=HS.out;have a8:=U.size;have b3:=(U.block w.heap.size (by omega) (by omega)).trans HB.out.1
     have p3:=(U.block P (by omega) (by omega)).trans HB.out.2
     obtain ⟨g0,g1,g2,g3,g4,g5,gf⟩:=zM p3;have a1:=gf 3;obtain ⟨w4,J⟩:∃w4,w4=w3.setCell ⟨P,3,none⟩ (.slice G c1 c2):=⟨_,rfl⟩;have p4:w4.heap[P]?=some (XC 3 ⟨#[]⟩ (.slice (some ⟨y.heap.size,0,none⟩) 1 1) (.slice G c1 c2) (.slice none 0 0) 0):=by rw [J];exact zq _ p3
     have b4:w4.heap[w.heap.size]?=some xw:=by rw [J,Below.heap_setCell _ _ _ _ (by simp;omega)];exact b3
     have Z:w4.heap.size=w3.heap.size:=by rw [J];simp
     have aA:zg r g o3 Q (t2::T) w4:=by rw [J];exact ar.setP _ (by omega) (by omega)
     have k4:zd r w w4:=by rw [J];exact (aE.out.trans U).setOther (by simp;omega) _
     have ai:zK (fun k=>w0.heap.size≤k∧k<P) w4 [x] (.slice (some ⟨y.heap.size,0,none⟩) 1 1):=by rw [J];exact (ao.out.keptR U fun k hk=>by omega).setP _ fun k hk=>by omega
     have au:z8 (fun k=>w2.heap.size≤k) w4 bl (.slice G c1 c2):=by rw [J];exact aK.setP _ fun k hk=>by omega
     have cs:=Zx r g o3 Q t2 T [101,108,115,101] w4 aA (fun hi=>(al.tail (zj hi)).ne)
     have W:Hid (w4.heap[w.heap.size]?=some xw∧w4.heap[P]?=some (XC 3 ⟨#[]⟩ (.slice (some ⟨y.heap.size,0,none⟩) 1 1) (.slice G c1 c2) (.slice none 0 0) 0)):=⟨b4,p4⟩;have am:Hid (zd r w w4):=k4;have I:Hid (zK (fun k=>w0.heap.size≤k∧k<P) w4 [x] (.slice (some ⟨y.heap.size,0,none⟩) 1 1)):=ai
     have V:Hid (z8 (fun k=>w2.heap.size≤k) w4 bl (.slice G c1 c2)):=au
     have ak:Hid (w2.heap.size≤w4.heap.size):=show _≤_ by omega
     have aC:=J.symm;have a7:=al;simp only [zE,List.tail_cons] at hp;rw [a3.out];clear J p4 b4 Z aA k4 ai au aK ar b3 p3 gf g0 g1 g2 g4 g5 U a8 hS HB ao aE al
     by_cases hi:zm t2 [101,108,115,101]=true
     ·rw [hi] at cs
      rw [if_pos hi] at hp;have a4:=a7.tail (zj hi);cases hb3:zH F T with
      | none=>rw [hb3] at hp;cases hp
      | some r3 =>
       rw [hb3] at hp;go_wp2_with fail
       refine cs.mono ?_;clear cs aC g3 a1;rintro e w5 ⟨rfl,A,h5⟩;have hS:=HS.out;have Z:=ak.out;have aH:=A.size;have af:zg r g (o3+5) (Q-1) T w5:=by simpa using h5
       have b5:=(A.block w.heap.size (by omega) (by omega)).trans W.out.1
       have p5:=(A.block P (by omega) (by omega)).trans W.out.2
       obtain ⟨g0,-,-,-,-,-,gf⟩:=zM p5;have a2:=gf 0;obtain ⟨w6,L⟩:∃w6,w6=w5.setCell ⟨P,0,none⟩ (.int .i64 4):=⟨_,rfl⟩;have p6:w6.heap[P]?=some (XC 4 ⟨#[]⟩ (.slice (some ⟨y.heap.size,0,none⟩) 1 1) (.slice G c1 c2) (.slice none 0 0) 0):=by rw [L];exact zq _ p5
       have b6:w6.heap[w.heap.size]?=some xw:=by rw [L,Below.heap_setCell _ _ _ _ (by simp;omega)];exact b5
       have aJ:w6.heap.size=w5.heap.size:=by rw [L];simp
       have ax:zg r g (o3+5) (Q-1) T w6:=by rw [L];exact af.setP _ (by omega) (by omega)
       have k6:zd r w w6:=by rw [L];exact (am.out.trans A).setOther (by simp;omega) _
       have ad:zK (fun k=>w0.heap.size≤k∧k<P) w6 [x] (.slice (some ⟨y.heap.size,0,none⟩) 1 1):=by rw [L];exact (I.out.keptR A fun k hk=>by omega).setP _ fun k hk=>by omega
       have av:z8 (fun k=>w2.heap.size≤k) w6 bl (.slice G c1 c2):=by rw [L];exact (V.out.keptR A fun k hk=>by omega).setP _ fun k hk=>by omega
       have cb:=aT.out w6 _ _ T r3 hb3 a4 ax k6;have aG:Hid (w6.heap[w.heap.size]?=some xw∧w6.heap[P]?=some (XC 4 ⟨#[]⟩ (.slice (some ⟨y.heap.size,0,none⟩) 1 1) (.slice G c1 c2) (.slice none 0 0) 0)):=⟨b6,p6⟩;have aL:Hid (zd r w w6):=k6;have ae:Hid (zK (fun k=>w0.heap.size≤k∧k<P) w6 [x] (.slice (some ⟨y.heap.size,0,none⟩) 1 1)):=ad
       have ay:Hid (z8 (fun k=>w2.heap.size≤k) w6 bl (.slice G c1 c2)):=av
       have aQ:Hid (w2.heap.size≤w6.heap.size):=show _≤_ by omega
       have aN:=L.symm;clear L p6 b6 aJ ax k6 ad av b5 p5 gf A aH hS Z h5 af W I V am ak;go_wp2_with fail
       refine cb.mono ?_;clear cb aN g0 a2;rintro e w7 ⟨N,z⟩;rcases r3 with a | ⟨cl,aO⟩
       ·obtain rfl:=z
        simp only [Option.some.injEq] at hp;subst hp;exact ⟨rfl,aL.out.trans N,rfl⟩
       ·obtain ⟨vl,o7,aV,rfl,aD,aq⟩:=z
        simp only [Option.some.injEq] at hp;subst hp;obtain ⟨d0,d1,d2,rfl⟩:=aD.slice;have hS:=HS.out;have aJ:=aQ.out;have a6:=N.size;have b7:=(N.block w.heap.size (by omega) (by omega)).trans aG.out.1
        have p7:=(N.block P (by omega) (by omega)).trans aG.out.2
        obtain ⟨-,-,-,-,g4,-,gf⟩:=zM p7;have ba:=gf 4;obtain ⟨w8,H⟩:∃w8,w8=w7.setCell ⟨P,4,none⟩ (.slice d0 d1 d2):=⟨_,rfl⟩;have p8:w8.heap[P]?=some (XC 4 ⟨#[]⟩ (.slice (some ⟨y.heap.size,0,none⟩) 1 1) (.slice G c1 c2) (.slice d0 d1 d2) 0):=by rw [H];exact zq _ p7
        have b8:w8.heap[w.heap.size]?=some xw:=by rw [H,Below.heap_setCell _ _ _ _ (by simp;omega)];exact b7
        have an:zg r g o7 aV aO w8:=by rw [H];exact aq.setP _ (by omega) (by omega)
        have k8:zd r w w8:=by rw [H];exact (aL.out.trans N).setOther (by simp;omega) _
        have aj:zK (fun k=>w0.heap.size≤k) w8 [x] (.slice (some ⟨y.heap.size,0,none⟩) 1 1):=by rw [H];exact ((ae.out.keptR N fun k hk=>by omega).setP _ fun k hk=>by omega).wide fun k hk=>hk.1
        have aw:z8 (fun k=>w0.heap.size≤k) w8 bl (.slice G c1 c2):=by rw [H];exact ((ay.out.keptR N fun k hk=>by omega).setP _ fun k hk=>by omega).wide fun k hk=>by omega
        have az:z8 (fun k=>w0.heap.size≤k) w8 cl (.slice d0 d1 d2):=by rw [H];exact (aD.setP _ fun k hk=>by omega).wide fun k hk=>by omega
        obtain ⟨e0,e1,e2,e3,e4,e5,-⟩:=zM p8;obtain ⟨q0,q1,q2,q3,q4,q5,qf⟩:=zM b8;obtain ⟨z0,z1,z2,z3,z4,z5,-⟩:=zM (Zu b8 (.int .i64 4) (.string ⟨#[]⟩) (.slice (some ⟨y.heap.size,0,none⟩) 1 1) (.slice G c1 c2) (.slice d0 d1 d2) (.int .i64 0))
        have HP:Hid (ZH r g w (.ok (.mk 4 [] [x] bl cl 0,aO)) (.returned (.agg #[.int .i64 4,.string ⟨#[]⟩,.slice (some ⟨y.heap.size,0,none⟩) 1 1,.slice G c1 c2,.slice d0 d1 d2,.int .i64 0])) (XB w8 w.heap.size (.int .i64 4) (.string ⟨#[]⟩) (.slice (some ⟨y.heap.size,0,none⟩) 1 1) (.slice G c1 c2) (.slice d0 d1 d2) (.int .i64 0))) :=
         ZH.of_set6 (B:=w0.heap.size) 4 [] 0 k8 (Nat.le_refl _) hr aS aj aw az (by omega) an
        have a9:=H.symm;clear H p8 b8 an k8 aj aw az b7 p7 gf N a6 hS aJ aD aq aG ae ay aL aQ;go_wp2
        exact bodyPost_ret (v:=.agg #[.int .i64 4,.string ⟨#[]⟩,.slice (some ⟨y.heap.size,0,none⟩) 1 1,.slice G c1 c2,.slice d0 d1 d2,.int .i64 0]) (by simp [results,Tryz.results167,go_sem,z0,z1,z2,z3,z4,z5]) rfl HP.out
     ·have a5:zm t2 [101,108,115,101]=false:=by simpa using hi
      rw [a5] at cs;rw [if_neg hi] at hp;simp only [Option.some.injEq] at hp;subst hp;go_wp2_with fail
      refine cs.mono ?_;clear cs aC g3 a1;rintro e w5 ⟨rfl,A,h5⟩;have hS:=HS.out;have Z:=ak.out;have aH:=A.size;have af:zg r g o3 Q (t2::T) w5:=by simpa using h5
      have b5:=(A.block w.heap.size (by omega) (by omega)).trans W.out.1
      have p5:=(A.block P (by omega) (by omega)).trans W.out.2
      have k5:zd r w w5:=am.out.trans A;have ag:zK (fun k=>w0.heap.size≤k) w5 [x] (.slice (some ⟨y.heap.size,0,none⟩) 1 1):=(I.out.keptR A fun k hk=>by omega).wide fun k hk=>hk.1
      have ap:z8 (fun k=>w0.heap.size≤k) w5 bl (.slice G c1 c2):=(V.out.keptR A fun k hk=>by omega).wide fun k hk=>by omega
      obtain ⟨e0,e1,e2,e3,e4,e5,-⟩:=zM p5;obtain ⟨q0,q1,q2,q3,q4,q5,qf⟩:=zM b5;obtain ⟨z0,z1,z2,z3,z4,z5,-⟩:=zM (Zu b5 (.int .i64 3) (.string ⟨#[]⟩) (.slice (some ⟨y.heap.size,0,none⟩) 1 1) (.slice G c1 c2) (.slice none 0 0) (.int .i64 0))
      have HP:Hid (ZH r g w (.ok (.mk 3 [] [x] bl [] 0,t2::T)) (.returned (.agg #[.int .i64 3,.string ⟨#[]⟩,.slice (some ⟨y.heap.size,0,none⟩) 1 1,.slice G c1 c2,.slice none 0 0,.int .i64 0])) (XB w5 w.heap.size (.int .i64 3) (.string ⟨#[]⟩) (.slice (some ⟨y.heap.size,0,none⟩) 1 1) (.slice G c1 c2) (.slice none 0 0) (.int .i64 0))) :=
       ZH.of_set6 (B:=w0.heap.size) 3 [] 0 k5 (Nat.le_refl _) hr aS ag ap (z8.nil _ _) (by omega) af
      clear b5 p5 k5 ag ap A aH hS Z h5 af W I V am ak;go_wp2
      exact bodyPost_ret (v:=.agg #[.int .i64 3,.string ⟨#[]⟩,.slice (some ⟨y.heap.size,0,none⟩) 1 1,.slice G c1 c2,.slice none 0 0,.int .i64 0]) (by simp [results,Tryz.results167,go_sem,z0,z1,z2,z3,z4,z5]) rfl HP.out
def yK {α:Type} (E:(Nat→Prop)→World→α→List Value→Prop) (sz ty B:Nat) (w:World) (l:List α) (v:Value):Prop :=
 (l=[]∧v=.slice none 0 0)∨∃g cap us,Zj E sz ty B w l v g cap us
theorem yK.nil {α:Type} (E:(Nat→Prop)→World→α→List Value→Prop) (sz ty B:Nat) (w:World):yK E sz ty B w [] (.slice none 0 0):=.inl ⟨rfl,rfl⟩
theorem yK.kept {α:Type} {E:(Nat→Prop)→World→α→List Value→Prop} (L:yd E) {sz ty B:Nat} {w w':World} {l:List α} {v:Value} (h:yK E sz ty B w l v) (hs:w.heap.size≤w'.heap.size) (hb:∀k,B≤k→k<w.heap.size→w'.heap[k]?=w.heap[k]?):yK E sz ty B w' l v:=by
 rcases h with h | ⟨g,o,y,h⟩
 ·exact .inl h
 ·exact .inr ⟨g,o,y,h.kept L hs hb⟩
theorem yK.slice {α:Type} {E:(Nat→Prop)→World→α→List Value→Prop} {sz ty B:Nat} {w:World} {l:List α} {v:Value} (h:yK E sz ty B w l v):∃b c,v=.slice b l.length c:=by
 rcases h with ⟨rfl,rfl⟩ | ⟨g,o,y,h⟩
 ·exact ⟨none,0,rfl⟩
 ·exact ⟨_,_,h.val⟩
theorem yK.block {α:Type} {E:(Nat→Prop)→World→α→List Value→Prop} {sz ty B:Nat} {w:World} {l:List α} {v:Value} (h:yK E sz ty B w l v):∀q,v.ownBlock=some q→B≤q∧q<w.heap.size:=by
 intro q o;rcases h with ⟨rfl,rfl⟩ | ⟨g,y,z,h⟩
 ·simp [Value.ownBlock] at o
 ·rw [h.val] at o
  have e:g=q:=by simpa [Value.ownBlock] using o
  subst e;exact ⟨h.block.1,h.block.2.1⟩
theorem yK.more {α:Type} {E:(Nat→Prop)→World→α→List Value→Prop} (L:yd E) {sz ty B:Nat} {w:World} {l:List α} {v:Value} (h:yK E sz ty B w l v):∃H:List (List Value),w.ownsRow B ty sz v l.length H.flatten ∧
  ∀{w':World} {v':Value} {x:α} {c:List Value} {ob:Obj} {N:Nat},E (fun k=>N≤k) w x c→B≤N→(∀q,v.ownBlock=some q→q<N)→c.length=sz→w'.ownsRow B ty sz v' (l.length+1) (H.flatten++c)→(w.alloc ob).grownBy w' v.ownBlock→(v'.ownBlock=v.ownBlock∨v'.ownBlock=some (w.alloc ob).heap.size)→yK E sz ty B w' (l++[x]) v':=by
 rcases h with ⟨rfl,rfl⟩ | ⟨g,V,H,h⟩
 ·refine ⟨[],World.ownsRow_nil _ _ _ _,?_⟩
  intro w' v' x c ob N J Q _ O A G I;simp only [List.flatten_nil,List.nil_append,List.length_nil,Nat.zero_add] at A
  obtain ⟨g',o,D,T⟩:∃g' o,v'=.slice (some ⟨g',0,none⟩) 1 o∧B≤g':=by
   rcases A.2 with ⟨_,h0⟩ | ⟨g',o,_,Y,W,_⟩
   ·omega
   ·exact ⟨g',o,Y,W⟩
  have R:g'=w.heap.size+1:=by
   rw [D] at I
   simpa [Value.ownBlock] using I
  have hs:w.heap.size≤w'.heap.size:=by have:=G.size;simp at this;omega
  have z:∀k,k<w.heap.size→w'.heap[k]?=w.heap[k]?:=fun k hlt=>(G.block k (by simp;omega) (by simp [Value.ownBlock])).trans (Below.heap_alloc _ _ _ hlt)
  refine .inr ⟨g',o,[c],⟨D,by simp,by simpa using A,rfl,by simpa using O,fun j y d hy hd=>?_⟩⟩
  cases j with
  | succ j=>simp at hy
  | zero =>
   simp only [List.nil_append,List.getElem?_cons_zero,Option.some.injEq] at hy hd;subst hy hd;exact L.wide (L.kept (L.low J) hs fun k hk _=>z k hk.2) fun k hk=>⟨by omega,by omega⟩
 ·refine ⟨H,h.own,?_⟩
  intro w' v' x c ob N J Q Z O A G I;have aa:g<N:=Z g (by rw [h.val];rfl)
  obtain ⟨g',o,U,-⟩:=h.snoc L (x:=x) (c:=c) (ob:=ob) (L.wide J fun k hk=>⟨by omega,by omega⟩) O A G I
  exact .inr ⟨g',o,_,U⟩
theorem yK.sts {ty B:Nat} {w:World} {l:List St} {v:Value} (h:yK StE 6 ty B w l v):z8 (fun k=>B≤k) w l v:=by
 rcases h with ⟨rfl,rfl⟩ | ⟨g,o,y,h⟩
 ·exact z8.nil _ _
 ·exact h.sts
theorem zK.slice {S:Nat→Prop} {w:World} {l:List Ex} {v:Value} (h:zK S w l v):∃d0 d1 d2,v=.slice d0 d1 d2:=by
 rcases h with ⟨_,rfl⟩ | ⟨g,o,y,rfl,_⟩
 ·exact ⟨_,_,_,rfl⟩
 ·exact ⟨_,_,_,rfl⟩
theorem yv.agg {S:Nat→Prop} {w:World} {x:St} {v:Value} (h:yv S w x v):∃(a:Int) (b:ByteArray) (A:Option Addr) (o J:Nat) (z:Option Addr) (D I:Nat) (H:Option Addr) (G y:Nat) (c:Int),v=.agg #[.int .i64 a,.string b,.slice A o J,.slice z D I,.slice H G y,.int .i64 c]:=by
 cases h with
 | mk k s es body els line ve vb vl gb cb gl cl ub ul he hb hbk hl hlk =>
  obtain ⟨A,o,J,rfl⟩:=he.slice;obtain ⟨z,D,I,rfl⟩:=z8.slice (S:=S) (w:=w) (l:=body) (v:=vb) ⟨gb,cb,ub,hb,hbk⟩;obtain ⟨H,G,y,rfl⟩:=z8.slice (S:=S) (w:=w) (l:=els) (v:=vl) ⟨gl,cl,ul,hl,hlk⟩;exact ⟨_,_,_,_,_,_,_,_,_,_,_,_,rfl⟩
theorem zdL:(Tryz.prog.info? 108).map (fun i=>(i.zero,i.size,i.bytes))=some (some (.agg #[.int .i64 0,.string ⟨#[]⟩,.slice none 0 0,.slice none 0 0,.slice none 0 0,.int .i64 0]),6,104):=by kernel_rfl
theorem zaX {f k:Nat} {ts:List Tk} {r:PR St} (h:Ze f ts=some r):Ze (f+k) ts=some r:=by
 induction k with
 | zero=>exact h
 | succ k ih=>exact (Xh (f+k)).1 _ _ ih
theorem zdM {f:Nat} {ts us:List Tk} {x:St} (h:Ze f ts=some (.ok (x,us))) (hE:zi ts):us.length<ts.length:=by
 obtain ⟨y,A,o,z⟩:=(UC ts.length ts (Nat.le_refl _) hE).1;have a:=zaX (k:=y) h;have b:=o f;rw [Nat.add_comm] at a;have e:=Option.some.inj (a.symm.trans b)
 have:=(z x us e.symm).1
 have:=hE.pos
 omega
theorem zgw (r g o cap F:Nat) (ts:List Tk) (w:World) (res:PR (List St)) (h:zg r g o cap ts w) (hE:zi ts) (hp:zH (F+1) ts=some res)
  (hone:∀Q o1 cap1 ts1 r1,Ze F ts1=some r1→zi ts1→zg r g o1 cap1 ts1 Q→zd r w Q→Calls Tryz.prog 136 #[.pointer (some ⟨r,0,none⟩)] Q (ZH r g Q r1)) :
  Calls Tryz.prog 100 #[.pointer (some ⟨r,0,none⟩)] w (X5 r g w res):=by
 obtain ⟨i0,aT,aK,aP,aR⟩:=info_parts zdL;have hN:=h.few;obtain ⟨t0,O,rfl⟩:=hE.cons;have hr:=h.lt.1;have aX:=h.lt.2;rw [zH] at hp
 unfold zR at hp
 simp only [zE,List.tail_cons] at hp;have cn:=yJ r g o cap t0 O [123] w h (fun hi=>(hE.tail (zj hi)).ne)
 have au:Hid (∀Q o1 cap1 ts1 r1,Ze F ts1=some r1→zi ts1→zg r g o1 cap1 ts1 Q→zd r w Q→Calls Tryz.prog 136 #[.pointer (some ⟨r,0,none⟩)] Q (ZH r g Q r1)):=hone;clear h hone
 by_cases hi:zm t0 [123]=true
 ·simp only [if_pos hi] at cn
  rw [if_pos hi] at hp;simp only [zh] at hp;have aB:=hE.tail (zj hi)
  go_enter Tryz.func100,Tryz.ntmps100
  go_wp2_with fail
  refine cn.mono ?_;clear cn;rintro e Q ⟨ae,rfl,h1⟩;have aF:Hid (zg r g (o+5) (cap-1) O Q):=h1;have ay:Hid (zd r w Q):=ae;have HP:Hid (Zd F [] O=some res):=hp;have aA:Hid (zi O):=aB;have hn:O.length≤1099511627776:=by simp only [List.length_cons] at hN;omega
  clear h1 ae hp aB hE hN;go_wp2_with fail
  go_loopw [3] (fun v wr=>∃(L:List St) (o2 D:Nat) (U:List Tk) (f2:Nat),f2≤F∧Zd f2 L U=some res∧zi U∧L.length+U.length≤1099511627776∧yK StE 6 108 w.heap.size wr L v∧zg r g o2 D U wr∧zd r w wr) (fun _ wr=>ZP r wr)
  case atStart=>exact ⟨[],_,_,O,F,Nat.le_refl _,HP.out,aA.out,by simpa using hn,yK.nil _ _ _ _ _,aF.out,ay.out⟩
  case round =>
   obtain ⟨L,o2,D,U,f2,aW,G,V,aj,I,J,ao⟩:=hrel;clear HP aF ay aA hn;obtain ⟨t2,H,rfl⟩:=V.cons;have cs:=Zx r g o2 D t2 H [125] wr J (fun hi=>(V.tail (zj hi)).ne)
   have ar:=J.left;have ah:Hid (yK StE 6 108 w.heap.size wr L _):=I;have ax:Hid (zd r w wr):=ao;obtain ⟨lb,lc,aD⟩:=I.slice;subst aD;cases f2 with
   | zero=>simp [Zd] at G
   | succ f3 =>
   rw [Zd] at G;simp only [zE,List.tail_cons] at G
   by_cases hj:zm t2 [125]=true
   ·rw [hj] at cs
    rw [if_pos hj] at G;clear I ao J V;go_wp2_with fail
    refine cs.mono ?_;clear cs;rintro e w3 ⟨rfl,z,h3⟩;have ab:Hid (zd r w w3):=ax.out.trans z;have y:Hid (z8 (fun k=>w.heap.size≤k) w3 L (.slice lb L.length lc)):=(ah.out.kept Uc z.size fun k hB hlt=>z.block k hlt (by omega)).sts
    have aN:Hid (zg r g (o2+5) (D-1) H w3):=show zg _ _ _ _ _ _ by simpa using h3
    simp only [Option.some.injEq] at G;subst G;clear z h3;go_wp2
    refine bodyPost_ret (v:=.slice lb L.length lc) (by simp [results,Tryz.results100,go_sem]) rfl ⟨ab.out,_,_,_,rfl,y.out,aN.out⟩
   ·have aL:zm t2 [125]=false:=by simpa using hj
    rw [aL] at cs;rw [if_neg hj] at G;cases hb3:Ze f3 (t2::H) with
    | none=>rw [hb3] at G;cases G
    | some r3 =>
     rw [hb3] at G;simp only [zh] at G
     have al:Ze F (t2::H)=some r3:=by
      have:=zaX (k:=F-f3) hb3
      rwa [show f3+(F-f3)=F by omega] at this
     have aq:Hid (zi (t2::H)):=V;clear I ao J V hb3;go_wp2_with fail
     refine cs.mono ?_;clear cs;rintro e w3 ⟨rfl,z,h3⟩;have aG:zg r g o2 D (t2::H) w3:=by simpa using h3
     have ap:zd r w w3:=ax.out.trans z;have Z:=ah.out.kept Uc z.size fun k hB hlt=>z.block k hlt (by omega)
     have c3:=au.out w3 _ _ (t2::H) r3 al aq.out aG ap;have y:Hid (yK StE 6 108 w.heap.size w3 L (.slice lb L.length lc)):=Z;have ab:Hid (zd r w w3):=ap;clear h3 aG ap z Z;go_wp2_with fail
     refine c3.mono ?_;clear c3;rintro e w4 ⟨ad,T⟩;have af:Hid (zd r w w4):=ab.out.trans ad;rcases r3 with a | ⟨x3,aa⟩
     ·obtain rfl:=T
      simp only [Option.some.injEq] at G;subst G;exact ⟨rfl,af.out,rfl⟩
     ·obtain ⟨v,o4,R,rfl,hx,av⟩:=T
      obtain ⟨qa,qb,e0,e1,e2,b0,b1,b2,l0,l1,l2,qc,rfl⟩:=hx.agg;have Y:=y.out.kept Uc ad.size fun k hB hlt=>ad.block k hlt (by omega)
      have aC:w.heap.size≤w3.heap.size:=ab.out.size;have aU:w.heap.size≤w4.heap.size:=af.out.size;obtain ⟨us,ai,W⟩:=Y.more Uc;have aS:Hid (StE (fun k=>w3.heap.size≤k) w4 x3 [.int .i64 qa,.string qb,.slice e0 e1 e2,.slice b0 b1 b2,.slice l0 l1 l2,.int .i64 qc]):=hx
      have aQ:Hid (∀q,(Value.slice lb L.length lc).ownBlock=some q→q<w3.heap.size):=fun q hq=>(y.out.block q hq).2
      have an:Hid (∀q,(Value.slice lb L.length lc).ownBlock=some q→w.heap.size≤q):=fun q hq=>(y.out.block q hq).1
      have aJ:Hid (∀{w':World} {v':Value} {x:St} {c:List Value} {ob:Obj} {N:Nat},StE (fun k=>N≤k) w4 x c→w.heap.size≤N→(∀q,(Value.slice lb L.length lc).ownBlock=some q→q<N)→c.length=6→w'.ownsRow w.heap.size 108 6 v' (L.length+1) (us.flatten++c)→(w4.alloc ob).grownBy w' (Value.slice lb L.length lc).ownBlock→(v'.ownBlock=(Value.slice lb L.length lc).ownBlock∨v'.ownBlock=some (w4.alloc ob).heap.size)→yK StE 6 108 w.heap.size w' (L++[x]) v'):=W
      have aH:Hid (zg r g o4 R aa w4):=av;have az:=(vI F).1 _ _ _ al aq.out;have aw:=zdM al aq.out;have aE:=(ai.alloc (.cells #[.int .i64 qa,.string qb,.slice e0 e1 e2,.slice b0 b1 b2,.slice l0 l1 l2,.int .i64 qc] 108));have HT:Hid (Zd f3 (L++[x3]) aa=some res):=G;have aI:Hid (zi aa):=az;clear Y hx av G ad ai W az
      go_wp2_with (at_builtin;refine wpList_append_own_at _ rfl _ _ 70 rfl w.heap.size 108 i0 _ 6 104 Tryz.underlying70 aT aK aP aR rfl (by decide) _ _ _ rfl aE ⟨w4.heap.size,0,none⟩ 1 1 [.int .i64 qa,.string qb,.slice e0 e1 e2,.slice b0 b1 b2,.slice l0 l1 l2,.int .i64 qc] rfl rfl (ZQ _ _ _) (by simp [Value.oneCell']) (by unfold maxLen;simp only [List.length_cons] at aj;omega) (by simp only [List.length_cons] at aj;omega) (by simp;omega) ?_;intro v' w5 ak A _ aM)
      have am:=aJ.out (ob:=.cells #[.int .i64 qa,.string qb,.slice e0 e1 e2,.slice b0 b1 b2,.slice l0 l1 l2,.int .i64 qc] 108) aS.out aC aQ.out rfl ak A aM
      have aO:zd r w w5:=(af.out.alloc _).grown A an.out;have aV:w.heap.size≤w4.heap.size:=af.out.size;have ag:zg r g o4 R aa w5:=aH.out.keep ((A.block r (by simp;omega) (fun e=>by have:=an.out r e.symm;omega)).trans (Below.heap_alloc _ _ _ (by omega))) ((A.block g (by simp;omega) (fun e=>by have:=an.out g e.symm;omega)).trans (Below.heap_alloc _ _ _ (by omega)))
      refine ⟨⟨L++[x3],o4,R,aa,f3,by omega,HT.out,aI.out,?_,am,ag,aO⟩,?_⟩
      ·simp only [List.length_append,List.length_cons,List.length_nil] at aj aw ⊢;omega
      ·rw [ag.left,ar];exact aw
 ·simp only [if_neg hi] at cn
  rw [if_neg hi] at hp;simp only [zh,Option.some.injEq] at hp;subst hp
  go_enter Tryz.func100,Tryz.ntmps100
  go_wp2_with fail
  refine cn.mono ?_;clear cn;rintro e Q ⟨ae,rfl⟩;exact ⟨rfl,ae,rfl⟩
end Go.Proofs.YtpejpbbdgblbeaaGreatDoor
