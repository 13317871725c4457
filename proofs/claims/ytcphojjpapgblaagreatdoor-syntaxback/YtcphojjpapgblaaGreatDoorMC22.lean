import Derived.Test.YtcphojjpapgblaaGreatDoorMC21
import Derived.Test.YtcphojjpapgblaaGreatDoorMC14
namespace Go.Proofs.YtcphojjpapgblaaGreatDoor
open Go.RowKit Go.Shelf
set_option maxHeartbeats 16000000
set_option maxRecDepth 100000
def yv {α:Type} (p:Nat→Option (PR α)) (n:Nat):Prop:=∃f r,(∀k,p (f+k)=some r)∧∀x us,r=.ok (x,us)→us.length≤n∧zi us
theorem Yc.toE {α:Type} {p:Nat→Option (PR α)} {n:Nat} (h:Yc p n) (hE:∀f x us,p f=some (.ok (x,us))→zi us):yv p n:=by
 obtain ⟨f,r,o,y⟩:=h;exact ⟨f,r,o,fun x us e=>⟨y x us e,hE (f+0) x us (by rw [o 0,e])⟩⟩
theorem yv.then {α β:Type} {p:Nat→Option (PR α)} {q:Nat→α→List Tk→Option (PR β)} {n m:Nat} (h:yv p n) (hq:∀x us,us.length≤n→zi us→yv (fun f=>q f x us) m):yv (fun f=>zh (p f) (q f)) m:=by
 obtain ⟨f,r,D,A⟩:=h;cases r with
 | error a=>exact ⟨f,.error a,fun k=>by simp [zh,D k],fun x us h=>by cases h⟩
 | ok y =>
  obtain ⟨g,s,G,H⟩:=hq y.1 y.2 (A _ _ rfl).1 (A _ _ rfl).2;refine ⟨f+g,s,fun k=>?_,H⟩
  have z:=D (g+k);have o:=G (f+k);rw [show f+(g+k)=f+g+k by omega] at z
  rw [show g+(f+k)=f+g+k by omega] at o
  simp only [zh,z];exact o
theorem ZH {α:Type} (x:α) (us:List Tk) {n:Nat} (h:us.length≤n) (hE:zi us):yv (fun _=>(some (.ok (x,us)):Option (PR α))) n:=⟨0,.ok (x,us),fun _=>rfl,fun y vs h'=>by cases h';exact ⟨h,hE⟩⟩
theorem XZ {α:Type} (a:Nat) (n:Nat):yv (fun _=>(some (.error a):Option (PR α))) n:=⟨0,.error a,fun _=>rfl,fun _ _ h=>by cases h⟩
theorem yj (s:List UInt8) (ts:List Tk) {n:Nat} (h:ts.length≤n+1) (hE:zi ts):yv (fun _=>zR s ts) n:=(YJ s ts h).toE fun _ _ _ h=>zZ h hE
theorem Vh (ts:List Tk) {n:Nat} (h:ts.length≤n+1) (hE:zi ts):yv (fun _=>Z6 ts) n:=(V8 ts h).toE fun _ _ _ h=>ZM h hE
theorem yv.step {α:Type} {p q:Nat→Option (PR α)} {n:Nat} (h:yv q n) (hp:∀f,p (f+1)=q f):yv p n:=by
 obtain ⟨f,r,o,y⟩:=h;exact ⟨f+1,r,fun k=>by rw [show f+1+k=f+k+1 by omega,hp];exact o k,y⟩
theorem yv.le {α:Type} {p:Nat→Option (PR α)} {n m:Nat} (h:yv p n) (hm:n≤m):yv p m:=by
 obtain ⟨f,r,y,o⟩:=h;exact ⟨f,r,y,fun x us h=>⟨Nat.le_trans (o x us h).1 hm,(o x us h).2⟩⟩
theorem YL (ts:List Tk) {n:Nat} (h:ts.length≤n) (hE:zi ts):yv (fun f=>zg f 1 ts) (n-1):=((XU n ts h).1 1).toE fun f _ _ h=>(Ze f).1 _ _ _ _ h hE
theorem zi.pos {ts:List Tk} (h:zi ts):0<ts.length:=by
 obtain ⟨t,o,rfl⟩:=h.cons
 simp
theorem UE (n:Nat):∀ts:List Tk,ts.length≤n→zi ts→yv (fun f=>Zg f ts) (n-1)∧yv (fun f=>zI f ts) (n-1)∧∀pre,yv (fun f=>Zh f pre ts) (n-1):=by
 induction n with
 | zero=>intro ts A o;have:=o.pos;omega
 | succ n ih =>
  intro ts A o;have G:yv (fun f=>zI f ts) n:=((yj [123] ts (n:=n) A o).then (q:=fun f _ us=>Zh f [] us) (m:=n) fun _ us hu hEu=>((ih us hu hEu).2.2 []).le (by omega)).step fun f=>by rw [zI]
  have D:yv (fun f=>Zg f ts) n:=by
   by_cases c1:zm (zu ts) [108,101,116]=true
   ·have y:=Zc c1
    have h:=zA o c1;refine ((Vh ts.tail (n:=n) (by omega) h).then (q:=fun f s us=>zh (zR [61] us) fun _ us=>zh (zg f 1 us) fun e us=>zh (zR [59] us) fun _ us=>some (.ok (St.mk 1 s [e] [] [] (zu ts).line,us))) (m:=n) fun s us hu hEu=>?_).step fun f=>by rw [Zg,if_pos c1]
    refine (yj [61] us (n:=n) (by omega) hEu).then (q:=fun f _ us=>zh (zg f 1 us) fun e us=>zh (zR [59] us) fun _ us=>some (.ok (St.mk 1 s [e] [] [] (zu ts).line,us))) fun _ us hu hEu=>?_
    refine (YL us hu hEu).then (q:=fun f e us=>zh (zR [59] us) fun _ us=>some (.ok (St.mk 1 s [e] [] [] (zu ts).line,us))) fun e us hu hEu=>?_
    exact (yj [59] us (n:=n) (by omega) hEu).then (q:=fun f _ us=>some (.ok (St.mk 1 s [e] [] [] (zu ts).line,us))) fun _ us hu hEu=>ZH _ _ hu hEu
   by_cases c2:zm (zu ts) [105,102]=true
   ·have y:=Zc c2
    have h:=zA o c2;refine ((YL ts.tail (n:=n) (by omega) h).then (q:=fun f e us=>zh (zI f us) fun b us=>if zm (zu us) [101,108,115,101]=true then zh (zI f us.tail) fun c us=>some (.ok (St.mk 4 [] [e] b c (zu ts).line,us)) else some (.ok (St.mk 3 [] [e] b [] (zu ts).line,us))) (m:=n) fun e us hu hEu=>?_).step fun f=>by rw [Zg,if_neg c1,if_pos c2]
    refine (ih us (by omega) hEu).2.1.then (q:=fun f b us=>if zm (zu us) [101,108,115,101]=true then zh (zI f us.tail) fun c us=>some (.ok (St.mk 4 [] [e] b c (zu ts).line,us)) else some (.ok (St.mk 3 [] [e] b [] (zu ts).line,us))) fun b us hu hEu=>?_
    by_cases d:zm (zu us) [101,108,115,101]=true
    ·have z:=Zc d
     simp only [if_pos d];exact (ih us.tail (by omega) (zA hEu d)).2.1.then (q:=fun f c us=>some (.ok (St.mk 4 [] [e] b c (zu ts).line,us))) fun c us hu hEu=>ZH _ _ (by omega) hEu
    ·simp only [if_neg d]
     exact ZH _ _ (by omega) hEu
   by_cases c3:zm (zu ts) [119,104,105,108,101]=true
   ·have y:=Zc c3
    have h:=zA o c3;refine ((YL ts.tail (n:=n) (by omega) h).then (q:=fun f e us=>zh (zI f us) fun b us=>some (.ok (St.mk 5 [] [e] b [] (zu ts).line,us))) (m:=n) fun e us hu hEu=>?_).step fun f=>by rw [Zg,if_neg c1,if_neg c2,if_pos c3]
    exact (ih us (by omega) hEu).2.1.then (q:=fun f b us=>some (.ok (St.mk 5 [] [e] b [] (zu ts).line,us))) fun b us hu hEu=>ZH _ _ (by omega) hEu
   by_cases c4:zm (zu ts) [114,101,116,117,114,110]=true
   ·have y:=Zc c4
    have h:=zA o c4
    by_cases d:zm (zu ts.tail) [59]=true
    ·have z:=Zc d
     exact (ZH (St.mk 6 [] [] [] [] (zu ts).line) ts.tail.tail (n:=n) (by omega) (zA h d)).step fun f=>by rw [Zg,if_neg c1,if_neg c2,if_neg c3,if_pos c4,if_pos d]
    ·refine ((YL ts.tail (n:=n) (by omega) h).then (q:=fun f e us=>zh (zR [59] us) fun _ us=>some (.ok (St.mk 6 [] [e] [] [] (zu ts).line,us))) (m:=n) fun e us hu hEu=>?_).step fun f=>by rw [Zg,if_neg c1,if_neg c2,if_neg c3,if_pos c4,if_neg d]
     exact (yj [59] us (n:=n) (by omega) hEu).then (q:=fun f _ us=>some (.ok (St.mk 6 [] [e] [] [] (zu ts).line,us))) fun _ us hu hEu=>ZH _ _ hu hEu
   ·refine ((YL ts (n:=n+1) A o).then (q:=fun f e us=>if zm (zu us) [61]=true then (if Ym e=true then zh (zg f 1 us.tail) fun e2 us=>zh (zR [59] us) fun _ us=>some (.ok (St.mk 2 [] [e,e2] [] [] (zu ts).line,us)) else some (.error (zu us).at0)) else zh (zR [59] us) fun _ us=>some (.ok (St.mk 7 [] [e] [] [] (zu ts).line,us))) (m:=n) fun e us hu hEu=>?_).step fun f=>by rw [Zg,if_neg c1,if_neg c2,if_neg c3,if_neg c4]
    by_cases d:zm (zu us) [61]=true
    ·have z:=Zc d
     simp only [if_pos d]
     by_cases d2:Ym e=true
     ·simp only [if_pos d2]
      refine (YL us.tail (n:=n) (by omega) (zA hEu d)).then (q:=fun f e2 us=>zh (zR [59] us) fun _ us=>some (.ok (St.mk 2 [] [e,e2] [] [] (zu ts).line,us))) fun e2 us hu hEu=>?_
      exact (yj [59] us (n:=n) (by omega) hEu).then (q:=fun f _ us=>some (.ok (St.mk 2 [] [e,e2] [] [] (zu ts).line,us))) fun _ us hu hEu=>ZH _ _ hu hEu
     ·simp only [if_neg d2]
      exact XZ _ _
    ·simp only [if_neg d]
     exact (yj [59] us (n:=n) (by omega) hEu).then (q:=fun f _ us=>some (.ok (St.mk 7 [] [e] [] [] (zu ts).line,us))) fun _ us hu hEu=>ZH _ _ hu hEu
  refine ⟨D,G,fun pre=>?_⟩
  by_cases c:zm (zu ts) [125]=true
  ·have y:=Zc c
   exact (ZH pre ts.tail (n:=n) (by omega) (zA o c)).step fun f=>by rw [Zh,if_pos c]
  ·exact (D.then (q:=fun f s us=>Zh f (pre++[s]) us) (m:=n) fun s us hu hEu=>((ih us hu hEu).2.2 _).le (by omega)).step fun f=>by rw [Zh,if_neg c]
theorem zX.kind_eq {S:Nat→Prop} {w:World} {x:Ex} {a:Int} {b c d e:Value} (h:zX S w x (.agg #[.int .i64 a,b,c,d,e])):a=(x.kind:Int):=by
 cases h <;> rfl
theorem za8 (a:Nat) (xb:ByteArray) (xc:Int) (x0:Option Addr) (x1 x2:Nat) (xl:Int) (w:World) :
  Calls Tryz.prog 187 #[.agg #[.int .i64 (a:Int),.string xb,.int .i64 xc,.slice x0 x1 x2,.int .i64 xl]] w fun e w'=>e=.returned (.bool (a==4||a==8||a==9))∧w'=w.alloc (.cells #[.int .i64 (a:Int),.string xb,.int .i64 xc,.slice x0 x1 x2,.int .i64 xl] 45):=by
 by_cases h4:a=4
 ·subst h4
  go_enter Tryz.func187,Tryz.ntmps187
  go_wp2
  go_ret
  exact ⟨rfl,rfl⟩
 ·have o:(a==4)=false:=by simpa using h4
  have A:((a:Int)==4)=false:=by rw [beq_eq_false_iff_ne];omega
  by_cases h8:a=8
  ·subst h8
   go_enter Tryz.func187,Tryz.ntmps187
   go_wp2
   go_ret
   exact ⟨rfl,rfl⟩
  ·have h:(a==8)=false:=by simpa using h8
   have D:((a:Int)==8)=false:=by rw [beq_eq_false_iff_ne];omega
   by_cases h9:a=9
   ·subst h9
    go_enter Tryz.func187,Tryz.ntmps187
    go_wp2
    go_ret
    exact ⟨rfl,rfl⟩
   ·have y:(a==9)=false:=by simpa using h9
    have z:((a:Int)==9)=false:=by rw [beq_eq_false_iff_ne];omega
    rw [o,h,y];clear h4 h8 h9 o h y
    go_enter Tryz.func187,Tryz.ntmps187
    go_wp2
    go_ret
    exact ⟨rfl,rfl⟩
theorem zK.keptR {S:Nat→Prop} {r:Nat} {w w':World} {l:List Ex} {v:Value} (h:zK S w l v) (hk:zc r w w') (hS:∀k,S k→k≠r):zK S w' l v:=h.kept hk.size fun k hs hlt=>hk.block k hlt (hS k hs)
theorem zK.setP {S:Nat→Prop} {P j:Nat} {w:World} {l:List Ex} {v:Value} (h:zK S w l v) (u:Value) (hS:∀k,S k→k≠P):zK S (w.setCell ⟨P,j,none⟩ u) l v:=h.kept (by simp) fun k hs _=>Below.heap_setCell _ _ _ _ (by simpa using hS k hs)
theorem z8.keptR {S:Nat→Prop} {r:Nat} {w w':World} {l:List St} {v:Value} (h:z8 S w l v) (hk:zc r w w') (hS:∀k,S k→k≠r):z8 S w' l v:=h.kept hk.size fun k hs hlt=>hk.block k hlt (hS k hs)
theorem z8.setP {S:Nat→Prop} {P j:Nat} {w:World} {l:List St} {v:Value} (h:z8 S w l v) (u:Value) (hS:∀k,S k→k≠P):z8 S (w.setCell ⟨P,j,none⟩ u) l v:=h.kept (by simp) fun k hs _=>Below.heap_setCell _ _ _ _ (by simpa using hS k hs)
theorem zf.setP {r g o cap P j:Nat} {ts:List Tk} {w:World} (h:zf r g o cap ts w) (u:Value) (hr:r≠P) (hg:g≠P):zf r g o cap ts (w.setCell ⟨P,j,none⟩ u):=h.keep (Below.heap_setCell _ _ _ _ (by simpa using hr)) (Below.heap_setCell _ _ _ _ (by simpa using hg))
def St.at:Nat→St→St
 | l,.mk k s es b e _=>.mk k s es b e l
def atL (l:Nat) (R:PR St):PR St:=match R with
 | .error a=>.error a
 | .ok (s,us)=>.ok (s.at l,us)
def VF (f:Nat) (ts:List Tk) (line:Nat):Option (PR St):=zh (zg f 1 ts) fun e us=>zh (zI f us) fun b us=>if zm (zu us) [101,108,115,101]=true then zh (zI f us.tail) fun c us=>some (.ok (.mk 4 [] [e] b c line,us)) else some (.ok (.mk 3 [] [e] b [] line,us))
theorem zch (f:Nat) (ts:List Tk) (line:Nat) {R:PR St} (h:VF f ts line=some R):∃R0,VF f ts 0=some R0∧atL line R0=R:=by
 unfold VF at h ⊢
 cases h1:zg f 1 ts with
 | none=>rw [h1] at h;cases h
 | some r1 =>
  rw [h1] at h;rcases r1 with a | ⟨e,y⟩
  ·simp only [zh,Option.some.injEq] at h ⊢
   exact ⟨_,rfl,h⟩
  ·simp only [zh] at h ⊢
   cases h2:zI f y with
   | none=>rw [h2] at h;cases h
   | some r2 =>
    rw [h2] at h;rcases r2 with a | ⟨b,o⟩
    ·simp only [Option.some.injEq] at h ⊢
     exact ⟨_,rfl,h⟩
    ·simp only at h ⊢
     by_cases hc:zm (zu o) [101,108,115,101]=true
     ·rw [if_pos hc] at h ⊢
      cases h3:zI f o.tail with
      | none=>rw [h3] at h;cases h
      | some r3 =>
       rw [h3] at h;rcases r3 with a | ⟨c,z⟩
       ·simp only [Option.some.injEq] at h ⊢
        exact ⟨_,rfl,h⟩
       ·simp only [Option.some.injEq] at h ⊢
        exact ⟨_,rfl,h⟩
     ·rw [if_neg hc] at h ⊢
      simp only [Option.some.injEq] at h ⊢;exact ⟨_,rfl,h⟩
def setP (f:Nat) (ts:List Tk) (line:Nat):Option (PR St):=zh (zg f 1 ts) fun e us=>if zm (zu us) [61]=true then (if Ym e=true then zh (zg f 1 us.tail) fun e2 us=>zh (zR [59] us) fun _ us=>some (.ok (.mk 2 [] [e,e2] [] [] line,us)) else some (.error (zu us).at0)) else zh (zR [59] us) fun _ us=>some (.ok (.mk 7 [] [e] [] [] line,us))
theorem zgN (f:Nat) (ts:List Tk) (line:Nat) {R:PR St} (h:setP f ts line=some R):∃R0,setP f ts 0=some R0∧atL line R0=R:=by
 unfold setP zR at h ⊢
 cases h1:zg f 1 ts with
 | none=>rw [h1] at h;cases h
 | some r1 =>
  rw [h1] at h;rcases r1 with a | ⟨e,o⟩
  ·simp only [zh,Option.some.injEq] at h ⊢
   exact ⟨_,rfl,h⟩
  ·simp only [zh] at h ⊢
   by_cases hc:zm (zu o) [61]=true
   ·rw [if_pos hc] at h ⊢
    by_cases hd:Ym e=true
    ·rw [if_pos hd] at h ⊢
     cases h2:zg f 1 o.tail with
     | none=>rw [h2] at h;cases h
     | some r2 =>
      rw [h2] at h;rcases r2 with a | ⟨z,y⟩
      ·simp only [Option.some.injEq] at h ⊢
       exact ⟨_,rfl,h⟩
      ·simp only at h ⊢
       by_cases he:zm (zu y) [59]=true
       ·simp only [if_pos he,Option.some.injEq] at h ⊢;exact ⟨_,rfl,h⟩
       ·simp only [if_neg he,Option.some.injEq] at h ⊢;exact ⟨_,rfl,h⟩
    ·rw [if_neg hd] at h ⊢
     simp only [Option.some.injEq] at h ⊢;exact ⟨_,rfl,h⟩
   ·rw [if_neg hc] at h ⊢
    by_cases he:zm (zu o) [59]=true
    ·simp only [if_pos he,Option.some.injEq] at h ⊢;exact ⟨_,rfl,h⟩
    ·simp only [if_neg he,Option.some.injEq] at h ⊢;exact ⟨_,rfl,h⟩
abbrev XB (k:Int) (s:ByteArray) (e b l:Value) (line:Int):Obj:=.cells #[.int .i64 k,.string s,e,b,l,.int .i64 line] 107
abbrev exO (a:Int) (b:ByteArray) (c:Int) (d:Value) (e:Int):Obj:=.cells #[.int .i64 a,.string b,.int .i64 c,d,.int .i64 e] 45
theorem zfh (r g o cap F:Nat) (ts:List Tk) (w:World) (R:PR St) (h:zf r g o cap ts w) (hE:zi ts) (hp:VF F ts 0=some R)
  (hex:∀y o1 D ts1 r1,zg F 1 ts1=some r1→zi ts1→zf r g o1 D ts1 y→zc r w y→Calls Tryz.prog 42 #[.pointer (some ⟨r,0,none⟩)] y (zJ r g y r1))
  (hbl:∀y o1 D ts1 r1,zI F ts1=some r1→zi ts1→zf r g o1 D ts1 y→zc r w y→Calls Tryz.prog 98 #[.pointer (some ⟨r,0,none⟩)] y (XY r g y r1)) :
  Calls Tryz.prog 165 #[.pointer (some ⟨r,0,none⟩)] w (ZF r g w R):=by
 obtain ⟨t0,aF,rfl⟩:=hE.cons;have hr:=h.lt.1;have aM:=h.lt.2
 unfold VF at hp
 obtain ⟨w0,W⟩:∃w0,w0=w.alloc xw:=⟨_,rfl⟩;have h0:zf r g o cap (t0::aF) w0:=by rw [W];exact h.alloc _
 have k0:zc r w w0:=by rw [W];exact (zc.refl r w).alloc _
 have b0:w0.heap[w.heap.size]?=some xw:=by rw [W];exact World.alloc_heap_new _ _
 have aW:w0.heap.size=w.heap.size+1:=by rw [W];simp
 have aU:Hid (w0=w.alloc xw):=W;have aO:Hid (∀y o1 D ts1 r1,zI F ts1=some r1→zi ts1→zf r g o1 D ts1 y→zc r w y→Calls Tryz.prog 98 #[.pointer (some ⟨r,0,none⟩)] y (XY r g y r1)):=hbl;cases hb1:zg F 1 (t0::aF) with
 | none=>rw [hb1] at hp;cases hp
 | some r1 =>
  have ce:=hex w0 o cap (t0::aF) r1 hb1 hE h0 k0;rw [hb1] at hp;clear hex hbl h h0 W
  go_enter Tryz.func165,Tryz.ntmps165
  go_wp2_with fail
  rw [←aU.out];refine ce.mono ?_;clear ce aU;rintro e y ⟨ah,z⟩;rcases r1 with a | ⟨x,us⟩
  ·obtain rfl:=z
   simp only [zh,Option.some.injEq] at hp;subst hp;exact ⟨rfl,k0.trans ah,rfl⟩
  ·obtain ⟨v,o1,D,rfl,hx,a0⟩:=z
   obtain ⟨xa,xb,xc,x0,x1,x2,xl,rfl⟩:=hx.agg;have aI:=(Ze F).1 _ _ _ _ hb1 hE;simp only [zh] at hp;cases hb2:zI F us with
   | none=>rw [hb2] at hp;cases hp
   | some r2 =>
    rw [hb2] at hp;have aP:=ah.size;obtain ⟨P,hP⟩:∃P,P=y.heap.size+1:=⟨_,rfl⟩;obtain ⟨w2,T⟩:∃w2,w2=(y.alloc (exO xa xb xc (.slice x0 x1 x2) xl)).alloc (XB 3 ⟨#[]⟩ (.slice (some ⟨y.heap.size,0,none⟩) 1 1) (.slice none 0 0) (.slice none 0 0) 0):=⟨_,rfl⟩;have aS:w2.heap.size=P+1:=by rw [T,hP];simp
    have aT:w2.heap[P]?=some (XB 3 ⟨#[]⟩ (.slice (some ⟨y.heap.size,0,none⟩) 1 1) (.slice none 0 0) (.slice none 0 0) 0):=by
     rw [T,hP]
     have:=World.alloc_heap_new (y.alloc (exO xa xb xc (.slice x0 x1 x2) xl)) (XB 3 ⟨#[]⟩ (.slice (some ⟨y.heap.size,0,none⟩) 1 1) (.slice none 0 0) (.slice none 0 0) 0)
     simpa using this
    have aG:zc r w w2:=by rw [T];exact ((k0.trans ah).alloc _).alloc _
    have b2:w2.heap[w.heap.size]?=some xw:=by
     rw [T,Below.heap_alloc _ _ _ (by simp;omega),Below.heap_alloc _ _ _ (by omega)]
     exact (ah.block _ (by omega) (by omega)).trans b0
    obtain ⟨t1,aX,rfl⟩:=aI.cons;have ao:zf r g o1 D (t1::aX) w2:=by rw [T];exact (a0.alloc _).alloc _
    have af:=zK.one (S:=fun k=>w0.heap.size≤k) 45 (c:=[.int .i64 xa,.string xb,.int .i64 xc,.slice x0 x1 x2,.int .i64 xl]) hx rfl (by omega)
    have ae:zK (fun k=>w0.heap.size≤k∧k<P) w2 [x] (.slice (some ⟨y.heap.size,0,none⟩) 1 1):=by
     have h9:=af.lower;have e9:(y.alloc (.cells [Value.int .i64 xa,.string xb,.int .i64 xc,.slice x0 x1 x2,.int .i64 xl].toArray 45)).heap.size=P:=by rw [hP];simp
     rw [e9] at h9;rw [T];exact h9.kept (by simp) fun k hk _=>Below.heap_alloc _ _ _ (by rw [e9];exact hk.2)
    have cb:=aO.out w2 o1 D (t1::aX) r2 hb2 aI ao aG;have aY:Hid (w2=(y.alloc (exO xa xb xc (.slice x0 x1 x2) xl)).alloc (XB 3 ⟨#[]⟩ (.slice (some ⟨y.heap.size,0,none⟩) 1 1) (.slice none 0 0) (.slice none 0 0) 0)):=T;have aw:Hid (zK (fun k=>w0.heap.size≤k∧k<P) w2 [x] (.slice (some ⟨y.heap.size,0,none⟩) 1 1)):=ae
    have HB:Hid (w2.heap[w.heap.size]?=some xw∧w2.heap[P]?=some (XB 3 ⟨#[]⟩ (.slice (some ⟨y.heap.size,0,none⟩) 1 1) (.slice none 0 0) (.slice none 0 0) 0)):=⟨b2,aT⟩;have aJ:Hid (zc r w w2):=aG;have HS:Hid (w0.heap.size=w.heap.size+1∧y.heap.size+1=P∧w2.heap.size=P+1∧w0.heap.size≤y.heap.size):=⟨aW,hP.symm,aS,aP⟩;have a7:Hid (y.heap.size+1=P):=hP.symm;clear T af ae aT b2 b0 k0 ah hx a0 ao aG aS aP aW hP;go_wp2_with fail
    rw [←aY.out];refine cb.mono ?_;clear cb aY;rintro e w3 ⟨U,z⟩;rcases r2 with a | ⟨bl,ba⟩
    ·obtain rfl:=z
     simp only [Option.some.injEq] at hp;subst hp;exact ⟨rfl,aJ.out.trans U,rfl⟩
    ·obtain ⟨vb,o3,Q,rfl,aC,an⟩:=z
     simp only at hp;obtain ⟨G,c1,c2,rfl⟩:=aC.slice;have al:=(vB F).2.1 _ _ _ hb2 aI;obtain ⟨t2,O,rfl⟩:=al.cons;have hS:=HS.out;have a5:=U.size;have b3:=(U.block w.heap.size (by omega) (by omega)).trans HB.out.1
     have p3:=(U.block P (by omega) (by omega)).trans HB.out.2
     obtain ⟨g0,g1,g2,g3,g4,g5,gf⟩:=zM p3;have aV:=gf 3;obtain ⟨w4,H⟩:∃w4,w4=w3.setCell ⟨P,3,none⟩ (.slice G c1 c2):=⟨_,rfl⟩;have p4:w4.heap[P]?=some (XB 3 ⟨#[]⟩ (.slice (some ⟨y.heap.size,0,none⟩) 1 1) (.slice G c1 c2) (.slice none 0 0) 0):=by rw [H];exact zo _ p3
     have b4:w4.heap[w.heap.size]?=some xw:=by rw [H,Below.heap_setCell _ _ _ _ (by simp;omega)];exact b3
     have ai:w4.heap.size=w3.heap.size:=by rw [H];simp
     have aB:zf r g o3 Q (t2::O) w4:=by rw [H];exact an.setP _ (by omega) (by omega)
     have k4:zc r w w4:=by rw [H];exact (aJ.out.trans U).setOther (by simp;omega) _
     have ag:zK (fun k=>w0.heap.size≤k∧k<P) w4 [x] (.slice (some ⟨y.heap.size,0,none⟩) 1 1):=by rw [H];exact (aw.out.keptR U fun k hk=>by omega).setP _ fun k hk=>by omega
     have ax:z8 (fun k=>w2.heap.size≤k) w4 bl (.slice G c1 c2):=by rw [H];exact aC.setP _ fun k hk=>by omega
     have cs:=Zy r g o3 Q t2 O [101,108,115,101] w4 aB (fun hi=>(al.tail (zk hi)).ne)
     have X:Hid (w4.heap[w.heap.size]?=some xw∧w4.heap[P]?=some (XB 3 ⟨#[]⟩ (.slice (some ⟨y.heap.size,0,none⟩) 1 1) (.slice G c1 c2) (.slice none 0 0) 0)):=⟨b4,p4⟩;have aj:Hid (zc r w w4):=k4;have L:Hid (zK (fun k=>w0.heap.size≤k∧k<P) w4 [x] (.slice (some ⟨y.heap.size,0,none⟩) 1 1)):=ag
     have V:Hid (z8 (fun k=>w2.heap.size≤k) w4 bl (.slice G c1 c2)):=ax
     have ak:Hid (w2.heap.size≤w4.heap.size):=show _≤_ by omega
     have av:=H.symm;have a2:=al;simp only [zC,List.tail_cons] at hp;rw [a7.out];clear H p4 b4 ai aB k4 ag ax aC an b3 p3 gf g0 g1 g2 g4 g5 U a5 hS HB aw aJ al
     by_cases hi:zm t2 [101,108,115,101]=true
     ·rw [hi] at cs
      rw [if_pos hi] at hp;have a4:=a2.tail (zk hi);cases hb3:zI F O with
      | none=>rw [hb3] at hp;cases hp
      | some r3 =>
       rw [hb3] at hp;go_wp2_with fail
       refine cs.mono ?_;clear cs av g3 aV;rintro e w5 ⟨rfl,A,h5⟩;have hS:=HS.out;have ai:=ak.out;have aL:=A.size;have ad:zf r g (o3+5) (Q-1) O w5:=by simpa using h5
       have b5:=(A.block w.heap.size (by omega) (by omega)).trans X.out.1
       have p5:=(A.block P (by omega) (by omega)).trans X.out.2
       obtain ⟨g0,-,-,-,-,-,gf⟩:=zM p5;have a6:=gf 0;obtain ⟨w6,I⟩:∃w6,w6=w5.setCell ⟨P,0,none⟩ (.int .i64 4):=⟨_,rfl⟩;have p6:w6.heap[P]?=some (XB 4 ⟨#[]⟩ (.slice (some ⟨y.heap.size,0,none⟩) 1 1) (.slice G c1 c2) (.slice none 0 0) 0):=by rw [I];exact zo _ p5
       have b6:w6.heap[w.heap.size]?=some xw:=by rw [I,Below.heap_setCell _ _ _ _ (by simp;omega)];exact b5
       have aK:w6.heap.size=w5.heap.size:=by rw [I];simp
       have am:zf r g (o3+5) (Q-1) O w6:=by rw [I];exact ad.setP _ (by omega) (by omega)
       have k6:zc r w w6:=by rw [I];exact (aj.out.trans A).setOther (by simp;omega) _
       have Z:zK (fun k=>w0.heap.size≤k∧k<P) w6 [x] (.slice (some ⟨y.heap.size,0,none⟩) 1 1):=by rw [I];exact (L.out.keptR A fun k hk=>by omega).setP _ fun k hk=>by omega
       have az:z8 (fun k=>w2.heap.size≤k) w6 bl (.slice G c1 c2):=by rw [I];exact (V.out.keptR A fun k hk=>by omega).setP _ fun k hk=>by omega
       have cb:=aO.out w6 _ _ O r3 hb3 a4 am k6;have aD:Hid (w6.heap[w.heap.size]?=some xw∧w6.heap[P]?=some (XB 4 ⟨#[]⟩ (.slice (some ⟨y.heap.size,0,none⟩) 1 1) (.slice G c1 c2) (.slice none 0 0) 0)):=⟨b6,p6⟩;have aE:Hid (zc r w w6):=k6;have ab:Hid (zK (fun k=>w0.heap.size≤k∧k<P) w6 [x] (.slice (some ⟨y.heap.size,0,none⟩) 1 1)):=Z
       have au:Hid (z8 (fun k=>w2.heap.size≤k) w6 bl (.slice G c1 c2)):=az
       have aR:Hid (w2.heap.size≤w6.heap.size):=show _≤_ by omega
       have aN:=I.symm;clear I p6 b6 aK am k6 Z az b5 p5 gf A aL hS ai h5 ad X L V aj ak;go_wp2_with fail
       refine cb.mono ?_;clear cb aN g0 a6;rintro e w7 ⟨N,z⟩;rcases r3 with a | ⟨cl,aQ⟩
       ·obtain rfl:=z
        simp only [Option.some.injEq] at hp;subst hp;exact ⟨rfl,aE.out.trans N,rfl⟩
       ·obtain ⟨vl,o7,aZ,rfl,aH,aA⟩:=z
        simp only [Option.some.injEq] at hp;subst hp;obtain ⟨d0,d1,d2,rfl⟩:=aH.slice;have hS:=HS.out;have aK:=aR.out;have a1:=N.size;have b7:=(N.block w.heap.size (by omega) (by omega)).trans aD.out.1
        have p7:=(N.block P (by omega) (by omega)).trans aD.out.2
        obtain ⟨-,-,-,-,g4,-,gf⟩:=zM p7;have a9:=gf 4;obtain ⟨w8,J⟩:∃w8,w8=w7.setCell ⟨P,4,none⟩ (.slice d0 d1 d2):=⟨_,rfl⟩;have p8:w8.heap[P]?=some (XB 4 ⟨#[]⟩ (.slice (some ⟨y.heap.size,0,none⟩) 1 1) (.slice G c1 c2) (.slice d0 d1 d2) 0):=by rw [J];exact zo _ p7
        have b8:w8.heap[w.heap.size]?=some xw:=by rw [J,Below.heap_setCell _ _ _ _ (by simp;omega)];exact b7
        have ay:zf r g o7 aZ aQ w8:=by rw [J];exact aA.setP _ (by omega) (by omega)
        have k8:zc r w w8:=by rw [J];exact (aE.out.trans N).setOther (by simp;omega) _
        have Y:zK (fun k=>w0.heap.size≤k) w8 [x] (.slice (some ⟨y.heap.size,0,none⟩) 1 1):=by rw [J];exact ((ab.out.keptR N fun k hk=>by omega).setP _ fun k hk=>by omega).wide fun k hk=>hk.1
        have ar:z8 (fun k=>w0.heap.size≤k) w8 bl (.slice G c1 c2):=by rw [J];exact ((au.out.keptR N fun k hk=>by omega).setP _ fun k hk=>by omega).wide fun k hk=>by omega
        have aq:z8 (fun k=>w0.heap.size≤k) w8 cl (.slice d0 d1 d2):=by rw [J];exact (aH.setP _ fun k hk=>by omega).wide fun k hk=>by omega
        obtain ⟨e0,e1,e2,e3,e4,e5,-⟩:=zM p8;obtain ⟨q0,q1,q2,q3,q4,q5,qf⟩:=zM b8;obtain ⟨z0,z1,z2,z3,z4,z5,-⟩:=zM (Zu b8 (.int .i64 4) (.string ⟨#[]⟩) (.slice (some ⟨y.heap.size,0,none⟩) 1 1) (.slice G c1 c2) (.slice d0 d1 d2) (.int .i64 0))
        have HP:Hid (ZF r g w (.ok (.mk 4 [] [x] bl cl 0,aQ)) (.returned (.agg #[.int .i64 4,.string ⟨#[]⟩,.slice (some ⟨y.heap.size,0,none⟩) 1 1,.slice G c1 c2,.slice d0 d1 d2,.int .i64 0])) (XA w8 w.heap.size (.int .i64 4) (.string ⟨#[]⟩) (.slice (some ⟨y.heap.size,0,none⟩) 1 1) (.slice G c1 c2) (.slice d0 d1 d2) (.int .i64 0))) :=
         ZF.of_set6 (B:=w0.heap.size) 4 [] 0 k8 (Nat.le_refl _) hr aM Y ar aq (by omega) ay
        have a8:=J.symm;clear J p8 b8 ay k8 Y ar aq b7 p7 gf N a1 hS aK aH aA aD ab au aE aR;go_wp2
        exact bodyPost_ret (v:=.agg #[.int .i64 4,.string ⟨#[]⟩,.slice (some ⟨y.heap.size,0,none⟩) 1 1,.slice G c1 c2,.slice d0 d1 d2,.int .i64 0]) (by simp [results,Tryz.results165,go_sem,z0,z1,z2,z3,z4,z5]) rfl HP.out
     ·have a3:zm t2 [101,108,115,101]=false:=by simpa using hi
      rw [a3] at cs;rw [if_neg hi] at hp;simp only [Option.some.injEq] at hp;subst hp;go_wp2_with fail
      refine cs.mono ?_;clear cs av g3 aV;rintro e w5 ⟨rfl,A,h5⟩;have hS:=HS.out;have ai:=ak.out;have aL:=A.size;have ad:zf r g o3 Q (t2::O) w5:=by simpa using h5
      have b5:=(A.block w.heap.size (by omega) (by omega)).trans X.out.1
      have p5:=(A.block P (by omega) (by omega)).trans X.out.2
      have k5:zc r w w5:=aj.out.trans A;have aa:zK (fun k=>w0.heap.size≤k) w5 [x] (.slice (some ⟨y.heap.size,0,none⟩) 1 1):=(L.out.keptR A fun k hk=>by omega).wide fun k hk=>hk.1
      have ap:z8 (fun k=>w0.heap.size≤k) w5 bl (.slice G c1 c2):=(V.out.keptR A fun k hk=>by omega).wide fun k hk=>by omega
      obtain ⟨e0,e1,e2,e3,e4,e5,-⟩:=zM p5;obtain ⟨q0,q1,q2,q3,q4,q5,qf⟩:=zM b5;obtain ⟨z0,z1,z2,z3,z4,z5,-⟩:=zM (Zu b5 (.int .i64 3) (.string ⟨#[]⟩) (.slice (some ⟨y.heap.size,0,none⟩) 1 1) (.slice G c1 c2) (.slice none 0 0) (.int .i64 0))
      have HP:Hid (ZF r g w (.ok (.mk 3 [] [x] bl [] 0,t2::O)) (.returned (.agg #[.int .i64 3,.string ⟨#[]⟩,.slice (some ⟨y.heap.size,0,none⟩) 1 1,.slice G c1 c2,.slice none 0 0,.int .i64 0])) (XA w5 w.heap.size (.int .i64 3) (.string ⟨#[]⟩) (.slice (some ⟨y.heap.size,0,none⟩) 1 1) (.slice G c1 c2) (.slice none 0 0) (.int .i64 0))) :=
       ZF.of_set6 (B:=w0.heap.size) 3 [] 0 k5 (Nat.le_refl _) hr aM aa ap (z8.nil _ _) (by omega) ad
      clear b5 p5 k5 aa ap A aL hS ai h5 ad X L V aj ak;go_wp2
      exact bodyPost_ret (v:=.agg #[.int .i64 3,.string ⟨#[]⟩,.slice (some ⟨y.heap.size,0,none⟩) 1 1,.slice G c1 c2,.slice none 0 0,.int .i64 0]) (by simp [results,Tryz.results165,go_sem,z0,z1,z2,z3,z4,z5]) rfl HP.out
def yJ {α:Type} (E:(Nat→Prop)→World→α→List Value→Prop) (sz ty B:Nat) (w:World) (l:List α) (v:Value):Prop :=
 (l=[]∧v=.slice none 0 0)∨∃g cap us,Zf E sz ty B w l v g cap us
theorem yJ.nil {α:Type} (E:(Nat→Prop)→World→α→List Value→Prop) (sz ty B:Nat) (w:World):yJ E sz ty B w [] (.slice none 0 0):=.inl ⟨rfl,rfl⟩
theorem yJ.kept {α:Type} {E:(Nat→Prop)→World→α→List Value→Prop} (L:Z5 E) {sz ty B:Nat} {w w':World} {l:List α} {v:Value} (h:yJ E sz ty B w l v) (hs:w.heap.size≤w'.heap.size) (hb:∀k,B≤k→k<w.heap.size→w'.heap[k]?=w.heap[k]?):yJ E sz ty B w' l v:=by
 rcases h with h | ⟨g,o,y,h⟩
 ·exact .inl h
 ·exact .inr ⟨g,o,y,h.kept L hs hb⟩
theorem yJ.slice {α:Type} {E:(Nat→Prop)→World→α→List Value→Prop} {sz ty B:Nat} {w:World} {l:List α} {v:Value} (h:yJ E sz ty B w l v):∃b c,v=.slice b l.length c:=by
 rcases h with ⟨rfl,rfl⟩ | ⟨g,o,y,h⟩
 ·exact ⟨none,0,rfl⟩
 ·exact ⟨_,_,h.val⟩
theorem yJ.block {α:Type} {E:(Nat→Prop)→World→α→List Value→Prop} {sz ty B:Nat} {w:World} {l:List α} {v:Value} (h:yJ E sz ty B w l v):∀q,v.ownBlock=some q→B≤q∧q<w.heap.size:=by
 intro q o;rcases h with ⟨rfl,rfl⟩ | ⟨g,y,z,h⟩
 ·simp [Value.ownBlock] at o
 ·rw [h.val] at o
  have e:g=q:=by simpa [Value.ownBlock] using o
  subst e;exact ⟨h.block.1,h.block.2.1⟩
theorem yJ.more {α:Type} {E:(Nat→Prop)→World→α→List Value→Prop} (L:Z5 E) {sz ty B:Nat} {w:World} {l:List α} {v:Value} (h:yJ E sz ty B w l v):∃G:List (List Value),w.ownsRow B ty sz v l.length G.flatten ∧
  ∀{w':World} {v':Value} {x:α} {c:List Value} {ob:Obj} {N:Nat},E (fun k=>N≤k) w x c→B≤N→(∀q,v.ownBlock=some q→q<N)→c.length=sz→w'.ownsRow B ty sz v' (l.length+1) (G.flatten++c)→(w.alloc ob).grownBy w' v.ownBlock→(v'.ownBlock=v.ownBlock∨v'.ownBlock=some (w.alloc ob).heap.size)→yJ E sz ty B w' (l++[x]) v':=by
 rcases h with ⟨rfl,rfl⟩ | ⟨g,W,G,h⟩
 ·refine ⟨[],World.ownsRow_nil _ _ _ _,?_⟩
  intro w' v' x c ob N J Q _ O A I H;simp only [List.flatten_nil,List.nil_append,List.length_nil,Nat.zero_add] at A
  obtain ⟨g',o,D,V⟩:∃g' o,v'=.slice (some ⟨g',0,none⟩) 1 o∧B≤g':=by
   rcases A.2 with ⟨_,h0⟩ | ⟨g',o,_,R,Z,_⟩
   ·omega
   ·exact ⟨g',o,R,Z⟩
  have X:g'=w.heap.size+1:=by
   rw [D] at H
   simpa [Value.ownBlock] using H
  have U:w.heap.size≤w'.heap.size:=by have:=I.size;simp at this;omega
  have z:∀k,k<w.heap.size→w'.heap[k]?=w.heap[k]?:=fun k hlt=>(I.block k (by simp;omega) (by simp [Value.ownBlock])).trans (Below.heap_alloc _ _ _ hlt)
  refine .inr ⟨g',o,[c],⟨D,by simp,by simpa using A,rfl,by simpa using O,fun j y d hy hd=>?_⟩⟩
  cases j with
  | succ j=>simp at hy
  | zero =>
   simp only [List.nil_append,List.getElem?_cons_zero,Option.some.injEq] at hy hd;subst hy hd;exact L.wide (L.kept (L.low J) U fun k hk _=>z k hk.2) fun k hk=>⟨by omega,by omega⟩
 ·refine ⟨G,h.own,?_⟩
  intro w' v' x c ob N J Q Y O A I H;have T:g<N:=Y g (by rw [h.val];rfl)
  obtain ⟨g',o,h',-⟩:=h.snoc L (x:=x) (c:=c) (ob:=ob) (L.wide J fun k hk=>⟨by omega,by omega⟩) O A I H
  exact .inr ⟨g',o,_,h'⟩
theorem yJ.sts {ty B:Nat} {w:World} {l:List St} {v:Value} (h:yJ StE 6 ty B w l v):z8 (fun k=>B≤k) w l v:=by
 rcases h with ⟨rfl,rfl⟩ | ⟨g,o,y,h⟩
 ·exact z8.nil _ _
 ·exact h.sts
theorem zK.slice {S:Nat→Prop} {w:World} {l:List Ex} {v:Value} (h:zK S w l v):∃d0 d1 d2,v=.slice d0 d1 d2:=by
 rcases h with ⟨_,rfl⟩ | ⟨g,o,y,rfl,_⟩
 ·exact ⟨_,_,_,rfl⟩
 ·exact ⟨_,_,_,rfl⟩
theorem yo.agg {S:Nat→Prop} {w:World} {x:St} {v:Value} (h:yo S w x v):∃(a:Int) (b:ByteArray) (J:Option Addr) (z A:Nat) (D:Option Addr) (I y:Nat) (o:Option Addr) (G H:Nat) (c:Int),v=.agg #[.int .i64 a,.string b,.slice J z A,.slice D I y,.slice o G H,.int .i64 c]:=by
 cases h with
 | mk k s es body els line ve vb vl gb cb gl cl ub ul he hb hbk hl hlk =>
  obtain ⟨J,z,A,rfl⟩:=he.slice;obtain ⟨D,I,y,rfl⟩:=z8.slice (S:=S) (w:=w) (l:=body) (v:=vb) ⟨gb,cb,ub,hb,hbk⟩;obtain ⟨o,G,H,rfl⟩:=z8.slice (S:=S) (w:=w) (l:=els) (v:=vl) ⟨gl,cl,ul,hl,hlk⟩;exact ⟨_,_,_,_,_,_,_,_,_,_,_,_,rfl⟩
theorem zd7:(Tryz.prog.info? 107).map (fun i=>(i.zero,i.size,i.bytes))=some (some (.agg #[.int .i64 0,.string ⟨#[]⟩,.slice none 0 0,.slice none 0 0,.slice none 0 0,.int .i64 0]),6,104):=by kernel_rfl
theorem za9 {f k:Nat} {ts:List Tk} {r:PR St} (h:Zg f ts=some r):Zg (f+k) ts=some r:=by
 induction k with
 | zero=>exact h
 | succ k ih=>exact (Xg (f+k)).1 _ _ ih
theorem zd8 {f:Nat} {ts us:List Tk} {x:St} (h:Zg f ts=some (.ok (x,us))) (hE:zi ts):us.length<ts.length:=by
 obtain ⟨z,A,y,o⟩:=(UE ts.length ts (Nat.le_refl _) hE).1;have a:=za9 (k:=z) h;have b:=y f;rw [Nat.add_comm] at a;have e:=Option.some.inj (a.symm.trans b)
 have:=(o x us e.symm).1
 have:=hE.pos
 omega
theorem zgO (r g o cap F:Nat) (ts:List Tk) (w:World) (res:PR (List St)) (h:zf r g o cap ts w) (hE:zi ts) (hp:zI (F+1) ts=some res)
  (hone:∀O o1 cap1 ts1 r1,Zg F ts1=some r1→zi ts1→zf r g o1 cap1 ts1 O→zc r w O→Calls Tryz.prog 134 #[.pointer (some ⟨r,0,none⟩)] O (ZF r g O r1)) :
  Calls Tryz.prog 98 #[.pointer (some ⟨r,0,none⟩)] w (XY r g w res):=by
 obtain ⟨i0,aK,aS,aO,aH⟩:=info_parts zd7;have hN:=h.few;obtain ⟨t0,Q,rfl⟩:=hE.cons;have hr:=h.lt.1;have aU:=h.lt.2;rw [zI] at hp
 unfold zR at hp
 simp only [zC,List.tail_cons] at hp;have cn:=yI r g o cap t0 Q [123] w h (fun hi=>(hE.tail (zk hi)).ne)
 have ax:Hid (∀O o1 cap1 ts1 r1,Zg F ts1=some r1→zi ts1→zf r g o1 cap1 ts1 O→zc r w O→Calls Tryz.prog 134 #[.pointer (some ⟨r,0,none⟩)] O (ZF r g O r1)):=hone;clear h hone
 by_cases hi:zm t0 [123]=true
 ·simp only [if_pos hi] at cn
  rw [if_pos hi] at hp;simp only [zh] at hp;have aD:=hE.tail (zk hi)
  go_enter Tryz.func98,Tryz.ntmps98
  go_wp2_with fail
  refine cn.mono ?_;clear cn;rintro e O ⟨ae,rfl,h1⟩;have aA:Hid (zf r g (o+5) (cap-1) Q O):=h1;have au:Hid (zc r w O):=ae;have HP:Hid (Zh F [] Q=some res):=hp;have av:Hid (zi Q):=aD;have hn:Q.length≤1099511627776:=by simp only [List.length_cons] at hN;omega
  clear h1 ae hp aD hE hN;go_wp2_with fail
  go_loopw [3] (fun v wr=>∃(L:List St) (o2 D:Nat) (X:List Tk) (f2:Nat),f2≤F∧Zh f2 L X=some res∧zi X∧L.length+X.length≤1099511627776∧yJ StE 6 107 w.heap.size wr L v∧zf r g o2 D X wr∧zc r w wr) (fun _ wr=>ZO r wr)
  case atStart=>exact ⟨[],_,_,Q,F,Nat.le_refl _,HP.out,av.out,by simpa using hn,yJ.nil _ _ _ _ _,aA.out,au.out⟩
  case round =>
   obtain ⟨L,o2,D,X,f2,aV,G,Z,ap,I,J,aj⟩:=hrel;clear HP aA au av hn;obtain ⟨t2,H,rfl⟩:=Z.cons;have cs:=Zy r g o2 D t2 H [125] wr J (fun hi=>(Z.tail (zk hi)).ne)
   have am:=J.left;have ag:Hid (yJ StE 6 107 w.heap.size wr L _):=I;have aF:Hid (zc r w wr):=aj;obtain ⟨lb,lc,az⟩:=I.slice;subst az;cases f2 with
   | zero=>simp [Zh] at G
   | succ f3 =>
   rw [Zh] at G;simp only [zC,List.tail_cons] at G
   by_cases hj:zm t2 [125]=true
   ·rw [hj] at cs
    rw [if_pos hj] at G;clear I aj J Z;go_wp2_with fail
    refine cs.mono ?_;clear cs;rintro e w3 ⟨rfl,A,h3⟩;have ab:Hid (zc r w w3):=aF.out.trans A;have y:Hid (z8 (fun k=>w.heap.size≤k) w3 L (.slice lb L.length lc)):=(ag.out.kept Ug A.size fun k hB hlt=>A.block k hlt (by omega)).sts
    have aN:Hid (zf r g (o2+5) (D-1) H w3):=show zf _ _ _ _ _ _ by simpa using h3
    simp only [Option.some.injEq] at G;subst G;clear A h3;go_wp2
    refine bodyPost_ret (v:=.slice lb L.length lc) (by simp [results,Tryz.results98,go_sem]) rfl ⟨ab.out,_,_,_,rfl,y.out,aN.out⟩
   ·have aQ:zm t2 [125]=false:=by simpa using hj
    rw [aQ] at cs;rw [if_neg hj] at G;cases hb3:Zg f3 (t2::H) with
    | none=>rw [hb3] at G;cases G
    | some r3 =>
     rw [hb3] at G;simp only [zh] at G
     have aq:Zg F (t2::H)=some r3:=by
      have:=za9 (k:=F-f3) hb3
      rwa [show f3+(F-f3)=F by omega] at this
     have an:Hid (zi (t2::H)):=Z;clear I aj J Z hb3;go_wp2_with fail
     refine cs.mono ?_;clear cs;rintro e w3 ⟨rfl,A,h3⟩;have aw:zf r g o2 D (t2::H) w3:=by simpa using h3
     have ao:zc r w w3:=aF.out.trans A;have W:=ag.out.kept Ug A.size fun k hB hlt=>A.block k hlt (by omega)
     have c3:=ax.out w3 _ _ (t2::H) r3 aq an.out aw ao;have y:Hid (yJ StE 6 107 w.heap.size w3 L (.slice lb L.length lc)):=W;have ab:Hid (zc r w w3):=ao;clear h3 aw ao A W;go_wp2_with fail
     refine c3.mono ?_;clear c3;rintro e w4 ⟨aa,U⟩;have ad:Hid (zc r w w4):=ab.out.trans aa;rcases r3 with a | ⟨x3,T⟩
     ·obtain rfl:=U
      simp only [Option.some.injEq] at G;subst G;exact ⟨rfl,ad.out,rfl⟩
     ·obtain ⟨v,o4,R,rfl,hx,aC⟩:=U
      obtain ⟨qa,qb,e0,e1,e2,b0,b1,b2,l0,l1,l2,qc,rfl⟩:=hx.agg;have V:=y.out.kept Ug aa.size fun k hB hlt=>aa.block k hlt (by omega)
      have ar:w.heap.size≤w3.heap.size:=ab.out.size;have aT:w.heap.size≤w4.heap.size:=ad.out.size;obtain ⟨us,af,Y⟩:=V.more Ug;have aI:Hid (StE (fun k=>w3.heap.size≤k) w4 x3 [.int .i64 qa,.string qb,.slice e0 e1 e2,.slice b0 b1 b2,.slice l0 l1 l2,.int .i64 qc]):=hx
      have aJ:Hid (∀q,(Value.slice lb L.length lc).ownBlock=some q→q<w3.heap.size):=fun q hq=>(y.out.block q hq).2
      have ai:Hid (∀q,(Value.slice lb L.length lc).ownBlock=some q→w.heap.size≤q):=fun q hq=>(y.out.block q hq).1
      have aR:Hid (∀{w':World} {v':Value} {x:St} {c:List Value} {ob:Obj} {N:Nat},StE (fun k=>N≤k) w4 x c→w.heap.size≤N→(∀q,(Value.slice lb L.length lc).ownBlock=some q→q<N)→c.length=6→w'.ownsRow w.heap.size 107 6 v' (L.length+1) (us.flatten++c)→(w4.alloc ob).grownBy w' (Value.slice lb L.length lc).ownBlock→(v'.ownBlock=(Value.slice lb L.length lc).ownBlock∨v'.ownBlock=some (w4.alloc ob).heap.size)→yJ StE 6 107 w.heap.size w' (L++[x]) v'):=Y
      have aL:Hid (zf r g o4 R T w4):=aC;have aE:=(vB F).1 _ _ _ aq an.out;have ay:=zd8 aq an.out;have aB:=(af.alloc (.cells #[.int .i64 qa,.string qb,.slice e0 e1 e2,.slice b0 b1 b2,.slice l0 l1 l2,.int .i64 qc] 107));have HT:Hid (Zh f3 (L++[x3]) T=some res):=G;have aM:Hid (zi T):=aE;clear V hx aC G aa af Y aE
      go_wp2_with (at_builtin;refine wpList_append_own_at _ rfl _ _ 69 rfl w.heap.size 107 i0 _ 6 104 Tryz.underlying69 aK aS aO aH rfl (by decide) _ _ _ rfl aB ⟨w4.heap.size,0,none⟩ 1 1 [.int .i64 qa,.string qb,.slice e0 e1 e2,.slice b0 b1 b2,.slice l0 l1 l2,.int .i64 qc] rfl rfl (ZP _ _ _) (by simp [Value.oneCell']) (by unfold maxLen;simp only [List.length_cons] at ap;omega) (by simp only [List.length_cons] at ap;omega) (by simp;omega) ?_;intro v' w5 ak z _ aG)
      have al:=aR.out (ob:=.cells #[.int .i64 qa,.string qb,.slice e0 e1 e2,.slice b0 b1 b2,.slice l0 l1 l2,.int .i64 qc] 107) aI.out ar aJ.out rfl ak z aG
      have aP:zc r w w5:=(ad.out.alloc _).grown z ai.out;have aW:w.heap.size≤w4.heap.size:=ad.out.size;have ah:zf r g o4 R T w5:=aL.out.keep ((z.block r (by simp;omega) (fun e=>by have:=ai.out r e.symm;omega)).trans (Below.heap_alloc _ _ _ (by omega))) ((z.block g (by simp;omega) (fun e=>by have:=ai.out g e.symm;omega)).trans (Below.heap_alloc _ _ _ (by omega)))
      refine ⟨⟨L++[x3],o4,R,T,f3,by omega,HT.out,aM.out,?_,al,ah,aP⟩,?_⟩
      ·simp only [List.length_append,List.length_cons,List.length_nil] at ap ay ⊢;omega
      ·rw [ah.left,am];exact ay
 ·simp only [if_neg hi] at cn
  rw [if_neg hi] at hp;simp only [zh,Option.some.injEq] at hp;subst hp
  go_enter Tryz.func98,Tryz.ntmps98
  go_wp2_with fail
  refine cn.mono ?_;clear cn;rintro e O ⟨ae,rfl⟩;exact ⟨rfl,ae,rfl⟩
end Go.Proofs.YtcphojjpapgblaaGreatDoor
