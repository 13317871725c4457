import Derived.Test.YtghhamgealkodaaGreatDoorMC24
import Derived.Test.YtghhamgealkodaaGreatDoorMC16
namespace Go.Proofs.YtghhamgealkodaaGreatDoor
open Go.RowKit Go.Shelf
set_option maxRecDepth 100000
def DoneE {α:Type} (p:Nat→Option (PR α)) (n:Nat):Prop:=∃f r,(∀k,p (f+k)=some r)∧∀x us,r=.ok (x,us)→us.length≤n∧EndsT us
theorem Done.toE {α:Type} {p:Nat→Option (PR α)} {n:Nat} (h:Done p n) (hE:∀f x us,p f=some (.ok (x,us))→EndsT us):DoneE p n:=by
 obtain ⟨f,r,hr,hn⟩:=h
 exact ⟨f,r,hr,fun x us e=>⟨hn x us e,hE (f+0) x us (by rw [hr 0,e])⟩⟩
theorem DoneE.then {α β:Type} {p:Nat→Option (PR α)} {q:Nat→α→List Tk→Option (PR β)} {n m:Nat} (h:DoneE p n) (hq:∀x us,us.length≤n→EndsT us→DoneE (fun f=>q f x us) m):DoneE (fun f=>thenP (p f) (q f)) m:=by
 obtain ⟨f,r,hr,hn⟩:=h
 cases r with
 | error a=>exact ⟨f,.error a,fun k=>by simp [thenP,hr k],fun x us h=>by cases h⟩
 | ok y =>
  obtain ⟨g,s,hs,hm⟩:=hq y.1 y.2 (hn _ _ rfl).1 (hn _ _ rfl).2
  refine ⟨f+g,s,fun k=>?_,hm⟩
  have h1:=hr (g+k)
  have h2:=hs (f+k)
  rw [show f+(g+k)=f+g+k by omega] at h1
  rw [show g+(f+k)=f+g+k by omega] at h2
  simp only [thenP,h1];exact h2
theorem doneE_some {α:Type} (x:α) (us:List Tk) {n:Nat} (h:us.length≤n) (hE:EndsT us):DoneE (fun _=>(some (.ok (x,us)):Option (PR α))) n:=⟨0,.ok (x,us),fun _=>rfl,fun y vs h'=>by cases h';exact ⟨h,hE⟩⟩
theorem doneE_error {α:Type} (a:Nat) (n:Nat):DoneE (fun _=>(some (.error a):Option (PR α))) n:=⟨0,.error a,fun _=>rfl,fun _ _ h=>by cases h⟩
theorem doneE_need (s:List UInt8) (ts:List Tk) {n:Nat} (h:ts.length≤n+1) (hE:EndsT ts):DoneE (fun _=>needP s ts) n:=(done_need s ts h).toE fun _ _ _ h=>needP_ends h hE
theorem doneE_name (ts:List Tk) {n:Nat} (h:ts.length≤n+1) (hE:EndsT ts):DoneE (fun _=>nameP ts) n:=(done_name ts h).toE fun _ _ _ h=>nameP_ends h hE
theorem DoneE.step {α:Type} {p q:Nat→Option (PR α)} {n:Nat} (h:DoneE q n) (hp:∀f,p (f+1)=q f):DoneE p n:=by
 obtain ⟨f,r,hr,hn⟩:=h
 exact ⟨f+1,r,fun k=>by rw [show f+1+k=f+k+1 by omega,hp];exact hr k,hn⟩
theorem DoneE.le {α:Type} {p:Nat→Option (PR α)} {n m:Nat} (h:DoneE p n) (hm:n≤m):DoneE p m:=by
 obtain ⟨f,r,hr,hn⟩:=h
 exact ⟨f,r,hr,fun x us h=>⟨Nat.le_trans (hn x us h).1 hm,(hn x us h).2⟩⟩
theorem doneE_expr (ts:List Tk) {n:Nat} (h:ts.length≤n) (hE:EndsT ts):DoneE (fun f=>pBetween f 1 ts) (n-1):=((parse_total n ts h).1 1).toE fun f _ _ h=>(parse_ends f).1 _ _ _ _ h hE
theorem EndsT.pos {ts:List Tk} (h:EndsT ts):0<ts.length:=by
 obtain ⟨t,us,rfl⟩:=h.cons
 simp
theorem stmt_total (n:Nat):∀ts:List Tk,ts.length≤n→EndsT ts→DoneE (fun f=>pStmt f ts) (n-1)∧DoneE (fun f=>pBlock f ts) (n-1)∧∀pre,DoneE (fun f=>pStmts f pre ts) (n-1):=by
 induction n with
 | zero=>intro ts hl hE;have:=hE.pos;omega
 | succ n ih =>
  intro ts hl hE
  have hB:DoneE (fun f=>pBlock f ts) n:=((doneE_need [123] ts (n:=n) hl hE).then (q:=fun f _ us=>pStmts f [] us) (m:=n) fun _ us hu hEu=>((ih us hu hEu).2.2 []).le (by omega)).step fun f=>by rw [pBlock]
  have hS:DoneE (fun f=>pStmt f ts) n:=by
   by_cases c1:isTk (hdT ts) [108,101,116]=true
   ·have hne:=is_ne c1
    have hE1:=ends_is hE c1
    refine ((doneE_name ts.tail (n:=n) (by omega) hE1).then (q:=fun f s us=>thenP (needP [61] us) fun _ us=>thenP (pBetween f 1 us) fun e us=>thenP (needP [59] us) fun _ us=>some (.ok (St.mk 1 s [e] [] [] (hdT ts).line,us))) (m:=n) fun s us hu hEu=>?_).step fun f=>by rw [pStmt,if_pos c1]
    refine (doneE_need [61] us (n:=n) (by omega) hEu).then (q:=fun f _ us=>thenP (pBetween f 1 us) fun e us=>thenP (needP [59] us) fun _ us=>some (.ok (St.mk 1 s [e] [] [] (hdT ts).line,us))) fun _ us hu hEu=>?_
    refine (doneE_expr us hu hEu).then (q:=fun f e us=>thenP (needP [59] us) fun _ us=>some (.ok (St.mk 1 s [e] [] [] (hdT ts).line,us))) fun e us hu hEu=>?_
    exact (doneE_need [59] us (n:=n) (by omega) hEu).then (q:=fun f _ us=>some (.ok (St.mk 1 s [e] [] [] (hdT ts).line,us))) fun _ us hu hEu=>doneE_some _ _ hu hEu
   by_cases c2:isTk (hdT ts) [105,102]=true
   ·have hne:=is_ne c2
    have hE1:=ends_is hE c2
    refine ((doneE_expr ts.tail (n:=n) (by omega) hE1).then (q:=fun f e us=>thenP (pBlock f us) fun b us=>if isTk (hdT us) [101,108,115,101]=true then thenP (pBlock f us.tail) fun c us=>some (.ok (St.mk 4 [] [e] b c (hdT ts).line,us)) else some (.ok (St.mk 3 [] [e] b [] (hdT ts).line,us))) (m:=n) fun e us hu hEu=>?_).step fun f=>by rw [pStmt,if_neg c1,if_pos c2]
    refine (ih us (by omega) hEu).2.1.then (q:=fun f b us=>if isTk (hdT us) [101,108,115,101]=true then thenP (pBlock f us.tail) fun c us=>some (.ok (St.mk 4 [] [e] b c (hdT ts).line,us)) else some (.ok (St.mk 3 [] [e] b [] (hdT ts).line,us))) fun b us hu hEu=>?_
    by_cases d:isTk (hdT us) [101,108,115,101]=true
    ·have hne2:=is_ne d
     simp only [if_pos d]
     exact (ih us.tail (by omega) (ends_is hEu d)).2.1.then (q:=fun f c us=>some (.ok (St.mk 4 [] [e] b c (hdT ts).line,us))) fun c us hu hEu=>doneE_some _ _ (by omega) hEu
    ·simp only [if_neg d]
     exact doneE_some _ _ (by omega) hEu
   by_cases c3:isTk (hdT ts) [119,104,105,108,101]=true
   ·have hne:=is_ne c3
    have hE1:=ends_is hE c3
    refine ((doneE_expr ts.tail (n:=n) (by omega) hE1).then (q:=fun f e us=>thenP (pBlock f us) fun b us=>some (.ok (St.mk 5 [] [e] b [] (hdT ts).line,us))) (m:=n) fun e us hu hEu=>?_).step fun f=>by rw [pStmt,if_neg c1,if_neg c2,if_pos c3]
    exact (ih us (by omega) hEu).2.1.then (q:=fun f b us=>some (.ok (St.mk 5 [] [e] b [] (hdT ts).line,us))) fun b us hu hEu=>doneE_some _ _ (by omega) hEu
   by_cases c4:isTk (hdT ts) [114,101,116,117,114,110]=true
   ·have hne:=is_ne c4
    have hE1:=ends_is hE c4
    by_cases d:isTk (hdT ts.tail) [59]=true
    ·have hne2:=is_ne d
     exact (doneE_some (St.mk 6 [] [] [] [] (hdT ts).line) ts.tail.tail (n:=n) (by omega) (ends_is hE1 d)).step fun f=>by rw [pStmt,if_neg c1,if_neg c2,if_neg c3,if_pos c4,if_pos d]
    ·refine ((doneE_expr ts.tail (n:=n) (by omega) hE1).then (q:=fun f e us=>thenP (needP [59] us) fun _ us=>some (.ok (St.mk 6 [] [e] [] [] (hdT ts).line,us))) (m:=n) fun e us hu hEu=>?_).step fun f=>by rw [pStmt,if_neg c1,if_neg c2,if_neg c3,if_pos c4,if_neg d]
     exact (doneE_need [59] us (n:=n) (by omega) hEu).then (q:=fun f _ us=>some (.ok (St.mk 6 [] [e] [] [] (hdT ts).line,us))) fun _ us hu hEu=>doneE_some _ _ hu hEu
   ·refine ((doneE_expr ts (n:=n+1) hl hE).then (q:=fun f e us=>if isTk (hdT us) [61]=true then (if placeB e=true then thenP (pBetween f 1 us.tail) fun e2 us=>thenP (needP [59] us) fun _ us=>some (.ok (St.mk 2 [] [e,e2] [] [] (hdT ts).line,us)) else some (.error (hdT us).at0)) else thenP (needP [59] us) fun _ us=>some (.ok (St.mk 7 [] [e] [] [] (hdT ts).line,us))) (m:=n) fun e us hu hEu=>?_).step fun f=>by rw [pStmt,if_neg c1,if_neg c2,if_neg c3,if_neg c4]
    by_cases d:isTk (hdT us) [61]=true
    ·have hne2:=is_ne d
     simp only [if_pos d]
     by_cases d2:placeB e=true
     ·simp only [if_pos d2]
      refine (doneE_expr us.tail (n:=n) (by omega) (ends_is hEu d)).then (q:=fun f e2 us=>thenP (needP [59] us) fun _ us=>some (.ok (St.mk 2 [] [e,e2] [] [] (hdT ts).line,us))) fun e2 us hu hEu=>?_
      exact (doneE_need [59] us (n:=n) (by omega) hEu).then (q:=fun f _ us=>some (.ok (St.mk 2 [] [e,e2] [] [] (hdT ts).line,us))) fun _ us hu hEu=>doneE_some _ _ hu hEu
     ·simp only [if_neg d2]
      exact doneE_error _ _
    ·simp only [if_neg d]
     exact (doneE_need [59] us (n:=n) (by omega) hEu).then (q:=fun f _ us=>some (.ok (St.mk 7 [] [e] [] [] (hdT ts).line,us))) fun _ us hu hEu=>doneE_some _ _ hu hEu
  refine ⟨hS,hB,fun pre=>?_⟩
  by_cases c:isTk (hdT ts) [125]=true
  ·have hne:=is_ne c
   exact (doneE_some pre ts.tail (n:=n) (by omega) (ends_is hE c)).step fun f=>by rw [pStmts,if_pos c]
  ·exact (hS.then (q:=fun f s us=>pStmts f (pre++[s]) us) (m:=n) fun s us hu hEu=>((ih us hu hEu).2.2 _).le (by omega)).step fun f=>by rw [pStmts,if_neg c]
theorem ExIn.kind_eq {S:Nat→Prop} {w:World} {x:Ex} {a:Int} {b c d e:Value} (h:ExIn S w x (.agg #[.int .i64 a,b,c,d,e])):a=(x.kind:Int):=by
 cases h <;> rfl
set_option maxHeartbeats 2000000 in
theorem isPlace_any (a:Nat) (xb:ByteArray) (xc:Int) (x0:Option Addr) (x1 x2:Nat) (xl:Int) (w:World) :
  Calls Tryz.prog 194 #[.agg #[.int .i64 (a:Int),.string xb,.int .i64 xc,.slice x0 x1 x2,.int .i64 xl]] w fun e w'=>e=.returned (.bool (a==4||a==8||a==9))∧w'=w.alloc (.cells #[.int .i64 (a:Int),.string xb,.int .i64 xc,.slice x0 x1 x2,.int .i64 xl] 40):=by
 by_cases h4:a=4
 ·subst h4
  go_enter Tryz.func194,Tryz.ntmps194
  go_wp2
  go_ret
  exact ⟨rfl,rfl⟩
 ·have f4:(a==4)=false:=by simpa using h4
  have g4:((a:Int)==4)=false:=by rw [beq_eq_false_iff_ne];omega
  by_cases h8:a=8
  ·subst h8
   go_enter Tryz.func194,Tryz.ntmps194
   go_wp2
   go_ret
   exact ⟨rfl,rfl⟩
  ·have f8:(a==8)=false:=by simpa using h8
   have g8:((a:Int)==8)=false:=by rw [beq_eq_false_iff_ne];omega
   by_cases h9:a=9
   ·subst h9
    go_enter Tryz.func194,Tryz.ntmps194
    go_wp2
    go_ret
    exact ⟨rfl,rfl⟩
   ·have f9:(a==9)=false:=by simpa using h9
    have g9:((a:Int)==9)=false:=by rw [beq_eq_false_iff_ne];omega
    rw [f4,f8,f9]
    clear h4 h8 h9 f4 f8 f9
    go_enter Tryz.func194,Tryz.ntmps194
    go_wp2
    go_ret
    exact ⟨rfl,rfl⟩
theorem RowIn.keptR {S:Nat→Prop} {r:Nat} {w w':World} {l:List Ex} {v:Value} (h:RowIn S w l v) (hk:Kept r w w') (hS:∀k,S k→k≠r):RowIn S w' l v:=h.kept hk.size fun k hs hlt=>hk.block k hlt (hS k hs)
theorem RowIn.setP {S:Nat→Prop} {P j:Nat} {w:World} {l:List Ex} {v:Value} (h:RowIn S w l v) (u:Value) (hS:∀k,S k→k≠P):RowIn S (w.setCell ⟨P,j,none⟩ u) l v:=h.kept (by simp) fun k hs _=>Below.heap_setCell _ _ _ _ (by simpa using hS k hs)
theorem StsIn.keptR {S:Nat→Prop} {r:Nat} {w w':World} {l:List St} {v:Value} (h:StsIn S w l v) (hk:Kept r w w') (hS:∀k,S k→k≠r):StsIn S w' l v:=h.kept hk.size fun k hs hlt=>hk.block k hlt (hS k hs)
theorem StsIn.setP {S:Nat→Prop} {P j:Nat} {w:World} {l:List St} {v:Value} (h:StsIn S w l v) (u:Value) (hS:∀k,S k→k≠P):StsIn S (w.setCell ⟨P,j,none⟩ u) l v:=h.kept (by simp) fun k hs _=>Below.heap_setCell _ _ _ _ (by simpa using hS k hs)
theorem RdAt.setP {r g o cap P j:Nat} {ts:List Tk} {w:World} (h:RdAt r g o cap ts w) (u:Value) (hr:r≠P) (hg:g≠P):RdAt r g o cap ts (w.setCell ⟨P,j,none⟩ u):=h.keep (Below.heap_setCell _ _ _ _ (by simpa using hr)) (Below.heap_setCell _ _ _ _ (by simpa using hg))
def St.at:Nat→St→St
 | l,.mk k s es b e _=>.mk k s es b e l
def atL (l:Nat) (R:PR St):PR St:=match R with
 | .error a=>.error a
 | .ok (s,us)=>.ok (s.at l,us)
def choiceP (f:Nat) (ts:List Tk) (line:Nat):Option (PR St):=thenP (pBetween f 1 ts) fun e us=>thenP (pBlock f us) fun b us=>if isTk (hdT us) [101,108,115,101]=true then thenP (pBlock f us.tail) fun c us=>some (.ok (.mk 4 [] [e] b c line,us)) else some (.ok (.mk 3 [] [e] b [] line,us))
theorem choiceP_at (f:Nat) (ts:List Tk) (line:Nat) {R:PR St} (h:choiceP f ts line=some R):∃R0,choiceP f ts 0=some R0∧atL line R0=R:=by
 unfold choiceP at h ⊢
 cases h1:pBetween f 1 ts with
 | none=>rw [h1] at h;cases h
 | some r1 =>
  rw [h1] at h
  rcases r1 with a | ⟨e,us⟩
  ·simp only [thenP,Option.some.injEq] at h ⊢
   exact ⟨_,rfl,h⟩
  ·simp only [thenP] at h ⊢
   cases h2:pBlock f us with
   | none=>rw [h2] at h;cases h
   | some r2 =>
    rw [h2] at h
    rcases r2 with a | ⟨b,us2⟩
    ·simp only [Option.some.injEq] at h ⊢
     exact ⟨_,rfl,h⟩
    ·simp only at h ⊢
     by_cases hc:isTk (hdT us2) [101,108,115,101]=true
     ·rw [if_pos hc] at h ⊢
      cases h3:pBlock f us2.tail with
      | none=>rw [h3] at h;cases h
      | some r3 =>
       rw [h3] at h
       rcases r3 with a | ⟨c,us3⟩
       ·simp only [Option.some.injEq] at h ⊢
        exact ⟨_,rfl,h⟩
       ·simp only [Option.some.injEq] at h ⊢
        exact ⟨_,rfl,h⟩
     ·rw [if_neg hc] at h ⊢
      simp only [Option.some.injEq] at h ⊢
      exact ⟨_,rfl,h⟩
def setP (f:Nat) (ts:List Tk) (line:Nat):Option (PR St):=thenP (pBetween f 1 ts) fun e us=>if isTk (hdT us) [61]=true then (if placeB e=true then thenP (pBetween f 1 us.tail) fun e2 us=>thenP (needP [59] us) fun _ us=>some (.ok (.mk 2 [] [e,e2] [] [] line,us)) else some (.error (hdT us).at0)) else thenP (needP [59] us) fun _ us=>some (.ok (.mk 7 [] [e] [] [] line,us))
theorem setP_at (f:Nat) (ts:List Tk) (line:Nat) {R:PR St} (h:setP f ts line=some R):∃R0,setP f ts 0=some R0∧atL line R0=R:=by
 unfold setP needP at h ⊢
 cases h1:pBetween f 1 ts with
 | none=>rw [h1] at h;cases h
 | some r1 =>
  rw [h1] at h
  rcases r1 with a | ⟨e,us⟩
  ·simp only [thenP,Option.some.injEq] at h ⊢
   exact ⟨_,rfl,h⟩
  ·simp only [thenP] at h ⊢
   by_cases hc:isTk (hdT us) [61]=true
   ·rw [if_pos hc] at h ⊢
    by_cases hd:placeB e=true
    ·rw [if_pos hd] at h ⊢
     cases h2:pBetween f 1 us.tail with
     | none=>rw [h2] at h;cases h
     | some r2 =>
      rw [h2] at h
      rcases r2 with a | ⟨e2,us2⟩
      ·simp only [Option.some.injEq] at h ⊢
       exact ⟨_,rfl,h⟩
      ·simp only at h ⊢
       by_cases he:isTk (hdT us2) [59]=true
       ·simp only [if_pos he,Option.some.injEq] at h ⊢;exact ⟨_,rfl,h⟩
       ·simp only [if_neg he,Option.some.injEq] at h ⊢;exact ⟨_,rfl,h⟩
    ·rw [if_neg hd] at h ⊢
     simp only [Option.some.injEq] at h ⊢
     exact ⟨_,rfl,h⟩
   ·rw [if_neg hc] at h ⊢
    by_cases he:isTk (hdT us) [59]=true
    ·simp only [if_pos he,Option.some.injEq] at h ⊢;exact ⟨_,rfl,h⟩
    ·simp only [if_neg he,Option.some.injEq] at h ⊢;exact ⟨_,rfl,h⟩
abbrev stO (k:Int) (s:ByteArray) (e b l:Value) (line:Int):Obj:=.cells #[.int .i64 k,.string s,e,b,l,.int .i64 line] 117
abbrev exO (a:Int) (b:ByteArray) (c:Int) (d:Value) (e:Int):Obj:=.cells #[.int .i64 a,.string b,.int .i64 c,d,.int .i64 e] 40
set_option maxHeartbeats 4000000 in
theorem rdChoice (r g o cap F:Nat) (ts:List Tk) (w:World) (R:PR St) (h:RdAt r g o cap ts w) (hE:EndsT ts) (hp:choiceP F ts 0=some R)
  (hex:∀w1 o1 cap1 ts1 r1,pBetween F 1 ts1=some r1→EndsT ts1→RdAt r g o1 cap1 ts1 w1→Kept r w w1→Calls Tryz.prog 37 #[.pointer (some ⟨r,0,none⟩)] w1 (PostE r g w1 r1))
  (hbl:∀w1 o1 cap1 ts1 r1,pBlock F ts1=some r1→EndsT ts1→RdAt r g o1 cap1 ts1 w1→Kept r w w1→Calls Tryz.prog 113 #[.pointer (some ⟨r,0,none⟩)] w1 (PostSs r g w1 r1)) :
  Calls Tryz.prog 174 #[.pointer (some ⟨r,0,none⟩)] w (PostS r g w R):=by
 obtain ⟨t0,ts0,rfl⟩:=hE.cons
 have hr:=h.lt.1
 have hgw:=h.lt.2
 unfold choiceP at hp
 obtain ⟨w0,hw0⟩:∃w0,w0=w.alloc stZ:=⟨_,rfl⟩
 have h0:RdAt r g o cap (t0::ts0) w0:=by rw [hw0];exact h.alloc _
 have k0:Kept r w w0:=by rw [hw0];exact (Kept.refl r w).alloc _
 have b0:w0.heap[w.heap.size]?=some stZ:=by rw [hw0];exact World.alloc_heap_new _ _
 have hs0:w0.heap.size=w.heap.size+1:=by rw [hw0];simp
 have HW0:Hid (w0=w.alloc stZ):=hw0
 have HBL:Hid (∀w1 o1 cap1 ts1 r1,pBlock F ts1=some r1→EndsT ts1→RdAt r g o1 cap1 ts1 w1→Kept r w w1→Calls Tryz.prog 113 #[.pointer (some ⟨r,0,none⟩)] w1 (PostSs r g w1 r1)):=hbl
 cases hb1:pBetween F 1 (t0::ts0) with
 | none=>rw [hb1] at hp;cases hp
 | some r1 =>
  have ce:=hex w0 o cap (t0::ts0) r1 hb1 hE h0 k0
  rw [hb1] at hp
  clear hex hbl h h0 hw0
  go_enter Tryz.func174,Tryz.ntmps174
  go_wp2_with fail
  rw [←HW0.out]
  refine ce.mono ?_
  clear ce HW0
  rintro e w1 ⟨hk1,hpost⟩
  rcases r1 with a | ⟨x,us⟩
  ·obtain rfl:=hpost
   simp only [thenP,Option.some.injEq] at hp
   subst hp
   exact ⟨rfl,k0.trans hk1,rfl⟩
  ·obtain ⟨v,o1,cap1,rfl,hx,hrd⟩:=hpost
   obtain ⟨xa,xb,xc,x0,x1,x2,xl,rfl⟩:=hx.agg
   have hE1:=(parse_ends F).1 _ _ _ _ hb1 hE
   simp only [thenP] at hp
   cases hb2:pBlock F us with
   | none=>rw [hb2] at hp;cases hp
   | some r2 =>
    rw [hb2] at hp
    have hs1:=hk1.size
    obtain ⟨P,hP⟩:∃P,P=w1.heap.size+1:=⟨_,rfl⟩
    obtain ⟨w2,hw2⟩:∃w2,w2=(w1.alloc (exO xa xb xc (.slice x0 x1 x2) xl)).alloc (stO 3 ⟨#[]⟩ (.slice (some ⟨w1.heap.size,0,none⟩) 1 1) (.slice none 0 0) (.slice none 0 0) 0):=⟨_,rfl⟩
    have hs2:w2.heap.size=P+1:=by rw [hw2,hP];simp
    have hbP:w2.heap[P]?=some (stO 3 ⟨#[]⟩ (.slice (some ⟨w1.heap.size,0,none⟩) 1 1) (.slice none 0 0) (.slice none 0 0) 0):=by
     rw [hw2,hP]
     have:=World.alloc_heap_new (w1.alloc (exO xa xb xc (.slice x0 x1 x2) xl)) (stO 3 ⟨#[]⟩ (.slice (some ⟨w1.heap.size,0,none⟩) 1 1) (.slice none 0 0) (.slice none 0 0) 0)
     simpa using this
    have k02:Kept r w w2:=by rw [hw2];exact ((k0.trans hk1).alloc _).alloc _
    have b2:w2.heap[w.heap.size]?=some stZ:=by
     rw [hw2,Below.heap_alloc _ _ _ (by simp;omega),Below.heap_alloc _ _ _ (by omega)]
     exact (hk1.block _ (by omega) (by omega)).trans b0
    obtain ⟨t1,us1,rfl⟩:=hE1.cons
    have hrd2:RdAt r g o1 cap1 (t1::us1) w2:=by rw [hw2];exact (hrd.alloc _).alloc _
    have hrow1:=RowIn.one (S:=fun k=>w0.heap.size≤k) 40 (c:=[.int .i64 xa,.string xb,.int .i64 xc,.slice x0 x1 x2,.int .i64 xl]) hx rfl (by omega)
    have hrow2:RowIn (fun k=>w0.heap.size≤k∧k<P) w2 [x] (.slice (some ⟨w1.heap.size,0,none⟩) 1 1):=by
     have h9:=hrow1.lower
     have e9:(w1.alloc (.cells [Value.int .i64 xa,.string xb,.int .i64 xc,.slice x0 x1 x2,.int .i64 xl].toArray 40)).heap.size=P:=by rw [hP];simp
     rw [e9] at h9
     rw [hw2]
     exact h9.kept (by simp) fun k hk _=>Below.heap_alloc _ _ _ (by rw [e9];exact hk.2)
    have cb:=HBL.out w2 o1 cap1 (t1::us1) r2 hb2 hE1 hrd2 k02
    have HW2:Hid (w2=(w1.alloc (exO xa xb xc (.slice x0 x1 x2) xl)).alloc (stO 3 ⟨#[]⟩ (.slice (some ⟨w1.heap.size,0,none⟩) 1 1) (.slice none 0 0) (.slice none 0 0) 0)):=hw2
    have HROW:Hid (RowIn (fun k=>w0.heap.size≤k∧k<P) w2 [x] (.slice (some ⟨w1.heap.size,0,none⟩) 1 1)):=hrow2
    have HB:Hid (w2.heap[w.heap.size]?=some stZ∧w2.heap[P]?=some (stO 3 ⟨#[]⟩ (.slice (some ⟨w1.heap.size,0,none⟩) 1 1) (.slice none 0 0) (.slice none 0 0) 0)):=⟨b2,hbP⟩
    have HK2:Hid (Kept r w w2):=k02
    have HS:Hid (w0.heap.size=w.heap.size+1∧w1.heap.size+1=P∧w2.heap.size=P+1∧w0.heap.size≤w1.heap.size):=⟨hs0,hP.symm,hs2,hs1⟩
    have HPP:Hid (w1.heap.size+1=P):=hP.symm
    clear hw2 hrow1 hrow2 hbP b2 b0 k0 hk1 hx hrd hrd2 k02 hs2 hs1 hs0 hP
    go_wp2_with fail
    rw [←HW2.out]
    refine cb.mono ?_
    clear cb HW2
    rintro e w3 ⟨hk3,hpost⟩
    rcases r2 with a | ⟨bl,us2⟩
    ·obtain rfl:=hpost
     simp only [Option.some.injEq] at hp
     subst hp
     exact ⟨rfl,HK2.out.trans hk3,rfl⟩
    ·obtain ⟨vb,o3,cap3,rfl,hbs,hrd3⟩:=hpost
     simp only at hp
     obtain ⟨c0,c1,c2,rfl⟩:=hbs.slice
     have hE2:=(stmt_ends F).2.1 _ _ _ hb2 hE1
     obtain ⟨t2,us3,rfl⟩:=hE2.cons
     have hS:=HS.out
     have hs3:=hk3.size
     have b3:=(hk3.block w.heap.size (by omega) (by omega)).trans HB.out.1
     have p3:=(hk3.block P (by omega) (by omega)).trans HB.out.2
     obtain ⟨g0,g1,g2,g3,g4,g5,gf⟩:=cells6 p3
     have gf3:=gf 3
     obtain ⟨w4,hw4⟩:∃w4,w4=w3.setCell ⟨P,3,none⟩ (.slice c0 c1 c2):=⟨_,rfl⟩
     have p4:w4.heap[P]?=some (stO 3 ⟨#[]⟩ (.slice (some ⟨w1.heap.size,0,none⟩) 1 1) (.slice c0 c1 c2) (.slice none 0 0) 0):=by rw [hw4];exact setCell_block _ p3
     have b4:w4.heap[w.heap.size]?=some stZ:=by rw [hw4,Below.heap_setCell _ _ _ _ (by simp;omega)];exact b3
     have hz4:w4.heap.size=w3.heap.size:=by rw [hw4];simp
     have hrd4:RdAt r g o3 cap3 (t2::us3) w4:=by rw [hw4];exact hrd3.setP _ (by omega) (by omega)
     have k4:Kept r w w4:=by rw [hw4];exact (HK2.out.trans hk3).setOther (by simp;omega) _
     have hrow4:RowIn (fun k=>w0.heap.size≤k∧k<P) w4 [x] (.slice (some ⟨w1.heap.size,0,none⟩) 1 1):=by rw [hw4];exact (HROW.out.keptR hk3 fun k hk=>by omega).setP _ fun k hk=>by omega
     have hbs4:StsIn (fun k=>w2.heap.size≤k) w4 bl (.slice c0 c1 c2):=by rw [hw4];exact hbs.setP _ fun k hk=>by omega
     have cs:=rdSkip r g o3 cap3 t2 us3 [101,108,115,101] w4 hrd4 (fun hi=>(hE2.tail (isTk_kind hi)).ne)
     have HB4:Hid (w4.heap[w.heap.size]?=some stZ∧w4.heap[P]?=some (stO 3 ⟨#[]⟩ (.slice (some ⟨w1.heap.size,0,none⟩) 1 1) (.slice c0 c1 c2) (.slice none 0 0) 0)):=⟨b4,p4⟩
     have HK4:Hid (Kept r w w4):=k4
     have HROW4:Hid (RowIn (fun k=>w0.heap.size≤k∧k<P) w4 [x] (.slice (some ⟨w1.heap.size,0,none⟩) 1 1)):=hrow4
     have HBS4:Hid (StsIn (fun k=>w2.heap.size≤k) w4 bl (.slice c0 c1 c2)):=hbs4
     have HZ4:Hid (w2.heap.size≤w4.heap.size):=show _≤_ by omega
     have hw4':=hw4.symm
     have hE3:=hE2
     simp only [hdT_cons,List.tail_cons] at hp
     rw [HPP.out]
     clear hw4 p4 b4 hz4 hrd4 k4 hrow4 hbs4 hbs hrd3 b3 p3 gf g0 g1 g2 g4 g5 hk3 hs3 hS HB HROW HK2 hE2
     by_cases hi:isTk t2 [101,108,115,101]=true
     ·rw [hi] at cs
      rw [if_pos hi] at hp
      have hE4:=hE3.tail (isTk_kind hi)
      cases hb3:pBlock F us3 with
      | none=>rw [hb3] at hp;cases hp
      | some r3 =>
       rw [hb3] at hp
       go_wp2_with fail
       refine cs.mono ?_
       clear cs hw4' g3 gf3
       rintro e w5 ⟨rfl,hk5,h5⟩
       have hS:=HS.out
       have hz4:=HZ4.out
       have hs5:=hk5.size
       have h5':RdAt r g (o3+5) (cap3-1) us3 w5:=by simpa using h5
       have b5:=(hk5.block w.heap.size (by omega) (by omega)).trans HB4.out.1
       have p5:=(hk5.block P (by omega) (by omega)).trans HB4.out.2
       obtain ⟨g0,-,-,-,-,-,gf⟩:=cells6 p5
       have gf0:=gf 0
       obtain ⟨w6,hw6⟩:∃w6,w6=w5.setCell ⟨P,0,none⟩ (.int .i64 4):=⟨_,rfl⟩
       have p6:w6.heap[P]?=some (stO 4 ⟨#[]⟩ (.slice (some ⟨w1.heap.size,0,none⟩) 1 1) (.slice c0 c1 c2) (.slice none 0 0) 0):=by rw [hw6];exact setCell_block _ p5
       have b6:w6.heap[w.heap.size]?=some stZ:=by rw [hw6,Below.heap_setCell _ _ _ _ (by simp;omega)];exact b5
       have hz6:w6.heap.size=w5.heap.size:=by rw [hw6];simp
       have hrd6:RdAt r g (o3+5) (cap3-1) us3 w6:=by rw [hw6];exact h5'.setP _ (by omega) (by omega)
       have k6:Kept r w w6:=by rw [hw6];exact (HK4.out.trans hk5).setOther (by simp;omega) _
       have hrow6:RowIn (fun k=>w0.heap.size≤k∧k<P) w6 [x] (.slice (some ⟨w1.heap.size,0,none⟩) 1 1):=by rw [hw6];exact (HROW4.out.keptR hk5 fun k hk=>by omega).setP _ fun k hk=>by omega
       have hbs6:StsIn (fun k=>w2.heap.size≤k) w6 bl (.slice c0 c1 c2):=by rw [hw6];exact (HBS4.out.keptR hk5 fun k hk=>by omega).setP _ fun k hk=>by omega
       have cb:=HBL.out w6 _ _ us3 r3 hb3 hE4 hrd6 k6
       have HB6:Hid (w6.heap[w.heap.size]?=some stZ∧w6.heap[P]?=some (stO 4 ⟨#[]⟩ (.slice (some ⟨w1.heap.size,0,none⟩) 1 1) (.slice c0 c1 c2) (.slice none 0 0) 0)):=⟨b6,p6⟩
       have HK6:Hid (Kept r w w6):=k6
       have HROW6:Hid (RowIn (fun k=>w0.heap.size≤k∧k<P) w6 [x] (.slice (some ⟨w1.heap.size,0,none⟩) 1 1)):=hrow6
       have HBS6:Hid (StsIn (fun k=>w2.heap.size≤k) w6 bl (.slice c0 c1 c2)):=hbs6
       have HZ6:Hid (w2.heap.size≤w6.heap.size):=show _≤_ by omega
       have hw6':=hw6.symm
       clear hw6 p6 b6 hz6 hrd6 k6 hrow6 hbs6 b5 p5 gf hk5 hs5 hS hz4 h5 h5' HB4 HROW4 HBS4 HK4 HZ4
       go_wp2_with fail
       refine cb.mono ?_
       clear cb hw6' g0 gf0
       rintro e w7 ⟨hk7,hpost⟩
       rcases r3 with a | ⟨cl,us4⟩
       ·obtain rfl:=hpost
        simp only [Option.some.injEq] at hp
        subst hp
        exact ⟨rfl,HK6.out.trans hk7,rfl⟩
       ·obtain ⟨vl,o7,cap7,rfl,hls,hrd7⟩:=hpost
        simp only [Option.some.injEq] at hp
        subst hp
        obtain ⟨d0,d1,d2,rfl⟩:=hls.slice
        have hS:=HS.out
        have hz6:=HZ6.out
        have hs7:=hk7.size
        have b7:=(hk7.block w.heap.size (by omega) (by omega)).trans HB6.out.1
        have p7:=(hk7.block P (by omega) (by omega)).trans HB6.out.2
        obtain ⟨-,-,-,-,g4,-,gf⟩:=cells6 p7
        have gf4:=gf 4
        obtain ⟨w8,hw8⟩:∃w8,w8=w7.setCell ⟨P,4,none⟩ (.slice d0 d1 d2):=⟨_,rfl⟩
        have p8:w8.heap[P]?=some (stO 4 ⟨#[]⟩ (.slice (some ⟨w1.heap.size,0,none⟩) 1 1) (.slice c0 c1 c2) (.slice d0 d1 d2) 0):=by rw [hw8];exact setCell_block _ p7
        have b8:w8.heap[w.heap.size]?=some stZ:=by rw [hw8,Below.heap_setCell _ _ _ _ (by simp;omega)];exact b7
        have hrd8:RdAt r g o7 cap7 us4 w8:=by rw [hw8];exact hrd7.setP _ (by omega) (by omega)
        have k8:Kept r w w8:=by rw [hw8];exact (HK6.out.trans hk7).setOther (by simp;omega) _
        have hrow8:RowIn (fun k=>w0.heap.size≤k) w8 [x] (.slice (some ⟨w1.heap.size,0,none⟩) 1 1):=by rw [hw8];exact ((HROW6.out.keptR hk7 fun k hk=>by omega).setP _ fun k hk=>by omega).wide fun k hk=>hk.1
        have hbs8:StsIn (fun k=>w0.heap.size≤k) w8 bl (.slice c0 c1 c2):=by rw [hw8];exact ((HBS6.out.keptR hk7 fun k hk=>by omega).setP _ fun k hk=>by omega).wide fun k hk=>by omega
        have hls8:StsIn (fun k=>w0.heap.size≤k) w8 cl (.slice d0 d1 d2):=by rw [hw8];exact (hls.setP _ fun k hk=>by omega).wide fun k hk=>by omega
        obtain ⟨e0,e1,e2,e3,e4,e5,-⟩:=cells6 p8
        obtain ⟨q0,q1,q2,q3,q4,q5,qf⟩:=cells6 b8
        obtain ⟨z0,z1,z2,z3,z4,z5,-⟩:=cells6 (set6_block b8 (.int .i64 4) (.string ⟨#[]⟩) (.slice (some ⟨w1.heap.size,0,none⟩) 1 1) (.slice c0 c1 c2) (.slice d0 d1 d2) (.int .i64 0))
        have HP:Hid (PostS r g w (.ok (.mk 4 [] [x] bl cl 0,us4)) (.returned (.agg #[.int .i64 4,.string ⟨#[]⟩,.slice (some ⟨w1.heap.size,0,none⟩) 1 1,.slice c0 c1 c2,.slice d0 d1 d2,.int .i64 0])) (set6 w8 w.heap.size (.int .i64 4) (.string ⟨#[]⟩) (.slice (some ⟨w1.heap.size,0,none⟩) 1 1) (.slice c0 c1 c2) (.slice d0 d1 d2) (.int .i64 0))) :=
         PostS.of_set6 (B:=w0.heap.size) 4 [] 0 k8 (Nat.le_refl _) hr hgw hrow8 hbs8 hls8 (by omega) hrd8
        have hw8':=hw8.symm
        clear hw8 p8 b8 hrd8 k8 hrow8 hbs8 hls8 b7 p7 gf hk7 hs7 hS hz6 hls hrd7 HB6 HROW6 HBS6 HK6 HZ6
        go_wp2
        exact bodyPost_ret (v:=.agg #[.int .i64 4,.string ⟨#[]⟩,.slice (some ⟨w1.heap.size,0,none⟩) 1 1,.slice c0 c1 c2,.slice d0 d1 d2,.int .i64 0]) (by simp [results,Tryz.results174,go_sem,z0,z1,z2,z3,z4,z5]) rfl HP.out
     ·have hi':isTk t2 [101,108,115,101]=false:=by simpa using hi
      rw [hi'] at cs
      rw [if_neg hi] at hp
      simp only [Option.some.injEq] at hp
      subst hp
      go_wp2_with fail
      refine cs.mono ?_
      clear cs hw4' g3 gf3
      rintro e w5 ⟨rfl,hk5,h5⟩
      have hS:=HS.out
      have hz4:=HZ4.out
      have hs5:=hk5.size
      have h5':RdAt r g o3 cap3 (t2::us3) w5:=by simpa using h5
      have b5:=(hk5.block w.heap.size (by omega) (by omega)).trans HB4.out.1
      have p5:=(hk5.block P (by omega) (by omega)).trans HB4.out.2
      have k5:Kept r w w5:=HK4.out.trans hk5
      have hrow5:RowIn (fun k=>w0.heap.size≤k) w5 [x] (.slice (some ⟨w1.heap.size,0,none⟩) 1 1):=(HROW4.out.keptR hk5 fun k hk=>by omega).wide fun k hk=>hk.1
      have hbs5:StsIn (fun k=>w0.heap.size≤k) w5 bl (.slice c0 c1 c2):=(HBS4.out.keptR hk5 fun k hk=>by omega).wide fun k hk=>by omega
      obtain ⟨e0,e1,e2,e3,e4,e5,-⟩:=cells6 p5
      obtain ⟨q0,q1,q2,q3,q4,q5,qf⟩:=cells6 b5
      obtain ⟨z0,z1,z2,z3,z4,z5,-⟩:=cells6 (set6_block b5 (.int .i64 3) (.string ⟨#[]⟩) (.slice (some ⟨w1.heap.size,0,none⟩) 1 1) (.slice c0 c1 c2) (.slice none 0 0) (.int .i64 0))
      have HP:Hid (PostS r g w (.ok (.mk 3 [] [x] bl [] 0,t2::us3)) (.returned (.agg #[.int .i64 3,.string ⟨#[]⟩,.slice (some ⟨w1.heap.size,0,none⟩) 1 1,.slice c0 c1 c2,.slice none 0 0,.int .i64 0])) (set6 w5 w.heap.size (.int .i64 3) (.string ⟨#[]⟩) (.slice (some ⟨w1.heap.size,0,none⟩) 1 1) (.slice c0 c1 c2) (.slice none 0 0) (.int .i64 0))) :=
       PostS.of_set6 (B:=w0.heap.size) 3 [] 0 k5 (Nat.le_refl _) hr hgw hrow5 hbs5 (StsIn.nil _ _) (by omega) h5'
      clear b5 p5 k5 hrow5 hbs5 hk5 hs5 hS hz4 h5 h5' HB4 HROW4 HBS4 HK4 HZ4
      go_wp2
      exact bodyPost_ret (v:=.agg #[.int .i64 3,.string ⟨#[]⟩,.slice (some ⟨w1.heap.size,0,none⟩) 1 1,.slice c0 c1 c2,.slice none 0 0,.int .i64 0]) (by simp [results,Tryz.results174,go_sem,z0,z1,z2,z3,z4,z5]) rfl HP.out
end Go.Proofs.YtghhamgealkodaaGreatDoor
