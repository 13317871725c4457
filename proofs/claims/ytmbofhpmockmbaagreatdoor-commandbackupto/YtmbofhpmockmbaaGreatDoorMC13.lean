import Derived.Test.YtmbofhpmockmbaaGreatDoorXScan
import Derived.Test.YtmbofhpmockmbaaGreatDoorMC6
namespace Go.Proofs.YtmbofhpmockmbaaGreatDoor
open Go.RowKit Go.Shelf
set_option maxHeartbeats 16000000
set_option maxRecDepth 100000
attribute [local go_sem] Oper.semAt_some
theorem v8 (l:List UInt8) (w:World) (hl:4096<l.length) :
  Calls Tryz.prog 94 #[.string (za l)] w fun e w'=>e=.returned (.tuple #[.slice none 0 0,.int .i64 0,.int .i64 5])∧Below w.heap.size w w':=by
 have x:(za l).size=l.length:=rfl;have D:(4096:Int)<l.length:=by omega
 refine (callsIn_wide (n:=7)).1 ?_;refine callsIn_of_wp_marks Tryz.func94 rfl trivial ?_ rfl;simp only [Tryz.ntmps94,List.size_toArray,List.length_cons,List.length_nil,Nat.reduceAdd,Nat.reduceSub,Array.replicate_succ,Array.replicate_zero,List.push_toArray,List.append_toArray,List.nil_append,List.cons_append]
 gi_wp2
 have G:Boxed (((w.alloc (.cells #[.slice none 0 0] 133)).alloc (.cells #[.int .i64 0] 3)).alloc (.cells #[.int .i64 5] 25)) w.heap.size 133 (.slice none 0 0):=((Boxed.new w _ _).alloc _).alloc _
 have H:Boxed (((w.alloc (.cells #[.slice none 0 0] 133)).alloc (.cells #[.int .i64 0] 3)).alloc (.cells #[.int .i64 5] 25)) (w.heap.size+1) 3 (.int .i64 0):=by
  have h:=(Boxed.new (w.alloc (.cells #[.slice none 0 0] 133)) 3 (.int .i64 0)).alloc (.cells #[.int .i64 5] 25);rw [World.size_alloc] at h;exact h
 have E:Boxed (((w.alloc (.cells #[.slice none 0 0] 133)).alloc (.cells #[.int .i64 0] 3)).alloc (.cells #[.int .i64 5] 25)) (w.heap.size+1+1) 25 (.int .i64 5):=by
  have h:=Boxed.new ((w.alloc (.cells #[.slice none 0 0] 133)).alloc (.cells #[.int .i64 0] 3)) 25 (.int .i64 5);rw [World.size_alloc,World.size_alloc] at h;exact h
 have z:Below w.heap.size w (((w.alloc (.cells #[.slice none 0 0] 133)).alloc (.cells #[.int .i64 0] 3)).alloc (.cells #[.int .i64 5] 25)):=(((Below.refl _ w).alloc (Nat.le_refl _) _).alloc (by simp) _).alloc (by simp;omega) _
 have y:=G.cell;have A:=H.cell;have o:=E.cell;generalize ((w.alloc (.cells #[.slice none 0 0] 133)).alloc (.cells #[.int .i64 0] 3)).alloc (.cells #[.int .i64 5] 25)=W at y A o z ⊢;exact ⟨_,ZY rfl _ _ _ rfl rfl rfl (by simp [go_sem,y]) (by simp [go_sem,A]) (by simp [go_sem,o]),rfl,z⟩
theorem Va (l:List UInt8) (w:World) (ht:Zh w) :
  Calls Tryz.prog 94 #[.string (za l)] w fun e w'=>∃(r:Value),e=.returned (.tuple #[r,.int .i64 (zJ l).2.1,.int .i64 (zJ l).2.2]) ∧
   w'.ownsRow w.heap.size 142 5 r (zJ l).1.length (zO (zJ l).1)∧Below w.heap.size w w':=by
 by_cases h:4096<l.length
 ·refine (v8 l w h).mono ?_
  rintro e w' ⟨rfl,x⟩
  unfold zJ
  rw [if_pos h];exact ⟨_,rfl,World.ownsRow_nil _ _ _ _,x⟩
 ·refine (Vw l w (by omega) ht).mono ?_
  rintro e w' o
  unfold zJ
  rw [if_neg h];exact o
abbrev YA (t:Tk):Value:=.agg #[.int .i64 t.k,.string (za t.s),.int .i64 t.n,.int .i64 t.line,.int .i64 t.at0]
abbrev zE (t:Tk):Obj:=.cells #[.int .i64 t.k,.string (za t.s),.int .i64 t.n,.int .i64 t.line,.int .i64 t.at0] 142
structure zc (r g o cap:Nat) (ts:List Tk) (w:World):Prop where
 cell:w.cell? ⟨r,0,none⟩=some (.slice (some ⟨g,o,none⟩) ts.length cap)
 soft:w.frozen? ⟨r,0,none⟩=false
 hcap:ts.length≤cap
 hmax:cap≤maxLen
 other:r≠g
 toks:∀j u,(zO ts)[j]?=some u→w.cell? ⟨g,o+j,none⟩=some u
 few:ts.length≤1099511627776
theorem ze {w:World} {p:Addr} {v:Value} (h:w.cell? p=some v) (ob:Obj):(w.alloc ob).cell? p=some v:=by
 rw [World.cell?_alloc_lt _ _ p (World.block_lt_of_cell? w _ h)];exact h
theorem Vb (a b c d e:Value) (w:World):(Instr.field 142 (.agg #[a,b,c,d,e]) 4).run Tryz.prog w=.ok e w:=by kernel_rfl
theorem Yn (a b c d e:Value) (w:World):(Instr.field 142 (.agg #[a,b,c,d,e]) 0).run Tryz.prog w=.ok a w:=by kernel_rfl
theorem Xn (a b c d e:Value) (w:World):(Instr.field 142 (.agg #[a,b,c,d,e]) 1).run Tryz.prog w=.ok b w:=by kernel_rfl
theorem Yo (a b c d e:Value) (w:World):(Instr.field 142 (.agg #[a,b,c,d,e]) 3).run Tryz.prog w=.ok d w:=by kernel_rfl
theorem zZ (r g o cap:Nat) (t:Tk) (ts:List Tk) (w:World) (h:zc r g o cap (t::ts) w) :
  Calls Tryz.prog 117 #[.pointer (some ⟨r,0,none⟩)] w fun e w'=>e=.returned (YA t)∧w'=w.alloc (zE t):=by
 have y:=h.cell;have N:=h.hmax;have G:=h.hcap;have x:=h.toks 0 (.int .i64 t.k) (by simp [zO])
 have z:=h.toks 1 (.string (za t.s)) (by simp [zO])
 have E:=h.toks 2 (.int .i64 t.n) (by simp [zO])
 have A:=h.toks 3 (.int .i64 t.line) (by simp [zO])
 have D:=h.toks 4 (.int .i64 t.at0) (by simp [zO])
 clear h;simp only [List.length_cons,Nat.add_zero] at y G x;have K:=ze y;have J:=ze x;have H:=ze z;have L:=ze E;have I:=ze A;have M:=ze D;clear y x z E A D
 go_enter Tryz.func117,Tryz.ntmps117
 go_wp2
 simp [bodyPost,results,Tryz.results117,go_sem]
theorem yO (r g o cap:Nat) (t:Tk) (ts:List Tk) (w:World) (h:zc r g o cap (t::ts) w) (hne:ts≠[]) :
  Calls Tryz.prog 121 #[.pointer (some ⟨r,0,none⟩)] w fun e w'=>e=.returned (.tuple #[])∧w'=w.setCell ⟨r,0,none⟩ (.slice (some ⟨g,o+5,none⟩) ts.length (cap-1)):=by
 have x:=h.cell;have z:=h.hmax;have y:=h.hcap;have A:=h.soft;clear h;simp only [List.length_cons] at x y
 go_enter Tryz.func121,Tryz.ntmps121
 go_wp2
 ·exfalso
  have:=List.length_pos_iff.2 hne
  omega
 ·simp [bodyPost,results,Tryz.results121]
theorem zc.keep {r g o cap:Nat} {ts:List Tk} {w w':World} (h:zc r g o cap ts w) (hr:w'.heap[r]?=w.heap[r]?) (hg:w'.heap[g]?=w.heap[g]?):zc r g o cap ts w' where
 cell:=by rw [World.cell?_of_block hr];exact h.cell
 soft:=by have:=h.soft;simp only [World.frozen?,hr] at this ⊢;exact this
 hcap:=h.hcap
 hmax:=h.hmax
 other:=h.other
 toks:=fun j u hj=>by rw [World.cell?_of_block hg];exact h.toks j u hj
 few:=h.few
theorem zc.next {r g o cap:Nat} {t:Tk} {ts:List Tk} {w:World} (h:zc r g o cap (t::ts) w):zc r g (o+5) (cap-1) ts (w.setCell ⟨r,0,none⟩ (.slice (some ⟨g,o+5,none⟩) ts.length (cap-1))) where
 cell:=World.cell?_setCell_same _ _ _ h.cell
 soft:=by rw [World.frozen?_setCell];exact h.soft
 hcap:=by have:=h.hcap;simp only [List.length_cons] at this;omega
 hmax:=by have:=h.hmax;omega
 other:=h.other
 toks:=fun j u hj=>by
  rw [World.cell?_setCell_other _ _ _ _ (by simp)]
  have:=h.toks (5+j) u (by simpa [zO,List.getElem?_append,Nat.add_comm] using hj)
  rw [show o+5+j=o+(5+j) by omega];exact this
 few:=by have:=h.few;simp only [List.length_cons] at this;omega
theorem Xo (r g o cap:Nat) (t:Tk) (ts:List Tk) (w:World) (h:zc r g o cap (t::ts) w) :
  Calls Tryz.prog 118 #[.pointer (some ⟨r,0,none⟩)] w fun e w'=>e=.panicked [{ v:=Xf 6 t.at0,recovered:=false }]∧w'=w.alloc (zE t):=by
 have x:=zZ r g o cap t ts w h;have z:=Vb;have y:∀(v:Value) (w:World),(Instr.panic (.iface 171 v)).run Tryz.prog w=.halt (.panic (.iface 171 v)) w:=fun _ _=>rfl
 clear h
 go_enter Tryz.func118,Tryz.ntmps118
 go_wp2_with fail
 refine x.mono ?_;rintro e w' ⟨rfl,rfl⟩;simp only [YA];go_wp2
 exact ⟨rfl,rfl,rfl⟩
def zn (t:Tk) (s:List UInt8):Bool:=(t.k==4||t.k==5)&&t.s==s
theorem VQ (r g o cap:Nat) (t:Tk) (ts:List Tk) (s:List UInt8) (w:World) (h:zc r g o cap (t::ts) w) :
  Calls Tryz.prog 179 #[.pointer (some ⟨r,0,none⟩),.string (za s)] w fun e w'=>e=.returned (.bool (zn t s))∧w'=(w.alloc (zE t)).alloc (zE t):=by
 have y:=zZ r g o cap t ts w h;clear h
 go_enter Tryz.func179,Tryz.ntmps179
 go_wp2_with fail
 refine y.mono ?_;clear y;rintro e w' ⟨rfl,rfl⟩;simp only [YA];go_wp2
 all_goals simp_all [bodyPost,results,Tryz.results179,zn]
 ·rename_i h
  have x:t.k=4:=by omega
  exact ⟨fun _=>.inl x,by simp [zE,x]⟩
 ·rename_i h
  have x:t.k=5:=by omega
  exact ⟨fun _=>.inr x,by simp [zE,x]⟩
 ·intro z;omega
structure zb (r:Nat) (w w':World):Prop where
 os:w'.os=w.os
 tape:w'.tape=w.tape
 output:w'.output=w.output
 size:w.heap.size≤w'.heap.size
 block:∀k,k<w.heap.size→k≠r→w'.heap[k]?=w.heap[k]?
theorem zb.refl (r:Nat) (w:World):zb r w w:=⟨rfl,rfl,rfl,Nat.le_refl _,fun _ _ _=>rfl⟩
theorem zb.of {r:Nat} {w w':World} (h:Below w.heap.size w w'):zb r w w':=⟨h.os,h.tape,h.output,h.size,fun k hk _=>h.block k hk⟩
theorem zb.trans {r:Nat} {a b c:World} (h:zb r a b) (k:zb r b c):zb r a c :=
 ⟨k.os.trans h.os,k.tape.trans h.tape,k.output.trans h.output,Nat.le_trans h.size k.size,fun i hi hr=>(k.block i (Nat.lt_of_lt_of_le hi h.size) hr).trans (h.block i hi hr)⟩
theorem zb.alloc {r:Nat} {w w':World} (h:zb r w w') (ob:Obj):zb r w (w'.alloc ob) :=
 h.trans (.of ((Below.refl _ w').alloc (Nat.le_refl _) ob))
theorem zb.setCell {r:Nat} {w w':World} (h:zb r w w') (j:Nat) (v:Value):zb r w (w'.setCell ⟨r,j,none⟩ v):=by
 have e:=(Below.refl 0 w').setCell (p:=⟨r,j,none⟩) (by simp) v
 refine h.trans ⟨e.os,e.tape,e.output,e.size,fun k _ hr=>Below.heap_setCell _ _ _ _ (by simpa using hr)⟩
theorem zc.lt {r g o cap:Nat} {t:Tk} {ts:List Tk} {w:World} (h:zc r g o cap (t::ts) w):r<w.heap.size∧g<w.heap.size :=
 ⟨World.block_lt_of_cell? w _ h.cell,World.block_lt_of_cell? w _ (h.toks 0 (.int .i64 t.k) (by simp [zO]))⟩
theorem zc.alloc {r g o cap:Nat} {t:Tk} {ts:List Tk} {w:World} (h:zc r g o cap (t::ts) w) (ob:Obj):zc r g o cap (t::ts) (w.alloc ob) :=
 h.keep (Below.heap_alloc w ob r h.lt.1) (Below.heap_alloc w ob g h.lt.2)
theorem zX (r g o cap:Nat) (t:Tk) (ts:List Tk) (s:List UInt8) (w:World) (h:zc r g o cap (t::ts) w) (hne:zn t s=true→ts≠[]) :
  Calls Tryz.prog 169 #[.pointer (some ⟨r,0,none⟩),.string (za s)] w fun e w'=>e=.returned (.bool (zn t s))∧zb r w w' ∧
   if zn t s=true then zc r g (o+5) (cap-1) ts w' else zc r g o cap (t::ts) w':=by
 have y:=VQ r g o cap t ts s w h;obtain ⟨w1,x⟩:∃w1,w1=(w.alloc (zE t)).alloc (zE t):=⟨_,rfl⟩;have A:zc r g o cap (t::ts) w1:=by rw [x];exact (h.alloc _).alloc _
 have z:zb r w w1:=by rw [x];exact ((zb.refl r w).alloc _).alloc _
 rw [←x] at y;have G:Hid (zc r g o cap (t::ts) w1):=A;have E:Hid (zb r w w1):=z;cases hi:zn t s
 ·clear hne h A z x
  rw [hi] at y
  go_enter Tryz.func169,Tryz.ntmps169
  go_wp2_with fail
  refine y.mono ?_;clear y;rintro e w' ⟨rfl,rfl⟩;go_wp2
  simp only [bodyPost,results,Tryz.results169]
  simp [E.out,G.out]
 ·have D:=yO r g o cap t ts w1 A (hne hi)
  clear hne h A z x;rw [hi] at y
  go_enter Tryz.func169,Tryz.ntmps169
  go_wp2_with fail
  refine y.mono ?_;clear y;rintro e w' ⟨rfl,rfl⟩;go_wp2_with fail
  refine D.mono ?_;clear D;rintro e w' ⟨rfl,rfl⟩;go_wp2
  simp only [bodyPost,results,Tryz.results169]
  simp [E.out.setCell,G.out.next]
abbrev Ze (at0:Nat):Ending:=.panicked [{ v:=Xf 6 at0,recovered:=false }]
theorem yP (r g o cap:Nat) (t:Tk) (ts:List Tk) (s:List UInt8) (w:World) (h:zc r g o cap (t::ts) w) (hne:zn t s=true→ts≠[]) :
  Calls Tryz.prog 170 #[.pointer (some ⟨r,0,none⟩),.string (za s)] w fun e w'=>zb r w w' ∧
   if zn t s=true then e=.returned (.tuple #[])∧zc r g (o+5) (cap-1) ts w' else e=Ze t.at0:=by
 have x:=zX r g o cap t ts s w h hne;cases hi:zn t s
 ·clear hne h
  rw [hi] at x
  go_enter Tryz.func170,Tryz.ntmps170
  go_wp2_with fail
  refine x.mono ?_;clear x;rintro e w1 ⟨rfl,A,z⟩;have E:=Xo r g o cap t ts w1 (by simpa using z)
  have D:Hid (zb r w w1):=A;clear z A;go_wp2_with fail
  refine E.mono ?_;clear E;rintro e w' ⟨rfl,rfl⟩;go_wp2
  simp only [bodyPost]
  simp [D.out.alloc]
 ·clear hne h
  rw [hi] at x
  go_enter Tryz.func170,Tryz.ntmps170
  go_wp2_with fail
  refine x.mono ?_;clear x;rintro e w1 ⟨rfl,A,z⟩;have D:Hid (zb r w w1):=A;have y:zc r g (o+5) (cap-1) ts w1:=by simpa using z
  have G:Hid (zc r g (o+5) (cap-1) ts w1):=y;clear z y A;go_wp2
  simp only [bodyPost,results,Tryz.results170]
  simp [D.out,G.out]
theorem V3 (r g o cap:Nat) (t:Tk) (ts:List Tk) (w:World) (h:zc r g o cap (t::ts) w) :
  Calls Tryz.prog 97 #[.pointer (some ⟨r,0,none⟩)] w fun e w'=>zb r w w' ∧
   if t.k=0 then e=.returned (.tuple #[]) else e=Ze t.at0:=by
 have y:=zZ r g o cap t ts w h;have G:=Yn;obtain ⟨w1,x⟩:∃w1,w1=w.alloc (zE t):=⟨_,rfl⟩;have D:zc r g o cap (t::ts) w1:=by rw [x];exact h.alloc _
 have A:Hid (zb r w w1):=by rw [x];exact (zb.refl r w).alloc _
 rw [←x] at y;have z:=Xo r g o cap t ts w1 D;clear h D x
 by_cases hk:t.k=0
 ·clear z
  simp only [hk,if_true]
  go_enter Tryz.func97,Tryz.ntmps97
  go_wp2_with fail
  refine y.mono ?_;clear y;rintro e w' ⟨rfl,rfl⟩;simp only [YA,hk];go_wp2
  simp only [bodyPost,results,Tryz.results97]
  simp [A.out]
 ·have E:¬ (t.k:Int)=0:=by omega
  simp only [hk,if_false]
  go_enter Tryz.func97,Tryz.ntmps97
  go_wp2_with fail
  refine y.mono ?_;clear y;rintro e w' ⟨rfl,rfl⟩;simp only [YA];go_wp2_with fail
  refine z.mono ?_;clear z;rintro e w' ⟨rfl,rfl⟩;go_wp2
  simp only [bodyPost]
  simp [A.out.alloc]
theorem xj (r g o cap:Nat) (t:Tk) (ts:List Tk) (w:World) (h:zc r g o cap (t::ts) w) (hne:t.k=1→ts≠[]) :
  Calls Tryz.prog 171 #[.pointer (some ⟨r,0,none⟩)] w fun e w'=>zb r w w' ∧
   if t.k=1 then e=.returned (.string (za t.s))∧zc r g (o+5) (cap-1) ts w' else e=Ze t.at0:=by
 have D:=zZ r g o cap t ts w h;obtain ⟨w2,y⟩:∃w2,w2=(w.alloc (zE t)).alloc (zE t):=⟨_,rfl⟩;have A:zc r g o cap (t::ts) w2:=by rw [y];exact (h.alloc _).alloc _
 have I:Hid (zb r w w2):=by rw [y];exact ((zb.refl r w).alloc _).alloc _
 have E:=Xo r g o cap t ts w2 A
 by_cases hk:t.k=1
 ·have H:=yO r g o cap t ts w2 A (hne hk)
  have K:Hid (zc r g o cap (t::ts) w2):=A;have z:(w.alloc (zE t)).alloc (.cells #[.int .i64 1,.string (za t.s),.int .i64 t.n,.int .i64 t.line,.int .i64 t.at0] 142)=w2:=by rw [y];simp [zE,hk]
  have x:Hid ((w.alloc (zE t)).alloc (.cells #[.int .i64 1,.string (za t.s),.int .i64 t.n,.int .i64 t.line,.int .i64 t.at0] 142)=w2):=z;clear z
  have G:∀v,(w2.setCell ⟨r,0,none⟩ v).cell? ⟨w.heap.size+1,1,none⟩=some (.string (za t.s)):=fun v=>by
   rw [World.cell?_setCell_other _ _ _ _ (by simp),y]
   have J:(w.alloc (zE t)).heap.size=w.heap.size+1:=by simp
   have:=World.alloc_heap_new (w.alloc (zE t)) (zE t)
   rw [J] at this;simp only [World.cell?,this]
   rfl
  clear E h A y;simp only [hk,if_true]
  go_enter Tryz.func171,Tryz.ntmps171
  go_wp2_with fail
  refine D.mono ?_;clear D;rintro e w' ⟨rfl,rfl⟩;simp only [YA];go_wp2_with fail
  rw [x.out];clear x;refine H.mono ?_;clear H;rintro e w' ⟨rfl,rfl⟩;go_wp2
  simp only [bodyPost,results,Tryz.results171]
  simp [I.out.setCell,K.out.next]
 ·have L:¬ (t.k:Int)=1:=by omega
  have x:Hid ((w.alloc (zE t)).alloc (.cells #[.int .i64 t.k,.string (za t.s),.int .i64 t.n,.int .i64 t.line,.int .i64 t.at0] 142)=w2):=y.symm;clear h A y;simp only [hk,if_false]
  go_enter Tryz.func171,Tryz.ntmps171
  go_wp2_with fail
  refine D.mono ?_;clear D;rintro e w' ⟨rfl,rfl⟩;simp only [YA];go_wp2_with fail
  rw [x.out];clear x;refine E.mono ?_;clear E;rintro e w' ⟨rfl,rfl⟩;go_wp2
  simp only [bodyPost]
  simp [I.out.alloc]
end Go.Proofs.YtmbofhpmockmbaaGreatDoor
