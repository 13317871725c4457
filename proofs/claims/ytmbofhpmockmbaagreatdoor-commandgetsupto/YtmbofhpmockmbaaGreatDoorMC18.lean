import Derived.Test.YtmbofhpmockmbaaGreatDoorXScan
import Derived.Test.YtmbofhpmockmbaaGreatDoorMC11
namespace Go.Proofs.YtmbofhpmockmbaaGreatDoor
open Go.RowKit Go.Shelf
set_option maxHeartbeats 16000000
set_option maxRecDepth 100000
attribute [local go_sem] Oper.semAt_some
theorem Up (l:List UInt8) (w:World) (hl:4096<l.length) :
  Calls Tryz.prog 94 #[.string (za l)] w fun e w'=>e=.returned (.tuple #[.slice none 0 0,.int .i64 0,.int .i64 5])∧Below w.heap.size w w':=by
 have o:(za l).size=l.length:=rfl;have I:(4096:Int)<l.length:=by omega
 refine (callsIn_wide (n:=7)).1 ?_;refine callsIn_of_wp_marks Tryz.func94 rfl trivial ?_ rfl;simp only [Tryz.ntmps94,List.size_toArray,List.length_cons,List.length_nil,Nat.reduceAdd,Nat.reduceSub,Array.replicate_succ,Array.replicate_zero,List.push_toArray,List.append_toArray,List.nil_append,List.cons_append]
 gi_wp2
 have G:Boxed (((w.alloc (.cells #[.slice none 0 0] 133)).alloc (.cells #[.int .i64 0] 3)).alloc (.cells #[.int .i64 5] 25)) w.heap.size 133 (.slice none 0 0):=((Boxed.new w _ _).alloc _).alloc _
 have H:Boxed (((w.alloc (.cells #[.slice none 0 0] 133)).alloc (.cells #[.int .i64 0] 3)).alloc (.cells #[.int .i64 5] 25)) (w.heap.size+1) 3 (.int .i64 0):=by
  have h:=(Boxed.new (w.alloc (.cells #[.slice none 0 0] 133)) 3 (.int .i64 0)).alloc (.cells #[.int .i64 5] 25);rw [World.size_alloc] at h;exact h
 have E:Boxed (((w.alloc (.cells #[.slice none 0 0] 133)).alloc (.cells #[.int .i64 0] 3)).alloc (.cells #[.int .i64 5] 25)) (w.heap.size+1+1) 25 (.int .i64 5):=by
  have h:=Boxed.new ((w.alloc (.cells #[.slice none 0 0] 133)).alloc (.cells #[.int .i64 0] 3)) 25 (.int .i64 5);rw [World.size_alloc,World.size_alloc] at h;exact h
 have z:Below w.heap.size w (((w.alloc (.cells #[.slice none 0 0] 133)).alloc (.cells #[.int .i64 0] 3)).alloc (.cells #[.int .i64 5] 25)):=(((Below.refl _ w).alloc (Nat.le_refl _) _).alloc (by simp) _).alloc (by simp;omega) _
 have A:=G.cell;have y:=H.cell;have D:=E.cell;generalize ((w.alloc (.cells #[.slice none 0 0] 133)).alloc (.cells #[.int .i64 0] 3)).alloc (.cells #[.int .i64 5] 25)=W at A y D z ⊢;exact ⟨_,yr rfl _ _ _ rfl rfl rfl (by simp [go_sem,A]) (by simp [go_sem,y]) (by simp [go_sem,D]),rfl,z⟩
theorem Uq (l:List UInt8) (w:World) (ht:ZB w) :
  Calls Tryz.prog 94 #[.string (za l)] w fun e w'=>∃(r:Value),e=.returned (.tuple #[r,.int .i64 (zS l).2.1,.int .i64 (zS l).2.2]) ∧
   w'.ownsRow w.heap.size 142 5 r (zS l).1.length (z6 (zS l).1)∧Below w.heap.size w w':=by
 by_cases h:4096<l.length
 ·refine (Up l w h).mono ?_
  rintro e w' ⟨rfl,o⟩
  unfold zS
  rw [if_pos h];exact ⟨_,rfl,World.ownsRow_nil _ _ _ _,o⟩
 ·refine (UV l w (by omega) ht).mono ?_
  rintro e w' y
  unfold zS
  rw [if_neg h];exact y
abbrev xT (t:Tk):Value:=.agg #[.int .i64 t.k,.string (za t.s),.int .i64 t.n,.int .i64 t.line,.int .i64 t.at0]
abbrev zJ (t:Tk):Obj:=.cells #[.int .i64 t.k,.string (za t.s),.int .i64 t.n,.int .i64 t.line,.int .i64 t.at0] 142
structure zc (r g o cap:Nat) (ts:List Tk) (w:World):Prop where
 cell:w.cell? ⟨r,0,none⟩=some (.slice (some ⟨g,o,none⟩) ts.length cap)
 soft:w.frozen? ⟨r,0,none⟩=false
 hcap:ts.length≤cap
 hmax:cap≤maxLen
 other:r≠g
 toks:∀j u,(z6 ts)[j]?=some u→w.cell? ⟨g,o+j,none⟩=some u
 few:ts.length≤1099511627776
theorem zg {w:World} {p:Addr} {v:Value} (h:w.cell? p=some v) (ob:Obj):(w.alloc ob).cell? p=some v:=by
 rw [World.cell?_alloc_lt _ _ p (World.block_lt_of_cell? w _ h)];exact h
theorem Ur (a b c d e:Value) (w:World):(Instr.field 142 (.agg #[a,b,c,d,e]) 4).run Tryz.prog w=.ok e w:=by kernel_rfl
theorem xC (a b c d e:Value) (w:World):(Instr.field 142 (.agg #[a,b,c,d,e]) 0).run Tryz.prog w=.ok a w:=by kernel_rfl
theorem Vk (a b c d e:Value) (w:World):(Instr.field 142 (.agg #[a,b,c,d,e]) 1).run Tryz.prog w=.ok b w:=by kernel_rfl
theorem xD (a b c d e:Value) (w:World):(Instr.field 142 (.agg #[a,b,c,d,e]) 3).run Tryz.prog w=.ok d w:=by kernel_rfl
theorem Zk (r g o cap:Nat) (t:Tk) (ts:List Tk) (w:World) (h:zc r g o cap (t::ts) w) :
  Calls Tryz.prog 117 #[.pointer (some ⟨r,0,none⟩)] w fun e w'=>e=.returned (xT t)∧w'=w.alloc (zJ t):=by
 have y:=h.cell;have Q:=h.hmax;have H:=h.hcap;have z:=h.toks 0 (.int .i64 t.k) (by simp [z6])
 have A:=h.toks 1 (.string (za t.s)) (by simp [z6])
 have G:=h.toks 2 (.int .i64 t.n) (by simp [z6])
 have E:=h.toks 3 (.int .i64 t.line) (by simp [z6])
 have D:=h.toks 4 (.int .i64 t.at0) (by simp [z6])
 clear h;simp only [List.length_cons,Nat.add_zero] at y H z;have K:=zg y;have L:=zg z;have M:=zg A;have O:=zg G;have I:=zg E;have J:=zg D;clear y z A G E D
 go_enter Tryz.func117,Tryz.ntmps117
 go_wp2
 simp [bodyPost,results,Tryz.results117,go_sem]
theorem YN (r g o cap:Nat) (t:Tk) (ts:List Tk) (w:World) (h:zc r g o cap (t::ts) w) (hne:ts≠[]) :
  Calls Tryz.prog 121 #[.pointer (some ⟨r,0,none⟩)] w fun e w'=>e=.returned (.tuple #[])∧w'=w.setCell ⟨r,0,none⟩ (.slice (some ⟨g,o+5,none⟩) ts.length (cap-1)):=by
 have z:=h.cell;have D:=h.hmax;have y:=h.hcap;have A:=h.soft;clear h;simp only [List.length_cons] at z y
 go_enter Tryz.func121,Tryz.ntmps121
 go_wp2
 ·exfalso
  have:=List.length_pos_iff.2 hne
  omega
 ·simp [bodyPost,results,Tryz.results121]
theorem zc.keep {r g o cap:Nat} {ts:List Tk} {w w':World} (h:zc r g o cap ts w) (hr:w'.heap[r]?=w.heap[r]?) (hg:w'.heap[g]?=w.heap[g]?):zc r g o cap ts w' where
 cell:=by rw [World.cell?_of_block hr];exact h.cell
 soft:=by have:=h.soft;simp only [World.frozen?,hr] at this ⊢;exact this
 hcap:=h.hcap
 hmax:=h.hmax
 other:=h.other
 toks:=fun j u hj=>by rw [World.cell?_of_block hg];exact h.toks j u hj
 few:=h.few
theorem zc.next {r g o cap:Nat} {t:Tk} {ts:List Tk} {w:World} (h:zc r g o cap (t::ts) w):zc r g (o+5) (cap-1) ts (w.setCell ⟨r,0,none⟩ (.slice (some ⟨g,o+5,none⟩) ts.length (cap-1))) where
 cell:=World.cell?_setCell_same _ _ _ h.cell
 soft:=by rw [World.frozen?_setCell];exact h.soft
 hcap:=by have:=h.hcap;simp only [List.length_cons] at this;omega
 hmax:=by have:=h.hmax;omega
 other:=h.other
 toks:=fun j u hj=>by
  rw [World.cell?_setCell_other _ _ _ _ (by simp)]
  have:=h.toks (5+j) u (by simpa [z6,List.getElem?_append,Nat.add_comm] using hj)
  rw [show o+5+j=o+(5+j) by omega];exact this
 few:=by have:=h.few;simp only [List.length_cons] at this;omega
theorem Vl (r g o cap:Nat) (t:Tk) (ts:List Tk) (w:World) (h:zc r g o cap (t::ts) w) :
  Calls Tryz.prog 118 #[.pointer (some ⟨r,0,none⟩)] w fun e w'=>e=.panicked [{ v:=v7 6 t.at0,recovered:=false }]∧w'=w.alloc (zJ t):=by
 have y:=Zk r g o cap t ts w h;have A:=Ur;have z:∀(v:Value) (w:World),(Instr.panic (.iface 171 v)).run Tryz.prog w=.halt (.panic (.iface 171 v)) w:=fun _ _=>rfl
 clear h
 go_enter Tryz.func118,Tryz.ntmps118
 go_wp2_with fail
 refine y.mono ?_;rintro e w' ⟨rfl,rfl⟩;simp only [xT];go_wp2
 exact ⟨rfl,rfl,rfl⟩
def zq (t:Tk) (s:List UInt8):Bool:=(t.k==4||t.k==5)&&t.s==s
theorem ql (r g o cap:Nat) (t:Tk) (ts:List Tk) (s:List UInt8) (w:World) (h:zc r g o cap (t::ts) w) :
  Calls Tryz.prog 179 #[.pointer (some ⟨r,0,none⟩),.string (za s)] w fun e w'=>e=.returned (.bool (zq t s))∧w'=(w.alloc (zJ t)).alloc (zJ t):=by
 have z:=Zk r g o cap t ts w h;clear h
 go_enter Tryz.func179,Tryz.ntmps179
 go_wp2_with fail
 refine z.mono ?_;clear z;rintro e w' ⟨rfl,rfl⟩;simp only [xT];go_wp2
 all_goals simp_all [bodyPost,results,Tryz.results179,zq]
 ·rename_i h
  have y:t.k=4:=by omega
  exact ⟨fun _=>.inl y,by simp [zJ,y]⟩
 ·rename_i h
  have y:t.k=5:=by omega
  exact ⟨fun _=>.inr y,by simp [zJ,y]⟩
 ·intro A;omega
structure zb (r:Nat) (w w':World):Prop where
 os:w'.os=w.os
 tape:w'.tape=w.tape
 output:w'.output=w.output
 size:w.heap.size≤w'.heap.size
 block:∀k,k<w.heap.size→k≠r→w'.heap[k]?=w.heap[k]?
theorem zb.refl (r:Nat) (w:World):zb r w w:=⟨rfl,rfl,rfl,Nat.le_refl _,fun _ _ _=>rfl⟩
theorem zb.of {r:Nat} {w w':World} (h:Below w.heap.size w w'):zb r w w':=⟨h.os,h.tape,h.output,h.size,fun k hk _=>h.block k hk⟩
theorem zb.trans {r:Nat} {a b c:World} (h:zb r a b) (k:zb r b c):zb r a c :=
 ⟨k.os.trans h.os,k.tape.trans h.tape,k.output.trans h.output,Nat.le_trans h.size k.size,fun i hi hr=>(k.block i (Nat.lt_of_lt_of_le hi h.size) hr).trans (h.block i hi hr)⟩
theorem zb.alloc {r:Nat} {w w':World} (h:zb r w w') (ob:Obj):zb r w (w'.alloc ob) :=
 h.trans (.of ((Below.refl _ w').alloc (Nat.le_refl _) ob))
theorem zb.setCell {r:Nat} {w w':World} (h:zb r w w') (j:Nat) (v:Value):zb r w (w'.setCell ⟨r,j,none⟩ v):=by
 have o:=(Below.refl 0 w').setCell (p:=⟨r,j,none⟩) (by simp) v
 refine h.trans ⟨o.os,o.tape,o.output,o.size,fun k _ hr=>Below.heap_setCell _ _ _ _ (by simpa using hr)⟩
theorem zc.lt {r g o cap:Nat} {t:Tk} {ts:List Tk} {w:World} (h:zc r g o cap (t::ts) w):r<w.heap.size∧g<w.heap.size :=
 ⟨World.block_lt_of_cell? w _ h.cell,World.block_lt_of_cell? w _ (h.toks 0 (.int .i64 t.k) (by simp [z6]))⟩
theorem zc.alloc {r g o cap:Nat} {t:Tk} {ts:List Tk} {w:World} (h:zc r g o cap (t::ts) w) (ob:Obj):zc r g o cap (t::ts) (w.alloc ob) :=
 h.keep (Below.heap_alloc w ob r h.lt.1) (Below.heap_alloc w ob g h.lt.2)
theorem Zi (r g o cap:Nat) (t:Tk) (ts:List Tk) (s:List UInt8) (w:World) (h:zc r g o cap (t::ts) w) (hne:zq t s=true→ts≠[]) :
  Calls Tryz.prog 169 #[.pointer (some ⟨r,0,none⟩),.string (za s)] w fun e w'=>e=.returned (.bool (zq t s))∧zb r w w' ∧
   if zq t s=true then zc r g (o+5) (cap-1) ts w' else zc r g o cap (t::ts) w':=by
 have A:=ql r g o cap t ts s w h;obtain ⟨w1,y⟩:∃w1,w1=(w.alloc (zJ t)).alloc (zJ t):=⟨_,rfl⟩;have D:zc r g o cap (t::ts) w1:=by rw [y];exact (h.alloc _).alloc _
 have z:zb r w w1:=by rw [y];exact ((zb.refl r w).alloc _).alloc _
 rw [←y] at A;have E:Hid (zc r g o cap (t::ts) w1):=D;have H:Hid (zb r w w1):=z;cases hi:zq t s
 ·clear hne h D z y
  rw [hi] at A
  go_enter Tryz.func169,Tryz.ntmps169
  go_wp2_with fail
  refine A.mono ?_;clear A;rintro e w' ⟨rfl,rfl⟩;go_wp2
  simp only [bodyPost,results,Tryz.results169]
  simp [H.out,E.out]
 ·have G:=YN r g o cap t ts w1 D (hne hi)
  clear hne h D z y;rw [hi] at A
  go_enter Tryz.func169,Tryz.ntmps169
  go_wp2_with fail
  refine A.mono ?_;clear A;rintro e w' ⟨rfl,rfl⟩;go_wp2_with fail
  refine G.mono ?_;clear G;rintro e w' ⟨rfl,rfl⟩;go_wp2
  simp only [bodyPost,results,Tryz.results169]
  simp [H.out.setCell,E.out.next]
abbrev Zv (at0:Nat):Ending:=.panicked [{ v:=v7 6 at0,recovered:=false }]
theorem YO (r g o cap:Nat) (t:Tk) (ts:List Tk) (s:List UInt8) (w:World) (h:zc r g o cap (t::ts) w) (hne:zq t s=true→ts≠[]) :
  Calls Tryz.prog 170 #[.pointer (some ⟨r,0,none⟩),.string (za s)] w fun e w'=>zb r w w' ∧
   if zq t s=true then e=.returned (.tuple #[])∧zc r g (o+5) (cap-1) ts w' else e=Zv t.at0:=by
 have y:=Zi r g o cap t ts s w h hne;cases hi:zq t s
 ·clear hne h
  rw [hi] at y
  go_enter Tryz.func170,Tryz.ntmps170
  go_wp2_with fail
  refine y.mono ?_;clear y;rintro e w1 ⟨rfl,z,D⟩;have G:=Vl r g o cap t ts w1 (by simpa using D)
  have E:Hid (zb r w w1):=z;clear D z;go_wp2_with fail
  refine G.mono ?_;clear G;rintro e w' ⟨rfl,rfl⟩;go_wp2
  simp only [bodyPost]
  simp [E.out.alloc]
 ·clear hne h
  rw [hi] at y
  go_enter Tryz.func170,Tryz.ntmps170
  go_wp2_with fail
  refine y.mono ?_;clear y;rintro e w1 ⟨rfl,z,D⟩;have E:Hid (zb r w w1):=z;have A:zc r g (o+5) (cap-1) ts w1:=by simpa using D
  have H:Hid (zc r g (o+5) (cap-1) ts w1):=A;clear D A z;go_wp2
  simp only [bodyPost,results,Tryz.results170]
  simp [E.out,H.out]
theorem qD (r g o cap:Nat) (t:Tk) (ts:List Tk) (w:World) (h:zc r g o cap (t::ts) w) :
  Calls Tryz.prog 97 #[.pointer (some ⟨r,0,none⟩)] w fun e w'=>zb r w w' ∧
   if t.k=0 then e=.returned (.tuple #[]) else e=Zv t.at0:=by
 have z:=Zk r g o cap t ts w h;have H:=xC;obtain ⟨w1,y⟩:∃w1,w1=w.alloc (zJ t):=⟨_,rfl⟩;have E:zc r g o cap (t::ts) w1:=by rw [y];exact h.alloc _
 have D:Hid (zb r w w1):=by rw [y];exact (zb.refl r w).alloc _
 rw [←y] at z;have A:=Vl r g o cap t ts w1 E;clear h E y
 by_cases hk:t.k=0
 ·clear A
  simp only [hk,if_true]
  go_enter Tryz.func97,Tryz.ntmps97
  go_wp2_with fail
  refine z.mono ?_;clear z;rintro e w' ⟨rfl,rfl⟩;simp only [xT,hk];go_wp2
  simp only [bodyPost,results,Tryz.results97]
  simp [D.out]
 ·have G:¬ (t.k:Int)=0:=by omega
  simp only [hk,if_false]
  go_enter Tryz.func97,Tryz.ntmps97
  go_wp2_with fail
  refine z.mono ?_;clear z;rintro e w' ⟨rfl,rfl⟩;simp only [xT];go_wp2_with fail
  refine A.mono ?_;clear A;rintro e w' ⟨rfl,rfl⟩;go_wp2
  simp only [bodyPost]
  simp [D.out.alloc]
theorem XP (r g o cap:Nat) (t:Tk) (ts:List Tk) (w:World) (h:zc r g o cap (t::ts) w) (hne:t.k=1→ts≠[]) :
  Calls Tryz.prog 171 #[.pointer (some ⟨r,0,none⟩)] w fun e w'=>zb r w w' ∧
   if t.k=1 then e=.returned (.string (za t.s))∧zc r g (o+5) (cap-1) ts w' else e=Zv t.at0:=by
 have E:=Zk r g o cap t ts w h;obtain ⟨w2,z⟩:∃w2,w2=(w.alloc (zJ t)).alloc (zJ t):=⟨_,rfl⟩;have A:zc r g o cap (t::ts) w2:=by rw [z];exact (h.alloc _).alloc _
 have J:Hid (zb r w w2):=by rw [z];exact ((zb.refl r w).alloc _).alloc _
 have G:=Vl r g o cap t ts w2 A
 by_cases hk:t.k=1
 ·have I:=YN r g o cap t ts w2 A (hne hk)
  have L:Hid (zc r g o cap (t::ts) w2):=A;have D:(w.alloc (zJ t)).alloc (.cells #[.int .i64 1,.string (za t.s),.int .i64 t.n,.int .i64 t.line,.int .i64 t.at0] 142)=w2:=by rw [z];simp [zJ,hk]
  have y:Hid ((w.alloc (zJ t)).alloc (.cells #[.int .i64 1,.string (za t.s),.int .i64 t.n,.int .i64 t.line,.int .i64 t.at0] 142)=w2):=D;clear D
  have H:∀v,(w2.setCell ⟨r,0,none⟩ v).cell? ⟨w.heap.size+1,1,none⟩=some (.string (za t.s)):=fun v=>by
   rw [World.cell?_setCell_other _ _ _ _ (by simp),z]
   have M:(w.alloc (zJ t)).heap.size=w.heap.size+1:=by simp
   have:=World.alloc_heap_new (w.alloc (zJ t)) (zJ t)
   rw [M] at this;simp only [World.cell?,this]
   rfl
  clear G h A z;simp only [hk,if_true]
  go_enter Tryz.func171,Tryz.ntmps171
  go_wp2_with fail
  refine E.mono ?_;clear E;rintro e w' ⟨rfl,rfl⟩;simp only [xT];go_wp2_with fail
  rw [y.out];clear y;refine I.mono ?_;clear I;rintro e w' ⟨rfl,rfl⟩;go_wp2
  simp only [bodyPost,results,Tryz.results171]
  simp [J.out.setCell,L.out.next]
 ·have K:¬ (t.k:Int)=1:=by omega
  have y:Hid ((w.alloc (zJ t)).alloc (.cells #[.int .i64 t.k,.string (za t.s),.int .i64 t.n,.int .i64 t.line,.int .i64 t.at0] 142)=w2):=z.symm;clear h A z;simp only [hk,if_false]
  go_enter Tryz.func171,Tryz.ntmps171
  go_wp2_with fail
  refine E.mono ?_;clear E;rintro e w' ⟨rfl,rfl⟩;simp only [xT];go_wp2_with fail
  rw [y.out];clear y;refine G.mono ?_;clear G;rintro e w' ⟨rfl,rfl⟩;go_wp2
  simp only [bodyPost]
  simp [J.out.alloc]
end Go.Proofs.YtmbofhpmockmbaaGreatDoor
