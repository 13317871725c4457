import Derived.Test.YtmbofhpmockmbaaGreatDoorXScan
import Derived.Test.YtmbofhpmockmbaaGreatDoorMC4
namespace Go.Proofs.YtmbofhpmockmbaaGreatDoor
open Go.RowKit Go.Shelf
set_option maxHeartbeats 16000000
set_option maxRecDepth 100000
attribute [local go_sem] Oper.semAt_some
theorem Qf (l:List UInt8) (w:World) (hl:4096<l.length) :
  Calls Tryz.prog 94 #[.string (za l)] w fun e w'=>e=.returned (.tuple #[.slice none 0 0,.int .i64 0,.int .i64 5])∧Below w.heap.size w w':=by
 have y:(za l).size=l.length:=rfl;have E:(4096:Int)<l.length:=by omega
 refine (callsIn_wide (n:=7)).1 ?_;refine callsIn_of_wp_marks Tryz.func94 rfl trivial ?_ rfl;simp only [Tryz.ntmps94,List.size_toArray,List.length_cons,List.length_nil,Nat.reduceAdd,Nat.reduceSub,Array.replicate_succ,Array.replicate_zero,List.push_toArray,List.append_toArray,List.nil_append,List.cons_append]
 gi_wp2
 have I:Boxed (((w.alloc (.cells #[.slice none 0 0] 133)).alloc (.cells #[.int .i64 0] 3)).alloc (.cells #[.int .i64 5] 25)) w.heap.size 133 (.slice none 0 0):=((Boxed.new w _ _).alloc _).alloc _
 have H:Boxed (((w.alloc (.cells #[.slice none 0 0] 133)).alloc (.cells #[.int .i64 0] 3)).alloc (.cells #[.int .i64 5] 25)) (w.heap.size+1) 3 (.int .i64 0):=by
  have h:=(Boxed.new (w.alloc (.cells #[.slice none 0 0] 133)) 3 (.int .i64 0)).alloc (.cells #[.int .i64 5] 25);rw [World.size_alloc] at h;exact h
 have G:Boxed (((w.alloc (.cells #[.slice none 0 0] 133)).alloc (.cells #[.int .i64 0] 3)).alloc (.cells #[.int .i64 5] 25)) (w.heap.size+1+1) 25 (.int .i64 5):=by
  have h:=Boxed.new ((w.alloc (.cells #[.slice none 0 0] 133)).alloc (.cells #[.int .i64 0] 3)) 25 (.int .i64 5);rw [World.size_alloc,World.size_alloc] at h;exact h
 have z:Below w.heap.size w (((w.alloc (.cells #[.slice none 0 0] 133)).alloc (.cells #[.int .i64 0] 3)).alloc (.cells #[.int .i64 5] 25)):=(((Below.refl _ w).alloc (Nat.le_refl _) _).alloc (by simp) _).alloc (by simp;omega) _
 have D:=I.cell;have o:=H.cell;have A:=G.cell;generalize ((w.alloc (.cells #[.slice none 0 0] 133)).alloc (.cells #[.int .i64 0] 3)).alloc (.cells #[.int .i64 5] 25)=W at D o A z ⊢;exact ⟨_,Ya rfl _ _ _ rfl rfl rfl (by simp [go_sem,D]) (by simp [go_sem,o]) (by simp [go_sem,A]),rfl,z⟩
theorem Qg (l:List UInt8) (w:World) (ht:Z1 w) :
  Calls Tryz.prog 94 #[.string (za l)] w fun e w'=>∃(r:Value),e=.returned (.tuple #[r,.int .i64 (zn l).2.1,.int .i64 (zn l).2.2]) ∧
   w'.ownsRow w.heap.size 142 5 r (zn l).1.length (zy (zn l).1)∧Below w.heap.size w w':=by
 by_cases h:4096<l.length
 ·refine (Qf l w h).mono ?_
  rintro e w' ⟨rfl,y⟩
  unfold zn
  rw [if_pos h];exact ⟨_,rfl,World.ownsRow_nil _ _ _ _,y⟩
 ·refine (QZ l w (by omega) ht).mono ?_
  rintro e w' o
  unfold zn
  rw [if_neg h];exact o
abbrev YH (t:Tk):Value:=.agg #[.int .i64 t.k,.string (za t.s),.int .i64 t.n,.int .i64 t.line,.int .i64 t.at0]
abbrev Zc (t:Tk):Obj:=.cells #[.int .i64 t.k,.string (za t.s),.int .i64 t.n,.int .i64 t.line,.int .i64 t.at0] 142
structure zj (r g o cap:Nat) (ts:List Tk) (w:World):Prop where
 cell:w.cell? ⟨r,0,none⟩=some (.slice (some ⟨g,o,none⟩) ts.length cap)
 soft:w.frozen? ⟨r,0,none⟩=false
 hcap:ts.length≤cap
 hmax:cap≤maxLen
 other:r≠g
 toks:∀j u,(zy ts)[j]?=some u→w.cell? ⟨g,o+j,none⟩=some u
 few:ts.length≤1099511627776
theorem zc {w:World} {p:Addr} {v:Value} (h:w.cell? p=some v) (ob:Obj):(w.alloc ob).cell? p=some v:=by
 rw [World.cell?_alloc_lt _ _ p (World.block_lt_of_cell? w _ h)];exact h
theorem V3 (a b c d e:Value) (w:World):(Instr.field 142 (.agg #[a,b,c,d,e]) 4).run Tryz.prog w=.ok e w:=by kernel_rfl
theorem Yv (a b c d e:Value) (w:World):(Instr.field 142 (.agg #[a,b,c,d,e]) 0).run Tryz.prog w=.ok a w:=by kernel_rfl
theorem XB (a b c d e:Value) (w:World):(Instr.field 142 (.agg #[a,b,c,d,e]) 1).run Tryz.prog w=.ok b w:=by kernel_rfl
theorem xk (a b c d e:Value) (w:World):(Instr.field 142 (.agg #[a,b,c,d,e]) 3).run Tryz.prog w=.ok d w:=by kernel_rfl
theorem ZD (r g o cap:Nat) (t:Tk) (ts:List Tk) (w:World) (h:zj r g o cap (t::ts) w) :
  Calls Tryz.prog 117 #[.pointer (some ⟨r,0,none⟩)] w fun e w'=>e=.returned (YH t)∧w'=w.alloc (Zc t):=by
 have z:=h.cell;have O:=h.hmax;have L:=h.hcap;have y:=h.toks 0 (.int .i64 t.k) (by simp [zy])
 have A:=h.toks 1 (.string (za t.s)) (by simp [zy])
 have G:=h.toks 2 (.int .i64 t.n) (by simp [zy])
 have E:=h.toks 3 (.int .i64 t.line) (by simp [zy])
 have D:=h.toks 4 (.int .i64 t.at0) (by simp [zy])
 clear h;simp only [List.length_cons,Nat.add_zero] at z L y;have I:=zc z;have K:=zc y;have N:=zc A;have J:=zc G;have M:=zc E;have H:=zc D;clear z y A G E D
 go_enter Tryz.func117,Tryz.ntmps117
 go_wp2
 simp [bodyPost,results,Tryz.results117,go_sem]
theorem xK (r g o cap:Nat) (t:Tk) (ts:List Tk) (w:World) (h:zj r g o cap (t::ts) w) (hne:ts≠[]) :
  Calls Tryz.prog 121 #[.pointer (some ⟨r,0,none⟩)] w fun e w'=>e=.returned (.tuple #[])∧w'=w.setCell ⟨r,0,none⟩ (.slice (some ⟨g,o+5,none⟩) ts.length (cap-1)):=by
 have y:=h.cell;have A:=h.hmax;have z:=h.hcap;have D:=h.soft;clear h;simp only [List.length_cons] at y z
 go_enter Tryz.func121,Tryz.ntmps121
 go_wp2
 ·exfalso
  have:=List.length_pos_iff.2 hne
  omega
 ·simp [bodyPost,results,Tryz.results121]
theorem zj.keep {r g o cap:Nat} {ts:List Tk} {w w':World} (h:zj r g o cap ts w) (hr:w'.heap[r]?=w.heap[r]?) (hg:w'.heap[g]?=w.heap[g]?):zj r g o cap ts w' where
 cell:=by rw [World.cell?_of_block hr];exact h.cell
 soft:=by have:=h.soft;simp only [World.frozen?,hr] at this ⊢;exact this
 hcap:=h.hcap
 hmax:=h.hmax
 other:=h.other
 toks:=fun j u hj=>by rw [World.cell?_of_block hg];exact h.toks j u hj
 few:=h.few
theorem zj.next {r g o cap:Nat} {t:Tk} {ts:List Tk} {w:World} (h:zj r g o cap (t::ts) w):zj r g (o+5) (cap-1) ts (w.setCell ⟨r,0,none⟩ (.slice (some ⟨g,o+5,none⟩) ts.length (cap-1))) where
 cell:=World.cell?_setCell_same _ _ _ h.cell
 soft:=by rw [World.frozen?_setCell];exact h.soft
 hcap:=by have:=h.hcap;simp only [List.length_cons] at this;omega
 hmax:=by have:=h.hmax;omega
 other:=h.other
 toks:=fun j u hj=>by
  rw [World.cell?_setCell_other _ _ _ _ (by simp)]
  have:=h.toks (5+j) u (by simpa [zy,List.getElem?_append,Nat.add_comm] using hj)
  rw [show o+5+j=o+(5+j) by omega];exact this
 few:=by have:=h.few;simp only [List.length_cons] at this;omega
theorem uV (r g o cap:Nat) (t:Tk) (ts:List Tk) (w:World) (h:zj r g o cap (t::ts) w) :
  Calls Tryz.prog 118 #[.pointer (some ⟨r,0,none⟩)] w fun e w'=>e=.panicked [{ v:=Vg 6 t.at0,recovered:=false }]∧w'=w.alloc (Zc t):=by
 have y:=ZD r g o cap t ts w h;have A:=V3;have z:∀(v:Value) (w:World),(Instr.panic (.iface 171 v)).run Tryz.prog w=.halt (.panic (.iface 171 v)) w:=fun _ _=>rfl
 clear h
 go_enter Tryz.func118,Tryz.ntmps118
 go_wp2_with fail
 refine y.mono ?_;rintro e w' ⟨rfl,rfl⟩;simp only [YH];go_wp2
 exact ⟨rfl,rfl,rfl⟩
def zk (t:Tk) (s:List UInt8):Bool:=(t.k==4||t.k==5)&&t.s==s
theorem zar (r g o cap:Nat) (t:Tk) (ts:List Tk) (s:List UInt8) (w:World) (h:zj r g o cap (t::ts) w) :
  Calls Tryz.prog 179 #[.pointer (some ⟨r,0,none⟩),.string (za s)] w fun e w'=>e=.returned (.bool (zk t s))∧w'=(w.alloc (Zc t)).alloc (Zc t):=by
 have z:=ZD r g o cap t ts w h;clear h
 go_enter Tryz.func179,Tryz.ntmps179
 go_wp2_with fail
 refine z.mono ?_;clear z;rintro e w' ⟨rfl,rfl⟩;simp only [YH];go_wp2
 all_goals simp_all [bodyPost,results,Tryz.results179,zk]
 ·rename_i h
  have y:t.k=4:=by omega
  exact ⟨fun _=>.inl y,by simp [Zc,y]⟩
 ·rename_i h
  have y:t.k=5:=by omega
  exact ⟨fun _=>.inr y,by simp [Zc,y]⟩
 ·intro A;omega
structure zb (r:Nat) (w w':World):Prop where
 os:w'.os=w.os
 tape:w'.tape=w.tape
 output:w'.output=w.output
 size:w.heap.size≤w'.heap.size
 block:∀k,k<w.heap.size→k≠r→w'.heap[k]?=w.heap[k]?
theorem zb.refl (r:Nat) (w:World):zb r w w:=⟨rfl,rfl,rfl,Nat.le_refl _,fun _ _ _=>rfl⟩
theorem zb.of {r:Nat} {w w':World} (h:Below w.heap.size w w'):zb r w w':=⟨h.os,h.tape,h.output,h.size,fun k hk _=>h.block k hk⟩
theorem zb.trans {r:Nat} {a b c:World} (h:zb r a b) (k:zb r b c):zb r a c :=
 ⟨k.os.trans h.os,k.tape.trans h.tape,k.output.trans h.output,Nat.le_trans h.size k.size,fun i hi hr=>(k.block i (Nat.lt_of_lt_of_le hi h.size) hr).trans (h.block i hi hr)⟩
theorem zb.alloc {r:Nat} {w w':World} (h:zb r w w') (ob:Obj):zb r w (w'.alloc ob) :=
 h.trans (.of ((Below.refl _ w').alloc (Nat.le_refl _) ob))
theorem zb.setCell {r:Nat} {w w':World} (h:zb r w w') (j:Nat) (v:Value):zb r w (w'.setCell ⟨r,j,none⟩ v):=by
 have e:=(Below.refl 0 w').setCell (p:=⟨r,j,none⟩) (by simp) v
 refine h.trans ⟨e.os,e.tape,e.output,e.size,fun k _ hr=>Below.heap_setCell _ _ _ _ (by simpa using hr)⟩
theorem zj.lt {r g o cap:Nat} {t:Tk} {ts:List Tk} {w:World} (h:zj r g o cap (t::ts) w):r<w.heap.size∧g<w.heap.size :=
 ⟨World.block_lt_of_cell? w _ h.cell,World.block_lt_of_cell? w _ (h.toks 0 (.int .i64 t.k) (by simp [zy]))⟩
theorem zj.alloc {r g o cap:Nat} {t:Tk} {ts:List Tk} {w:World} (h:zj r g o cap (t::ts) w) (ob:Obj):zj r g o cap (t::ts) (w.alloc ob) :=
 h.keep (Below.heap_alloc w ob r h.lt.1) (Below.heap_alloc w ob g h.lt.2)
theorem ZA (r g o cap:Nat) (t:Tk) (ts:List Tk) (s:List UInt8) (w:World) (h:zj r g o cap (t::ts) w) (hne:zk t s=true→ts≠[]) :
  Calls Tryz.prog 169 #[.pointer (some ⟨r,0,none⟩),.string (za s)] w fun e w'=>e=.returned (.bool (zk t s))∧zb r w w' ∧
   if zk t s=true then zj r g (o+5) (cap-1) ts w' else zj r g o cap (t::ts) w':=by
 have z:=zar r g o cap t ts s w h;obtain ⟨w1,y⟩:∃w1,w1=(w.alloc (Zc t)).alloc (Zc t):=⟨_,rfl⟩;have D:zj r g o cap (t::ts) w1:=by rw [y];exact (h.alloc _).alloc _
 have A:zb r w w1:=by rw [y];exact ((zb.refl r w).alloc _).alloc _
 rw [←y] at z;have E:Hid (zj r g o cap (t::ts) w1):=D;have H:Hid (zb r w w1):=A;cases hi:zk t s
 ·clear hne h D A y
  rw [hi] at z
  go_enter Tryz.func169,Tryz.ntmps169
  go_wp2_with fail
  refine z.mono ?_;clear z;rintro e w' ⟨rfl,rfl⟩;go_wp2
  simp only [bodyPost,results,Tryz.results169]
  simp [H.out,E.out]
 ·have G:=xK r g o cap t ts w1 D (hne hi)
  clear hne h D A y;rw [hi] at z
  go_enter Tryz.func169,Tryz.ntmps169
  go_wp2_with fail
  refine z.mono ?_;clear z;rintro e w' ⟨rfl,rfl⟩;go_wp2_with fail
  refine G.mono ?_;clear G;rintro e w' ⟨rfl,rfl⟩;go_wp2
  simp only [bodyPost,results,Tryz.results169]
  simp [H.out.setCell,E.out.next]
abbrev ZQ (at0:Nat):Ending:=.panicked [{ v:=Vg 6 at0,recovered:=false }]
theorem xL (r g o cap:Nat) (t:Tk) (ts:List Tk) (s:List UInt8) (w:World) (h:zj r g o cap (t::ts) w) (hne:zk t s=true→ts≠[]) :
  Calls Tryz.prog 170 #[.pointer (some ⟨r,0,none⟩),.string (za s)] w fun e w'=>zb r w w' ∧
   if zk t s=true then e=.returned (.tuple #[])∧zj r g (o+5) (cap-1) ts w' else e=ZQ t.at0:=by
 have y:=ZA r g o cap t ts s w h hne;cases hi:zk t s
 ·clear hne h
  rw [hi] at y
  go_enter Tryz.func170,Tryz.ntmps170
  go_wp2_with fail
  refine y.mono ?_;clear y;rintro e w1 ⟨rfl,A,D⟩;have G:=uV r g o cap t ts w1 (by simpa using D)
  have E:Hid (zb r w w1):=A;clear D A;go_wp2_with fail
  refine G.mono ?_;clear G;rintro e w' ⟨rfl,rfl⟩;go_wp2
  simp only [bodyPost]
  simp [E.out.alloc]
 ·clear hne h
  rw [hi] at y
  go_enter Tryz.func170,Tryz.ntmps170
  go_wp2_with fail
  refine y.mono ?_;clear y;rintro e w1 ⟨rfl,A,D⟩;have E:Hid (zb r w w1):=A;have z:zj r g (o+5) (cap-1) ts w1:=by simpa using D
  have H:Hid (zj r g (o+5) (cap-1) ts w1):=z;clear D z A;go_wp2
  simp only [bodyPost,results,Tryz.results170]
  simp [E.out,H.out]
theorem zaM (r g o cap:Nat) (t:Tk) (ts:List Tk) (w:World) (h:zj r g o cap (t::ts) w) :
  Calls Tryz.prog 97 #[.pointer (some ⟨r,0,none⟩)] w fun e w'=>zb r w w' ∧
   if t.k=0 then e=.returned (.tuple #[]) else e=ZQ t.at0:=by
 have z:=ZD r g o cap t ts w h;have H:=Yv;obtain ⟨w1,y⟩:∃w1,w1=w.alloc (Zc t):=⟨_,rfl⟩;have E:zj r g o cap (t::ts) w1:=by rw [y];exact h.alloc _
 have D:Hid (zb r w w1):=by rw [y];exact (zb.refl r w).alloc _
 rw [←y] at z;have A:=uV r g o cap t ts w1 E;clear h E y
 by_cases hk:t.k=0
 ·clear A
  simp only [hk,if_true]
  go_enter Tryz.func97,Tryz.ntmps97
  go_wp2_with fail
  refine z.mono ?_;clear z;rintro e w' ⟨rfl,rfl⟩;simp only [YH,hk];go_wp2
  simp only [bodyPost,results,Tryz.results97]
  simp [D.out]
 ·have G:¬ (t.k:Int)=0:=by omega
  simp only [hk,if_false]
  go_enter Tryz.func97,Tryz.ntmps97
  go_wp2_with fail
  refine z.mono ?_;clear z;rintro e w' ⟨rfl,rfl⟩;simp only [YH];go_wp2_with fail
  refine A.mono ?_;clear A;rintro e w' ⟨rfl,rfl⟩;go_wp2
  simp only [bodyPost]
  simp [D.out.alloc]
theorem Vn (r g o cap:Nat) (t:Tk) (ts:List Tk) (w:World) (h:zj r g o cap (t::ts) w) (hne:t.k=1→ts≠[]) :
  Calls Tryz.prog 171 #[.pointer (some ⟨r,0,none⟩)] w fun e w'=>zb r w w' ∧
   if t.k=1 then e=.returned (.string (za t.s))∧zj r g (o+5) (cap-1) ts w' else e=ZQ t.at0:=by
 have E:=ZD r g o cap t ts w h;obtain ⟨w2,z⟩:∃w2,w2=(w.alloc (Zc t)).alloc (Zc t):=⟨_,rfl⟩;have A:zj r g o cap (t::ts) w2:=by rw [z];exact (h.alloc _).alloc _
 have J:Hid (zb r w w2):=by rw [z];exact ((zb.refl r w).alloc _).alloc _
 have H:=uV r g o cap t ts w2 A
 by_cases hk:t.k=1
 ·have I:=xK r g o cap t ts w2 A (hne hk)
  have M:Hid (zj r g o cap (t::ts) w2):=A;have D:(w.alloc (Zc t)).alloc (.cells #[.int .i64 1,.string (za t.s),.int .i64 t.n,.int .i64 t.line,.int .i64 t.at0] 142)=w2:=by rw [z];simp [Zc,hk]
  have y:Hid ((w.alloc (Zc t)).alloc (.cells #[.int .i64 1,.string (za t.s),.int .i64 t.n,.int .i64 t.line,.int .i64 t.at0] 142)=w2):=D;clear D
  have G:∀v,(w2.setCell ⟨r,0,none⟩ v).cell? ⟨w.heap.size+1,1,none⟩=some (.string (za t.s)):=fun v=>by
   rw [World.cell?_setCell_other _ _ _ _ (by simp),z]
   have K:(w.alloc (Zc t)).heap.size=w.heap.size+1:=by simp
   have:=World.alloc_heap_new (w.alloc (Zc t)) (Zc t)
   rw [K] at this;simp only [World.cell?,this]
   rfl
  clear H h A z;simp only [hk,if_true]
  go_enter Tryz.func171,Tryz.ntmps171
  go_wp2_with fail
  refine E.mono ?_;clear E;rintro e w' ⟨rfl,rfl⟩;simp only [YH];go_wp2_with fail
  rw [y.out];clear y;refine I.mono ?_;clear I;rintro e w' ⟨rfl,rfl⟩;go_wp2
  simp only [bodyPost,results,Tryz.results171]
  simp [J.out.setCell,M.out.next]
 ·have L:¬ (t.k:Int)=1:=by omega
  have y:Hid ((w.alloc (Zc t)).alloc (.cells #[.int .i64 t.k,.string (za t.s),.int .i64 t.n,.int .i64 t.line,.int .i64 t.at0] 142)=w2):=z.symm;clear h A z;simp only [hk,if_false]
  go_enter Tryz.func171,Tryz.ntmps171
  go_wp2_with fail
  refine E.mono ?_;clear E;rintro e w' ⟨rfl,rfl⟩;simp only [YH];go_wp2_with fail
  rw [y.out];clear y;refine H.mono ?_;clear H;rintro e w' ⟨rfl,rfl⟩;go_wp2
  simp only [bodyPost]
  simp [J.out.alloc]
end Go.Proofs.YtmbofhpmockmbaaGreatDoor
