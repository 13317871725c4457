import Derived.Test.YtmbofhpmockmbaaGreatDoorXScan
import Derived.Test.YtmbofhpmockmbaaGreatDoorMC4
namespace Go.Proofs.YtmbofhpmockmbaaGreatDoor
open Go.RowKit Go.Shelf
set_option maxHeartbeats 16000000
set_option maxRecDepth 100000
attribute [local go_sem] Oper.semAt_some
theorem QC (l:List UInt8) (w:World) (hl:4096<l.length) :
  Calls Tryz.prog 94 #[.string (za l)] w fun e w'=>e=.returned (.tuple #[.slice none 0 0,.int .i64 0,.int .i64 5])∧Below w.heap.size w w':=by
 have o:(za l).size=l.length:=rfl;have G:(4096:Int)<l.length:=by omega
 refine (callsIn_wide (n:=7)).1 ?_;refine callsIn_of_wp_marks Tryz.func94 rfl trivial ?_ rfl;simp only [Tryz.ntmps94,List.size_toArray,List.length_cons,List.length_nil,Nat.reduceAdd,Nat.reduceSub,Array.replicate_succ,Array.replicate_zero,List.push_toArray,List.append_toArray,List.nil_append,List.cons_append]
 gi_wp2
 have H:Boxed (((w.alloc (.cells #[.slice none 0 0] 133)).alloc (.cells #[.int .i64 0] 3)).alloc (.cells #[.int .i64 5] 25)) w.heap.size 133 (.slice none 0 0):=((Boxed.new w _ _).alloc _).alloc _
 have E:Boxed (((w.alloc (.cells #[.slice none 0 0] 133)).alloc (.cells #[.int .i64 0] 3)).alloc (.cells #[.int .i64 5] 25)) (w.heap.size+1) 3 (.int .i64 0):=by
  have h:=(Boxed.new (w.alloc (.cells #[.slice none 0 0] 133)) 3 (.int .i64 0)).alloc (.cells #[.int .i64 5] 25);rw [World.size_alloc] at h;exact h
 have I:Boxed (((w.alloc (.cells #[.slice none 0 0] 133)).alloc (.cells #[.int .i64 0] 3)).alloc (.cells #[.int .i64 5] 25)) (w.heap.size+1+1) 25 (.int .i64 5):=by
  have h:=Boxed.new ((w.alloc (.cells #[.slice none 0 0] 133)).alloc (.cells #[.int .i64 0] 3)) 25 (.int .i64 5);rw [World.size_alloc,World.size_alloc] at h;exact h
 have A:Below w.heap.size w (((w.alloc (.cells #[.slice none 0 0] 133)).alloc (.cells #[.int .i64 0] 3)).alloc (.cells #[.int .i64 5] 25)):=(((Below.refl _ w).alloc (Nat.le_refl _) _).alloc (by simp) _).alloc (by simp;omega) _
 have D:=H.cell;have y:=E.cell;have z:=I.cell;generalize ((w.alloc (.cells #[.slice none 0 0] 133)).alloc (.cells #[.int .i64 0] 3)).alloc (.cells #[.int .i64 5] 25)=W at D y z A ⊢;exact ⟨_,Yi rfl _ _ _ rfl rfl rfl (by simp [go_sem,D]) (by simp [go_sem,y]) (by simp [go_sem,z]),rfl,A⟩
theorem QD (l:List UInt8) (w:World) (ht:Z4 w) :
  Calls Tryz.prog 94 #[.string (za l)] w fun e w'=>∃(r:Value),e=.returned (.tuple #[r,.int .i64 (zp l).2.1,.int .i64 (zp l).2.2]) ∧
   w'.ownsRow w.heap.size 142 5 r (zp l).1.length (zA (zp l).1)∧Below w.heap.size w w':=by
 by_cases h:4096<l.length
 ·refine (QC l w h).mono ?_
  rintro e w' ⟨rfl,y⟩
  unfold zp
  rw [if_pos h];exact ⟨_,rfl,World.ownsRow_nil _ _ _ _,y⟩
 ·refine (zap l w (by omega) ht).mono ?_
  rintro e w' o
  unfold zp
  rw [if_neg h];exact o
abbrev YQ (t:Tk):Value:=.agg #[.int .i64 t.k,.string (za t.s),.int .i64 t.n,.int .i64 t.line,.int .i64 t.at0]
abbrev Zf (t:Tk):Obj:=.cells #[.int .i64 t.k,.string (za t.s),.int .i64 t.n,.int .i64 t.line,.int .i64 t.at0] 142
structure zk (r g o cap:Nat) (ts:List Tk) (w:World):Prop where
 cell:w.cell? ⟨r,0,none⟩=some (.slice (some ⟨g,o,none⟩) ts.length cap)
 soft:w.frozen? ⟨r,0,none⟩=false
 hcap:ts.length≤cap
 hmax:cap≤maxLen
 other:r≠g
 toks:∀j u,(zA ts)[j]?=some u→w.cell? ⟨g,o+j,none⟩=some u
 few:ts.length≤1099511627776
theorem zd {w:World} {p:Addr} {v:Value} (h:w.cell? p=some v) (ob:Obj):(w.alloc ob).cell? p=some v:=by
 rw [World.cell?_alloc_lt _ _ p (World.block_lt_of_cell? w _ h)];exact h
theorem uu (a b c d e:Value) (w:World):(Instr.field 142 (.agg #[a,b,c,d,e]) 4).run Tryz.prog w=.ok e w:=by kernel_rfl
theorem YC (a b c d e:Value) (w:World):(Instr.field 142 (.agg #[a,b,c,d,e]) 0).run Tryz.prog w=.ok a w:=by kernel_rfl
theorem XP (a b c d e:Value) (w:World):(Instr.field 142 (.agg #[a,b,c,d,e]) 1).run Tryz.prog w=.ok b w:=by kernel_rfl
theorem xy (a b c d e:Value) (w:World):(Instr.field 142 (.agg #[a,b,c,d,e]) 3).run Tryz.prog w=.ok d w:=by kernel_rfl
theorem ZI (r g o cap:Nat) (t:Tk) (ts:List Tk) (w:World) (h:zk r g o cap (t::ts) w) :
  Calls Tryz.prog 117 #[.pointer (some ⟨r,0,none⟩)] w fun e w'=>e=.returned (YQ t)∧w'=w.alloc (Zf t):=by
 have z:=h.cell;have O:=h.hmax;have K:=h.hcap;have y:=h.toks 0 (.int .i64 t.k) (by simp [zA])
 have A:=h.toks 1 (.string (za t.s)) (by simp [zA])
 have E:=h.toks 2 (.int .i64 t.n) (by simp [zA])
 have D:=h.toks 3 (.int .i64 t.line) (by simp [zA])
 have G:=h.toks 4 (.int .i64 t.at0) (by simp [zA])
 clear h;simp only [List.length_cons,Nat.add_zero] at z K y;have I:=zd z;have J:=zd y;have L:=zd A;have M:=zd E;have N:=zd D;have H:=zd G;clear z y A E D G
 go_enter Tryz.func117,Tryz.ntmps117
 go_wp2
 simp [bodyPost,results,Tryz.results117,go_sem]
theorem xU (r g o cap:Nat) (t:Tk) (ts:List Tk) (w:World) (h:zk r g o cap (t::ts) w) (hne:ts≠[]) :
  Calls Tryz.prog 121 #[.pointer (some ⟨r,0,none⟩)] w fun e w'=>e=.returned (.tuple #[])∧w'=w.setCell ⟨r,0,none⟩ (.slice (some ⟨g,o+5,none⟩) ts.length (cap-1)):=by
 have y:=h.cell;have A:=h.hmax;have z:=h.hcap;have D:=h.soft;clear h;simp only [List.length_cons] at y z
 go_enter Tryz.func121,Tryz.ntmps121
 go_wp2
 ·exfalso
  have:=List.length_pos_iff.2 hne
  omega
 ·simp [bodyPost,results,Tryz.results121]
theorem zk.keep {r g o cap:Nat} {ts:List Tk} {w w':World} (h:zk r g o cap ts w) (hr:w'.heap[r]?=w.heap[r]?) (hg:w'.heap[g]?=w.heap[g]?):zk r g o cap ts w' where
 cell:=by rw [World.cell?_of_block hr];exact h.cell
 soft:=by have:=h.soft;simp only [World.frozen?,hr] at this ⊢;exact this
 hcap:=h.hcap
 hmax:=h.hmax
 other:=h.other
 toks:=fun j u hj=>by rw [World.cell?_of_block hg];exact h.toks j u hj
 few:=h.few
theorem zk.next {r g o cap:Nat} {t:Tk} {ts:List Tk} {w:World} (h:zk r g o cap (t::ts) w):zk r g (o+5) (cap-1) ts (w.setCell ⟨r,0,none⟩ (.slice (some ⟨g,o+5,none⟩) ts.length (cap-1))) where
 cell:=World.cell?_setCell_same _ _ _ h.cell
 soft:=by rw [World.frozen?_setCell];exact h.soft
 hcap:=by have:=h.hcap;simp only [List.length_cons] at this;omega
 hmax:=by have:=h.hmax;omega
 other:=h.other
 toks:=fun j u hj=>by
  rw [World.cell?_setCell_other _ _ _ _ (by simp)]
  have:=h.toks (5+j) u (by simpa [zA,List.getElem?_append,Nat.add_comm] using hj)
  rw [show o+5+j=o+(5+j) by omega];exact this
 few:=by have:=h.few;simp only [List.length_cons] at this;omega
theorem Us (r g o cap:Nat) (t:Tk) (ts:List Tk) (w:World) (h:zk r g o cap (t::ts) w) :
  Calls Tryz.prog 118 #[.pointer (some ⟨r,0,none⟩)] w fun e w'=>e=.panicked [{ v:=Vz 6 t.at0,recovered:=false }]∧w'=w.alloc (Zf t):=by
 have y:=ZI r g o cap t ts w h;have A:=uu;have z:∀(v:Value) (w:World),(Instr.panic (.iface 171 v)).run Tryz.prog w=.halt (.panic (.iface 171 v)) w:=fun _ _=>rfl
 clear h
 go_enter Tryz.func118,Tryz.ntmps118
 go_wp2_with fail
 refine y.mono ?_;rintro e w' ⟨rfl,rfl⟩;simp only [YQ];go_wp2
 exact ⟨rfl,rfl,rfl⟩
def zm (t:Tk) (s:List UInt8):Bool:=(t.k==4||t.k==5)&&t.s==s
theorem zaO (r g o cap:Nat) (t:Tk) (ts:List Tk) (s:List UInt8) (w:World) (h:zk r g o cap (t::ts) w) :
  Calls Tryz.prog 179 #[.pointer (some ⟨r,0,none⟩),.string (za s)] w fun e w'=>e=.returned (.bool (zm t s))∧w'=(w.alloc (Zf t)).alloc (Zf t):=by
 have z:=ZI r g o cap t ts w h;clear h
 go_enter Tryz.func179,Tryz.ntmps179
 go_wp2_with fail
 refine z.mono ?_;clear z;rintro e w' ⟨rfl,rfl⟩;simp only [YQ];go_wp2
 all_goals simp_all [bodyPost,results,Tryz.results179,zm]
 ·rename_i h
  have y:t.k=4:=by omega
  exact ⟨fun _=>.inl y,by simp [Zf,y]⟩
 ·rename_i h
  have y:t.k=5:=by omega
  exact ⟨fun _=>.inr y,by simp [Zf,y]⟩
 ·intro A;omega
structure zc (r:Nat) (w w':World):Prop where
 os:w'.os=w.os
 tape:w'.tape=w.tape
 output:w'.output=w.output
 size:w.heap.size≤w'.heap.size
 block:∀k,k<w.heap.size→k≠r→w'.heap[k]?=w.heap[k]?
theorem zc.refl (r:Nat) (w:World):zc r w w:=⟨rfl,rfl,rfl,Nat.le_refl _,fun _ _ _=>rfl⟩
theorem zc.of {r:Nat} {w w':World} (h:Below w.heap.size w w'):zc r w w':=⟨h.os,h.tape,h.output,h.size,fun k hk _=>h.block k hk⟩
theorem zc.trans {r:Nat} {a b c:World} (h:zc r a b) (k:zc r b c):zc r a c :=
 ⟨k.os.trans h.os,k.tape.trans h.tape,k.output.trans h.output,Nat.le_trans h.size k.size,fun i hi hr=>(k.block i (Nat.lt_of_lt_of_le hi h.size) hr).trans (h.block i hi hr)⟩
theorem zc.alloc {r:Nat} {w w':World} (h:zc r w w') (ob:Obj):zc r w (w'.alloc ob) :=
 h.trans (.of ((Below.refl _ w').alloc (Nat.le_refl _) ob))
theorem zc.setCell {r:Nat} {w w':World} (h:zc r w w') (j:Nat) (v:Value):zc r w (w'.setCell ⟨r,j,none⟩ v):=by
 have e:=(Below.refl 0 w').setCell (p:=⟨r,j,none⟩) (by simp) v
 refine h.trans ⟨e.os,e.tape,e.output,e.size,fun k _ hr=>Below.heap_setCell _ _ _ _ (by simpa using hr)⟩
theorem zk.lt {r g o cap:Nat} {t:Tk} {ts:List Tk} {w:World} (h:zk r g o cap (t::ts) w):r<w.heap.size∧g<w.heap.size :=
 ⟨World.block_lt_of_cell? w _ h.cell,World.block_lt_of_cell? w _ (h.toks 0 (.int .i64 t.k) (by simp [zA]))⟩
theorem zk.alloc {r g o cap:Nat} {t:Tk} {ts:List Tk} {w:World} (h:zk r g o cap (t::ts) w) (ob:Obj):zk r g o cap (t::ts) (w.alloc ob) :=
 h.keep (Below.heap_alloc w ob r h.lt.1) (Below.heap_alloc w ob g h.lt.2)
theorem ZF (r g o cap:Nat) (t:Tk) (ts:List Tk) (s:List UInt8) (w:World) (h:zk r g o cap (t::ts) w) (hne:zm t s=true→ts≠[]) :
  Calls Tryz.prog 169 #[.pointer (some ⟨r,0,none⟩),.string (za s)] w fun e w'=>e=.returned (.bool (zm t s))∧zc r w w' ∧
   if zm t s=true then zk r g (o+5) (cap-1) ts w' else zk r g o cap (t::ts) w':=by
 have A:=zaO r g o cap t ts s w h;obtain ⟨w1,y⟩:∃w1,w1=(w.alloc (Zf t)).alloc (Zf t):=⟨_,rfl⟩;have D:zk r g o cap (t::ts) w1:=by rw [y];exact (h.alloc _).alloc _
 have z:zc r w w1:=by rw [y];exact ((zc.refl r w).alloc _).alloc _
 rw [←y] at A;have G:Hid (zk r g o cap (t::ts) w1):=D;have E:Hid (zc r w w1):=z;cases hi:zm t s
 ·clear hne h D z y
  rw [hi] at A
  go_enter Tryz.func169,Tryz.ntmps169
  go_wp2_with fail
  refine A.mono ?_;clear A;rintro e w' ⟨rfl,rfl⟩;go_wp2
  simp only [bodyPost,results,Tryz.results169]
  simp [E.out,G.out]
 ·have H:=xU r g o cap t ts w1 D (hne hi)
  clear hne h D z y;rw [hi] at A
  go_enter Tryz.func169,Tryz.ntmps169
  go_wp2_with fail
  refine A.mono ?_;clear A;rintro e w' ⟨rfl,rfl⟩;go_wp2_with fail
  refine H.mono ?_;clear H;rintro e w' ⟨rfl,rfl⟩;go_wp2
  simp only [bodyPost,results,Tryz.results169]
  simp [E.out.setCell,G.out.next]
abbrev ZU (at0:Nat):Ending:=.panicked [{ v:=Vz 6 at0,recovered:=false }]
theorem xV (r g o cap:Nat) (t:Tk) (ts:List Tk) (s:List UInt8) (w:World) (h:zk r g o cap (t::ts) w) (hne:zm t s=true→ts≠[]) :
  Calls Tryz.prog 170 #[.pointer (some ⟨r,0,none⟩),.string (za s)] w fun e w'=>zc r w w' ∧
   if zm t s=true then e=.returned (.tuple #[])∧zk r g (o+5) (cap-1) ts w' else e=ZU t.at0:=by
 have y:=ZF r g o cap t ts s w h hne;cases hi:zm t s
 ·clear hne h
  rw [hi] at y
  go_enter Tryz.func170,Tryz.ntmps170
  go_wp2_with fail
  refine y.mono ?_;clear y;rintro e w1 ⟨rfl,A,D⟩;have G:=Us r g o cap t ts w1 (by simpa using D)
  have E:Hid (zc r w w1):=A;clear D A;go_wp2_with fail
  refine G.mono ?_;clear G;rintro e w' ⟨rfl,rfl⟩;go_wp2
  simp only [bodyPost]
  simp [E.out.alloc]
 ·clear hne h
  rw [hi] at y
  go_enter Tryz.func170,Tryz.ntmps170
  go_wp2_with fail
  refine y.mono ?_;clear y;rintro e w1 ⟨rfl,A,D⟩;have E:Hid (zc r w w1):=A;have z:zk r g (o+5) (cap-1) ts w1:=by simpa using D
  have H:Hid (zk r g (o+5) (cap-1) ts w1):=z;clear D z A;go_wp2
  simp only [bodyPost,results,Tryz.results170]
  simp [E.out,H.out]
theorem za9 (r g o cap:Nat) (t:Tk) (ts:List Tk) (w:World) (h:zk r g o cap (t::ts) w) :
  Calls Tryz.prog 97 #[.pointer (some ⟨r,0,none⟩)] w fun e w'=>zc r w w' ∧
   if t.k=0 then e=.returned (.tuple #[]) else e=ZU t.at0:=by
 have z:=ZI r g o cap t ts w h;have H:=YC;obtain ⟨w1,y⟩:∃w1,w1=w.alloc (Zf t):=⟨_,rfl⟩;have E:zk r g o cap (t::ts) w1:=by rw [y];exact h.alloc _
 have D:Hid (zc r w w1):=by rw [y];exact (zc.refl r w).alloc _
 rw [←y] at z;have A:=Us r g o cap t ts w1 E;clear h E y
 by_cases hk:t.k=0
 ·clear A
  simp only [hk,if_true]
  go_enter Tryz.func97,Tryz.ntmps97
  go_wp2_with fail
  refine z.mono ?_;clear z;rintro e w' ⟨rfl,rfl⟩;simp only [YQ,hk];go_wp2
  simp only [bodyPost,results,Tryz.results97]
  simp [D.out]
 ·have G:¬ (t.k:Int)=0:=by omega
  simp only [hk,if_false]
  go_enter Tryz.func97,Tryz.ntmps97
  go_wp2_with fail
  refine z.mono ?_;clear z;rintro e w' ⟨rfl,rfl⟩;simp only [YQ];go_wp2_with fail
  refine A.mono ?_;clear A;rintro e w' ⟨rfl,rfl⟩;go_wp2
  simp only [bodyPost]
  simp [D.out.alloc]
theorem VI (r g o cap:Nat) (t:Tk) (ts:List Tk) (w:World) (h:zk r g o cap (t::ts) w) (hne:t.k=1→ts≠[]) :
  Calls Tryz.prog 171 #[.pointer (some ⟨r,0,none⟩)] w fun e w'=>zc r w w' ∧
   if t.k=1 then e=.returned (.string (za t.s))∧zk r g (o+5) (cap-1) ts w' else e=ZU t.at0:=by
 have E:=ZI r g o cap t ts w h;obtain ⟨w2,z⟩:∃w2,w2=(w.alloc (Zf t)).alloc (Zf t):=⟨_,rfl⟩;have A:zk r g o cap (t::ts) w2:=by rw [z];exact (h.alloc _).alloc _
 have I:Hid (zc r w w2):=by rw [z];exact ((zc.refl r w).alloc _).alloc _
 have G:=Us r g o cap t ts w2 A
 by_cases hk:t.k=1
 ·have J:=xU r g o cap t ts w2 A (hne hk)
  have L:Hid (zk r g o cap (t::ts) w2):=A;have D:(w.alloc (Zf t)).alloc (.cells #[.int .i64 1,.string (za t.s),.int .i64 t.n,.int .i64 t.line,.int .i64 t.at0] 142)=w2:=by rw [z];simp [Zf,hk]
  have y:Hid ((w.alloc (Zf t)).alloc (.cells #[.int .i64 1,.string (za t.s),.int .i64 t.n,.int .i64 t.line,.int .i64 t.at0] 142)=w2):=D;clear D
  have H:∀v,(w2.setCell ⟨r,0,none⟩ v).cell? ⟨w.heap.size+1,1,none⟩=some (.string (za t.s)):=fun v=>by
   rw [World.cell?_setCell_other _ _ _ _ (by simp),z]
   have K:(w.alloc (Zf t)).heap.size=w.heap.size+1:=by simp
   have:=World.alloc_heap_new (w.alloc (Zf t)) (Zf t)
   rw [K] at this;simp only [World.cell?,this]
   rfl
  clear G h A z;simp only [hk,if_true]
  go_enter Tryz.func171,Tryz.ntmps171
  go_wp2_with fail
  refine E.mono ?_;clear E;rintro e w' ⟨rfl,rfl⟩;simp only [YQ];go_wp2_with fail
  rw [y.out];clear y;refine J.mono ?_;clear J;rintro e w' ⟨rfl,rfl⟩;go_wp2
  simp only [bodyPost,results,Tryz.results171]
  simp [I.out.setCell,L.out.next]
 ·have M:¬ (t.k:Int)=1:=by omega
  have y:Hid ((w.alloc (Zf t)).alloc (.cells #[.int .i64 t.k,.string (za t.s),.int .i64 t.n,.int .i64 t.line,.int .i64 t.at0] 142)=w2):=z.symm;clear h A z;simp only [hk,if_false]
  go_enter Tryz.func171,Tryz.ntmps171
  go_wp2_with fail
  refine E.mono ?_;clear E;rintro e w' ⟨rfl,rfl⟩;simp only [YQ];go_wp2_with fail
  rw [y.out];clear y;refine G.mono ?_;clear G;rintro e w' ⟨rfl,rfl⟩;go_wp2
  simp only [bodyPost]
  simp [I.out.alloc]
end Go.Proofs.YtmbofhpmockmbaaGreatDoor
