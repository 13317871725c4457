import Derived.Test.YtghhamgealkodaaGreatDoorMC16
import Derived.Deep.RegionHeld3
import Derived.RegionDies
namespace Go.Proofs.YtghhamgealkodaaGreatDoor
open Go.RowKit Go.Shelf
set_option maxRecDepth 100000
def unaryR (t:Tk):PR Ex→PR Ex
 | .error a=>.error a
 | .ok (e,ts)=>.ok (.mk 6 t.s 0 [e] t.line,ts)
set_option maxHeartbeats 8000000 in
theorem rdUnaryAhead (r g o cap:Nat) (t:Tk) (ts:List Tk) (w:World) (res:PR Ex) (h:RdAt r g o cap (t::ts) w) (hE:EndsT (t::ts)) (hk:t.k=4) (hs:(t.s==[45]||t.s==[33])=true)
  (hun:∀w1 o1 cap1,RdAt r g o1 cap1 ts w1→Kept r w w1→Calls Tryz.prog 121 #[.pointer (some ⟨r,0,none⟩)] w1 (PostE r g w1 res)) :
  Calls Tryz.prog 121 #[.pointer (some ⟨r,0,none⟩)] w (PostE r g w (unaryR t res)):=by
 have hr:=h.lt.1
 have hgw:=h.lt.2
 have ca:=fun w=>aheadS_any t.s w
 simp only [hs] at ca
 have h0:=h.alloc exZ
 have ch:=rdHere r g o cap t ts _ h0
 obtain ⟨w2,hw2⟩:∃w2,w2=((w.alloc exZ).alloc (tkO t)).alloc (.cells #[.int .i64 4,.string (strB t.s),.int .i64 t.n,.int .i64 t.line,.int .i64 t.at0] 72):=⟨_,rfl⟩
 have h2:RdAt r g o cap (t::ts) w2:=by rw [hw2];exact (h0.alloc _).alloc _
 have k2:Kept r w w2:=by rw [hw2];exact (((Kept.refl r w).alloc _).alloc _).alloc _
 have cs:=rdStep r g o cap t ts w2 h2 (hE.tail (by omega)).ne
 have HW2:Hid (w2=((w.alloc exZ).alloc (tkO t)).alloc (.cells #[.int .i64 4,.string (strB t.s),.int .i64 t.n,.int .i64 t.line,.int .i64 t.at0] 72)):=hw2
 clear h h0
 go_enter Tryz.func121,Tryz.ntmps121
 go_wp2_with fail
 refine ch.mono ?_
 clear ch
 rintro e w1 ⟨rfl,rfl⟩
 simp only [tkV]
 go_wp2_with (go_at_call 129;refine (ca _).mono ?_;rintro e w1 ⟨rfl,rfl⟩)
 rw [←HW2.out]
 refine cs.mono ?_
 clear cs ca
 rintro e w3 ⟨rfl,hw3⟩
 have n2:w2.heap[w.heap.size+1+1]?=some (.cells #[.int .i64 4,.string (strB t.s),.int .i64 t.n,.int .i64 t.line,.int .i64 t.at0] 72 (0,0)):=by
  have hx:=World.alloc_heap_new ((w.alloc exZ).alloc (tkO t)) (.cells #[.int .i64 4,.string (strB t.s),.int .i64 t.n,.int .i64 t.line,.int .i64 t.at0] 72)
  rw [←hw2,show ((w.alloc exZ).alloc (tkO t)).heap.size=w.heap.size+1+1 by simp] at hx
  exact hx
 have n0:w2.heap[w.heap.size]?=some exZ:=by
  rw [hw2,Below.heap_alloc _ _ _ (by simp;omega),Below.heap_alloc _ _ _ (by simp)]
  exact World.alloc_heap_new _ _
 have k3:Kept r w w3:=by rw [hw3];exact k2.setCell 0 _
 have k23:Kept r w2 w3:=by rw [hw3];exact (Kept.refl r w2).setCell 0 _
 have h3:RdAt r g (o+5) (cap-1) ts w3:=by rw [hw3];exact h2.next
 have m2:=(k23.block _ (Array.getElem?_eq_some_iff.1 n2).1 (by omega)).trans n2
 have m0:=(k23.block _ (Array.getElem?_eq_some_iff.1 n0).1 (by omega)).trans n0
 have cu:∀W:World,W.heap=w3.heap→W.os=w3.os→W.tape=w3.tape→W.output=w3.output→Calls Tryz.prog 121 #[.pointer (some ⟨r,0,none⟩)] W fun e w'=>Kept r w3 w'∧PostE r g W res e w':=fun W e1 e2 e3 e4 =>
  (hun W _ _ (h3.keep (by rw [e1]) (by rw [e1])) ⟨e2.trans k3.os,e3.trans k3.tape,e4.trans k3.output,by rw [e1];exact k3.size,fun k hk hr=>by rw [e1];exact k3.block k hk hr⟩).mono fun e w' h =>
   ⟨⟨h.1.os.trans e2,h.1.tape.trans e3,h.1.output.trans e4,by rw [←e1];exact h.1.size,fun k hk hr=>by rw [←e1];exact h.1.block k (by rw [e1];exact hk) hr⟩,h⟩
 have HK3:Hid (Kept r w w3):=k3
 have hl2:w.heap.size+1+1<w3.heap.size:=(Array.getElem?_eq_some_iff.1 m2).1
 have c1:w3.cell? ⟨w.heap.size+1+1,1,none⟩=some (.string (strB t.s)):=by simp only [World.cell?,m2];rfl
 have c3:w3.cell? ⟨w.heap.size+1+1,3,none⟩=some (.int .i64 t.line):=by simp only [World.cell?,m2];rfl
 clear hun hw3 n2 n0 k3 k23 h3 h2 k2 hw2 HW2 hE
 rcases res with a | ⟨x,us⟩
 ·have cu':∀W:World,W.heap=w3.heap→W.os=w3.os→W.tape=w3.tape→W.output=w3.output→Calls Tryz.prog 121 #[.pointer (some ⟨r,0,none⟩)] W fun e w'=>e=gaveUp a∧Kept r w w':=fun W e1 e2 e3 e4=>(cu W e1 e2 e3 e4).mono fun e w' h=>⟨h.2.2,HK3.out.trans h.1⟩
  clear cu
  go_wp2_with fail
  go_region_dies
  all_goals (go_wp2_with fail;refine (cu' _ (by rfl) (by rfl) (by rfl) (by rfl)).mono ?_;rintro e w4 ⟨rfl,hk4⟩;exact ⟨rfl,hk4,rfl⟩)
 ·have cu':∀W:World,W.heap=w3.heap→W.os=w3.os→W.tape=w3.tape→W.output=w3.output→Calls Tryz.prog 121 #[.pointer (some ⟨r,0,none⟩)] W fun e w'=>∃(a:Int) (b:ByteArray) (c:Int) (d0:Option Addr) (d1 d2:Nat) (l:Int),e=.returned (.agg #[.int .i64 a,.string b,.int .i64 c,.slice d0 d1 d2,.int .i64 l]) ∧
    w'.cell? ⟨w.heap.size+1+1,1,none⟩=some (.string (strB t.s))∧w'.cell? ⟨w.heap.size+1+1,3,none⟩=some (.int .i64 t.line)∧w'.heap[w.heap.size]?=some exZ∧Hid (Kept r w w')∧w3.heap.size≤w'.heap.size ∧
    Hid (ExAt w3.heap.size w' x (.agg #[.int .i64 a,.string b,.int .i64 c,.slice d0 d1 d2,.int .i64 l]))∧Hid (∃o4 cap4,RdAt r g o4 cap4 us w'):=fun W e1 e2 e3 e4=>(cu W e1 e2 e3 e4).mono fun e w' h=>by
   obtain ⟨hk4,-,v,o4,cap4,rfl,hx,hrd⟩:=h
   obtain ⟨a,b,c,d0,d1,d2,l,rfl⟩:=hx.agg
   exact ⟨a,b,c,d0,d1,d2,l,rfl,hk4.cell (p:=⟨w.heap.size+1+1,1,none⟩) (by simp;omega) c1,hk4.cell (p:=⟨w.heap.size+1+1,3,none⟩) (by simp;omega) c3,(hk4.block _ (by omega) (by omega)).trans m0,HK3.out.trans hk4,hk4.size,(by rw [←e1];exact hx:ExAt w3.heap.size w' x _),⟨o4,cap4,hrd⟩⟩
  clear cu m0 m2
  go_wp2_with fail
  go_region_held3 (fun W=>W.cell? ⟨w.heap.size+1+1,1,none⟩=some (.string (strB t.s))∧W.cell? ⟨w.heap.size+1+1,3,none⟩=some (.int .i64 t.line)) (first | go_keep | exact ⟨set5_far _ _ _ _ _ (by omega) (c1'' _),set5_far _ _ _ _ _ (by omega) (c3'' _)⟩) (first | (go_at_call 121;refine (cu' _ (by rfl) (by rfl) (by rfl) (by rfl)).mono ?_;rintro e w4 ⟨a,b,c,d0,d1,d2,l,rfl,c1',c3',p4,HK4,hsz4,HX4,HR4⟩;have q0:w4.cell? ⟨w.heap.size,0,none⟩=some (.int .i64 0):=(by simp only [World.cell?,p4];rfl);have q1:w4.cell? ⟨w.heap.size,1,none⟩=some (.string ⟨#[]⟩):=(by simp only [World.cell?,p4];rfl);have q2:w4.cell? ⟨w.heap.size,2,none⟩=some (.int .i64 0):=(by simp only [World.cell?,p4];rfl);have q3:w4.cell? ⟨w.heap.size,3,none⟩=some (.slice none 0 0):=(by simp only [World.cell?,p4];rfl);have q4:w4.cell? ⟨w.heap.size,4,none⟩=some (.int .i64 0):=(by simp only [World.cell?,p4];rfl);have qf:∀j,w4.frozen? ⟨w.heap.size,j,none⟩=false:=(fun j=>by simp only [World.frozen?,p4];simp);have qf':∀ob j,(w4.alloc ob).frozen? ⟨w.heap.size,j,none⟩=false:=(fun ob j=>by simp only [World.frozen?,Below.heap_alloc w4 ob w.heap.size (Array.getElem?_eq_some_iff.1 p4).1,p4];simp);have q0':=cell_al q0;have q1':=cell_al q1;have q2':=cell_al q2;have q3':=cell_al q3;have q4':=cell_al q4;have c1'':=cell_al c1';have c3'':=cell_al c3'))
  obtain ⟨o4,cap4,hrd4⟩:=HR4.out
  have hr4:=World.block_lt_of_cell? w4 _ q0
  have p5:(w4.alloc (.cells #[.int .i64 a,.string b,.int .i64 c,.slice d0 d1 d2,.int .i64 l] 40)).heap[w.heap.size]?=some exZ:=(Below.heap_alloc _ _ _ hr4).trans p4
  obtain ⟨z0,z1,z2,z3,z4⟩:=set5_cells p5 (.int .i64 6) (.string (strB t.s)) (.int .i64 0) (.slice (some ⟨w4.heap.size,0,none⟩) 1 1) (.int .i64 t.line)
  change Exit.then _ _ _ _ (set5 (w4.alloc (.cells #[.int .i64 a,.string b,.int .i64 c,.slice d0 d1 d2,.int .i64 l] 40)) w.heap.size (.int .i64 6) (.string (strB t.s)) (.int .i64 0) (.slice (some ⟨w4.heap.size,0,none⟩) 1 1) (.int .i64 t.line))
  have hp:PostE r g w (unaryR t (.ok (x,us))) (.returned (.agg #[.int .i64 6,.string (strB t.s),.int .i64 0,.slice (some ⟨w4.heap.size,0,none⟩) 1 1,.int .i64 t.line])) (set5 (w4.alloc (.cells #[.int .i64 a,.string b,.int .i64 c,.slice d0 d1 d2,.int .i64 l] 40)) w.heap.size (.int .i64 6) (.string (strB t.s)) (.int .i64 0) (.slice (some ⟨w4.heap.size,0,none⟩) 1 1) (.int .i64 t.line)) :=
   PostE.of_set5 (B:=w3.heap.size) 6 t.s 0 t.line (HK4.out.alloc _) (Nat.le_refl _) hr hgw (RowIn.one 40 (c:=[.int .i64 a,.string b,.int .i64 c,.slice d0 d1 d2,.int .i64 l]) HX4.out rfl hsz4) (by omega) (hrd4.keep (Below.heap_alloc _ _ _ (by have:=HK4.out.size;omega)) (Below.heap_alloc _ _ _ (by have:=HK4.out.size;omega)))
  generalize set5 (w4.alloc (.cells #[.int .i64 a,.string b,.int .i64 c,.slice d0 d1 d2,.int .i64 l] 40)) w.heap.size (.int .i64 6) (.string (strB t.s)) (.int .i64 0) (.slice (some ⟨w4.heap.size,0,none⟩) 1 1) (.int .i64 t.line)=W at *
  have HP:Hid (PostE r g w (unaryR t (.ok (x,us))) (.returned (.agg #[.int .i64 6,.string (strB t.s),.int .i64 0,.slice (some ⟨w4.heap.size,0,none⟩) 1 1,.int .i64 t.line])) W):=hp
  clear hp p5 hr4 hrd4 q0 q1 q2 q3 q4 qf qf' q0' q1' q2' q3' q4' c1'' c3'' c1' c3' c1 c3 p4 HK4 hsz4 HX4 HR4 cu' HK3 hl2
  go_wp2
  exact bodyPost_ret (v:=.agg #[.int .i64 6,.string (strB t.s),.int .i64 0,.slice (some ⟨w4.heap.size,0,none⟩) 1 1,.int .i64 t.line]) (by simp [results,Tryz.results121,go_sem,z0,z1,z2,z3,z4]) rfl HP.out
set_option maxHeartbeats 8000000 in
theorem rdUnaryElse (r g o cap:Nat) (t:Tk) (ts:List Tk) (w:World) (res:PR Ex) (h:RdAt r g o cap (t::ts) w) (hs:¬(t.k=4∧(t.s=[45]∨t.s=[33])))
  (hwp:∀w1,RdAt r g o cap (t::ts) w1→Kept r w w1→Calls Tryz.prog 148 #[.pointer (some ⟨r,0,none⟩)] w1 (PostE r g w1 res)) :
  Calls Tryz.prog 121 #[.pointer (some ⟨r,0,none⟩)] w (PostE r g w res):=by
 have hr:=h.lt.1
 have hgw:=h.lt.2
 have ca:=fun w=>aheadS_any t.s w
 have h0:=h.alloc exZ
 have ch:=rdHere r g o cap t ts _ h0
 obtain ⟨w2,hw2⟩:∃w2,w2=((w.alloc exZ).alloc (tkO t)).alloc (tkO t):=⟨_,rfl⟩
 have h2:RdAt r g o cap (t::ts) w2:=by rw [hw2];exact (h0.alloc _).alloc _
 have k2:Kept r w w2:=by rw [hw2];exact (((Kept.refl r w).alloc _).alloc _).alloc _
 have cw:=hwp w2 h2 k2
 have n0:w2.heap[w.heap.size]?=some exZ:=by
  rw [hw2,Below.heap_alloc _ _ _ (by simp;omega),Below.heap_alloc _ _ _ (by simp)]
  exact World.alloc_heap_new _ _
 have hl2:w.heap.size<w2.heap.size:=(Array.getElem?_eq_some_iff.1 n0).1
 have HN0:Hid (w2.heap[w.heap.size]?=some exZ):=n0
 have HK2:Hid (Kept r w w2):=k2
 have HW2:Hid (w2=((w.alloc exZ).alloc (tkO t)).alloc (tkO t)):=hw2
 clear h h0 h2 k2 hw2 hwp n0
 have key:∀e w3,PostE r g w2 res e w3→(∃a,res=.error a∧e=gaveUp a∧Kept r w w3)∨∃(x:Ex) (us:List Tk) (a:Int) (b:ByteArray) (c:Int) (d0:Option Addr) (d1 d2:Nat) (l:Int),res=.ok (x,us)∧e=.returned (.agg #[.int .i64 a,.string b,.int .i64 c,.slice d0 d1 d2,.int .i64 l])∧w3.heap[w.heap.size]?=some exZ ∧
   PostE r g w (.ok (x,us)) (.returned (.agg #[.int .i64 a,.string b,.int .i64 c,.slice d0 d1 d2,.int .i64 l])) (set5 w3 w.heap.size (.int .i64 a) (.string b) (.int .i64 c) (.slice d0 d1 d2) (.int .i64 l)):=by
  rintro e w3 ⟨hk3,hpost⟩
  rcases res with a | ⟨x,us⟩
  ·exact .inl ⟨a,rfl,hpost,HK2.out.trans hk3⟩
  ·obtain ⟨v,o3,cap3,rfl,hx,hrd⟩:=hpost
   obtain ⟨a,b,c,d0,d1,d2,l,rfl⟩:=hx.agg
   exact .inr ⟨x,us,a,b,c,d0,d1,d2,l,rfl,rfl,(hk3.block _ hl2 (by omega)).trans HN0.out,PostE.of_set5' (HK2.out.trans hk3) (Nat.le_refl _) hr hgw hx hl2 hrd⟩
 have HKEY:Hid (∀e w3,PostE r g w2 res e w3→(∃a,res=.error a∧e=gaveUp a∧Kept r w w3)∨∃(x:Ex) (us:List Tk) (a:Int) (b:ByteArray) (c:Int) (d0:Option Addr) (d1 d2:Nat) (l:Int),res=.ok (x,us)∧e=.returned (.agg #[.int .i64 a,.string b,.int .i64 c,.slice d0 d1 d2,.int .i64 l])∧w3.heap[w.heap.size]?=some exZ ∧
   PostE r g w (.ok (x,us)) (.returned (.agg #[.int .i64 a,.string b,.int .i64 c,.slice d0 d1 d2,.int .i64 l])) (set5 w3 w.heap.size (.int .i64 a) (.string b) (.int .i64 c) (.slice d0 d1 d2) (.int .i64 l))):=key
 clear key HN0 HK2 hl2
 go_enter Tryz.func121,Tryz.ntmps121
 go_wp2_with fail
 refine ch.mono ?_
 clear ch
 rintro e w1 ⟨rfl,rfl⟩
 simp only [tkV]
 by_cases h4:t.k=4
 ·have hb:(t.s==[45]||t.s==[33])=false:=by
   rw [Bool.or_eq_false_iff,beq_eq_false_iff_ne,beq_eq_false_iff_ne]
   exact ⟨fun e=>hs ⟨h4,.inl e⟩,fun e=>hs ⟨h4,.inr e⟩⟩
  simp only [hb] at ca
  have h4':(t.k:Int)=4:=by omega
  go_wp2_with (go_at_call 129;refine (ca _).mono ?_;rintro e w1 ⟨rfl,rfl⟩)
  have hO:tkO t=.cells #[.int .i64 4,.string (strB t.s),.int .i64 t.n,.int .i64 t.line,.int .i64 t.at0] 72:=by simp only [tkO,h4];rfl
  rw [show ((w.alloc exZ).alloc (tkO t)).alloc (.cells #[.int .i64 4,.string (strB t.s),.int .i64 t.n,.int .i64 t.line,.int .i64 t.at0] 72)=w2 by rw [←hO];exact HW2.out.symm]
  refine cw.mono ?_
  clear cw ca HW2
  intro e w3 hpost
  rcases HKEY.out e w3 hpost with ⟨a,rfl,rfl,hk⟩ | ⟨x,us,a,b,c,d0,d1,d2,l,rfl,rfl,p3,hp⟩
  ·exact ⟨rfl,hk,rfl⟩
  ·obtain ⟨z0,z1,z2,z3,z4⟩:=set5_cells p3 (.int .i64 a) (.string b) (.int .i64 c) (.slice d0 d1 d2) (.int .i64 l)
   have q0:w3.cell? ⟨w.heap.size,0,none⟩=some (.int .i64 0):=by simp only [World.cell?,p3];rfl
   have q1:w3.cell? ⟨w.heap.size,1,none⟩=some (.string ⟨#[]⟩):=by simp only [World.cell?,p3];rfl
   have q2:w3.cell? ⟨w.heap.size,2,none⟩=some (.int .i64 0):=by simp only [World.cell?,p3];rfl
   have q3:w3.cell? ⟨w.heap.size,3,none⟩=some (.slice none 0 0):=by simp only [World.cell?,p3];rfl
   have q4:w3.cell? ⟨w.heap.size,4,none⟩=some (.int .i64 0):=by simp only [World.cell?,p3];rfl
   have qf:∀j,w3.frozen? ⟨w.heap.size,j,none⟩=false:=fun j=>by simp only [World.frozen?,p3];simp
   have HP:Hid (PostE r g w (.ok (x,us)) (.returned (.agg #[.int .i64 a,.string b,.int .i64 c,.slice d0 d1 d2,.int .i64 l])) (set5 w3 w.heap.size (.int .i64 a) (.string b) (.int .i64 c) (.slice d0 d1 d2) (.int .i64 l))):=hp
   clear HKEY hpost hp p3
   go_wp2
   exact bodyPost_ret (v:=.agg #[.int .i64 a,.string b,.int .i64 c,.slice d0 d1 d2,.int .i64 l]) (by simp [results,Tryz.results121,go_sem,z0,z1,z2,z3,z4]) rfl HP.out
 ·have h4':¬(t.k:Int)=4:=by omega
  go_wp2_with fail
  rw [←HW2.out]
  refine cw.mono ?_
  clear cw ca HW2
  intro e w3 hpost
  rcases HKEY.out e w3 hpost with ⟨a,rfl,rfl,hk⟩ | ⟨x,us,a,b,c,d0,d1,d2,l,rfl,rfl,p3,hp⟩
  ·exact ⟨rfl,hk,rfl⟩
  ·obtain ⟨z0,z1,z2,z3,z4⟩:=set5_cells p3 (.int .i64 a) (.string b) (.int .i64 c) (.slice d0 d1 d2) (.int .i64 l)
   have q0:w3.cell? ⟨w.heap.size,0,none⟩=some (.int .i64 0):=by simp only [World.cell?,p3];rfl
   have q1:w3.cell? ⟨w.heap.size,1,none⟩=some (.string ⟨#[]⟩):=by simp only [World.cell?,p3];rfl
   have q2:w3.cell? ⟨w.heap.size,2,none⟩=some (.int .i64 0):=by simp only [World.cell?,p3];rfl
   have q3:w3.cell? ⟨w.heap.size,3,none⟩=some (.slice none 0 0):=by simp only [World.cell?,p3];rfl
   have q4:w3.cell? ⟨w.heap.size,4,none⟩=some (.int .i64 0):=by simp only [World.cell?,p3];rfl
   have qf:∀j,w3.frozen? ⟨w.heap.size,j,none⟩=false:=fun j=>by simp only [World.frozen?,p3];simp
   have HP:Hid (PostE r g w (.ok (x,us)) (.returned (.agg #[.int .i64 a,.string b,.int .i64 c,.slice d0 d1 d2,.int .i64 l])) (set5 w3 w.heap.size (.int .i64 a) (.string b) (.int .i64 c) (.slice d0 d1 d2) (.int .i64 l))):=hp
   clear HKEY hpost hp p3
   go_wp2
   exact bodyPost_ret (v:=.agg #[.int .i64 a,.string b,.int .i64 c,.slice d0 d1 d2,.int .i64 l]) (by simp [results,Tryz.results121,go_sem,z0,z1,z2,z3,z4]) rfl HP.out
theorem LevT.kept {r:Nat} {w w':World} (h:LevT w) (hk:Kept r w w') (hr:r≠1):LevT w':=by
 intro i v hi
 exact hk.cell (p:=⟨1,0+i,none⟩) (fun e=>hr e.symm) (h i v hi)
theorem ExIn.line_eq {S:Nat→Prop} {w:World} {x:Ex} {a b c d:Value} {l:Int} (h:ExIn S w x (.agg #[a,b,c,d,.int .i64 l])):l=(x.line:Int):=by
 cases h <;> rfl
def MoreJ (r g N F:Nat) (w:World) (res:PR Ex) (p:Nat→Ex→List Tk→Option (PR Ex)) (wr:World):Prop :=
 ∃(e:Ex) (ts:List Tk) (o cap f:Nat) (a:Int) (b:ByteArray) (c:Int) (d0:Option Addr) (d1 d2:Nat) (l:Int),f≤F∧p f e ts=some res∧EndsT ts∧ts.length≤1099511627776 ∧
  wr.heap[N]?=some (.cells #[.int .i64 a,.string b,.int .i64 c,.slice d0 d1 d2,.int .i64 l] 40 (0,0)) ∧
  ExIn (fun k=>w.heap.size<k∧k≠N) wr e (.agg #[.int .i64 a,.string b,.int .i64 c,.slice d0 d1 d2,.int .i64 l])∧RdAt r g o cap ts wr∧Kept r w wr∧wr.heap[w.heap.size]?=some exZ
theorem setCell_block {w:World} {N j:Nat} {c:Array Value} {ty:TypeId} {fr:Nat × Nat} (v:Value) (h:w.heap[N]?=some (.cells c ty fr)):(w.setCell ⟨N,j,none⟩ v).heap[N]?=some (.cells (c.setIfInBounds j v) ty fr):=by
 unfold World.setCell
 simp [Array.getElem?_modify,h]
theorem set5_block {w:World} {N:Nat} {x0 x1 x2 x3 x4:Value} {ty:TypeId} (h:w.heap[N]?=some (.cells #[x0,x1,x2,x3,x4] ty (0,0))) (a b c d e:Value):(set5 w N a b c d e).heap[N]?=some (.cells #[a,b,c,d,e] ty (0,0)) :=
 setCell_block e (setCell_block d (setCell_block c (setCell_block b (setCell_block a h))))
theorem cells5 {w:World} {N:Nat} {x0 x1 x2 x3 x4:Value} {ty:TypeId} (h:w.heap[N]?=some (.cells #[x0,x1,x2,x3,x4] ty (0,0))) :
  w.cell? ⟨N,0,none⟩=some x0∧w.cell? ⟨N,1,none⟩=some x1∧w.cell? ⟨N,2,none⟩=some x2∧w.cell? ⟨N,3,none⟩=some x3∧w.cell? ⟨N,4,none⟩=some x4∧∀j,w.frozen? ⟨N,j,none⟩=false:=by
 refine ⟨?_,?_,?_,?_,?_,fun j=>?_⟩
 ·simp only [World.cell?,h];rfl
 ·simp only [World.cell?,h];rfl
 ·simp only [World.cell?,h];rfl
 ·simp only [World.cell?,h];rfl
 ·simp only [World.cell?,h];rfl
 ·simp only [World.frozen?,h];simp
theorem MoreJ.leave {r g N o cap:Nat} {w wr W:World} {e:Ex} {ts:List Tk} {a:Int} {b:ByteArray} {c:Int} {d0:Option Addr} {d1 d2:Nat} {l:Int} (hr:r<w.heap.size) (hg:g<w.heap.size) (hNw:w.heap.size<N) (hk:Kept r w wr)
  (hb:wr.heap[N]?=some (.cells #[.int .i64 a,.string b,.int .i64 c,.slice d0 d1 d2,.int .i64 l] 40 (0,0))) (hz:wr.heap[w.heap.size]?=some exZ)
  (hx:ExIn (fun k=>w.heap.size<k∧k≠N) wr e (.agg #[.int .i64 a,.string b,.int .i64 c,.slice d0 d1 d2,.int .i64 l])) (hK:Kept r wr W) (hrd:RdAt r g o cap ts W) :
  W.heap[N]?=some (.cells #[.int .i64 a,.string b,.int .i64 c,.slice d0 d1 d2,.int .i64 l] 40 (0,0))∧W.heap[w.heap.size]?=some exZ ∧
  PostE r g w (.ok (e,ts)) (.returned (.agg #[.int .i64 a,.string b,.int .i64 c,.slice d0 d1 d2,.int .i64 l])) (set5 W w.heap.size (.int .i64 a) (.string b) (.int .i64 c) (.slice d0 d1 d2) (.int .i64 l)):=by
 refine ⟨(hK.block _ (Array.getElem?_eq_some_iff.1 hb).1 (by omega)).trans hb,(hK.block _ (Array.getElem?_eq_some_iff.1 hz).1 (by omega)).trans hz,?_⟩
 refine PostE.of_set5' (B:=w.heap.size+1) (hk.trans hK) (Nat.le_refl _) hr hg ?_ (Nat.lt_succ_self _) hrd
 exact ExIn.wide (ExIn.kept hx hK.size fun k hk' hlt=>hK.block k hlt (by omega)) fun k hk'=>hk'.1
theorem MoreJ.start {r g F:Nat} {w w0 w1:World} {res:PR Ex} {p:Nat→Ex→List Tk→Option (PR Ex)} {x:Ex} {us:List Tk} {o cap:Nat} {a:Int} {b:ByteArray} {c:Int} {d0:Option Addr} {d1 d2:Nat} {l:Int} (hw0:w0=w.alloc exZ) (hr:r<w.heap.size) (hk:Kept r w0 w1)
  (hx:ExAt w0.heap.size w1 x (.agg #[.int .i64 a,.string b,.int .i64 c,.slice d0 d1 d2,.int .i64 l])) (hrd:RdAt r g o cap us w1) (hp:p F x us=some res) (hE:EndsT us) (hN:us.length≤1099511627776) :
  MoreJ r g w1.heap.size F w res p (w1.alloc (.cells #[.int .i64 a,.string b,.int .i64 c,.slice d0 d1 d2,.int .i64 l] 40)):=by
 have hs:w0.heap.size=w.heap.size+1:=by rw [hw0];simp
 have hk':Kept r w w1:=by rw [hw0] at hk;exact ((Kept.refl r w).alloc _).trans hk
 obtain ⟨t,ts,rfl⟩:=hE.cons
 refine ⟨x,t::ts,o,cap,F,a,b,c,d0,d1,d2,l,Nat.le_refl _,hp,hE,hN,World.alloc_heap_new _ _,?_,hrd.alloc _,hk'.alloc _,?_⟩
 ·exact ExIn.wide (ExIn.kept (ExIn.low hx) (by simp) fun k hk _=>Below.heap_alloc _ _ _ hk.2) fun k hk=>⟨by omega,by omega⟩
 ·rw [Below.heap_alloc _ _ _ (by have:=hk.size;omega),hk.block _ (by omega) (by omega),hw0]
  exact World.alloc_heap_new _ _
theorem MoreJ.store {r g N F f:Nat} {w w7:World} {res:PR Ex} {p:Nat→Ex→List Tk→Option (PR Ex)} {x0 x1 x2 x3 x4:Value} {kids:List Ex} {us:List Tk} {o cap:Nat} {ob:Obj} {d0:Option Addr} {d1 d2:Nat} (k:Nat) (s:List UInt8) (n:Int) (line:Nat) (hr:r<w.heap.size) (hg:g<w.heap.size) (hNw:w.heap.size<N)
  (hk:Kept r w w7) (hb:w7.heap[N]?=some (.cells #[x0,x1,x2,x3,x4] 40 (0,0))) (hrow:RowIn (fun k=>w.heap.size<k∧k≠N) (w7.alloc ob) kids (.slice d0 d1 d2)) (hrd:RdAt r g o cap us w7) (hz:w7.heap[w.heap.size]?=some exZ)
  (hf:f≤F) (hp:p f (.mk k s n kids line) us=some res) (hE:EndsT us) (hN:us.length≤1099511627776) :
  MoreJ r g N F w res p (set5 (w7.alloc ob) N (.int .i64 k) (.string (strB s)) (.int .i64 n) (.slice d0 d1 d2) (.int .i64 line)):=by
 have hlt:=(Array.getElem?_eq_some_iff.1 hb).1
 obtain ⟨t,ts,rfl⟩:=hE.cons
 have hs:=hk.size
 refine ⟨.mk k s n kids line,t::ts,o,cap,f,k,strB s,n,d0,d1,d2,line,hf,hp,hE,hN,set5_block ((Below.heap_alloc _ _ _ hlt).trans hb) _ _ _ _ _,?_,?_,set5_kept (hk.alloc _) (by omega) _ _ _ _ _,?_⟩
 ·exact ExIn.of_row (hrow.kept (w':=set5 (w7.alloc ob) N (.int .i64 k) (.string (strB s)) (.int .i64 n) (.slice d0 d1 d2) (.int .i64 line)) (by simp) fun k hk _=>set5_keep _ _ _ _ _ _ _ hk.2) k s n line
 ·exact (hrd.alloc ob).keep (set5_keep _ _ _ _ _ _ _ (by omega)) (set5_keep _ _ _ _ _ _ _ (by omega))
 ·rw [set5_keep _ _ _ _ _ _ _ (by omega),Below.heap_alloc _ _ _ (by omega)];exact hz
set_option maxHeartbeats 8000000 in
theorem rdTightest (r g:Nat) (least:Nat) (w:World) (res:PR Ex) (hr:r<w.heap.size) (hgw:g<w.heap.size) (hl:6<least)
  (hb:Calls Tryz.prog 121 #[.pointer (some ⟨r,0,none⟩)] (w.alloc exZ) (PostE r g (w.alloc exZ) res)) :
  Calls Tryz.prog 77 #[.pointer (some ⟨r,0,none⟩),.int .i64 least] w (PostE r g w res):=by
 go_enter Tryz.func77,Tryz.ntmps77
 have hl':(6:Int)<(least:Int):=by omega
 go_wp2_with fail
 refine hb.mono ?_
 clear hb
 rintro e w1 ⟨hk1,hpost⟩
 have hK:Kept r w w1:=((Kept.refl r w).alloc _).trans hk1
 rcases res with a | ⟨x,ts⟩
 ·obtain rfl:=hpost
  exact ⟨rfl,hK,rfl⟩
 ·obtain ⟨v,o,cap,rfl,hx,hrd⟩:=hpost
  obtain ⟨a,b,c,d0,d1,d2,e,rfl⟩:=hx.agg
  have hsz:(w.alloc exZ).heap.size=w.heap.size+1:=by simp
  have p0:w1.heap[w.heap.size]?=some exZ:=(hk1.block w.heap.size (by omega) (by omega)).trans (World.alloc_heap_new w _)
  have q0:w1.cell? ⟨w.heap.size,0,none⟩=some (.int .i64 0):=by simp only [World.cell?,p0];rfl
  have q1:w1.cell? ⟨w.heap.size,1,none⟩=some (.string ⟨#[]⟩):=by simp only [World.cell?,p0];rfl
  have q2:w1.cell? ⟨w.heap.size,2,none⟩=some (.int .i64 0):=by simp only [World.cell?,p0];rfl
  have q3:w1.cell? ⟨w.heap.size,3,none⟩=some (.slice none 0 0):=by simp only [World.cell?,p0];rfl
  have q4:w1.cell? ⟨w.heap.size,4,none⟩=some (.int .i64 0):=by simp only [World.cell?,p0];rfl
  have qf:∀j,w1.frozen? ⟨w.heap.size,j,none⟩=false:=fun j=>by simp only [World.frozen?,p0];simp
  have HP:Hid (PostE r g w (.ok (x,ts)) (.returned (.agg #[.int .i64 a,.string b,.int .i64 c,.slice d0 d1 d2,.int .i64 e])) (set5 w1 w.heap.size (.int .i64 a) (.string b) (.int .i64 c) (.slice d0 d1 d2) (.int .i64 e))) :=
   PostE.of_set5' hK (Nat.le_refl _) hr hgw hx (by omega) hrd
  obtain ⟨z0,z1,z2,z3,z4⟩:=set5_cells p0 (.int .i64 a) (.string b) (.int .i64 c) (.slice d0 d1 d2) (.int .i64 e)
  clear hk1 hx hrd hK p0
  go_wp2
  exact bodyPost_ret (v:=.agg #[.int .i64 a,.string b,.int .i64 c,.slice d0 d1 d2,.int .i64 e]) (by simp [results,Tryz.results77,go_sem,z0,z1,z2,z3,z4]) rfl HP.out
end Go.Proofs.YtghhamgealkodaaGreatDoor
