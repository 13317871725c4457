import Derived.Test.YtpejpbbdgblbeaaGreatDoorMC15
import Derived.Deep.RegionHeld3
import Derived.RegionDies
namespace Go.Proofs.YtpejpbbdgblbeaaGreatDoor
open Go.RowKit Go.Shelf
set_option maxHeartbeats 16000000
set_option maxRecDepth 100000
def qd (t:Tk):PR Ex→PR Ex
 | .error a=>.error a
 | .ok (e,ts)=>.ok (.mk 6 t.s 0 [e] t.line,ts)
theorem zas (r g o cap:Nat) (t:Tk) (ts:List Tk) (w:World) (res:PR Ex) (h:zh r g o cap (t::ts) w) (hE:zj (t::ts)) (hk:t.k=4) (hs:(t.s==[45]||t.s==[33])=true)
  (hun:∀w1 o1 cap1,zh r g o1 cap1 ts w1→zc r w w1→Calls Tryz.prog 125 #[.pointer (some ⟨r,0,none⟩)] w1 (zQ r g w1 res)) :
  Calls Tryz.prog 125 #[.pointer (some ⟨r,0,none⟩)] w (zQ r g w (qd t res)):=by
 have hr:=h.lt.1;have hgw:=h.lt.2;have ca:=fun w=>VS t.s w
 simp only [hs] at ca;have h0:=h.alloc ZA;have ch:=yR r g o cap t ts _ h0;obtain ⟨w2,hw2⟩:∃w2,w2=((w.alloc ZA).alloc (yi t)).alloc (.cells #[.int .i64 4,.string (za t.s),.int .i64 t.n,.int .i64 t.line,.int .i64 t.at0] 66):=⟨_,rfl⟩;have h2:zh r g o cap (t::ts) w2:=by rw [hw2];exact (h0.alloc _).alloc _
 have k2:zc r w w2:=by rw [hw2];exact (((zc.refl r w).alloc _).alloc _).alloc _
 have cs:=VM r g o cap t ts w2 h2 (hE.tail (by omega)).ne
 have HW2:Hid (w2=((w.alloc ZA).alloc (yi t)).alloc (.cells #[.int .i64 4,.string (za t.s),.int .i64 t.n,.int .i64 t.line,.int .i64 t.at0] 66)):=hw2;clear h h0
 go_enter Tryz.func125,Tryz.ntmps125
 go_wp2_with fail
 refine ch.mono ?_;clear ch;rintro e w1 ⟨rfl,rfl⟩;simp only [Xc];go_wp2_with (go_at_call 119;refine (ca _).mono ?_;rintro e w1 ⟨rfl,rfl⟩)
 rw [←HW2.out];refine cs.mono ?_;clear cs ca;rintro e w3 ⟨rfl,hw3⟩
 have n2:w2.heap[w.heap.size+1+1]?=some (.cells #[.int .i64 4,.string (za t.s),.int .i64 t.n,.int .i64 t.line,.int .i64 t.at0] 66 (0,0)):=by
  have hx:=World.alloc_heap_new ((w.alloc ZA).alloc (yi t)) (.cells #[.int .i64 4,.string (za t.s),.int .i64 t.n,.int .i64 t.line,.int .i64 t.at0] 66);rw [←hw2,show ((w.alloc ZA).alloc (yi t)).heap.size=w.heap.size+1+1 by simp] at hx
  exact hx
 have n0:w2.heap[w.heap.size]?=some ZA:=by
  rw [hw2,Below.heap_alloc _ _ _ (by simp;omega),Below.heap_alloc _ _ _ (by simp)]
  exact World.alloc_heap_new _ _
 have k3:zc r w w3:=by rw [hw3];exact k2.setCell 0 _
 have k23:zc r w2 w3:=by rw [hw3];exact (zc.refl r w2).setCell 0 _
 have h3:zh r g (o+5) (cap-1) ts w3:=by rw [hw3];exact h2.next
 have m2:=(k23.block _ (Array.getElem?_eq_some_iff.1 n2).1 (by omega)).trans n2
 have m0:=(k23.block _ (Array.getElem?_eq_some_iff.1 n0).1 (by omega)).trans n0
 have cu:∀W:World,W.heap=w3.heap→W.os=w3.os→W.tape=w3.tape→W.output=w3.output→Calls Tryz.prog 125 #[.pointer (some ⟨r,0,none⟩)] W fun e w'=>zc r w3 w'∧zQ r g W res e w':=fun W e1 e2 e3 e4 =>
  (hun W _ _ (h3.keep (by rw [e1]) (by rw [e1])) ⟨e2.trans k3.os,e3.trans k3.tape,e4.trans k3.output,by rw [e1];exact k3.size,fun k hk hr=>by rw [e1];exact k3.block k hk hr⟩).mono fun e w' h =>
   ⟨⟨h.1.os.trans e2,h.1.tape.trans e3,h.1.output.trans e4,by rw [←e1];exact h.1.size,fun k hk hr=>by rw [←e1];exact h.1.block k (by rw [e1];exact hk) hr⟩,h⟩
 have HK3:Hid (zc r w w3):=k3;have hl2:w.heap.size+1+1<w3.heap.size:=(Array.getElem?_eq_some_iff.1 m2).1;have c1:w3.cell? ⟨w.heap.size+1+1,1,none⟩=some (.string (za t.s)):=by simp only [World.cell?,m2];rfl
 have c3:w3.cell? ⟨w.heap.size+1+1,3,none⟩=some (.int .i64 t.line):=by simp only [World.cell?,m2];rfl
 clear hun hw3 n2 n0 k3 k23 h3 h2 k2 hw2 HW2 hE;rcases res with a | ⟨x,us⟩
 ·have cu':∀W:World,W.heap=w3.heap→W.os=w3.os→W.tape=w3.tape→W.output=w3.output→Calls Tryz.prog 125 #[.pointer (some ⟨r,0,none⟩)] W fun e w'=>e=Z2 a∧zc r w w':=fun W e1 e2 e3 e4=>(cu W e1 e2 e3 e4).mono fun e w' h=>⟨h.2.2,HK3.out.trans h.1⟩
  clear cu;go_wp2_with fail
  go_region_dies
  all_goals (go_wp2_with fail;refine (cu' _ (by rfl) (by rfl) (by rfl) (by rfl)).mono ?_;rintro e w4 ⟨rfl,hk4⟩;exact ⟨rfl,hk4,rfl⟩)
 ·have cu':∀W:World,W.heap=w3.heap→W.os=w3.os→W.tape=w3.tape→W.output=w3.output→Calls Tryz.prog 125 #[.pointer (some ⟨r,0,none⟩)] W fun e w'=>∃(a:Int) (b:ByteArray) (c:Int) (d0:Option Addr) (d1 d2:Nat) (l:Int),e=.returned (.agg #[.int .i64 a,.string b,.int .i64 c,.slice d0 d1 d2,.int .i64 l]) ∧
    w'.cell? ⟨w.heap.size+1+1,1,none⟩=some (.string (za t.s))∧w'.cell? ⟨w.heap.size+1+1,3,none⟩=some (.int .i64 t.line)∧w'.heap[w.heap.size]?=some ZA∧Hid (zc r w w')∧w3.heap.size≤w'.heap.size ∧
    Hid (ZO w3.heap.size w' x (.agg #[.int .i64 a,.string b,.int .i64 c,.slice d0 d1 d2,.int .i64 l]))∧Hid (∃o4 cap4,zh r g o4 cap4 us w'):=fun W e1 e2 e3 e4=>(cu W e1 e2 e3 e4).mono fun e w' h=>by
   obtain ⟨hk4,-,v,o4,cap4,rfl,hx,hrd⟩:=h;obtain ⟨a,b,c,d0,d1,d2,l,rfl⟩:=hx.agg;exact ⟨a,b,c,d0,d1,d2,l,rfl,hk4.cell (p:=⟨w.heap.size+1+1,1,none⟩) (by simp;omega) c1,hk4.cell (p:=⟨w.heap.size+1+1,3,none⟩) (by simp;omega) c3,(hk4.block _ (by omega) (by omega)).trans m0,HK3.out.trans hk4,hk4.size,(by rw [←e1];exact hx:ZO w3.heap.size w' x _),⟨o4,cap4,hrd⟩⟩
  clear cu m0 m2;go_wp2_with fail
  go_region_held3 (fun W=>W.cell? ⟨w.heap.size+1+1,1,none⟩=some (.string (za t.s))∧W.cell? ⟨w.heap.size+1+1,3,none⟩=some (.int .i64 t.line)) (first | go_keep | exact ⟨XY _ _ _ _ _ (by omega) (c1'' _),XY _ _ _ _ _ (by omega) (c3'' _)⟩) (first | (go_at_call 125;refine (cu' _ (by rfl) (by rfl) (by rfl) (by rfl)).mono ?_;rintro e w4 ⟨a,b,c,d0,d1,d2,l,rfl,c1',c3',p4,HK4,hsz4,HX4,HR4⟩;have q0:w4.cell? ⟨w.heap.size,0,none⟩=some (.int .i64 0):=(by simp only [World.cell?,p4];rfl);have q1:w4.cell? ⟨w.heap.size,1,none⟩=some (.string ⟨#[]⟩):=(by simp only [World.cell?,p4];rfl);have q2:w4.cell? ⟨w.heap.size,2,none⟩=some (.int .i64 0):=(by simp only [World.cell?,p4];rfl);have q3:w4.cell? ⟨w.heap.size,3,none⟩=some (.slice none 0 0):=(by simp only [World.cell?,p4];rfl);have q4:w4.cell? ⟨w.heap.size,4,none⟩=some (.int .i64 0):=(by simp only [World.cell?,p4];rfl);have qf:∀j,w4.frozen? ⟨w.heap.size,j,none⟩=false:=(fun j=>by simp only [World.frozen?,p4];simp);have qf':∀ob j,(w4.alloc ob).frozen? ⟨w.heap.size,j,none⟩=false:=(fun ob j=>by simp only [World.frozen?,Below.heap_alloc w4 ob w.heap.size (Array.getElem?_eq_some_iff.1 p4).1,p4];simp);have q0':=ze q0;have q1':=ze q1;have q2':=ze q2;have q3':=ze q3;have q4':=ze q4;have c1'':=ze c1';have c3'':=ze c3'))
  obtain ⟨o4,cap4,hrd4⟩:=HR4.out;have hr4:=World.block_lt_of_cell? w4 _ q0;have p5:(w4.alloc (.cells #[.int .i64 a,.string b,.int .i64 c,.slice d0 d1 d2,.int .i64 l] 45)).heap[w.heap.size]?=some ZA:=(Below.heap_alloc _ _ _ hr4).trans p4;obtain ⟨z0,z1,z2,z3,z4⟩:=zA p5 (.int .i64 6) (.string (za t.s)) (.int .i64 0) (.slice (some ⟨w4.heap.size,0,none⟩) 1 1) (.int .i64 t.line)
  change Exit.then _ _ _ _ (set5 (w4.alloc (.cells #[.int .i64 a,.string b,.int .i64 c,.slice d0 d1 d2,.int .i64 l] 45)) w.heap.size (.int .i64 6) (.string (za t.s)) (.int .i64 0) (.slice (some ⟨w4.heap.size,0,none⟩) 1 1) (.int .i64 t.line))
  have hp:zQ r g w (qd t (.ok (x,us))) (.returned (.agg #[.int .i64 6,.string (za t.s),.int .i64 0,.slice (some ⟨w4.heap.size,0,none⟩) 1 1,.int .i64 t.line])) (set5 (w4.alloc (.cells #[.int .i64 a,.string b,.int .i64 c,.slice d0 d1 d2,.int .i64 l] 45)) w.heap.size (.int .i64 6) (.string (za t.s)) (.int .i64 0) (.slice (some ⟨w4.heap.size,0,none⟩) 1 1) (.int .i64 t.line)) :=
   zQ.of_set5 (B:=w3.heap.size) 6 t.s 0 t.line (HK4.out.alloc _) (Nat.le_refl _) hr hgw (zv.one 45 (c:=[.int .i64 a,.string b,.int .i64 c,.slice d0 d1 d2,.int .i64 l]) HX4.out rfl hsz4) (by omega) (hrd4.keep (Below.heap_alloc _ _ _ (by have:=HK4.out.size;omega)) (Below.heap_alloc _ _ _ (by have:=HK4.out.size;omega)))
  generalize set5 (w4.alloc (.cells #[.int .i64 a,.string b,.int .i64 c,.slice d0 d1 d2,.int .i64 l] 45)) w.heap.size (.int .i64 6) (.string (za t.s)) (.int .i64 0) (.slice (some ⟨w4.heap.size,0,none⟩) 1 1) (.int .i64 t.line)=W at *;have HP:Hid (zQ r g w (qd t (.ok (x,us))) (.returned (.agg #[.int .i64 6,.string (za t.s),.int .i64 0,.slice (some ⟨w4.heap.size,0,none⟩) 1 1,.int .i64 t.line])) W):=hp;clear hp p5 hr4 hrd4 q0 q1 q2 q3 q4 qf qf' q0' q1' q2' q3' q4' c1'' c3'' c1' c3' c1 c3 p4 HK4 hsz4 HX4 HR4 cu' HK3 hl2;go_wp2
  exact bodyPost_ret (v:=.agg #[.int .i64 6,.string (za t.s),.int .i64 0,.slice (some ⟨w4.heap.size,0,none⟩) 1 1,.int .i64 t.line]) (by simp [results,Tryz.results125,go_sem,z0,z1,z2,z3,z4]) rfl HP.out
theorem zbm (r g o cap:Nat) (t:Tk) (ts:List Tk) (w:World) (res:PR Ex) (h:zh r g o cap (t::ts) w) (hs:¬(t.k=4∧(t.s=[45]∨t.s=[33])))
  (hwp:∀w1,zh r g o cap (t::ts) w1→zc r w w1→Calls Tryz.prog 148 #[.pointer (some ⟨r,0,none⟩)] w1 (zQ r g w1 res)) :
  Calls Tryz.prog 125 #[.pointer (some ⟨r,0,none⟩)] w (zQ r g w res):=by
 have hr:=h.lt.1;have hgw:=h.lt.2;have ca:=fun w=>VS t.s w
 have h0:=h.alloc ZA;have ch:=yR r g o cap t ts _ h0;obtain ⟨w2,hw2⟩:∃w2,w2=((w.alloc ZA).alloc (yi t)).alloc (yi t):=⟨_,rfl⟩;have h2:zh r g o cap (t::ts) w2:=by rw [hw2];exact (h0.alloc _).alloc _
 have k2:zc r w w2:=by rw [hw2];exact (((zc.refl r w).alloc _).alloc _).alloc _
 have cw:=hwp w2 h2 k2
 have n0:w2.heap[w.heap.size]?=some ZA:=by
  rw [hw2,Below.heap_alloc _ _ _ (by simp;omega),Below.heap_alloc _ _ _ (by simp)]
  exact World.alloc_heap_new _ _
 have hl2:w.heap.size<w2.heap.size:=(Array.getElem?_eq_some_iff.1 n0).1;have HN0:Hid (w2.heap[w.heap.size]?=some ZA):=n0;have HK2:Hid (zc r w w2):=k2;have HW2:Hid (w2=((w.alloc ZA).alloc (yi t)).alloc (yi t)):=hw2;clear h h0 h2 k2 hw2 hwp n0
 have key:∀e w3,zQ r g w2 res e w3→(∃a,res=.error a∧e=Z2 a∧zc r w w3)∨∃(x:Ex) (us:List Tk) (a:Int) (b:ByteArray) (c:Int) (d0:Option Addr) (d1 d2:Nat) (l:Int),res=.ok (x,us)∧e=.returned (.agg #[.int .i64 a,.string b,.int .i64 c,.slice d0 d1 d2,.int .i64 l])∧w3.heap[w.heap.size]?=some ZA ∧
   zQ r g w (.ok (x,us)) (.returned (.agg #[.int .i64 a,.string b,.int .i64 c,.slice d0 d1 d2,.int .i64 l])) (set5 w3 w.heap.size (.int .i64 a) (.string b) (.int .i64 c) (.slice d0 d1 d2) (.int .i64 l)):=by
  rintro e w3 ⟨hk3,hpost⟩;rcases res with a | ⟨x,us⟩
  ·exact .inl ⟨a,rfl,hpost,HK2.out.trans hk3⟩
  ·obtain ⟨v,o3,cap3,rfl,hx,hrd⟩:=hpost
   obtain ⟨a,b,c,d0,d1,d2,l,rfl⟩:=hx.agg;exact .inr ⟨x,us,a,b,c,d0,d1,d2,l,rfl,rfl,(hk3.block _ hl2 (by omega)).trans HN0.out,zQ.of_set5' (HK2.out.trans hk3) (Nat.le_refl _) hr hgw hx hl2 hrd⟩
 have HKEY:Hid (∀e w3,zQ r g w2 res e w3→(∃a,res=.error a∧e=Z2 a∧zc r w w3)∨∃(x:Ex) (us:List Tk) (a:Int) (b:ByteArray) (c:Int) (d0:Option Addr) (d1 d2:Nat) (l:Int),res=.ok (x,us)∧e=.returned (.agg #[.int .i64 a,.string b,.int .i64 c,.slice d0 d1 d2,.int .i64 l])∧w3.heap[w.heap.size]?=some ZA ∧
   zQ r g w (.ok (x,us)) (.returned (.agg #[.int .i64 a,.string b,.int .i64 c,.slice d0 d1 d2,.int .i64 l])) (set5 w3 w.heap.size (.int .i64 a) (.string b) (.int .i64 c) (.slice d0 d1 d2) (.int .i64 l))):=key
 clear key HN0 HK2 hl2
 go_enter Tryz.func125,Tryz.ntmps125
 go_wp2_with fail
 refine ch.mono ?_;clear ch;rintro e w1 ⟨rfl,rfl⟩;simp only [Xc]
 by_cases h4:t.k=4
 ·have hb:(t.s==[45]||t.s==[33])=false:=by
   rw [Bool.or_eq_false_iff,beq_eq_false_iff_ne,beq_eq_false_iff_ne];exact ⟨fun e=>hs ⟨h4,.inl e⟩,fun e=>hs ⟨h4,.inr e⟩⟩
  simp only [hb] at ca;have h4':(t.k:Int)=4:=by omega
  go_wp2_with (go_at_call 119;refine (ca _).mono ?_;rintro e w1 ⟨rfl,rfl⟩)
  have hO:yi t=.cells #[.int .i64 4,.string (za t.s),.int .i64 t.n,.int .i64 t.line,.int .i64 t.at0] 66:=by simp only [yi,h4];rfl
  rw [show ((w.alloc ZA).alloc (yi t)).alloc (.cells #[.int .i64 4,.string (za t.s),.int .i64 t.n,.int .i64 t.line,.int .i64 t.at0] 66)=w2 by rw [←hO];exact HW2.out.symm]
  refine cw.mono ?_;clear cw ca HW2;intro e w3 hpost;rcases HKEY.out e w3 hpost with ⟨a,rfl,rfl,hk⟩ | ⟨x,us,a,b,c,d0,d1,d2,l,rfl,rfl,p3,hp⟩
  ·exact ⟨rfl,hk,rfl⟩
  ·obtain ⟨z0,z1,z2,z3,z4⟩:=zA p3 (.int .i64 a) (.string b) (.int .i64 c) (.slice d0 d1 d2) (.int .i64 l)
   have q0:w3.cell? ⟨w.heap.size,0,none⟩=some (.int .i64 0):=by simp only [World.cell?,p3];rfl
   have q1:w3.cell? ⟨w.heap.size,1,none⟩=some (.string ⟨#[]⟩):=by simp only [World.cell?,p3];rfl
   have q2:w3.cell? ⟨w.heap.size,2,none⟩=some (.int .i64 0):=by simp only [World.cell?,p3];rfl
   have q3:w3.cell? ⟨w.heap.size,3,none⟩=some (.slice none 0 0):=by simp only [World.cell?,p3];rfl
   have q4:w3.cell? ⟨w.heap.size,4,none⟩=some (.int .i64 0):=by simp only [World.cell?,p3];rfl
   have qf:∀j,w3.frozen? ⟨w.heap.size,j,none⟩=false:=fun j=>by simp only [World.frozen?,p3];simp
   have HP:Hid (zQ r g w (.ok (x,us)) (.returned (.agg #[.int .i64 a,.string b,.int .i64 c,.slice d0 d1 d2,.int .i64 l])) (set5 w3 w.heap.size (.int .i64 a) (.string b) (.int .i64 c) (.slice d0 d1 d2) (.int .i64 l))):=hp;clear HKEY hpost hp p3;go_wp2
   exact bodyPost_ret (v:=.agg #[.int .i64 a,.string b,.int .i64 c,.slice d0 d1 d2,.int .i64 l]) (by simp [results,Tryz.results125,go_sem,z0,z1,z2,z3,z4]) rfl HP.out
 ·have h4':¬(t.k:Int)=4:=by omega
  go_wp2_with fail
  rw [←HW2.out];refine cw.mono ?_;clear cw ca HW2;intro e w3 hpost;rcases HKEY.out e w3 hpost with ⟨a,rfl,rfl,hk⟩ | ⟨x,us,a,b,c,d0,d1,d2,l,rfl,rfl,p3,hp⟩
  ·exact ⟨rfl,hk,rfl⟩
  ·obtain ⟨z0,z1,z2,z3,z4⟩:=zA p3 (.int .i64 a) (.string b) (.int .i64 c) (.slice d0 d1 d2) (.int .i64 l)
   have q0:w3.cell? ⟨w.heap.size,0,none⟩=some (.int .i64 0):=by simp only [World.cell?,p3];rfl
   have q1:w3.cell? ⟨w.heap.size,1,none⟩=some (.string ⟨#[]⟩):=by simp only [World.cell?,p3];rfl
   have q2:w3.cell? ⟨w.heap.size,2,none⟩=some (.int .i64 0):=by simp only [World.cell?,p3];rfl
   have q3:w3.cell? ⟨w.heap.size,3,none⟩=some (.slice none 0 0):=by simp only [World.cell?,p3];rfl
   have q4:w3.cell? ⟨w.heap.size,4,none⟩=some (.int .i64 0):=by simp only [World.cell?,p3];rfl
   have qf:∀j,w3.frozen? ⟨w.heap.size,j,none⟩=false:=fun j=>by simp only [World.frozen?,p3];simp
   have HP:Hid (zQ r g w (.ok (x,us)) (.returned (.agg #[.int .i64 a,.string b,.int .i64 c,.slice d0 d1 d2,.int .i64 l])) (set5 w3 w.heap.size (.int .i64 a) (.string b) (.int .i64 c) (.slice d0 d1 d2) (.int .i64 l))):=hp;clear HKEY hpost hp p3;go_wp2
   exact bodyPost_ret (v:=.agg #[.int .i64 a,.string b,.int .i64 c,.slice d0 d1 d2,.int .i64 l]) (by simp [results,Tryz.results125,go_sem,z0,z1,z2,z3,z4]) rfl HP.out
theorem ZS.kept {r:Nat} {w w':World} (h:ZS w) (hk:zc r w w') (hr:r≠1):ZS w':=by
 intro i v hi;exact hk.cell (p:=⟨1,0+i,none⟩) (fun e=>hr e.symm) (h i v hi)
theorem zY.line_eq {S:Nat→Prop} {w:World} {x:Ex} {a b c d:Value} {l:Int} (h:zY S w x (.agg #[a,b,c,d,.int .i64 l])):l=(x.line:Int):=by
 cases h <;> rfl
def yB (r g N F:Nat) (w:World) (res:PR Ex) (p:Nat→Ex→List Tk→Option (PR Ex)) (wr:World):Prop :=
 ∃(e:Ex) (ts:List Tk) (o cap f:Nat) (a:Int) (b:ByteArray) (c:Int) (d0:Option Addr) (d1 d2:Nat) (l:Int),f≤F∧p f e ts=some res∧zj ts∧ts.length≤1099511627776 ∧
  wr.heap[N]?=some (.cells #[.int .i64 a,.string b,.int .i64 c,.slice d0 d1 d2,.int .i64 l] 45 (0,0)) ∧
  zY (fun k=>w.heap.size<k∧k≠N) wr e (.agg #[.int .i64 a,.string b,.int .i64 c,.slice d0 d1 d2,.int .i64 l])∧zh r g o cap ts wr∧zc r w wr∧wr.heap[w.heap.size]?=some ZA
theorem zm {w:World} {N j:Nat} {c:Array Value} {ty:TypeId} {fr:Nat × Nat} (v:Value) (h:w.heap[N]?=some (.cells c ty fr)):(w.setCell ⟨N,j,none⟩ v).heap[N]?=some (.cells (c.setIfInBounds j v) ty fr):=by
 unfold World.setCell
 simp [Array.getElem?_modify,h]
theorem YZ {w:World} {N:Nat} {x0 x1 x2 x3 x4:Value} {ty:TypeId} (h:w.heap[N]?=some (.cells #[x0,x1,x2,x3,x4] ty (0,0))) (a b c d e:Value):(set5 w N a b c d e).heap[N]?=some (.cells #[a,b,c,d,e] ty (0,0)) :=
 zm e (zm d (zm c (zm b (zm a h))))
theorem zo {w:World} {N:Nat} {x0 x1 x2 x3 x4:Value} {ty:TypeId} (h:w.heap[N]?=some (.cells #[x0,x1,x2,x3,x4] ty (0,0))) :
  w.cell? ⟨N,0,none⟩=some x0∧w.cell? ⟨N,1,none⟩=some x1∧w.cell? ⟨N,2,none⟩=some x2∧w.cell? ⟨N,3,none⟩=some x3∧w.cell? ⟨N,4,none⟩=some x4∧∀j,w.frozen? ⟨N,j,none⟩=false:=by
 refine ⟨?_,?_,?_,?_,?_,fun j=>?_⟩
 ·simp only [World.cell?,h];rfl
 ·simp only [World.cell?,h];rfl
 ·simp only [World.cell?,h];rfl
 ·simp only [World.cell?,h];rfl
 ·simp only [World.cell?,h];rfl
 ·simp only [World.frozen?,h];simp
theorem yB.leave {r g N o cap:Nat} {w wr W:World} {e:Ex} {ts:List Tk} {a:Int} {b:ByteArray} {c:Int} {d0:Option Addr} {d1 d2:Nat} {l:Int} (hr:r<w.heap.size) (hg:g<w.heap.size) (hNw:w.heap.size<N) (hk:zc r w wr)
  (hb:wr.heap[N]?=some (.cells #[.int .i64 a,.string b,.int .i64 c,.slice d0 d1 d2,.int .i64 l] 45 (0,0))) (hz:wr.heap[w.heap.size]?=some ZA)
  (hx:zY (fun k=>w.heap.size<k∧k≠N) wr e (.agg #[.int .i64 a,.string b,.int .i64 c,.slice d0 d1 d2,.int .i64 l])) (hK:zc r wr W) (hrd:zh r g o cap ts W) :
  W.heap[N]?=some (.cells #[.int .i64 a,.string b,.int .i64 c,.slice d0 d1 d2,.int .i64 l] 45 (0,0))∧W.heap[w.heap.size]?=some ZA ∧
  zQ r g w (.ok (e,ts)) (.returned (.agg #[.int .i64 a,.string b,.int .i64 c,.slice d0 d1 d2,.int .i64 l])) (set5 W w.heap.size (.int .i64 a) (.string b) (.int .i64 c) (.slice d0 d1 d2) (.int .i64 l)):=by
 refine ⟨(hK.block _ (Array.getElem?_eq_some_iff.1 hb).1 (by omega)).trans hb,(hK.block _ (Array.getElem?_eq_some_iff.1 hz).1 (by omega)).trans hz,?_⟩
 refine zQ.of_set5' (B:=w.heap.size+1) (hk.trans hK) (Nat.le_refl _) hr hg ?_ (Nat.lt_succ_self _) hrd;exact zY.wide (zY.kept hx hK.size fun k hk' hlt=>hK.block k hlt (by omega)) fun k hk'=>hk'.1
theorem yB.start {r g F:Nat} {w w0 w1:World} {res:PR Ex} {p:Nat→Ex→List Tk→Option (PR Ex)} {x:Ex} {us:List Tk} {o cap:Nat} {a:Int} {b:ByteArray} {c:Int} {d0:Option Addr} {d1 d2:Nat} {l:Int} (hw0:w0=w.alloc ZA) (hr:r<w.heap.size) (hk:zc r w0 w1)
  (hx:ZO w0.heap.size w1 x (.agg #[.int .i64 a,.string b,.int .i64 c,.slice d0 d1 d2,.int .i64 l])) (hrd:zh r g o cap us w1) (hp:p F x us=some res) (hE:zj us) (hN:us.length≤1099511627776) :
  yB r g w1.heap.size F w res p (w1.alloc (.cells #[.int .i64 a,.string b,.int .i64 c,.slice d0 d1 d2,.int .i64 l] 45)):=by
 have hs:w0.heap.size=w.heap.size+1:=by rw [hw0];simp
 have hk':zc r w w1:=by rw [hw0] at hk;exact ((zc.refl r w).alloc _).trans hk
 obtain ⟨t,ts,rfl⟩:=hE.cons;refine ⟨x,t::ts,o,cap,F,a,b,c,d0,d1,d2,l,Nat.le_refl _,hp,hE,hN,World.alloc_heap_new _ _,?_,hrd.alloc _,hk'.alloc _,?_⟩
 ·exact zY.wide (zY.kept (zY.low hx) (by simp) fun k hk _=>Below.heap_alloc _ _ _ hk.2) fun k hk=>⟨by omega,by omega⟩
 ·rw [Below.heap_alloc _ _ _ (by have:=hk.size;omega),hk.block _ (by omega) (by omega),hw0]
  exact World.alloc_heap_new _ _
theorem yB.store {r g N F f:Nat} {w w7:World} {res:PR Ex} {p:Nat→Ex→List Tk→Option (PR Ex)} {x0 x1 x2 x3 x4:Value} {kids:List Ex} {us:List Tk} {o cap:Nat} {ob:Obj} {d0:Option Addr} {d1 d2:Nat} (k:Nat) (s:List UInt8) (n:Int) (line:Nat) (hr:r<w.heap.size) (hg:g<w.heap.size) (hNw:w.heap.size<N)
  (hk:zc r w w7) (hb:w7.heap[N]?=some (.cells #[x0,x1,x2,x3,x4] 45 (0,0))) (hrow:zv (fun k=>w.heap.size<k∧k≠N) (w7.alloc ob) kids (.slice d0 d1 d2)) (hrd:zh r g o cap us w7) (hz:w7.heap[w.heap.size]?=some ZA)
  (hf:f≤F) (hp:p f (.mk k s n kids line) us=some res) (hE:zj us) (hN:us.length≤1099511627776) :
  yB r g N F w res p (set5 (w7.alloc ob) N (.int .i64 k) (.string (za s)) (.int .i64 n) (.slice d0 d1 d2) (.int .i64 line)):=by
 have hlt:=(Array.getElem?_eq_some_iff.1 hb).1;obtain ⟨t,ts,rfl⟩:=hE.cons;have hs:=hk.size;refine ⟨.mk k s n kids line,t::ts,o,cap,f,k,za s,n,d0,d1,d2,line,hf,hp,hE,hN,YZ ((Below.heap_alloc _ _ _ hlt).trans hb) _ _ _ _ _,?_,?_,yq (hk.alloc _) (by omega) _ _ _ _ _,?_⟩
 ·exact zY.of_row (hrow.kept (w':=set5 (w7.alloc ob) N (.int .i64 k) (.string (za s)) (.int .i64 n) (.slice d0 d1 d2) (.int .i64 line)) (by simp) fun k hk _=>zw _ _ _ _ _ _ _ hk.2) k s n line
 ·exact (hrd.alloc ob).keep (zw _ _ _ _ _ _ _ (by omega)) (zw _ _ _ _ _ _ _ (by omega))
 ·rw [zw _ _ _ _ _ _ _ (by omega),Below.heap_alloc _ _ _ (by omega)];exact hz
theorem zcH (r g:Nat) (least:Nat) (w:World) (res:PR Ex) (hr:r<w.heap.size) (hgw:g<w.heap.size) (hl:6<least)
  (hb:Calls Tryz.prog 125 #[.pointer (some ⟨r,0,none⟩)] (w.alloc ZA) (zQ r g (w.alloc ZA) res)) :
  Calls Tryz.prog 86 #[.pointer (some ⟨r,0,none⟩),.int .i64 least] w (zQ r g w res):=by
 go_enter Tryz.func86,Tryz.ntmps86
 have hl':(6:Int)<(least:Int):=by omega
 go_wp2_with fail
 refine hb.mono ?_;clear hb;rintro e w1 ⟨hk1,hpost⟩;have hK:zc r w w1:=((zc.refl r w).alloc _).trans hk1;rcases res with a | ⟨x,ts⟩
 ·obtain rfl:=hpost
  exact ⟨rfl,hK,rfl⟩
 ·obtain ⟨v,o,cap,rfl,hx,hrd⟩:=hpost
  obtain ⟨a,b,c,d0,d1,d2,e,rfl⟩:=hx.agg;have hsz:(w.alloc ZA).heap.size=w.heap.size+1:=by simp
  have p0:w1.heap[w.heap.size]?=some ZA:=(hk1.block w.heap.size (by omega) (by omega)).trans (World.alloc_heap_new w _)
  have q0:w1.cell? ⟨w.heap.size,0,none⟩=some (.int .i64 0):=by simp only [World.cell?,p0];rfl
  have q1:w1.cell? ⟨w.heap.size,1,none⟩=some (.string ⟨#[]⟩):=by simp only [World.cell?,p0];rfl
  have q2:w1.cell? ⟨w.heap.size,2,none⟩=some (.int .i64 0):=by simp only [World.cell?,p0];rfl
  have q3:w1.cell? ⟨w.heap.size,3,none⟩=some (.slice none 0 0):=by simp only [World.cell?,p0];rfl
  have q4:w1.cell? ⟨w.heap.size,4,none⟩=some (.int .i64 0):=by simp only [World.cell?,p0];rfl
  have qf:∀j,w1.frozen? ⟨w.heap.size,j,none⟩=false:=fun j=>by simp only [World.frozen?,p0];simp
  have HP:Hid (zQ r g w (.ok (x,ts)) (.returned (.agg #[.int .i64 a,.string b,.int .i64 c,.slice d0 d1 d2,.int .i64 e])) (set5 w1 w.heap.size (.int .i64 a) (.string b) (.int .i64 c) (.slice d0 d1 d2) (.int .i64 e))) :=
   zQ.of_set5' hK (Nat.le_refl _) hr hgw hx (by omega) hrd
  obtain ⟨z0,z1,z2,z3,z4⟩:=zA p0 (.int .i64 a) (.string b) (.int .i64 c) (.slice d0 d1 d2) (.int .i64 e);clear hk1 hx hrd hK p0;go_wp2
  exact bodyPost_ret (v:=.agg #[.int .i64 a,.string b,.int .i64 c,.slice d0 d1 d2,.int .i64 e]) (by simp [results,Tryz.results86,go_sem,z0,z1,z2,z3,z4]) rfl HP.out
theorem zat (r g o cap:Nat) (t:Tk) (ts:List Tk) (w:World) (hi:zn t [116,114,117,101]=true) (h:zh r g o cap (t::ts) w) (hE:zj (t::ts)) (hk1:t.k≠1) (hk2:t.k≠2) (hk3:t.k≠3)  :
  Calls Tryz.prog 180 #[.pointer (some ⟨r,0,none⟩)] w (zQ r g w (.ok (.mk 2 [] 1 [] t.line,ts))):=by
 have hr:=h.lt.1;have hgw:=h.lt.2;have h0:=h.alloc ZA;have ch:=yR r g o cap t ts _ h0;obtain ⟨w2,hw2⟩:∃w2,w2=((w.alloc ZA).alloc (yi t)).alloc (yi t):=⟨_,rfl⟩;have h2:zh r g o cap (t::ts) w2:=by rw [hw2];exact (h0.alloc _).alloc _
 have k2:zc r w w2:=by rw [hw2];exact (((zc.refl r w).alloc _).alloc _).alloc _
 have n0:w2.heap[w.heap.size]?=some ZA:=by
  rw [hw2,Below.heap_alloc _ _ _ (by simp;omega),Below.heap_alloc _ _ _ (by simp)]
  exact World.alloc_heap_new _ _
 have n2:w2.heap[w.heap.size+1+1]?=some (yi t):=by
  have hx:=World.alloc_heap_new ((w.alloc ZA).alloc (yi t)) (yi t);rw [←hw2,show ((w.alloc ZA).alloc (yi t)).heap.size=w.heap.size+1+1 by simp] at hx
  exact hx
 have hl2:w.heap.size+1+1<w2.heap.size:=(Array.getElem?_eq_some_iff.1 n2).1;have HW2:Hid (w2=((w.alloc ZA).alloc (yi t)).alloc (yi t)):=hw2;have HK2:Hid (zc r w w2):=k2;have HN0:Hid (w2.heap[w.heap.size]?=some ZA):=n0;have HN2:Hid (w2.heap[w.heap.size+1+1]?=some (yi t)):=n2;have hk1':¬(t.k:Int)=1:=by omega
 have hk2':¬(t.k:Int)=2:=by omega
 have hk3':¬(t.k:Int)=3:=by omega
 clear h h0 hw2 k2 n0 n2
 go_enter Tryz.func180,Tryz.ntmps180
 go_wp2_with fail
 refine ch.mono ?_;clear ch;rintro e w1 ⟨rfl,rfl⟩;simp only [Xc];have HKw2:Hid (zc r w2 w2):=zc.refl r w2;have HRw2:Hid (zh r g o cap (t::ts) w2):=h2;clear h2;have cs:=ZL r g o cap t ts [116,114,117,101] w2 HRw2.out (fun hi=>(hE.tail (zl hi)).ne)
 rw [hi] at cs;go_wp2_with fail
 rw [←HW2.out];refine cs.mono ?_;clear cs;rintro e w9 ⟨rfl,hkx,hrx⟩;have k29:zc r w2 w9:=HKw2.out.trans hkx;have hr9:zh r g (o+5) (cap-1) ts w9:=by simpa using hrx
 have p0:=(k29.block _ (by omega) (by omega)).trans HN0.out
 have p2:=(k29.block _ hl2 (by omega)).trans HN2.out
 obtain ⟨c0,c1,c2,c3,c4,-⟩:=zo p2;obtain ⟨q0,q1,q2,q3,q4,qf⟩:=zo p0;obtain ⟨z0,z1,z2,z3,z4⟩:=zA p0 (.int .i64 2) (.string ⟨#[]⟩) (.int .i64 1) (.slice none 0 0) (.int .i64 t.line)
 have HP:Hid (zQ r g w (.ok (.mk 2 [] 1 [] t.line,ts)) (.returned (.agg #[.int .i64 2,.string ⟨#[]⟩,.int .i64 1,.slice none 0 0,.int .i64 t.line])) (set5 w9 w.heap.size (.int .i64 2) (.string ⟨#[]⟩) (.int .i64 1) (.slice none 0 0) (.int .i64 t.line))) :=
  zQ.of_set5 (B:=w.heap.size+1) 2 [] 1 t.line (HK2.out.trans k29) (Nat.le_refl _) hr hgw (.inl ⟨rfl,rfl⟩) (Nat.lt_succ_self _) hr9
 clear k29 hr9 p0 p2 hkx hrx;go_wp2
 exact bodyPost_ret (v:=.agg #[.int .i64 2,.string ⟨#[]⟩,.int .i64 1,.slice none 0 0,.int .i64 t.line]) (by simp [results,Tryz.results180,go_sem,z0,z1,z2,z3,z4]) rfl HP.out
theorem Qh (r g o cap:Nat) (t:Tk) (ts:List Tk) (w:World) (hi:zn t [102,97,108,115,101]=true) (h:zh r g o cap (t::ts) w) (hE:zj (t::ts)) (hk1:t.k≠1) (hk2:t.k≠2) (hk3:t.k≠3) (hiT:zn t [116,114,117,101]=false) :
  Calls Tryz.prog 180 #[.pointer (some ⟨r,0,none⟩)] w (zQ r g w (.ok (.mk 2 [] 0 [] t.line,ts))):=by
 have hr:=h.lt.1;have hgw:=h.lt.2;have h0:=h.alloc ZA;have ch:=yR r g o cap t ts _ h0;obtain ⟨w2,hw2⟩:∃w2,w2=((w.alloc ZA).alloc (yi t)).alloc (yi t):=⟨_,rfl⟩;have h2:zh r g o cap (t::ts) w2:=by rw [hw2];exact (h0.alloc _).alloc _
 have k2:zc r w w2:=by rw [hw2];exact (((zc.refl r w).alloc _).alloc _).alloc _
 have n0:w2.heap[w.heap.size]?=some ZA:=by
  rw [hw2,Below.heap_alloc _ _ _ (by simp;omega),Below.heap_alloc _ _ _ (by simp)]
  exact World.alloc_heap_new _ _
 have n2:w2.heap[w.heap.size+1+1]?=some (yi t):=by
  have hx:=World.alloc_heap_new ((w.alloc ZA).alloc (yi t)) (yi t);rw [←hw2,show ((w.alloc ZA).alloc (yi t)).heap.size=w.heap.size+1+1 by simp] at hx
  exact hx
 have hl2:w.heap.size+1+1<w2.heap.size:=(Array.getElem?_eq_some_iff.1 n2).1;have HW2:Hid (w2=((w.alloc ZA).alloc (yi t)).alloc (yi t)):=hw2;have HK2:Hid (zc r w w2):=k2;have HN0:Hid (w2.heap[w.heap.size]?=some ZA):=n0;have HN2:Hid (w2.heap[w.heap.size+1+1]?=some (yi t)):=n2;have hk1':¬(t.k:Int)=1:=by omega
 have hk2':¬(t.k:Int)=2:=by omega
 have hk3':¬(t.k:Int)=3:=by omega
 clear h h0 hw2 k2 n0 n2
 go_enter Tryz.func180,Tryz.ntmps180
 go_wp2_with fail
 refine ch.mono ?_;clear ch;rintro e w1 ⟨rfl,rfl⟩;simp only [Xc];have HKw2:Hid (zc r w2 w2):=zc.refl r w2;have HRw2:Hid (zh r g o cap (t::ts) w2):=h2;clear h2;have cs:=ZL r g o cap t ts [116,114,117,101] w2 HRw2.out (fun hi=>(hE.tail (zl hi)).ne)
 rw [hiT] at cs;go_wp2_with fail
 rw [←HW2.out];refine cs.mono ?_;clear cs;rintro e w3 ⟨rfl,hkx,hrx⟩;have HKw3:Hid (zc r w2 w3):=HKw2.out.trans hkx;have HRw3:Hid (zh r g o cap (t::ts) w3):=show zh _ _ _ _ _ _ by simpa using hrx
 clear hkx hrx HKw2 HRw2;clear HW2;have cs:=ZL r g o cap t ts [102,97,108,115,101] w3 HRw3.out (fun hi=>(hE.tail (zl hi)).ne)
 rw [hi] at cs;go_wp2_with fail
 refine cs.mono ?_;clear cs;rintro e w9 ⟨rfl,hkx,hrx⟩;have k29:zc r w2 w9:=HKw3.out.trans hkx;have hr9:zh r g (o+5) (cap-1) ts w9:=by simpa using hrx
 have p0:=(k29.block _ (by omega) (by omega)).trans HN0.out
 have p2:=(k29.block _ hl2 (by omega)).trans HN2.out
 obtain ⟨c0,c1,c2,c3,c4,-⟩:=zo p2;obtain ⟨q0,q1,q2,q3,q4,qf⟩:=zo p0;obtain ⟨z0,z1,z2,z3,z4⟩:=zA p0 (.int .i64 2) (.string ⟨#[]⟩) (.int .i64 0) (.slice none 0 0) (.int .i64 t.line)
 have HP:Hid (zQ r g w (.ok (.mk 2 [] 0 [] t.line,ts)) (.returned (.agg #[.int .i64 2,.string ⟨#[]⟩,.int .i64 0,.slice none 0 0,.int .i64 t.line])) (set5 w9 w.heap.size (.int .i64 2) (.string ⟨#[]⟩) (.int .i64 0) (.slice none 0 0) (.int .i64 t.line))) :=
  zQ.of_set5 (B:=w.heap.size+1) 2 [] 0 t.line (HK2.out.trans k29) (Nat.le_refl _) hr hgw (.inl ⟨rfl,rfl⟩) (Nat.lt_succ_self _) hr9
 clear k29 hr9 p0 p2 hkx hrx;go_wp2
 exact bodyPost_ret (v:=.agg #[.int .i64 2,.string ⟨#[]⟩,.int .i64 0,.slice none 0 0,.int .i64 t.line]) (by simp [results,Tryz.results180,go_sem,z0,z1,z2,z3,z4]) rfl HP.out
def XR (t:Tk) (res:PR Ex):PR Ex :=
 if zn t [40]=true then
  match res with
  | .error a=>.error a
  | .ok (e,us)=>if zn (zx us) [41]=true then .ok (e,us.tail) else .error (zx us).at0
 else .error t.at0
theorem VA (r g o cap:Nat) (t:Tk) (ts:List Tk) (w:World) (res:PR Ex) (hEnd:∀l us,res=.ok (l,us)→zj us) (hex:zn t [40]=true→∀w1 o1 cap1,zh r g o1 cap1 ts w1→zc r w w1→Calls Tryz.prog 44 #[.pointer (some ⟨r,0,none⟩)] w1 (zQ r g w1 res)) (h:zh r g o cap (t::ts) w) (hE:zj (t::ts)) (hk1:t.k≠1) (hk2:t.k≠2) (hk3:t.k≠3) (hiT:zn t [116,114,117,101]=false) (hiF:zn t [102,97,108,115,101]=false) (hiN:zn t [110,101,119]=false) (hiB:zn t [91]=false) :
  Calls Tryz.prog 180 #[.pointer (some ⟨r,0,none⟩)] w (zQ r g w (XR t res)):=by
 generalize hres:XR t res=R;have hr:=h.lt.1;have hgw:=h.lt.2;have h0:=h.alloc ZA;have ch:=yR r g o cap t ts _ h0;obtain ⟨w2,hw2⟩:∃w2,w2=((w.alloc ZA).alloc (yi t)).alloc (yi t):=⟨_,rfl⟩;have h2:zh r g o cap (t::ts) w2:=by rw [hw2];exact (h0.alloc _).alloc _
 have k2:zc r w w2:=by rw [hw2];exact (((zc.refl r w).alloc _).alloc _).alloc _
 have n0:w2.heap[w.heap.size]?=some ZA:=by
  rw [hw2,Below.heap_alloc _ _ _ (by simp;omega),Below.heap_alloc _ _ _ (by simp)]
  exact World.alloc_heap_new _ _
 have n2:w2.heap[w.heap.size+1+1]?=some (yi t):=by
  have hx:=World.alloc_heap_new ((w.alloc ZA).alloc (yi t)) (yi t);rw [←hw2,show ((w.alloc ZA).alloc (yi t)).heap.size=w.heap.size+1+1 by simp] at hx
  exact hx
 have hl2:w.heap.size+1+1<w2.heap.size:=(Array.getElem?_eq_some_iff.1 n2).1;have HW2:Hid (w2=((w.alloc ZA).alloc (yi t)).alloc (yi t)):=hw2;have HK2:Hid (zc r w w2):=k2;have HN0:Hid (w2.heap[w.heap.size]?=some ZA):=n0;have HN2:Hid (w2.heap[w.heap.size+1+1]?=some (yi t)):=n2;have hk1':¬(t.k:Int)=1:=by omega
 have hk2':¬(t.k:Int)=2:=by omega
 have hk3':¬(t.k:Int)=3:=by omega
 clear h h0 hw2 k2 n0 n2
 go_enter Tryz.func180,Tryz.ntmps180
 go_wp2_with fail
 refine ch.mono ?_;clear ch;rintro e w1 ⟨rfl,rfl⟩;simp only [Xc];have HKw2:Hid (zc r w2 w2):=zc.refl r w2;have HRw2:Hid (zh r g o cap (t::ts) w2):=h2;clear h2;have cs:=ZL r g o cap t ts [116,114,117,101] w2 HRw2.out (fun hi=>(hE.tail (zl hi)).ne)
 rw [hiT] at cs;go_wp2_with fail
 rw [←HW2.out];refine cs.mono ?_;clear cs;rintro e w3 ⟨rfl,hkx,hrx⟩;have HKw3:Hid (zc r w2 w3):=HKw2.out.trans hkx;have HRw3:Hid (zh r g o cap (t::ts) w3):=show zh _ _ _ _ _ _ by simpa using hrx
 clear hkx hrx HKw2 HRw2;clear HW2;have cs:=ZL r g o cap t ts [102,97,108,115,101] w3 HRw3.out (fun hi=>(hE.tail (zl hi)).ne)
 rw [hiF] at cs;go_wp2_with fail
 refine cs.mono ?_;clear cs;rintro e w4 ⟨rfl,hkx,hrx⟩;have HKw4:Hid (zc r w2 w4):=HKw3.out.trans hkx;have HRw4:Hid (zh r g o cap (t::ts) w4):=show zh _ _ _ _ _ _ by simpa using hrx
 clear hkx hrx HKw3 HRw3;have cs:=ZL r g o cap t ts [110,101,119] w4 HRw4.out (fun hi=>(hE.tail (zl hi)).ne)
 rw [hiN] at cs;go_wp2_with fail
 refine cs.mono ?_;clear cs;rintro e w5 ⟨rfl,hkx,hrx⟩;have HKw5:Hid (zc r w2 w5):=HKw4.out.trans hkx;have HRw5:Hid (zh r g o cap (t::ts) w5):=show zh _ _ _ _ _ _ by simpa using hrx
 clear hkx hrx HKw4 HRw4;have cs:=ZL r g o cap t ts [91] w5 HRw5.out (fun hi=>(hE.tail (zl hi)).ne)
 rw [hiB] at cs;go_wp2_with fail
 refine cs.mono ?_;clear cs;rintro e w6 ⟨rfl,hkx,hrx⟩;have HKw6:Hid (zc r w2 w6):=HKw5.out.trans hkx;have HRw6:Hid (zh r g o cap (t::ts) w6):=show zh _ _ _ _ _ _ by simpa using hrx
 clear hkx hrx HKw5 HRw5;have cn:=Yt r g o cap t ts [40] w6 HRw6.out (fun hi=>(hE.tail (zl hi)).ne)
 by_cases hi:zn t [40]=true
 ·simp only [if_pos hi] at cn
  go_wp2_with fail
  refine cn.mono ?_;clear cn;rintro e w9 ⟨hkx,rfl,hr9⟩;have k29:zc r w2 w9:=HKw6.out.trans hkx;have c9:=hex hi w9 _ _ hr9 (HK2.out.trans k29);have HK9:Hid (zc r w2 w9):=k29;clear hex hkx hr9 k29 HKw6 HRw6;go_wp2_with fail
  refine c9.mono ?_;clear c9;rintro e w10 ⟨hk10,hpost⟩;have HK10:Hid (zc r w2 w10):=HK9.out.trans hk10;rcases res with a | ⟨x,us⟩
  ·obtain rfl:=hpost
   obtain rfl:R=.error a:=by rw [←hres];unfold XR;rw [if_pos hi]
   exact ⟨rfl,HK2.out.trans HK10.out,rfl⟩
  ·obtain ⟨v,o3,cap3,rfl,hx,hrd⟩:=hpost
   obtain ⟨a,b,c,d0,d1,d2,l,rfl⟩:=hx.agg;have hE3:=hEnd x us rfl;obtain ⟨t3,ts3,rfl⟩:=hE3.cons;obtain ⟨w11,hw11⟩:∃w11,w11=w10.alloc (.cells #[.int .i64 a,.string b,.int .i64 c,.slice d0 d1 d2,.int .i64 l] 45):=⟨_,rfl⟩;have h11:zh r g o3 cap3 (t3::ts3) w11:=by rw [hw11];exact hrd.alloc _
   have b11:w11.heap[w10.heap.size]?=some (.cells #[.int .i64 a,.string b,.int .i64 c,.slice d0 d1 d2,.int .i64 l] 45 (0,0)):=by rw [hw11];exact World.alloc_heap_new _ _
   have HK11:Hid (zc r w2 w11):=show zc _ _ _ by rw [hw11];exact HK10.out.alloc _
   have hx11:ZO w9.heap.size w11 x (.agg #[.int .i64 a,.string b,.int .i64 c,.slice d0 d1 d2,.int .i64 l]):=by rw [hw11];exact ZO.kept hx (by simp) fun k _ hlt=>Below.heap_alloc _ _ _ hlt
   have HX11:Hid (ZO w9.heap.size w11 x (.agg #[.int .i64 a,.string b,.int .i64 c,.slice d0 d1 d2,.int .i64 l])):=hx11;have HB11:Hid (w11.heap[w10.heap.size]?=some (.cells #[.int .i64 a,.string b,.int .i64 c,.slice d0 d1 d2,.int .i64 l] 45 (0,0))):=b11;have cn:=Yt r g o3 cap3 t3 ts3 [41] w11 h11 (fun hi=>(hE3.tail (zl hi)).ne)
   have HW11:Hid (w11=w10.alloc (.cells #[.int .i64 a,.string b,.int .i64 c,.slice d0 d1 d2,.int .i64 l] 45)):=hw11;have hs9:=HK9.out.size;have hs10:=hk10.size;have hlt11:w10.heap.size<w11.heap.size:=(Array.getElem?_eq_some_iff.1 b11).1;clear hw11 h11 b11 hx11 hx hrd hk10
   by_cases hm:zn t3 [41]=true
   ·simp only [if_pos hm] at cn
    obtain rfl:R=.ok (x,ts3):=by rw [←hres];unfold XR;rw [if_pos hi];simp only [zI,hm,if_true,List.tail_cons]
    go_wp2_with fail
    rw [←HW11.out];refine cn.mono ?_;clear cn HW11;rintro e w12 ⟨hk12,rfl,hr12⟩;have k12:=HK11.out.trans hk12;have p0:=(k12.block _ (by omega) (by omega)).trans HN0.out
    have pB:=(hk12.block _ hlt11 (by omega)).trans HB11.out
    obtain ⟨c0,c1,c2,c3,c4,-⟩:=zo pB;obtain ⟨q0,q1,q2,q3,q4,qf⟩:=zo p0;obtain ⟨z0,z1,z2,z3,z4⟩:=zA p0 (.int .i64 a) (.string b) (.int .i64 c) (.slice d0 d1 d2) (.int .i64 l);have hx12:ZO w9.heap.size w12 x (.agg #[.int .i64 a,.string b,.int .i64 c,.slice d0 d1 d2,.int .i64 l]):=ZO.kept HX11.out hk12.size fun k hB hlt=>hk12.block k hlt (by omega)
    have HP:Hid (zQ r g w (.ok (x,ts3)) (.returned (.agg #[.int .i64 a,.string b,.int .i64 c,.slice d0 d1 d2,.int .i64 l])) (set5 w12 w.heap.size (.int .i64 a) (.string b) (.int .i64 c) (.slice d0 d1 d2) (.int .i64 l))) :=
     zQ.of_set5' (HK2.out.trans k12) (Nat.le_refl _) hr hgw hx12 (by omega) hr12
    clear k12 hk12 hr12 p0 pB hx12;go_wp2
    exact bodyPost_ret (v:=.agg #[.int .i64 a,.string b,.int .i64 c,.slice d0 d1 d2,.int .i64 l]) (by simp [results,Tryz.results180,go_sem,z0,z1,z2,z3,z4]) rfl HP.out
   ·simp only [if_neg hm] at cn
    obtain rfl:R=.error t3.at0:=by rw [←hres];unfold XR;rw [if_pos hi];simp only [zI,if_neg hm]
    go_wp2_with fail
    rw [←HW11.out];refine cn.mono ?_;clear cn;rintro e w12 ⟨hk12,rfl⟩;exact ⟨rfl,HK2.out.trans (HK11.out.trans hk12),rfl⟩
 ·simp only [if_neg hi] at cn
  obtain rfl:R=.error t.at0:=by rw [←hres];unfold XR;rw [if_neg hi]
  clear hex hEnd;go_wp2_with fail
  refine cn.mono ?_;clear cn;rintro e w9 ⟨hkx,rfl⟩;exact ⟨rfl,HK2.out.trans (HKw6.out.trans hkx),rfl⟩
end Go.Proofs.YtpejpbbdgblbeaaGreatDoor
