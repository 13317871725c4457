import Derived.Test.YtpejpbbdgblbeaaGreatDoorMC24
namespace Go.Proofs.YtpejpbbdgblbeaaGreatDoor
open Go.RowKit Go.Shelf
set_option maxHeartbeats 16000000
set_option maxRecDepth 100000
def zeJ (w0:World) (d:Nat):Prop:=∀(fz:Nat) (l:List Sz) (base:Option Addr) (m cap r:Nat) (q:Option Nat) (t:List UInt8) (w:World),ZB (ZT w0.heap.size w0 fz) 6 w0.heap.size w0 l base m cap→zH w0 r q t w →
  Calls Tryz.prog 112 #[.pointer (some ⟨r,0,none⟩),.slice base m cap,.int .i64 (d:Int)] w (zr w0 r q t w (blkO (prS d) l))
def zh2 (w0:World) (d:Nat):Prop:=∀(fz:Nat) (x:Sz) (c:List Value) (r:Nat) (q:Option Nat) (t:List UInt8) (w:World),ZT w0.heap.size w0 fz x c→zH w0 r q t w →
  Calls Tryz.prog 142 #[.pointer (some ⟨r,0,none⟩),.agg c.toArray,.int .i64 (d:Int)] w (zr w0 r q t w (prS d x))
abbrev stW (w:World) (r:Nat) (k:Int) (s:List UInt8) (be:Option Addr) (me ce:Nat) (bb:Option Addr) (mb cb:Nat) (bl:Option Addr) (ml cl:Nat) (line D:Int):World:=((w.alloc (.cells #[.pointer (some ⟨r,0,none⟩)] 85)).alloc (VC k s be me ce bb mb cb bl ml cl line)).alloc (.cells #[.int .i64 D] 3)
theorem xJ (w:World) (r:Nat) (k:Int) (s:List UInt8) (be:Option Addr) (me ce:Nat) (bb:Option Addr) (mb cb:Nat) (bl:Option Addr) (ml cl:Nat) (line D:Int) :
  Below w.heap.size w (stW w r k s be me ce bb mb cb bl ml cl line D)∧(stW w r k s be me ce bb mb cb bl ml cl line D).heap.size=w.heap.size+3∧(stW w r k s be me ce bb mb cb bl ml cl line D).heap[w.heap.size]?=some (.cells #[.pointer (some ⟨r,0,none⟩)] 85 (0,0))∧(stW w r k s be me ce bb mb cb bl ml cl line D).heap[w.heap.size+1]?=some (VC k s be me ce bb mb cb bl ml cl line)∧(stW w r k s be me ce bb mb cb bl ml cl line D).heap[w.heap.size+2]?=some (.cells #[.int .i64 D] 3 (0,0)):=by
 refine ⟨(((Below.refl _ w).alloc (Nat.le_refl _) _).alloc (by simp) _).alloc (by simp <;> omega) _,by simp,?_,?_,?_⟩
 ·rw [Below.heap_alloc _ _ _ (by simp <;> omega),Below.heap_alloc _ _ _ (by simp)];exact World.alloc_heap_new _ _
 ·rw [Below.heap_alloc _ _ _ (by simp)]
  have:=World.alloc_heap_new (w.alloc (.cells #[.pointer (some ⟨r,0,none⟩)] 85)) (VC k s be me ce bb mb cb bl ml cl line)
  simpa using this
 ·have:=World.alloc_heap_new ((w.alloc (.cells #[.pointer (some ⟨r,0,none⟩)] 85)).alloc (VC k s be me ce bb mb cb bl ml cl line)) (.cells #[.int .i64 D] 3)
  simpa using this
theorem ziI (w0:World) (d:Nat) (D:Int) (hD:D-1=(d:Int)) (_hD1:1≤D) (hD2:D≤24) (hX:Yx w0 d) (hB:zeJ w0 d) (s:List UInt8) (ce:Nat) (bb:Option Addr) (mb cb:Nat) (bl:Option Addr) (ml cl:Nat) (line:Int) (x:Ez) (b o:Nat) (a1:Int) (a2:List UInt8) (a3:Int) (a4:Option Addr) (a5 a6:Nat) (a7:Int) (hx:ZJ w0.heap.size w0 x (Ye a1 a2 a3 a4 a5 a6 a7)) (hkid:yI w0 b o a1 a2 a3 a4 a5 a6 a7) (fz:Nat) (body:List Sz) (hbody:ZB (ZT w0.heap.size w0 fz) 6 w0.heap.size w0 body bb mb cb) (r:Nat) (q:Option Nat) (t:List UInt8) (w:World) (h:zH w0 r q t w) :
  Calls Tryz.prog 175 #[.pointer (some ⟨r,0,none⟩),QX 5 s (some ⟨b,o,none⟩) 1 ce bb mb cb bl ml cl line,.int .i64 D] w (zr w0 r q t w (zd (some [119,104,105,108,101,32]) (zd (prE d x) (zd (some [32]) (zd (blkO (prS d) body) ((some [10]))))))):=by
 obtain ⟨R,hR⟩:∃R,R=zd (some [119,104,105,108,101,32]) (zd (prE d x) (zd (some [32]) (zd (blkO (prS d) body) ((some [10]))))):=⟨_,rfl⟩;rw [←hR];have HK0:Hid (∀(q:Option Nat) (t:List UInt8) (w:World),zH w0 r q t w→Calls Tryz.prog 42 #[.pointer (some ⟨r,0,none⟩),Ye a1 a2 a3 a4 a5 a6 a7,.int .i64 (d:Int)] w (zr w0 r q t w (prE d x))):=fun q t w h=>hX _ _ r q t w hx h
 have HK1:Hid (∀(q:Option Nat) (t:List UInt8) (w:World),zH w0 r q t w→Calls Tryz.prog 112 #[.pointer (some ⟨r,0,none⟩),.slice bb mb cb,.int .i64 (d:Int)] w (zr w0 r q t w (blkO (prS d) body))):=fun q t w h=>hB fz body bb mb cb r q t w hbody h
 have HKI:Hid (yI w0 b o a1 a2 a3 a4 a5 a6 a7):=hkid;obtain ⟨w1,hw1⟩:∃w1,w1=w.alloc (VC 5 s (some ⟨b,o,none⟩) 1 ce bb mb cb bl ml cl line):=⟨_,rfl⟩;have hb1:Below w.heap.size w w1:=by rw [hw1];exact (Below.refl _ w).alloc (Nat.le_refl _) _
 have p1:w1.heap[w.heap.size]?=some (VC 5 s (some ⟨b,o,none⟩) 1 ce bb mb cb bl ml cl line):=by rw [hw1];exact World.alloc_heap_new w _
 have hsz1:w1.heap.size=w.heap.size+1:=by rw [hw1];simp
 have HL1:Hid (zu r q w w1 q w1):=zu.start h hb1;have HW1:Hid (zH w0 r q t w1):=h.below hb1;have HP1:Hid (w1.heap[w.heap.size]?=some (VC 5 s (some ⟨b,o,none⟩) 1 ce bb mb cb bl ml cl line)):=p1;have hw1':=hw1.symm;obtain ⟨c0,c1,c2,c3,c4,c5⟩:=zF p1;generalize prE d x=X0 at *;generalize blkO (prS d) body=X1 at *;have HR:Hid (R=zd (some [119,104,105,108,101,32]) (zd X0 (zd (some [32]) (zd X1 ((some [10])))))):=hR;clear hR p1 hw1 hb1 h hX hB hx hkid hbody
 go_enter Tryz.func175,Tryz.ntmps175
 have cp:=zE w0 r q (t) [119,104,105,108,101,32] w1 HW1.out (by simp)
 go_wp2_with fail
 refine cp.mono ?_;clear cp c0 c1 c2 c3 c4 c5;rintro e w2 ⟨q2,hto2,rfl,hw2⟩;have HL2:Hid (zu r q w w1 q2 w2):=HL1.out.step hto2;have HW2:Hid (zH w0 r q2 (t++[119,104,105,108,101,32]) w2):=hw2;clear hto2 hw2;obtain ⟨c0,c1,c2,c3,c4,c5⟩:=zF ((HL2.out.block _ (Nat.le_refl _) (by omega)).trans HP1.out)
 obtain ⟨n0,n1,n2,n3,n4⟩:=HKI.out.now HW2.out.env;have cp:=HK0.out q2 (t++[119,104,105,108,101,32]) w2 HW2.out;go_wp2_with fail
 refine cp.mono ?_;clear cp c0 c1 c2 c3 c4 c5 n0 n1 n2 n3 n4;rintro e w3 ⟨q3,hto3,hp3⟩;cases X0 with
 | none=>subst hp3;obtain rfl:R=none:=HR.out;exact ⟨rfl,q3,(HL2.out.step hto3).unto,rfl⟩
 | some u0 =>
 obtain ⟨rfl,hw3⟩:=hp3;have HL3:Hid (zu r q w w1 q3 w3):=HL2.out.step hto3;have HW3:Hid (zH w0 r q3 (t++[119,104,105,108,101,32]++u0) w3):=hw3;clear hto3 hw3;obtain ⟨c0,c1,c2,c3,c4,c5⟩:=zF ((HL3.out.block _ (Nat.le_refl _) (by omega)).trans HP1.out)
 have cp:=zE w0 r q3 (t++[119,104,105,108,101,32]++u0) [32] w3 HW3.out (by simp)
 go_wp2_with fail
 refine cp.mono ?_;clear cp c0 c1 c2 c3 c4 c5;rintro e w4 ⟨q4,hto4,rfl,hw4⟩;have HL4:Hid (zu r q w w1 q4 w4):=HL3.out.step hto4;have HW4:Hid (zH w0 r q4 (t++[119,104,105,108,101,32]++u0++[32]) w4):=hw4;clear hto4 hw4;obtain ⟨c0,c1,c2,c3,c4,c5⟩:=zF ((HL4.out.block _ (Nat.le_refl _) (by omega)).trans HP1.out)
 have cp:=HK1.out q4 (t++[119,104,105,108,101,32]++u0++[32]) w4 HW4.out;go_wp2_with fail
 refine cp.mono ?_;clear cp c0 c1 c2 c3 c4 c5;rintro e w5 ⟨q5,hto5,hp5⟩;cases X1 with
 | none=>subst hp5;obtain rfl:R=none:=HR.out;exact ⟨rfl,q5,(HL4.out.step hto5).unto,rfl⟩
 | some u1 =>
 obtain ⟨rfl,hw5⟩:=hp5;have HL5:Hid (zu r q w w1 q5 w5):=HL4.out.step hto5;have HW5:Hid (zH w0 r q5 (t++[119,104,105,108,101,32]++u0++[32]++u1) w5):=hw5;clear hto5 hw5;obtain ⟨c0,c1,c2,c3,c4,c5⟩:=zF ((HL5.out.block _ (Nat.le_refl _) (by omega)).trans HP1.out)
 have cp:=zE w0 r q5 (t++[119,104,105,108,101,32]++u0++[32]++u1) [10] w5 HW5.out (by simp)
 go_wp2_with fail
 refine cp.mono ?_;clear cp c0 c1 c2 c3 c4 c5;rintro e w6 ⟨q6,hto6,rfl,hw6⟩;have HL6:Hid (zu r q w w1 q6 w6):=HL5.out.step hto6;have HW6:Hid (zH w0 r q6 (t++[119,104,105,108,101,32]++u0++[32]++u1++[10]) w6):=hw6;clear hto6 hw6;obtain ⟨c0,c1,c2,c3,c4,c5⟩:=zF ((HL6.out.block _ (Nat.le_refl _) (by omega)).trans HP1.out)
 obtain rfl:R=some ([119,104,105,108,101,32]++(u0++([32]++(u1++([10]))))):=HR.out;have HP:Hid (zr w0 r q t w (some ([119,104,105,108,101,32]++(u0++([32]++(u1++([10])))))) (.returned (.tuple #[])) w6):=⟨q6,HL6.out.unto,rfl,by have:=HW6.out;simpa only [List.append_assoc] using this⟩
 clear HL1 HW1 HL2 HW2 HL3 HW3 HL4 HW4 HL5 HW5 HL6 HW6 c0 c1 c2 c3 c4 c5 HKI HK0 HK1 HR HP1;go_wp2
 exact bodyPost_ret (v:=.tuple #[]) (by simp [results,Tryz.results175,go_sem]) rfl HP.out
theorem ziJ (w0:World) (d:Nat) (D:Int) (hD:D-1=(d:Int)) (_hD1:1≤D) (hD2:D≤24) (hX:Yx w0 d) (hB:zeJ w0 d) (s:List UInt8) (ce:Nat) (bb:Option Addr) (mb cb:Nat) (bl:Option Addr) (ml cl:Nat) (line:Int) (x:Ez) (b o:Nat) (a1:Int) (a2:List UInt8) (a3:Int) (a4:Option Addr) (a5 a6:Nat) (a7:Int) (hx:ZJ w0.heap.size w0 x (Ye a1 a2 a3 a4 a5 a6 a7)) (hkid:yI w0 b o a1 a2 a3 a4 a5 a6 a7) (fz:Nat) (body:List Sz) (hbody:ZB (ZT w0.heap.size w0 fz) 6 w0.heap.size w0 body bb mb cb) (r:Nat) (q:Option Nat) (t:List UInt8) (w:World) (h:zH w0 r q t w) :
  Calls Tryz.prog 175 #[.pointer (some ⟨r,0,none⟩),QX 3 s (some ⟨b,o,none⟩) 1 ce bb mb cb bl ml cl line,.int .i64 D] w (zr w0 r q t w (zd (some [105,102,32]) (zd (prE d x) (zd (some [32]) (zd (blkO (prS d) body) ((some [10]))))))):=by
 obtain ⟨R,hR⟩:∃R,R=zd (some [105,102,32]) (zd (prE d x) (zd (some [32]) (zd (blkO (prS d) body) ((some [10]))))):=⟨_,rfl⟩;rw [←hR];have HK0:Hid (∀(q:Option Nat) (t:List UInt8) (w:World),zH w0 r q t w→Calls Tryz.prog 42 #[.pointer (some ⟨r,0,none⟩),Ye a1 a2 a3 a4 a5 a6 a7,.int .i64 (d:Int)] w (zr w0 r q t w (prE d x))):=fun q t w h=>hX _ _ r q t w hx h
 have HK1:Hid (∀(q:Option Nat) (t:List UInt8) (w:World),zH w0 r q t w→Calls Tryz.prog 112 #[.pointer (some ⟨r,0,none⟩),.slice bb mb cb,.int .i64 (d:Int)] w (zr w0 r q t w (blkO (prS d) body))):=fun q t w h=>hB fz body bb mb cb r q t w hbody h
 have HKI:Hid (yI w0 b o a1 a2 a3 a4 a5 a6 a7):=hkid;obtain ⟨w1,hw1⟩:∃w1,w1=w.alloc (VC 3 s (some ⟨b,o,none⟩) 1 ce bb mb cb bl ml cl line):=⟨_,rfl⟩;have hb1:Below w.heap.size w w1:=by rw [hw1];exact (Below.refl _ w).alloc (Nat.le_refl _) _
 have p1:w1.heap[w.heap.size]?=some (VC 3 s (some ⟨b,o,none⟩) 1 ce bb mb cb bl ml cl line):=by rw [hw1];exact World.alloc_heap_new w _
 have hsz1:w1.heap.size=w.heap.size+1:=by rw [hw1];simp
 have HL1:Hid (zu r q w w1 q w1):=zu.start h hb1;have HW1:Hid (zH w0 r q t w1):=h.below hb1;have HP1:Hid (w1.heap[w.heap.size]?=some (VC 3 s (some ⟨b,o,none⟩) 1 ce bb mb cb bl ml cl line)):=p1;have hw1':=hw1.symm;obtain ⟨c0,c1,c2,c3,c4,c5⟩:=zF p1;generalize prE d x=X0 at *;generalize blkO (prS d) body=X1 at *;have HR:Hid (R=zd (some [105,102,32]) (zd X0 (zd (some [32]) (zd X1 ((some [10])))))):=hR;clear hR p1 hw1 hb1 h hX hB hx hkid hbody
 go_enter Tryz.func175,Tryz.ntmps175
 have cp:=zE w0 r q (t) [105,102,32] w1 HW1.out (by simp)
 go_wp2_with fail
 refine cp.mono ?_;clear cp c0 c1 c2 c3 c4 c5;rintro e w2 ⟨q2,hto2,rfl,hw2⟩;have HL2:Hid (zu r q w w1 q2 w2):=HL1.out.step hto2;have HW2:Hid (zH w0 r q2 (t++[105,102,32]) w2):=hw2;clear hto2 hw2;obtain ⟨c0,c1,c2,c3,c4,c5⟩:=zF ((HL2.out.block _ (Nat.le_refl _) (by omega)).trans HP1.out)
 obtain ⟨n0,n1,n2,n3,n4⟩:=HKI.out.now HW2.out.env;have cp:=HK0.out q2 (t++[105,102,32]) w2 HW2.out;go_wp2_with fail
 refine cp.mono ?_;clear cp c0 c1 c2 c3 c4 c5 n0 n1 n2 n3 n4;rintro e w3 ⟨q3,hto3,hp3⟩;cases X0 with
 | none=>subst hp3;obtain rfl:R=none:=HR.out;exact ⟨rfl,q3,(HL2.out.step hto3).unto,rfl⟩
 | some u0 =>
 obtain ⟨rfl,hw3⟩:=hp3;have HL3:Hid (zu r q w w1 q3 w3):=HL2.out.step hto3;have HW3:Hid (zH w0 r q3 (t++[105,102,32]++u0) w3):=hw3;clear hto3 hw3;obtain ⟨c0,c1,c2,c3,c4,c5⟩:=zF ((HL3.out.block _ (Nat.le_refl _) (by omega)).trans HP1.out)
 have cp:=zE w0 r q3 (t++[105,102,32]++u0) [32] w3 HW3.out (by simp)
 go_wp2_with fail
 refine cp.mono ?_;clear cp c0 c1 c2 c3 c4 c5;rintro e w4 ⟨q4,hto4,rfl,hw4⟩;have HL4:Hid (zu r q w w1 q4 w4):=HL3.out.step hto4;have HW4:Hid (zH w0 r q4 (t++[105,102,32]++u0++[32]) w4):=hw4;clear hto4 hw4;obtain ⟨c0,c1,c2,c3,c4,c5⟩:=zF ((HL4.out.block _ (Nat.le_refl _) (by omega)).trans HP1.out)
 have cp:=HK1.out q4 (t++[105,102,32]++u0++[32]) w4 HW4.out;go_wp2_with fail
 refine cp.mono ?_;clear cp c0 c1 c2 c3 c4 c5;rintro e w5 ⟨q5,hto5,hp5⟩;cases X1 with
 | none=>subst hp5;obtain rfl:R=none:=HR.out;exact ⟨rfl,q5,(HL4.out.step hto5).unto,rfl⟩
 | some u1 =>
 obtain ⟨rfl,hw5⟩:=hp5;have HL5:Hid (zu r q w w1 q5 w5):=HL4.out.step hto5;have HW5:Hid (zH w0 r q5 (t++[105,102,32]++u0++[32]++u1) w5):=hw5;clear hto5 hw5;obtain ⟨c0,c1,c2,c3,c4,c5⟩:=zF ((HL5.out.block _ (Nat.le_refl _) (by omega)).trans HP1.out)
 have cp:=zE w0 r q5 (t++[105,102,32]++u0++[32]++u1) [10] w5 HW5.out (by simp)
 go_wp2_with fail
 refine cp.mono ?_;clear cp c0 c1 c2 c3 c4 c5;rintro e w6 ⟨q6,hto6,rfl,hw6⟩;have HL6:Hid (zu r q w w1 q6 w6):=HL5.out.step hto6;have HW6:Hid (zH w0 r q6 (t++[105,102,32]++u0++[32]++u1++[10]) w6):=hw6;clear hto6 hw6;obtain ⟨c0,c1,c2,c3,c4,c5⟩:=zF ((HL6.out.block _ (Nat.le_refl _) (by omega)).trans HP1.out)
 obtain rfl:R=some ([105,102,32]++(u0++([32]++(u1++([10]))))):=HR.out;have HP:Hid (zr w0 r q t w (some ([105,102,32]++(u0++([32]++(u1++([10])))))) (.returned (.tuple #[])) w6):=⟨q6,HL6.out.unto,rfl,by have:=HW6.out;simpa only [List.append_assoc] using this⟩
 clear HL1 HW1 HL2 HW2 HL3 HW3 HL4 HW4 HL5 HW5 HL6 HW6 c0 c1 c2 c3 c4 c5 HKI HK0 HK1 HR HP1;go_wp2
 exact bodyPost_ret (v:=.tuple #[]) (by simp [results,Tryz.results175,go_sem]) rfl HP.out
theorem ziK (w0:World) (d:Nat) (D:Int) (hD:D-1=(d:Int)) (_hD1:1≤D) (hD2:D≤24) (hX:Yx w0 d) (hB:zeJ w0 d) (s:List UInt8) (ce:Nat) (bb:Option Addr) (mb cb:Nat) (bl:Option Addr) (ml cl:Nat) (line:Int) (x:Ez) (b o:Nat) (a1:Int) (a2:List UInt8) (a3:Int) (a4:Option Addr) (a5 a6:Nat) (a7:Int) (hx:ZJ w0.heap.size w0 x (Ye a1 a2 a3 a4 a5 a6 a7)) (hkid:yI w0 b o a1 a2 a3 a4 a5 a6 a7) (fz:Nat) (body:List Sz) (hbody:ZB (ZT w0.heap.size w0 fz) 6 w0.heap.size w0 body bb mb cb) (els:List Sz) (hels:ZB (ZT w0.heap.size w0 fz) 6 w0.heap.size w0 els bl ml cl) (r:Nat) (q:Option Nat) (t:List UInt8) (w:World) (h:zH w0 r q t w) :
  Calls Tryz.prog 175 #[.pointer (some ⟨r,0,none⟩),QX 4 s (some ⟨b,o,none⟩) 1 ce bb mb cb bl ml cl line,.int .i64 D] w (zr w0 r q t w (zd (some [105,102,32]) (zd (prE d x) (zd (some [32]) (zd (blkO (prS d) body) (zd (some [32,101,108,115,101,32]) (zd (blkO (prS d) els) ((some [10]))))))))):=by
 obtain ⟨R,hR⟩:∃R,R=zd (some [105,102,32]) (zd (prE d x) (zd (some [32]) (zd (blkO (prS d) body) (zd (some [32,101,108,115,101,32]) (zd (blkO (prS d) els) ((some [10]))))))):=⟨_,rfl⟩;rw [←hR];have HK0:Hid (∀(q:Option Nat) (t:List UInt8) (w:World),zH w0 r q t w→Calls Tryz.prog 42 #[.pointer (some ⟨r,0,none⟩),Ye a1 a2 a3 a4 a5 a6 a7,.int .i64 (d:Int)] w (zr w0 r q t w (prE d x))):=fun q t w h=>hX _ _ r q t w hx h
 have HK1:Hid (∀(q:Option Nat) (t:List UInt8) (w:World),zH w0 r q t w→Calls Tryz.prog 112 #[.pointer (some ⟨r,0,none⟩),.slice bb mb cb,.int .i64 (d:Int)] w (zr w0 r q t w (blkO (prS d) body))):=fun q t w h=>hB fz body bb mb cb r q t w hbody h
 have HK2:Hid (∀(q:Option Nat) (t:List UInt8) (w:World),zH w0 r q t w→Calls Tryz.prog 112 #[.pointer (some ⟨r,0,none⟩),.slice bl ml cl,.int .i64 (d:Int)] w (zr w0 r q t w (blkO (prS d) els))):=fun q t w h=>hB fz els bl ml cl r q t w hels h
 have HKI:Hid (yI w0 b o a1 a2 a3 a4 a5 a6 a7):=hkid;obtain ⟨w1,hw1⟩:∃w1,w1=w.alloc (VC 4 s (some ⟨b,o,none⟩) 1 ce bb mb cb bl ml cl line):=⟨_,rfl⟩;have hb1:Below w.heap.size w w1:=by rw [hw1];exact (Below.refl _ w).alloc (Nat.le_refl _) _
 have p1:w1.heap[w.heap.size]?=some (VC 4 s (some ⟨b,o,none⟩) 1 ce bb mb cb bl ml cl line):=by rw [hw1];exact World.alloc_heap_new w _
 have hsz1:w1.heap.size=w.heap.size+1:=by rw [hw1];simp
 have HL1:Hid (zu r q w w1 q w1):=zu.start h hb1;have HW1:Hid (zH w0 r q t w1):=h.below hb1;have HP1:Hid (w1.heap[w.heap.size]?=some (VC 4 s (some ⟨b,o,none⟩) 1 ce bb mb cb bl ml cl line)):=p1;have hw1':=hw1.symm;obtain ⟨c0,c1,c2,c3,c4,c5⟩:=zF p1;generalize prE d x=X0 at *;generalize blkO (prS d) body=X1 at *;generalize blkO (prS d) els=X2 at *;have HR:Hid (R=zd (some [105,102,32]) (zd X0 (zd (some [32]) (zd X1 (zd (some [32,101,108,115,101,32]) (zd X2 ((some [10])))))))):=hR;clear hR p1 hw1 hb1 h hX hB hx hkid hbody hels
 go_enter Tryz.func175,Tryz.ntmps175
 have cp:=zE w0 r q (t) [105,102,32] w1 HW1.out (by simp)
 go_wp2_with fail
 refine cp.mono ?_;clear cp c0 c1 c2 c3 c4 c5;rintro e w2 ⟨q2,hto2,rfl,hw2⟩;have HL2:Hid (zu r q w w1 q2 w2):=HL1.out.step hto2;have HW2:Hid (zH w0 r q2 (t++[105,102,32]) w2):=hw2;clear hto2 hw2;obtain ⟨c0,c1,c2,c3,c4,c5⟩:=zF ((HL2.out.block _ (Nat.le_refl _) (by omega)).trans HP1.out)
 obtain ⟨n0,n1,n2,n3,n4⟩:=HKI.out.now HW2.out.env;have cp:=HK0.out q2 (t++[105,102,32]) w2 HW2.out;go_wp2_with fail
 refine cp.mono ?_;clear cp c0 c1 c2 c3 c4 c5 n0 n1 n2 n3 n4;rintro e w3 ⟨q3,hto3,hp3⟩;cases X0 with
 | none=>subst hp3;obtain rfl:R=none:=HR.out;exact ⟨rfl,q3,(HL2.out.step hto3).unto,rfl⟩
 | some u0 =>
 obtain ⟨rfl,hw3⟩:=hp3;have HL3:Hid (zu r q w w1 q3 w3):=HL2.out.step hto3;have HW3:Hid (zH w0 r q3 (t++[105,102,32]++u0) w3):=hw3;clear hto3 hw3;obtain ⟨c0,c1,c2,c3,c4,c5⟩:=zF ((HL3.out.block _ (Nat.le_refl _) (by omega)).trans HP1.out)
 have cp:=zE w0 r q3 (t++[105,102,32]++u0) [32] w3 HW3.out (by simp)
 go_wp2_with fail
 refine cp.mono ?_;clear cp c0 c1 c2 c3 c4 c5;rintro e w4 ⟨q4,hto4,rfl,hw4⟩;have HL4:Hid (zu r q w w1 q4 w4):=HL3.out.step hto4;have HW4:Hid (zH w0 r q4 (t++[105,102,32]++u0++[32]) w4):=hw4;clear hto4 hw4;obtain ⟨c0,c1,c2,c3,c4,c5⟩:=zF ((HL4.out.block _ (Nat.le_refl _) (by omega)).trans HP1.out)
 have cp:=HK1.out q4 (t++[105,102,32]++u0++[32]) w4 HW4.out;go_wp2_with fail
 refine cp.mono ?_;clear cp c0 c1 c2 c3 c4 c5;rintro e w5 ⟨q5,hto5,hp5⟩;cases X1 with
 | none=>subst hp5;obtain rfl:R=none:=HR.out;exact ⟨rfl,q5,(HL4.out.step hto5).unto,rfl⟩
 | some u1 =>
 obtain ⟨rfl,hw5⟩:=hp5;have HL5:Hid (zu r q w w1 q5 w5):=HL4.out.step hto5;have HW5:Hid (zH w0 r q5 (t++[105,102,32]++u0++[32]++u1) w5):=hw5;clear hto5 hw5;obtain ⟨c0,c1,c2,c3,c4,c5⟩:=zF ((HL5.out.block _ (Nat.le_refl _) (by omega)).trans HP1.out)
 have cp:=zE w0 r q5 (t++[105,102,32]++u0++[32]++u1) [32,101,108,115,101,32] w5 HW5.out (by simp)
 go_wp2_with fail
 refine cp.mono ?_;clear cp c0 c1 c2 c3 c4 c5;rintro e w6 ⟨q6,hto6,rfl,hw6⟩;have HL6:Hid (zu r q w w1 q6 w6):=HL5.out.step hto6;have HW6:Hid (zH w0 r q6 (t++[105,102,32]++u0++[32]++u1++[32,101,108,115,101,32]) w6):=hw6;clear hto6 hw6;obtain ⟨c0,c1,c2,c3,c4,c5⟩:=zF ((HL6.out.block _ (Nat.le_refl _) (by omega)).trans HP1.out)
 have cp:=HK2.out q6 (t++[105,102,32]++u0++[32]++u1++[32,101,108,115,101,32]) w6 HW6.out;go_wp2_with fail
 refine cp.mono ?_;clear cp c0 c1 c2 c3 c4 c5;rintro e w7 ⟨q7,hto7,hp7⟩;cases X2 with
 | none=>subst hp7;obtain rfl:R=none:=HR.out;exact ⟨rfl,q7,(HL6.out.step hto7).unto,rfl⟩
 | some u2 =>
 obtain ⟨rfl,hw7⟩:=hp7;have HL7:Hid (zu r q w w1 q7 w7):=HL6.out.step hto7;have HW7:Hid (zH w0 r q7 (t++[105,102,32]++u0++[32]++u1++[32,101,108,115,101,32]++u2) w7):=hw7;clear hto7 hw7;obtain ⟨c0,c1,c2,c3,c4,c5⟩:=zF ((HL7.out.block _ (Nat.le_refl _) (by omega)).trans HP1.out)
 have cp:=zE w0 r q7 (t++[105,102,32]++u0++[32]++u1++[32,101,108,115,101,32]++u2) [10] w7 HW7.out (by simp)
 go_wp2_with fail
 refine cp.mono ?_;clear cp c0 c1 c2 c3 c4 c5;rintro e w8 ⟨q8,hto8,rfl,hw8⟩;have HL8:Hid (zu r q w w1 q8 w8):=HL7.out.step hto8;have HW8:Hid (zH w0 r q8 (t++[105,102,32]++u0++[32]++u1++[32,101,108,115,101,32]++u2++[10]) w8):=hw8;clear hto8 hw8;obtain ⟨c0,c1,c2,c3,c4,c5⟩:=zF ((HL8.out.block _ (Nat.le_refl _) (by omega)).trans HP1.out)
 obtain rfl:R=some ([105,102,32]++(u0++([32]++(u1++([32,101,108,115,101,32]++(u2++([10]))))))):=HR.out;have HP:Hid (zr w0 r q t w (some ([105,102,32]++(u0++([32]++(u1++([32,101,108,115,101,32]++(u2++([10])))))))) (.returned (.tuple #[])) w8):=⟨q8,HL8.out.unto,rfl,by have:=HW8.out;simpa only [List.append_assoc] using this⟩
 clear HL1 HW1 HL2 HW2 HL3 HW3 HL4 HW4 HL5 HW5 HL6 HW6 HL7 HW7 HL8 HW8 c0 c1 c2 c3 c4 c5 HKI HK0 HK1 HK2 HR HP1;go_wp2
 exact bodyPost_ret (v:=.tuple #[]) (by simp [results,Tryz.results175,go_sem]) rfl HP.out
theorem zh3 (w0:World) (d:Nat) (D:Int) (hD:D-1=(d:Int)) (hD1:1≤D) (hD2:D≤24) (hT:ZV w0) (hX:Yx w0 d) (s:List UInt8) (ce:Nat) (bb:Option Addr) (mb cb:Nat) (bl:Option Addr) (ml cl:Nat) (line:Int) (b o:Nat) (x:Ez) (g01:Int) (g02:List UInt8) (g03:Int) (g04:Option Addr) (g05 g06:Nat) (g07:Int) (hx0:ZJ w0.heap.size w0 x (Ye g01 g02 g03 g04 g05 g06 g07)) (hkid0:yI w0 b (o+0*5) g01 g02 g03 g04 g05 g06 g07) (es:List Ez) (hes:ZB (EzC w0.heap.size w0) 5 w0.heap.size w0 es (some ⟨b,o,none⟩) 1 ce) (r:Nat) (q:Option Nat) (t:List UInt8) (w:World) (h:zH w0 r q t w) (hst:XT 1 s es mb ml=true) (hs:s.length≤100000000) :
  Calls Tryz.prog 142 #[.pointer (some ⟨r,0,none⟩),QX 1 s (some ⟨b,o,none⟩) 1 ce bb mb cb bl ml cl line,.int .i64 D] w (zr w0 r q t w (zd (some [108,101,116,32]) (zd (tokO 1 0 s) (zd (some [32,61,32]) (zd (prE d x) ((some [59,10]))))))):=by
 have hmf:∀(fn:Fn) (first cap:Array Value) (w:World),(Instr.makeFunc fn first cap).run Tryz.prog w=.ok (.func fn first cap) w:=fun _ _ _ _=>rfl
 obtain ⟨R,hR⟩:∃R,R=zd (some [108,101,116,32]) (zd (tokO 1 0 s) (zd (some [32,61,32]) (zd (prE d x) ((some [59,10]))))):=⟨_,rfl⟩;rw [←hR];obtain ⟨w1,hw1⟩:∃w1,w1=stW w r 1 s (some ⟨b,o,none⟩) 1 ce bb mb cb bl ml cl line D:=⟨_,rfl⟩;obtain ⟨hb1,hsz1,e0,e1,e2⟩:=xJ w r 1 s (some ⟨b,o,none⟩) 1 ce bb mb cb bl ml cl line D;rw [←hw1] at hb1 hsz1 e0 e1 e2;have hW1:=h.below hb1;have HL1:Hid (zu r q w w1 q w1):=zu.start h hb1;have HP1:Hid (w1.heap[w.heap.size]?=some (.cells #[.pointer (some ⟨r,0,none⟩)] 85 (0,0))∧w1.heap[w.heap.size+1]?=some (VC 1 s (some ⟨b,o,none⟩) 1 ce bb mb cb bl ml cl line)∧w1.heap[w.heap.size+2]?=some (.cells #[.int .i64 D] 3 (0,0))):=⟨e0,e1,e2⟩;have ci:=xo 1 s es (some ⟨b,o,none⟩) 1 ce bb mb cb bl ml cl line w0.heap.size w1 (hes.kept hW1.env fun _ _ h=>ZJ.kept h hW1.env) hW1.env.size
 rw [hst] at ci;have HW1:Hid (zH w0 r q t w1):=hW1;have hw1':=hw1.symm;have b0:=zg e0;obtain ⟨c0,c1,c2,c3,c4,c5⟩:=zF e1;have b2:=zg e2;have hD0:(0:Int)<D:=by omega
 have HK0:Hid (∀(q:Option Nat) (t:List UInt8) (w:World),zH w0 r q t w→Calls Tryz.prog 82 #[.pointer (some ⟨r,0,none⟩),.string (za s)] w (zr w0 r q t w (tokO 1 0 s))):=fun q t w h=>Yb w0 r q t s w hT h hs
 have HK1:Hid (∀(q2:Option Nat) (t2:List UInt8) (W:World),zH w0 r q2 t2 W→zu r q w w1 q2 W→Calls Tryz.prog 174 #[.int .i64 0,.pointer (some ⟨w.heap.size,0,none⟩),.pointer (some ⟨w.heap.size+1,0,none⟩),.pointer (some ⟨w.heap.size+2,0,none⟩)] W (zr w0 r q2 t2 W (prE d x))):=fun q2 t2 W h2 hL2=>Vi w0 d D hD hD1 hD2 hX 0 x b o _ _ _ _ _ _ _ hx0 hkid0 _ _ _ r _ ce (by omega) (by omega) q2 t2 W h2 (zg ((hL2.block (w.heap.size) (Nat.le_refl _) (by omega)).trans HP1.out.1)) (zF ((hL2.block (w.heap.size+1) (by omega) (by omega)).trans HP1.out.2.1)).2.2.1 (zg ((hL2.block (w.heap.size+2) (by omega) (by omega)).trans HP1.out.2.2)) (fun k hk=>⟨by have:=hL2.hr;omega,fun e=>by have:=hL2.hq k e;omega⟩)
 generalize tokO 1 0 s=X0 at *;generalize prE d x=X1 at *;have HR:Hid (R=zd (some [108,101,116,32]) (zd X0 (zd (some [32,61,32]) (zd X1 ((some [59,10])))))):=hR;clear hR hW1 e0 e1 e2 hw1 hb1 h hes hst hT hX hx0 hkid0
 go_enter Tryz.func142,Tryz.ntmps142
 go_wp2_with fail
 refine ci.mono ?_;clear ci b0 b2 c0 c1 c2 c3 c4 c5;rintro e w2 ⟨rfl,hb2⟩;have HL2:Hid (zu r q w w1 q w2):=HL1.out.step (zX.below hb2);have HW2:Hid (zH w0 r q t w2):=HW1.out.below hb2;clear hb2;have ca:=Zi true w2;have b0:=zg ((HL2.out.block (w.heap.size) (Nat.le_refl _) (by omega)).trans HP1.out.1)
 obtain ⟨c0,c1,c2,c3,c4,c5⟩:=zF ((HL2.out.block (w.heap.size+1) (by omega) (by omega)).trans HP1.out.2.1)
 have b2:=zg ((HL2.out.block (w.heap.size+2) (by omega) (by omega)).trans HP1.out.2.2)
 go_wp2_with fail
 refine ca.mono ?_;clear ca;rintro e w3 ⟨rfl,rfl⟩;simp only [xY];have HL3:Hid (zu r q w w1 q w3):=HL2.out;have HW3:Hid (zH w0 r q t w3):=HW2.out;clear HL1 HW1 HL2 HW2;have cp:=zE w0 r q (t) [108,101,116,32] w3 HW3.out (by simp)
 go_wp2_with fail
 refine cp.mono ?_;clear cp b0 b2 c0 c1 c2 c3 c4 c5;rintro e w4 ⟨q4,hto4,rfl,hw4⟩;have HL4:Hid (zu r q w w1 q4 w4):=HL3.out.step hto4;have HW4:Hid (zH w0 r q4 (t++[108,101,116,32]) w4):=hw4;clear hto4 hw4;have b0:=zg ((HL4.out.block (w.heap.size) (Nat.le_refl _) (by omega)).trans HP1.out.1)
 obtain ⟨c0,c1,c2,c3,c4,c5⟩:=zF ((HL4.out.block (w.heap.size+1) (by omega) (by omega)).trans HP1.out.2.1)
 have b2:=zg ((HL4.out.block (w.heap.size+2) (by omega) (by omega)).trans HP1.out.2.2)
 have cp:=HK0.out q4 (t++[108,101,116,32]) w4 HW4.out;go_wp2_with fail
 refine cp.mono ?_;clear cp b0 b2 c0 c1 c2 c3 c4 c5;rintro e w5 ⟨q5,hto5,hp5⟩;cases X0 with
 | none=>subst hp5;obtain rfl:R=none:=HR.out;exact ⟨rfl,q5,(HL4.out.step hto5).unto,rfl⟩
 | some u0 =>
 obtain ⟨rfl,hw5⟩:=hp5;have HL5:Hid (zu r q w w1 q5 w5):=HL4.out.step hto5;have HW5:Hid (zH w0 r q5 (t++[108,101,116,32]++u0) w5):=hw5;clear hto5 hw5;have b0:=zg ((HL5.out.block (w.heap.size) (Nat.le_refl _) (by omega)).trans HP1.out.1)
 obtain ⟨c0,c1,c2,c3,c4,c5⟩:=zF ((HL5.out.block (w.heap.size+1) (by omega) (by omega)).trans HP1.out.2.1)
 have b2:=zg ((HL5.out.block (w.heap.size+2) (by omega) (by omega)).trans HP1.out.2.2)
 have cp:=zE w0 r q5 (t++[108,101,116,32]++u0) [32,61,32] w5 HW5.out (by simp)
 go_wp2_with fail
 refine cp.mono ?_;clear cp b0 b2 c0 c1 c2 c3 c4 c5;rintro e w6 ⟨q6,hto6,rfl,hw6⟩;have HL6:Hid (zu r q w w1 q6 w6):=HL5.out.step hto6;have HW6:Hid (zH w0 r q6 (t++[108,101,116,32]++u0++[32,61,32]) w6):=hw6;clear hto6 hw6;have b0:=zg ((HL6.out.block (w.heap.size) (Nat.le_refl _) (by omega)).trans HP1.out.1)
 obtain ⟨c0,c1,c2,c3,c4,c5⟩:=zF ((HL6.out.block (w.heap.size+1) (by omega) (by omega)).trans HP1.out.2.1)
 have b2:=zg ((HL6.out.block (w.heap.size+2) (by omega) (by omega)).trans HP1.out.2.2)
 have cp:=HK1.out q6 (t++[108,101,116,32]++u0++[32,61,32]) w6 HW6.out HL6.out;go_wp2_with fail
 refine cp.mono ?_;clear cp b0 b2 c0 c1 c2 c3 c4 c5;rintro e w7 ⟨q7,hto7,hp7⟩;cases X1 with
 | none=>subst hp7;obtain rfl:R=none:=HR.out;exact ⟨rfl,q7,(HL6.out.step hto7).unto,rfl⟩
 | some u1 =>
 obtain ⟨rfl,hw7⟩:=hp7;have HL7:Hid (zu r q w w1 q7 w7):=HL6.out.step hto7;have HW7:Hid (zH w0 r q7 (t++[108,101,116,32]++u0++[32,61,32]++u1) w7):=hw7;clear hto7 hw7;have b0:=zg ((HL7.out.block (w.heap.size) (Nat.le_refl _) (by omega)).trans HP1.out.1)
 obtain ⟨c0,c1,c2,c3,c4,c5⟩:=zF ((HL7.out.block (w.heap.size+1) (by omega) (by omega)).trans HP1.out.2.1)
 have b2:=zg ((HL7.out.block (w.heap.size+2) (by omega) (by omega)).trans HP1.out.2.2)
 have cp:=zE w0 r q7 (t++[108,101,116,32]++u0++[32,61,32]++u1) [59,10] w7 HW7.out (by simp)
 go_wp2_with fail
 refine cp.mono ?_;clear cp b0 b2 c0 c1 c2 c3 c4 c5;rintro e w8 ⟨q8,hto8,rfl,hw8⟩;have HL8:Hid (zu r q w w1 q8 w8):=HL7.out.step hto8;have HW8:Hid (zH w0 r q8 (t++[108,101,116,32]++u0++[32,61,32]++u1++[59,10]) w8):=hw8;clear hto8 hw8;have b0:=zg ((HL8.out.block (w.heap.size) (Nat.le_refl _) (by omega)).trans HP1.out.1)
 obtain ⟨c0,c1,c2,c3,c4,c5⟩:=zF ((HL8.out.block (w.heap.size+1) (by omega) (by omega)).trans HP1.out.2.1)
 have b2:=zg ((HL8.out.block (w.heap.size+2) (by omega) (by omega)).trans HP1.out.2.2)
 obtain rfl:R=some ([108,101,116,32]++(u0++([32,61,32]++(u1++([59,10]))))):=HR.out;have HP:Hid (zr w0 r q t w (some ([108,101,116,32]++(u0++([32,61,32]++(u1++([59,10])))))) (.returned (.tuple #[])) w8):=⟨q8,HL8.out.unto,rfl,by have:=HW8.out;simpa only [List.append_assoc] using this⟩
 clear HL3 HW3 HL4 HW4 HL5 HW5 HL6 HW6 HL7 HW7 HL8 HW8 b0 b2 c0 c1 c2 c3 c4 c5 HK0 HK1 HR HP1;go_wp2
 exact bodyPost_ret (v:=.tuple #[]) (by simp [results,Tryz.results142,go_sem]) rfl HP.out
theorem zh4 (w0:World) (d:Nat) (D:Int) (hD:D-1=(d:Int)) (hD1:1≤D) (hD2:D≤24) (_hT:ZV w0) (hX:Yx w0 d) (s:List UInt8) (ce:Nat) (bb:Option Addr) (mb cb:Nat) (bl:Option Addr) (ml cl:Nat) (line:Int) (b o:Nat) (x:Ez) (g01:Int) (g02:List UInt8) (g03:Int) (g04:Option Addr) (g05 g06:Nat) (g07:Int) (hx0:ZJ w0.heap.size w0 x (Ye g01 g02 g03 g04 g05 g06 g07)) (hkid0:yI w0 b (o+0*5) g01 g02 g03 g04 g05 g06 g07) (y:Ez) (g11:Int) (g12:List UInt8) (g13:Int) (g14:Option Addr) (g15 g16:Nat) (g17:Int) (hx1:ZJ w0.heap.size w0 y (Ye g11 g12 g13 g14 g15 g16 g17)) (hkid1:yI w0 b (o+1*5) g11 g12 g13 g14 g15 g16 g17) (es:List Ez) (hes:ZB (EzC w0.heap.size w0) 5 w0.heap.size w0 es (some ⟨b,o,none⟩) 2 ce) (r:Nat) (q:Option Nat) (t:List UInt8) (w:World) (h:zH w0 r q t w) (hst:XT 2 s es mb ml=true) (_hs:s.length≤100000000) :
  Calls Tryz.prog 142 #[.pointer (some ⟨r,0,none⟩),QX 2 s (some ⟨b,o,none⟩) 2 ce bb mb cb bl ml cl line,.int .i64 D] w (zr w0 r q t w (zd (prE d x) (zd (some [32,61,32]) (zd (prE d y) ((some [59,10])))))):=by
 have hmf:∀(fn:Fn) (first cap:Array Value) (w:World),(Instr.makeFunc fn first cap).run Tryz.prog w=.ok (.func fn first cap) w:=fun _ _ _ _=>rfl
 obtain ⟨R,hR⟩:∃R,R=zd (prE d x) (zd (some [32,61,32]) (zd (prE d y) ((some [59,10])))):=⟨_,rfl⟩;rw [←hR];obtain ⟨w1,hw1⟩:∃w1,w1=stW w r 2 s (some ⟨b,o,none⟩) 2 ce bb mb cb bl ml cl line D:=⟨_,rfl⟩;obtain ⟨hb1,hsz1,e0,e1,e2⟩:=xJ w r 2 s (some ⟨b,o,none⟩) 2 ce bb mb cb bl ml cl line D;rw [←hw1] at hb1 hsz1 e0 e1 e2;have hW1:=h.below hb1;have HL1:Hid (zu r q w w1 q w1):=zu.start h hb1;have HP1:Hid (w1.heap[w.heap.size]?=some (.cells #[.pointer (some ⟨r,0,none⟩)] 85 (0,0))∧w1.heap[w.heap.size+1]?=some (VC 2 s (some ⟨b,o,none⟩) 2 ce bb mb cb bl ml cl line)∧w1.heap[w.heap.size+2]?=some (.cells #[.int .i64 D] 3 (0,0))):=⟨e0,e1,e2⟩;have ci:=xo 2 s es (some ⟨b,o,none⟩) 2 ce bb mb cb bl ml cl line w0.heap.size w1 (hes.kept hW1.env fun _ _ h=>ZJ.kept h hW1.env) hW1.env.size
 rw [hst] at ci;have HW1:Hid (zH w0 r q t w1):=hW1;have hw1':=hw1.symm;have b0:=zg e0;obtain ⟨c0,c1,c2,c3,c4,c5⟩:=zF e1;have b2:=zg e2;have hD0:(0:Int)<D:=by omega
 have HK0:Hid (∀(q2:Option Nat) (t2:List UInt8) (W:World),zH w0 r q2 t2 W→zu r q w w1 q2 W→Calls Tryz.prog 174 #[.int .i64 0,.pointer (some ⟨w.heap.size,0,none⟩),.pointer (some ⟨w.heap.size+1,0,none⟩),.pointer (some ⟨w.heap.size+2,0,none⟩)] W (zr w0 r q2 t2 W (prE d x))):=fun q2 t2 W h2 hL2=>Vi w0 d D hD hD1 hD2 hX 0 x b o _ _ _ _ _ _ _ hx0 hkid0 _ _ _ r _ ce (by omega) (by omega) q2 t2 W h2 (zg ((hL2.block (w.heap.size) (Nat.le_refl _) (by omega)).trans HP1.out.1)) (zF ((hL2.block (w.heap.size+1) (by omega) (by omega)).trans HP1.out.2.1)).2.2.1 (zg ((hL2.block (w.heap.size+2) (by omega) (by omega)).trans HP1.out.2.2)) (fun k hk=>⟨by have:=hL2.hr;omega,fun e=>by have:=hL2.hq k e;omega⟩)
 have HK1:Hid (∀(q2:Option Nat) (t2:List UInt8) (W:World),zH w0 r q2 t2 W→zu r q w w1 q2 W→Calls Tryz.prog 174 #[.int .i64 1,.pointer (some ⟨w.heap.size,0,none⟩),.pointer (some ⟨w.heap.size+1,0,none⟩),.pointer (some ⟨w.heap.size+2,0,none⟩)] W (zr w0 r q2 t2 W (prE d y))):=fun q2 t2 W h2 hL2=>Vi w0 d D hD hD1 hD2 hX 1 y b o _ _ _ _ _ _ _ hx1 hkid1 _ _ _ r _ ce (by omega) (by omega) q2 t2 W h2 (zg ((hL2.block (w.heap.size) (Nat.le_refl _) (by omega)).trans HP1.out.1)) (zF ((hL2.block (w.heap.size+1) (by omega) (by omega)).trans HP1.out.2.1)).2.2.1 (zg ((hL2.block (w.heap.size+2) (by omega) (by omega)).trans HP1.out.2.2)) (fun k hk=>⟨by have:=hL2.hr;omega,fun e=>by have:=hL2.hq k e;omega⟩)
 generalize prE d x=X0 at *;generalize prE d y=X1 at *;have HR:Hid (R=zd X0 (zd (some [32,61,32]) (zd X1 ((some [59,10]))))):=hR;clear hR hW1 e0 e1 e2 hw1 hb1 h hes hst _hT hX hx0 hkid0 hx1 hkid1
 go_enter Tryz.func142,Tryz.ntmps142
 go_wp2_with fail
 refine ci.mono ?_;clear ci b0 b2 c0 c1 c2 c3 c4 c5;rintro e w2 ⟨rfl,hb2⟩;have HL2:Hid (zu r q w w1 q w2):=HL1.out.step (zX.below hb2);have HW2:Hid (zH w0 r q t w2):=HW1.out.below hb2;clear hb2;have ca:=Zi true w2;have b0:=zg ((HL2.out.block (w.heap.size) (Nat.le_refl _) (by omega)).trans HP1.out.1)
 obtain ⟨c0,c1,c2,c3,c4,c5⟩:=zF ((HL2.out.block (w.heap.size+1) (by omega) (by omega)).trans HP1.out.2.1)
 have b2:=zg ((HL2.out.block (w.heap.size+2) (by omega) (by omega)).trans HP1.out.2.2)
 go_wp2_with fail
 refine ca.mono ?_;clear ca;rintro e w3 ⟨rfl,rfl⟩;simp only [xY];have HL3:Hid (zu r q w w1 q w3):=HL2.out;have HW3:Hid (zH w0 r q t w3):=HW2.out;clear HL1 HW1 HL2 HW2;have cp:=HK0.out q (t) w3 HW3.out HL3.out;go_wp2_with fail
 refine cp.mono ?_;clear cp b0 b2 c0 c1 c2 c3 c4 c5;rintro e w4 ⟨q4,hto4,hp4⟩;cases X0 with
 | none=>subst hp4;obtain rfl:R=none:=HR.out;exact ⟨rfl,q4,(HL3.out.step hto4).unto,rfl⟩
 | some u0 =>
 obtain ⟨rfl,hw4⟩:=hp4;have HL4:Hid (zu r q w w1 q4 w4):=HL3.out.step hto4;have HW4:Hid (zH w0 r q4 (t++u0) w4):=hw4;clear hto4 hw4;have b0:=zg ((HL4.out.block (w.heap.size) (Nat.le_refl _) (by omega)).trans HP1.out.1)
 obtain ⟨c0,c1,c2,c3,c4,c5⟩:=zF ((HL4.out.block (w.heap.size+1) (by omega) (by omega)).trans HP1.out.2.1)
 have b2:=zg ((HL4.out.block (w.heap.size+2) (by omega) (by omega)).trans HP1.out.2.2)
 have cp:=zE w0 r q4 (t++u0) [32,61,32] w4 HW4.out (by simp)
 go_wp2_with fail
 refine cp.mono ?_;clear cp b0 b2 c0 c1 c2 c3 c4 c5;rintro e w5 ⟨q5,hto5,rfl,hw5⟩;have HL5:Hid (zu r q w w1 q5 w5):=HL4.out.step hto5;have HW5:Hid (zH w0 r q5 (t++u0++[32,61,32]) w5):=hw5;clear hto5 hw5;have b0:=zg ((HL5.out.block (w.heap.size) (Nat.le_refl _) (by omega)).trans HP1.out.1)
 obtain ⟨c0,c1,c2,c3,c4,c5⟩:=zF ((HL5.out.block (w.heap.size+1) (by omega) (by omega)).trans HP1.out.2.1)
 have b2:=zg ((HL5.out.block (w.heap.size+2) (by omega) (by omega)).trans HP1.out.2.2)
 have cp:=HK1.out q5 (t++u0++[32,61,32]) w5 HW5.out HL5.out;go_wp2_with fail
 refine cp.mono ?_;clear cp b0 b2 c0 c1 c2 c3 c4 c5;rintro e w6 ⟨q6,hto6,hp6⟩;cases X1 with
 | none=>subst hp6;obtain rfl:R=none:=HR.out;exact ⟨rfl,q6,(HL5.out.step hto6).unto,rfl⟩
 | some u1 =>
 obtain ⟨rfl,hw6⟩:=hp6;have HL6:Hid (zu r q w w1 q6 w6):=HL5.out.step hto6;have HW6:Hid (zH w0 r q6 (t++u0++[32,61,32]++u1) w6):=hw6;clear hto6 hw6;have b0:=zg ((HL6.out.block (w.heap.size) (Nat.le_refl _) (by omega)).trans HP1.out.1)
 obtain ⟨c0,c1,c2,c3,c4,c5⟩:=zF ((HL6.out.block (w.heap.size+1) (by omega) (by omega)).trans HP1.out.2.1)
 have b2:=zg ((HL6.out.block (w.heap.size+2) (by omega) (by omega)).trans HP1.out.2.2)
 have cp:=zE w0 r q6 (t++u0++[32,61,32]++u1) [59,10] w6 HW6.out (by simp)
 go_wp2_with fail
 refine cp.mono ?_;clear cp b0 b2 c0 c1 c2 c3 c4 c5;rintro e w7 ⟨q7,hto7,rfl,hw7⟩;have HL7:Hid (zu r q w w1 q7 w7):=HL6.out.step hto7;have HW7:Hid (zH w0 r q7 (t++u0++[32,61,32]++u1++[59,10]) w7):=hw7;clear hto7 hw7;have b0:=zg ((HL7.out.block (w.heap.size) (Nat.le_refl _) (by omega)).trans HP1.out.1)
 obtain ⟨c0,c1,c2,c3,c4,c5⟩:=zF ((HL7.out.block (w.heap.size+1) (by omega) (by omega)).trans HP1.out.2.1)
 have b2:=zg ((HL7.out.block (w.heap.size+2) (by omega) (by omega)).trans HP1.out.2.2)
 obtain rfl:R=some (u0++([32,61,32]++(u1++([59,10])))):=HR.out;have HP:Hid (zr w0 r q t w (some (u0++([32,61,32]++(u1++([59,10]))))) (.returned (.tuple #[])) w7):=⟨q7,HL7.out.unto,rfl,by have:=HW7.out;simpa only [List.append_assoc] using this⟩
 clear HL3 HW3 HL4 HW4 HL5 HW5 HL6 HW6 HL7 HW7 b0 b2 c0 c1 c2 c3 c4 c5 HK0 HK1 HR HP1;go_wp2
 exact bodyPost_ret (v:=.tuple #[]) (by simp [results,Tryz.results142,go_sem]) rfl HP.out
theorem zh5 (w0:World) (d:Nat) (D:Int) (hD:D-1=(d:Int)) (hD1:1≤D) (hD2:D≤24) (_hT:ZV w0) (hX:Yx w0 d) (s:List UInt8) (ce:Nat) (bb:Option Addr) (mb cb:Nat) (bl:Option Addr) (ml cl:Nat) (line:Int) (b o:Nat) (x:Ez) (g01:Int) (g02:List UInt8) (g03:Int) (g04:Option Addr) (g05 g06:Nat) (g07:Int) (hx0:ZJ w0.heap.size w0 x (Ye g01 g02 g03 g04 g05 g06 g07)) (hkid0:yI w0 b (o+0*5) g01 g02 g03 g04 g05 g06 g07) (es:List Ez) (hes:ZB (EzC w0.heap.size w0) 5 w0.heap.size w0 es (some ⟨b,o,none⟩) 1 ce) (r:Nat) (q:Option Nat) (t:List UInt8) (w:World) (h:zH w0 r q t w) (hst:XT 7 s es mb ml=true) (_hs:s.length≤100000000) :
  Calls Tryz.prog 142 #[.pointer (some ⟨r,0,none⟩),QX 7 s (some ⟨b,o,none⟩) 1 ce bb mb cb bl ml cl line,.int .i64 D] w (zr w0 r q t w (zd (prE d x) ((some [59,10])))):=by
 have hmf:∀(fn:Fn) (first cap:Array Value) (w:World),(Instr.makeFunc fn first cap).run Tryz.prog w=.ok (.func fn first cap) w:=fun _ _ _ _=>rfl
 obtain ⟨R,hR⟩:∃R,R=zd (prE d x) ((some [59,10])):=⟨_,rfl⟩;rw [←hR];obtain ⟨w1,hw1⟩:∃w1,w1=stW w r 7 s (some ⟨b,o,none⟩) 1 ce bb mb cb bl ml cl line D:=⟨_,rfl⟩;obtain ⟨hb1,hsz1,e0,e1,e2⟩:=xJ w r 7 s (some ⟨b,o,none⟩) 1 ce bb mb cb bl ml cl line D;rw [←hw1] at hb1 hsz1 e0 e1 e2;have hW1:=h.below hb1;have HL1:Hid (zu r q w w1 q w1):=zu.start h hb1;have HP1:Hid (w1.heap[w.heap.size]?=some (.cells #[.pointer (some ⟨r,0,none⟩)] 85 (0,0))∧w1.heap[w.heap.size+1]?=some (VC 7 s (some ⟨b,o,none⟩) 1 ce bb mb cb bl ml cl line)∧w1.heap[w.heap.size+2]?=some (.cells #[.int .i64 D] 3 (0,0))):=⟨e0,e1,e2⟩;have ci:=xo 7 s es (some ⟨b,o,none⟩) 1 ce bb mb cb bl ml cl line w0.heap.size w1 (hes.kept hW1.env fun _ _ h=>ZJ.kept h hW1.env) hW1.env.size
 rw [hst] at ci;have HW1:Hid (zH w0 r q t w1):=hW1;have hw1':=hw1.symm;have b0:=zg e0;obtain ⟨c0,c1,c2,c3,c4,c5⟩:=zF e1;have b2:=zg e2;have hD0:(0:Int)<D:=by omega
 have HK0:Hid (∀(q2:Option Nat) (t2:List UInt8) (W:World),zH w0 r q2 t2 W→zu r q w w1 q2 W→Calls Tryz.prog 174 #[.int .i64 0,.pointer (some ⟨w.heap.size,0,none⟩),.pointer (some ⟨w.heap.size+1,0,none⟩),.pointer (some ⟨w.heap.size+2,0,none⟩)] W (zr w0 r q2 t2 W (prE d x))):=fun q2 t2 W h2 hL2=>Vi w0 d D hD hD1 hD2 hX 0 x b o _ _ _ _ _ _ _ hx0 hkid0 _ _ _ r _ ce (by omega) (by omega) q2 t2 W h2 (zg ((hL2.block (w.heap.size) (Nat.le_refl _) (by omega)).trans HP1.out.1)) (zF ((hL2.block (w.heap.size+1) (by omega) (by omega)).trans HP1.out.2.1)).2.2.1 (zg ((hL2.block (w.heap.size+2) (by omega) (by omega)).trans HP1.out.2.2)) (fun k hk=>⟨by have:=hL2.hr;omega,fun e=>by have:=hL2.hq k e;omega⟩)
 generalize prE d x=X0 at *;have HR:Hid (R=zd X0 ((some [59,10]))):=hR;clear hR hW1 e0 e1 e2 hw1 hb1 h hes hst _hT hX hx0 hkid0
 go_enter Tryz.func142,Tryz.ntmps142
 go_wp2_with fail
 refine ci.mono ?_;clear ci b0 b2 c0 c1 c2 c3 c4 c5;rintro e w2 ⟨rfl,hb2⟩;have HL2:Hid (zu r q w w1 q w2):=HL1.out.step (zX.below hb2);have HW2:Hid (zH w0 r q t w2):=HW1.out.below hb2;clear hb2;have ca:=Zi true w2;have b0:=zg ((HL2.out.block (w.heap.size) (Nat.le_refl _) (by omega)).trans HP1.out.1)
 obtain ⟨c0,c1,c2,c3,c4,c5⟩:=zF ((HL2.out.block (w.heap.size+1) (by omega) (by omega)).trans HP1.out.2.1)
 have b2:=zg ((HL2.out.block (w.heap.size+2) (by omega) (by omega)).trans HP1.out.2.2)
 go_wp2_with fail
 refine ca.mono ?_;clear ca;rintro e w3 ⟨rfl,rfl⟩;simp only [xY];have HL3:Hid (zu r q w w1 q w3):=HL2.out;have HW3:Hid (zH w0 r q t w3):=HW2.out;clear HL1 HW1 HL2 HW2;have cp:=HK0.out q (t) w3 HW3.out HL3.out;go_wp2_with fail
 refine cp.mono ?_;clear cp b0 b2 c0 c1 c2 c3 c4 c5;rintro e w4 ⟨q4,hto4,hp4⟩;cases X0 with
 | none=>subst hp4;obtain rfl:R=none:=HR.out;exact ⟨rfl,q4,(HL3.out.step hto4).unto,rfl⟩
 | some u0 =>
 obtain ⟨rfl,hw4⟩:=hp4;have HL4:Hid (zu r q w w1 q4 w4):=HL3.out.step hto4;have HW4:Hid (zH w0 r q4 (t++u0) w4):=hw4;clear hto4 hw4;have b0:=zg ((HL4.out.block (w.heap.size) (Nat.le_refl _) (by omega)).trans HP1.out.1)
 obtain ⟨c0,c1,c2,c3,c4,c5⟩:=zF ((HL4.out.block (w.heap.size+1) (by omega) (by omega)).trans HP1.out.2.1)
 have b2:=zg ((HL4.out.block (w.heap.size+2) (by omega) (by omega)).trans HP1.out.2.2)
 have cp:=zE w0 r q4 (t++u0) [59,10] w4 HW4.out (by simp)
 go_wp2_with fail
 refine cp.mono ?_;clear cp b0 b2 c0 c1 c2 c3 c4 c5;rintro e w5 ⟨q5,hto5,rfl,hw5⟩;have HL5:Hid (zu r q w w1 q5 w5):=HL4.out.step hto5;have HW5:Hid (zH w0 r q5 (t++u0++[59,10]) w5):=hw5;clear hto5 hw5;have b0:=zg ((HL5.out.block (w.heap.size) (Nat.le_refl _) (by omega)).trans HP1.out.1)
 obtain ⟨c0,c1,c2,c3,c4,c5⟩:=zF ((HL5.out.block (w.heap.size+1) (by omega) (by omega)).trans HP1.out.2.1)
 have b2:=zg ((HL5.out.block (w.heap.size+2) (by omega) (by omega)).trans HP1.out.2.2)
 obtain rfl:R=some (u0++([59,10])):=HR.out;have HP:Hid (zr w0 r q t w (some (u0++([59,10]))) (.returned (.tuple #[])) w5):=⟨q5,HL5.out.unto,rfl,by have:=HW5.out;simpa only [List.append_assoc] using this⟩
 clear HL3 HW3 HL4 HW4 HL5 HW5 b0 b2 c0 c1 c2 c3 c4 c5 HK0 HR HP1;go_wp2
 exact bodyPost_ret (v:=.tuple #[]) (by simp [results,Tryz.results142,go_sem]) rfl HP.out
theorem zg4 (w0:World) (d:Nat) (D:Int) (hD:D-1=(d:Int)) (_hD1:1≤D) (hD2:D≤24) (_hT:ZV w0) (_hX:Yx w0 d) (s:List UInt8) (be:Option Addr) (ce:Nat) (bb:Option Addr) (mb cb:Nat) (bl:Option Addr) (ml cl:Nat) (line:Int) (es:List Ez) (hes:ZB (EzC w0.heap.size w0) 5 w0.heap.size w0 es be 0 ce) (r:Nat) (q:Option Nat) (t:List UInt8) (w:World) (h:zH w0 r q t w) (hst:XT 6 s es mb ml=true) :
  Calls Tryz.prog 142 #[.pointer (some ⟨r,0,none⟩),QX 6 s be 0 ce bb mb cb bl ml cl line,.int .i64 D] w (zr w0 r q t w (zd (some [114,101,116,117,114,110]) (some [59,10]))):=by
 have hmf:∀(fn:Fn) (first cap:Array Value) (w:World),(Instr.makeFunc fn first cap).run Tryz.prog w=.ok (.func fn first cap) w:=fun _ _ _ _=>rfl
 obtain ⟨R,hR⟩:∃R,R=zd (some [114,101,116,117,114,110]) (some [59,10]):=⟨_,rfl⟩;rw [←hR];obtain ⟨w1,hw1⟩:∃w1,w1=stW w r 6 s be 0 ce bb mb cb bl ml cl line D:=⟨_,rfl⟩;obtain ⟨hb1,hsz1,e0,e1,e2⟩:=xJ w r 6 s be 0 ce bb mb cb bl ml cl line D;rw [←hw1] at hb1 hsz1 e0 e1 e2;have hW1:=h.below hb1;have HL1:Hid (zu r q w w1 q w1):=zu.start h hb1;have HP1:Hid (w1.heap[w.heap.size]?=some (.cells #[.pointer (some ⟨r,0,none⟩)] 85 (0,0))∧w1.heap[w.heap.size+1]?=some (VC 6 s be 0 ce bb mb cb bl ml cl line)∧w1.heap[w.heap.size+2]?=some (.cells #[.int .i64 D] 3 (0,0))):=⟨e0,e1,e2⟩;have ci:=xo 6 s es be 0 ce bb mb cb bl ml cl line w0.heap.size w1 (hes.kept hW1.env fun _ _ h=>ZJ.kept h hW1.env) hW1.env.size
 rw [hst] at ci;have HW1:Hid (zH w0 r q t w1):=hW1;have hw1':=hw1.symm;have b0:=zg e0;obtain ⟨c0,c1,c2,c3,c4,c5⟩:=zF e1;have b2:=zg e2;have hD0:(0:Int)<D:=by omega
 have HR:Hid (R=zd (some [114,101,116,117,114,110]) (some [59,10])):=hR;clear hR hW1 e0 e1 e2 hw1 hb1 h hes hst _hT _hX
 go_enter Tryz.func142,Tryz.ntmps142
 go_wp2_with fail
 refine ci.mono ?_;clear ci b0 b2 c0 c1 c2 c3 c4 c5;rintro e w2 ⟨rfl,hb2⟩;have HL2:Hid (zu r q w w1 q w2):=HL1.out.step (zX.below hb2);have HW2:Hid (zH w0 r q t w2):=HW1.out.below hb2;clear hb2;have ca:=Zi true w2;have b0:=zg ((HL2.out.block (w.heap.size) (Nat.le_refl _) (by omega)).trans HP1.out.1)
 obtain ⟨c0,c1,c2,c3,c4,c5⟩:=zF ((HL2.out.block (w.heap.size+1) (by omega) (by omega)).trans HP1.out.2.1)
 have b2:=zg ((HL2.out.block (w.heap.size+2) (by omega) (by omega)).trans HP1.out.2.2)
 go_wp2_with fail
 refine ca.mono ?_;clear ca;rintro e w3 ⟨rfl,rfl⟩;simp only [xY];have HL3:Hid (zu r q w w1 q w3):=HL2.out;have HW3:Hid (zH w0 r q t w3):=HW2.out;clear HL1 HW1 HL2 HW2;have cp:=zE w0 r q (t) [114,101,116,117,114,110] w3 HW3.out (by simp)
 go_wp2_with fail
 refine cp.mono ?_;clear cp b0 b2 c0 c1 c2 c3 c4 c5;rintro e w4 ⟨q4,hto4,rfl,hw4⟩;have HL4:Hid (zu r q w w1 q4 w4):=HL3.out.step hto4;have HW4:Hid (zH w0 r q4 (t++[114,101,116,117,114,110]) w4):=hw4;clear hto4 hw4;have b0:=zg ((HL4.out.block (w.heap.size) (Nat.le_refl _) (by omega)).trans HP1.out.1)
 obtain ⟨c0,c1,c2,c3,c4,c5⟩:=zF ((HL4.out.block (w.heap.size+1) (by omega) (by omega)).trans HP1.out.2.1)
 have b2:=zg ((HL4.out.block (w.heap.size+2) (by omega) (by omega)).trans HP1.out.2.2)
 go_wp2_with fail
 go_loopw [54] (fun i wr=>i=.int .i64 0∧zu r q w w1 q4 wr∧zH w0 r q4 (t++[114,101,116,117,114,110]) wr) (fun _ _=>0)
 case atStart=>exact ⟨rfl,HL4.out,HW4.out⟩
 case round =>
  obtain ⟨rfl,hL,hwr⟩:=hrel;clear b0 b2 c0 c1 c2 c3 c4 c5 HL3 HW3 HL4 HW4;have HL4:Hid (zu r q w w1 q4 wr):=hL;have b0:=zg ((hL.block (w.heap.size) (Nat.le_refl _) (by omega)).trans HP1.out.1)
  have cp:=zE w0 r q4 (t++[114,101,116,117,114,110]) [59,10] wr hwr (by simp)
  clear hL hwr;go_wp2_with fail
  refine cp.mono ?_;clear cp b0;rintro e w5 ⟨q5,hto5,rfl,hw5⟩;obtain rfl:R=some ([114,101,116,117,114,110]++[59,10]):=HR.out;have HP:Hid (zr w0 r q t w (some ([114,101,116,117,114,110]++[59,10])) (.returned (.tuple #[])) w5):=⟨q5,(HL4.out.step hto5).unto,rfl,by simpa only [List.append_assoc] using hw5⟩
  clear hto5 hw5 HL4 HR HP1;go_wp2
  exact bodyPost_ret (v:=.tuple #[]) (by simp [results,Tryz.results142,go_sem]) rfl HP.out
theorem zg5 (w0:World) (d:Nat) (D:Int) (hD:D-1=(d:Int)) (_hD1:1≤D) (hD2:D≤24) (_hT:ZV w0) (hX:Yx w0 d) (s:List UInt8) (ce:Nat) (bb:Option Addr) (mb cb:Nat) (bl:Option Addr) (ml cl:Nat) (line:Int) (b o:Nat) (x:Ez) (g01:Int) (g02:List UInt8) (g03:Int) (g04:Option Addr) (g05 g06:Nat) (g07:Int) (hx0:ZJ w0.heap.size w0 x (Ye g01 g02 g03 g04 g05 g06 g07)) (hkid0:yI w0 b (o+0*5) g01 g02 g03 g04 g05 g06 g07) (es:List Ez) (hes:ZB (EzC w0.heap.size w0) 5 w0.heap.size w0 es (some ⟨b,o,none⟩) 1 ce) (r:Nat) (q:Option Nat) (t:List UInt8) (w:World) (h:zH w0 r q t w) (hst:XT 6 s es mb ml=true) :
  Calls Tryz.prog 142 #[.pointer (some ⟨r,0,none⟩),QX 6 s (some ⟨b,o,none⟩) 1 ce bb mb cb bl ml cl line,.int .i64 D] w (zr w0 r q t w (zd (some [114,101,116,117,114,110]) (zd (some [32]) (zd (prE d x) (some [59,10]))))):=by
 have hmf:∀(fn:Fn) (first cap:Array Value) (w:World),(Instr.makeFunc fn first cap).run Tryz.prog w=.ok (.func fn first cap) w:=fun _ _ _ _=>rfl
 obtain ⟨R,hR⟩:∃R,R=zd (some [114,101,116,117,114,110]) (zd (some [32]) (zd (prE d x) (some [59,10]))):=⟨_,rfl⟩;rw [←hR];obtain ⟨w1,hw1⟩:∃w1,w1=stW w r 6 s (some ⟨b,o,none⟩) 1 ce bb mb cb bl ml cl line D:=⟨_,rfl⟩;obtain ⟨hb1,hsz1,e0,e1,e2⟩:=xJ w r 6 s (some ⟨b,o,none⟩) 1 ce bb mb cb bl ml cl line D;rw [←hw1] at hb1 hsz1 e0 e1 e2;have hW1:=h.below hb1;have HL1:Hid (zu r q w w1 q w1):=zu.start h hb1;have HP1:Hid (w1.heap[w.heap.size]?=some (.cells #[.pointer (some ⟨r,0,none⟩)] 85 (0,0))∧w1.heap[w.heap.size+1]?=some (VC 6 s (some ⟨b,o,none⟩) 1 ce bb mb cb bl ml cl line)∧w1.heap[w.heap.size+2]?=some (.cells #[.int .i64 D] 3 (0,0))):=⟨e0,e1,e2⟩;have ci:=xo 6 s es (some ⟨b,o,none⟩) 1 ce bb mb cb bl ml cl line w0.heap.size w1 (hes.kept hW1.env fun _ _ h=>ZJ.kept h hW1.env) hW1.env.size
 rw [hst] at ci;have HW1:Hid (zH w0 r q t w1):=hW1;have hw1':=hw1.symm;have b0:=zg e0;obtain ⟨c0,c1,c2,c3,c4,c5⟩:=zF e1;have b2:=zg e2;have hD0:(0:Int)<D:=by omega
 have HK0:Hid (∀(q:Option Nat) (t:List UInt8) (w:World),zH w0 r q t w→Calls Tryz.prog 42 #[.pointer (some ⟨r,0,none⟩),Ye g01 g02 g03 g04 g05 g06 g07,.int .i64 (d:Int)] w (zr w0 r q t w (prE d x))):=fun q t w h=>hX _ _ r q t w hx0 h
 have HKI:Hid (yI w0 b (o+0*5) g01 g02 g03 g04 g05 g06 g07):=hkid0;generalize prE d x=X0 at *;have HR:Hid (R=zd (some [114,101,116,117,114,110]) (zd (some [32]) (zd X0 (some [59,10])))):=hR;clear hR hW1 e0 e1 e2 hw1 hb1 h hes hst _hT hX hx0 hkid0
 go_enter Tryz.func142,Tryz.ntmps142
 go_wp2_with fail
 refine ci.mono ?_;clear ci b0 b2 c0 c1 c2 c3 c4 c5;rintro e w2 ⟨rfl,hb2⟩;have HL2:Hid (zu r q w w1 q w2):=HL1.out.step (zX.below hb2);have HW2:Hid (zH w0 r q t w2):=HW1.out.below hb2;clear hb2;have ca:=Zi true w2;have b0:=zg ((HL2.out.block (w.heap.size) (Nat.le_refl _) (by omega)).trans HP1.out.1)
 obtain ⟨c0,c1,c2,c3,c4,c5⟩:=zF ((HL2.out.block (w.heap.size+1) (by omega) (by omega)).trans HP1.out.2.1)
 have b2:=zg ((HL2.out.block (w.heap.size+2) (by omega) (by omega)).trans HP1.out.2.2)
 go_wp2_with fail
 refine ca.mono ?_;clear ca;rintro e w3 ⟨rfl,rfl⟩;simp only [xY];have HL3:Hid (zu r q w w1 q w3):=HL2.out;have HW3:Hid (zH w0 r q t w3):=HW2.out;clear HL1 HW1 HL2 HW2;have cp:=zE w0 r q (t) [114,101,116,117,114,110] w3 HW3.out (by simp)
 go_wp2_with fail
 refine cp.mono ?_;clear cp b0 b2 c0 c1 c2 c3 c4 c5;rintro e w4 ⟨q4,hto4,rfl,hw4⟩;have HL4:Hid (zu r q w w1 q4 w4):=HL3.out.step hto4;have HW4:Hid (zH w0 r q4 (t++[114,101,116,117,114,110]) w4):=hw4;clear hto4 hw4;have b0:=zg ((HL4.out.block (w.heap.size) (Nat.le_refl _) (by omega)).trans HP1.out.1)
 obtain ⟨c0,c1,c2,c3,c4,c5⟩:=zF ((HL4.out.block (w.heap.size+1) (by omega) (by omega)).trans HP1.out.2.1)
 have b2:=zg ((HL4.out.block (w.heap.size+2) (by omega) (by omega)).trans HP1.out.2.2)
 go_wp2_with fail
 go_loopw [54] (fun i wr=>∃(k:Nat) (q1:Option Nat) (s1:List UInt8),k≤1∧i=.int .i64 k∧zu r q w w1 q1 wr∧(if k=0 then some [] else zd (some [32]) X0)=some s1∧zH w0 r q1 (t++[114,101,116,117,114,110]++s1) wr) (fun i _=>1-(intOf i).toNat)
 case atStart=>exact ⟨0,q4,[],Nat.zero_le _,rfl,HL4.out,rfl,by rw [List.append_nil];exact HW4.out⟩
 case round =>
  obtain ⟨k,q1,s1,hk,rfl,hL,hs1,hwr⟩:=hrel;clear b0 b2 c0 c1 c2 c3 c4 c5 HL3 HW3 HL4 HW4
  by_cases hlt:k<1
  ·obtain rfl:k=0:=by omega
   obtain rfl:s1=[]:=by simpa using hs1.symm
   clear hs1;rw [List.append_nil] at hwr;obtain ⟨n0,n1,n2,n3,n4⟩:=HKI.out.now hwr.env;rw [Nat.zero_mul,Nat.add_zero] at n0 n1 n2 n3 n4;obtain ⟨w5,hw5⟩:∃w5,w5=wr.alloc (Y3 g01 g02 g03 g04 g05 g06 g07):=⟨_,rfl⟩;have p5:w5.heap[wr.heap.size]?=some (Y3 g01 g02 g03 g04 g05 g06 g07):=by rw [hw5];exact World.alloc_heap_new wr _
   have hsz5:w5.heap.size=wr.heap.size+1:=by rw [hw5];simp
   have hb5:Below wr.heap.size wr w5:=by rw [hw5];exact (Below.refl _ wr).alloc (Nat.le_refl _) _
   have HL5:Hid (zu r q w w1 q1 w5):=hL.step (zX.below hb5);have HW5:Hid (zH w0 r q1 (t++[114,101,116,117,114,110]) w5):=hwr.below hb5;have HP5:Hid (w5.heap[wr.heap.size]?=some (Y3 g01 g02 g03 g04 g05 g06 g07)):=p5;have hrlt:=hwr.lt.1;have hqlt:=hwr.lt.2;have b0:=zg ((HL5.out.block (w.heap.size) (Nat.le_refl _) (by omega)).trans HP1.out.1)
   have b2:=zg ((HL5.out.block (w.heap.size+2) (by omega) (by omega)).trans HP1.out.2.2)
   have b0':=zg ((hL.block (w.heap.size) (Nat.le_refl _) (by omega)).trans HP1.out.1)
   have b2':=zg ((hL.block (w.heap.size+2) (by omega) (by omega)).trans HP1.out.2.2)
   obtain ⟨d0,d1,d2,d3,d4⟩:=zK p5;have cp:=zE w0 r q1 (t++[114,101,116,117,114,110]) [32] w5 HW5.out (by simp)
   have hw5':=hw5.symm;clear hL hwr hb5 hw5 p5;go_wp2_with fail
   refine cp.mono ?_;clear cp b0 b2 b0' b2' d0 d1 d2 d3 d4 n0 n1 n2 n3 n4;rintro e w6 ⟨q6,hto6,rfl,hw6⟩;have hsame:w6.heap[wr.heap.size]?=w5.heap[wr.heap.size]?:=hto6.block _ (by omega) (by omega) (fun e=>by have:=hqlt _ e;omega)
   obtain ⟨d0,d1,d2,d3,d4⟩:=zK (hsame.trans HP5.out);have HL6:Hid (zu r q w w1 q6 w6):=HL5.out.step hto6;have b0:=zg ((HL6.out.block (w.heap.size) (Nat.le_refl _) (by omega)).trans HP1.out.1)
   have b2:=zg ((HL6.out.block (w.heap.size+2) (by omega) (by omega)).trans HP1.out.2.2)
   have cp:=HK0.out q6 (t++[114,101,116,117,114,110]++[32]) w6 hw6;clear hto6 hw6 hsame;go_wp2_with fail
   refine cp.mono ?_;clear cp b0 b2 d0 d1 d2 d3 d4;rintro e w7 ⟨q7,hto7,hp7⟩;cases X0 with
   | none=>subst hp7;obtain rfl:R=none:=HR.out;exact ⟨rfl,q7,(HL6.out.step hto7).unto,rfl⟩
   | some u0 =>
   obtain ⟨rfl,hw7⟩:=hp7;have HNXT:Hid (∃(k':Nat) (q':Option Nat) (s':List UInt8),k'=1∧zu r q w w1 q' w7∧(if k'=0 then some [] else zd (some [32]) (some u0))=some s'∧zH w0 r q' (t++[114,101,116,117,114,110]++s') w7):=⟨1,q7,[32]++u0,rfl,HL6.out.step hto7,rfl,by rw [←List.append_assoc];exact hw7⟩
   clear hto7 hw7 HL5 HL6 HW5 HP5 HK0;go_wp2
   obtain ⟨k',q',s',rfl,h1,h2,h3⟩:=HNXT.out;exact ⟨⟨1,q',s',by omega,by go_num,h1,h2,h3⟩,by simp [intOf]⟩
  ·obtain rfl:k=1:=by omega
   have HL4:Hid (zu r q w w1 q1 wr):=hL;have b0:=zg ((hL.block (w.heap.size) (Nat.le_refl _) (by omega)).trans HP1.out.1)
   have cp:=zE w0 r q1 (t++[114,101,116,117,114,110]++s1) [59,10] wr hwr (by simp)
   have HS1:Hid (zd (some [32]) X0=some s1):=show _=_ by simpa using hs1
   clear hL hwr hs1;go_wp2_with fail
   refine cp.mono ?_;clear cp b0;rintro e w5 ⟨q5,hto5,rfl,hw5⟩
   have hRR:R=some ([114,101,116,117,114,110]++(s1++[59,10])):=by
    rw [HR.out,←Uq (some [32]),HS1.out];rfl
   subst hRR;have HP:Hid (zr w0 r q t w (some ([114,101,116,117,114,110]++(s1++[59,10]))) (.returned (.tuple #[])) w5):=⟨q5,(HL4.out.step hto5).unto,rfl,by simpa only [List.append_assoc] using hw5⟩
   clear hto5 hw5 HL4 HR HP1 HS1 HK0 HKI;go_wp2
   exact bodyPost_ret (v:=.tuple #[]) (by simp [results,Tryz.results142,go_sem]) rfl HP.out
theorem zh6 (w0:World) (d:Nat) (D:Int) (hD:D-1=(d:Int)) (_hD1:1≤D) (hD2:D≤24) (_hT:ZV w0) (_hX:Yx w0 d) (s:List UInt8) (be:Option Addr) (me ce:Nat) (bb:Option Addr) (mb cb:Nat) (bl:Option Addr) (ml cl:Nat) (line:Int) (es:List Ez) (hes:ZB (EzC w0.heap.size w0) 5 w0.heap.size w0 es be me ce) (r:Nat) (q:Option Nat) (t:List UInt8) (w:World) (h:zH w0 r q t w) (hst:XT 3 s es mb ml=true) (X:Option (List UInt8)) (hS:Hid (∀(q:Option Nat) (t:List UInt8) (w:World),zH w0 r q t w→Calls Tryz.prog 175 #[.pointer (some ⟨r,0,none⟩),QX 3 s be me ce bb mb cb bl ml cl line,.int .i64 D] w (zr w0 r q t w X))) :
  Calls Tryz.prog 142 #[.pointer (some ⟨r,0,none⟩),QX 3 s be me ce bb mb cb bl ml cl line,.int .i64 D] w (zr w0 r q t w (X)):=by
 have hmf:∀(fn:Fn) (first cap:Array Value) (w:World),(Instr.makeFunc fn first cap).run Tryz.prog w=.ok (.func fn first cap) w:=fun _ _ _ _=>rfl
 obtain ⟨R,hR⟩:∃R,R=X:=⟨_,rfl⟩;rw [←hR];obtain ⟨w1,hw1⟩:∃w1,w1=stW w r 3 s be me ce bb mb cb bl ml cl line D:=⟨_,rfl⟩;obtain ⟨hb1,hsz1,e0,e1,e2⟩:=xJ w r 3 s be me ce bb mb cb bl ml cl line D;rw [←hw1] at hb1 hsz1 e0 e1 e2;have hW1:=h.below hb1;have HL1:Hid (zu r q w w1 q w1):=zu.start h hb1;have HP1:Hid (w1.heap[w.heap.size]?=some (.cells #[.pointer (some ⟨r,0,none⟩)] 85 (0,0))∧w1.heap[w.heap.size+1]?=some (VC 3 s be me ce bb mb cb bl ml cl line)∧w1.heap[w.heap.size+2]?=some (.cells #[.int .i64 D] 3 (0,0))):=⟨e0,e1,e2⟩;have ci:=xo 3 s es be me ce bb mb cb bl ml cl line w0.heap.size w1 (hes.kept hW1.env fun _ _ h=>ZJ.kept h hW1.env) hW1.env.size
 rw [hst] at ci;have HW1:Hid (zH w0 r q t w1):=hW1;have hw1':=hw1.symm;have b0:=zg e0;obtain ⟨c0,c1,c2,c3,c4,c5⟩:=zF e1;have b2:=zg e2;have hD0:(0:Int)<D:=by omega
 have HK0:=hS;clear hS;generalize X=X0 at *;have HR:Hid (R=X0):=hR;clear hR hW1 e0 e1 e2 hw1 hb1 h hes hst _hT _hX
 go_enter Tryz.func142,Tryz.ntmps142
 go_wp2_with fail
 refine ci.mono ?_;clear ci b0 b2 c0 c1 c2 c3 c4 c5;rintro e w2 ⟨rfl,hb2⟩;have HL2:Hid (zu r q w w1 q w2):=HL1.out.step (zX.below hb2);have HW2:Hid (zH w0 r q t w2):=HW1.out.below hb2;clear hb2;have ca:=Zi true w2;have b0:=zg ((HL2.out.block (w.heap.size) (Nat.le_refl _) (by omega)).trans HP1.out.1)
 obtain ⟨c0,c1,c2,c3,c4,c5⟩:=zF ((HL2.out.block (w.heap.size+1) (by omega) (by omega)).trans HP1.out.2.1)
 have b2:=zg ((HL2.out.block (w.heap.size+2) (by omega) (by omega)).trans HP1.out.2.2)
 go_wp2_with fail
 refine ca.mono ?_;clear ca;rintro e w3 ⟨rfl,rfl⟩;simp only [xY];have HL3:Hid (zu r q w w1 q w3):=HL2.out;have HW3:Hid (zH w0 r q t w3):=HW2.out;clear HL1 HW1 HL2 HW2;have cp:=HK0.out q (t) w3 HW3.out;go_wp2_with fail
 refine cp.mono ?_;clear cp b0 b2 c0 c1 c2 c3 c4 c5;rintro e w4 ⟨q4,hto4,hp4⟩;cases X0 with
 | none=>subst hp4;obtain rfl:R=none:=HR.out;exact ⟨rfl,q4,(HL3.out.step hto4).unto,rfl⟩
 | some u0 =>
 obtain ⟨rfl,hw4⟩:=hp4;have HL4:Hid (zu r q w w1 q4 w4):=HL3.out.step hto4;have HW4:Hid (zH w0 r q4 (t++u0) w4):=hw4;clear hto4 hw4;have b0:=zg ((HL4.out.block (w.heap.size) (Nat.le_refl _) (by omega)).trans HP1.out.1)
 obtain ⟨c0,c1,c2,c3,c4,c5⟩:=zF ((HL4.out.block (w.heap.size+1) (by omega) (by omega)).trans HP1.out.2.1)
 have b2:=zg ((HL4.out.block (w.heap.size+2) (by omega) (by omega)).trans HP1.out.2.2)
 obtain rfl:R=some (u0):=HR.out;have HP:Hid (zr w0 r q t w (some (u0)) (.returned (.tuple #[])) w4):=⟨q4,HL4.out.unto,rfl,by have:=HW4.out;simpa only [List.append_assoc] using this⟩
 clear HL3 HW3 HL4 HW4 b0 b2 c0 c1 c2 c3 c4 c5 HK0 HR HP1;go_wp2
 exact bodyPost_ret (v:=.tuple #[]) (by simp [results,Tryz.results142,go_sem]) rfl HP.out
theorem zh7 (w0:World) (d:Nat) (D:Int) (hD:D-1=(d:Int)) (_hD1:1≤D) (hD2:D≤24) (_hT:ZV w0) (_hX:Yx w0 d) (s:List UInt8) (be:Option Addr) (me ce:Nat) (bb:Option Addr) (mb cb:Nat) (bl:Option Addr) (ml cl:Nat) (line:Int) (es:List Ez) (hes:ZB (EzC w0.heap.size w0) 5 w0.heap.size w0 es be me ce) (r:Nat) (q:Option Nat) (t:List UInt8) (w:World) (h:zH w0 r q t w) (hst:XT 4 s es mb ml=true) (X:Option (List UInt8)) (hS:Hid (∀(q:Option Nat) (t:List UInt8) (w:World),zH w0 r q t w→Calls Tryz.prog 175 #[.pointer (some ⟨r,0,none⟩),QX 4 s be me ce bb mb cb bl ml cl line,.int .i64 D] w (zr w0 r q t w X))) :
  Calls Tryz.prog 142 #[.pointer (some ⟨r,0,none⟩),QX 4 s be me ce bb mb cb bl ml cl line,.int .i64 D] w (zr w0 r q t w (X)):=by
 have hmf:∀(fn:Fn) (first cap:Array Value) (w:World),(Instr.makeFunc fn first cap).run Tryz.prog w=.ok (.func fn first cap) w:=fun _ _ _ _=>rfl
 obtain ⟨R,hR⟩:∃R,R=X:=⟨_,rfl⟩;rw [←hR];obtain ⟨w1,hw1⟩:∃w1,w1=stW w r 4 s be me ce bb mb cb bl ml cl line D:=⟨_,rfl⟩;obtain ⟨hb1,hsz1,e0,e1,e2⟩:=xJ w r 4 s be me ce bb mb cb bl ml cl line D;rw [←hw1] at hb1 hsz1 e0 e1 e2;have hW1:=h.below hb1;have HL1:Hid (zu r q w w1 q w1):=zu.start h hb1;have HP1:Hid (w1.heap[w.heap.size]?=some (.cells #[.pointer (some ⟨r,0,none⟩)] 85 (0,0))∧w1.heap[w.heap.size+1]?=some (VC 4 s be me ce bb mb cb bl ml cl line)∧w1.heap[w.heap.size+2]?=some (.cells #[.int .i64 D] 3 (0,0))):=⟨e0,e1,e2⟩;have ci:=xo 4 s es be me ce bb mb cb bl ml cl line w0.heap.size w1 (hes.kept hW1.env fun _ _ h=>ZJ.kept h hW1.env) hW1.env.size
 rw [hst] at ci;have HW1:Hid (zH w0 r q t w1):=hW1;have hw1':=hw1.symm;have b0:=zg e0;obtain ⟨c0,c1,c2,c3,c4,c5⟩:=zF e1;have b2:=zg e2;have hD0:(0:Int)<D:=by omega
 have HK0:=hS;clear hS;generalize X=X0 at *;have HR:Hid (R=X0):=hR;clear hR hW1 e0 e1 e2 hw1 hb1 h hes hst _hT _hX
 go_enter Tryz.func142,Tryz.ntmps142
 go_wp2_with fail
 refine ci.mono ?_;clear ci b0 b2 c0 c1 c2 c3 c4 c5;rintro e w2 ⟨rfl,hb2⟩;have HL2:Hid (zu r q w w1 q w2):=HL1.out.step (zX.below hb2);have HW2:Hid (zH w0 r q t w2):=HW1.out.below hb2;clear hb2;have ca:=Zi true w2;have b0:=zg ((HL2.out.block (w.heap.size) (Nat.le_refl _) (by omega)).trans HP1.out.1)
 obtain ⟨c0,c1,c2,c3,c4,c5⟩:=zF ((HL2.out.block (w.heap.size+1) (by omega) (by omega)).trans HP1.out.2.1)
 have b2:=zg ((HL2.out.block (w.heap.size+2) (by omega) (by omega)).trans HP1.out.2.2)
 go_wp2_with fail
 refine ca.mono ?_;clear ca;rintro e w3 ⟨rfl,rfl⟩;simp only [xY];have HL3:Hid (zu r q w w1 q w3):=HL2.out;have HW3:Hid (zH w0 r q t w3):=HW2.out;clear HL1 HW1 HL2 HW2;have cp:=HK0.out q (t) w3 HW3.out;go_wp2_with fail
 refine cp.mono ?_;clear cp b0 b2 c0 c1 c2 c3 c4 c5;rintro e w4 ⟨q4,hto4,hp4⟩;cases X0 with
 | none=>subst hp4;obtain rfl:R=none:=HR.out;exact ⟨rfl,q4,(HL3.out.step hto4).unto,rfl⟩
 | some u0 =>
 obtain ⟨rfl,hw4⟩:=hp4;have HL4:Hid (zu r q w w1 q4 w4):=HL3.out.step hto4;have HW4:Hid (zH w0 r q4 (t++u0) w4):=hw4;clear hto4 hw4;have b0:=zg ((HL4.out.block (w.heap.size) (Nat.le_refl _) (by omega)).trans HP1.out.1)
 obtain ⟨c0,c1,c2,c3,c4,c5⟩:=zF ((HL4.out.block (w.heap.size+1) (by omega) (by omega)).trans HP1.out.2.1)
 have b2:=zg ((HL4.out.block (w.heap.size+2) (by omega) (by omega)).trans HP1.out.2.2)
 obtain rfl:R=some (u0):=HR.out;have HP:Hid (zr w0 r q t w (some (u0)) (.returned (.tuple #[])) w4):=⟨q4,HL4.out.unto,rfl,by have:=HW4.out;simpa only [List.append_assoc] using this⟩
 clear HL3 HW3 HL4 HW4 b0 b2 c0 c1 c2 c3 c4 c5 HK0 HR HP1;go_wp2
 exact bodyPost_ret (v:=.tuple #[]) (by simp [results,Tryz.results142,go_sem]) rfl HP.out
theorem zh8 (w0:World) (d:Nat) (D:Int) (hD:D-1=(d:Int)) (_hD1:1≤D) (hD2:D≤24) (_hT:ZV w0) (_hX:Yx w0 d) (s:List UInt8) (be:Option Addr) (me ce:Nat) (bb:Option Addr) (mb cb:Nat) (bl:Option Addr) (ml cl:Nat) (line:Int) (es:List Ez) (hes:ZB (EzC w0.heap.size w0) 5 w0.heap.size w0 es be me ce) (r:Nat) (q:Option Nat) (t:List UInt8) (w:World) (h:zH w0 r q t w) (hst:XT 5 s es mb ml=true) (X:Option (List UInt8)) (hS:Hid (∀(q:Option Nat) (t:List UInt8) (w:World),zH w0 r q t w→Calls Tryz.prog 175 #[.pointer (some ⟨r,0,none⟩),QX 5 s be me ce bb mb cb bl ml cl line,.int .i64 D] w (zr w0 r q t w X))) :
  Calls Tryz.prog 142 #[.pointer (some ⟨r,0,none⟩),QX 5 s be me ce bb mb cb bl ml cl line,.int .i64 D] w (zr w0 r q t w (X)):=by
 have hmf:∀(fn:Fn) (first cap:Array Value) (w:World),(Instr.makeFunc fn first cap).run Tryz.prog w=.ok (.func fn first cap) w:=fun _ _ _ _=>rfl
 obtain ⟨R,hR⟩:∃R,R=X:=⟨_,rfl⟩;rw [←hR];obtain ⟨w1,hw1⟩:∃w1,w1=stW w r 5 s be me ce bb mb cb bl ml cl line D:=⟨_,rfl⟩;obtain ⟨hb1,hsz1,e0,e1,e2⟩:=xJ w r 5 s be me ce bb mb cb bl ml cl line D;rw [←hw1] at hb1 hsz1 e0 e1 e2;have hW1:=h.below hb1;have HL1:Hid (zu r q w w1 q w1):=zu.start h hb1;have HP1:Hid (w1.heap[w.heap.size]?=some (.cells #[.pointer (some ⟨r,0,none⟩)] 85 (0,0))∧w1.heap[w.heap.size+1]?=some (VC 5 s be me ce bb mb cb bl ml cl line)∧w1.heap[w.heap.size+2]?=some (.cells #[.int .i64 D] 3 (0,0))):=⟨e0,e1,e2⟩;have ci:=xo 5 s es be me ce bb mb cb bl ml cl line w0.heap.size w1 (hes.kept hW1.env fun _ _ h=>ZJ.kept h hW1.env) hW1.env.size
 rw [hst] at ci;have HW1:Hid (zH w0 r q t w1):=hW1;have hw1':=hw1.symm;have b0:=zg e0;obtain ⟨c0,c1,c2,c3,c4,c5⟩:=zF e1;have b2:=zg e2;have hD0:(0:Int)<D:=by omega
 have HK0:=hS;clear hS;generalize X=X0 at *;have HR:Hid (R=X0):=hR;clear hR hW1 e0 e1 e2 hw1 hb1 h hes hst _hT _hX
 go_enter Tryz.func142,Tryz.ntmps142
 go_wp2_with fail
 refine ci.mono ?_;clear ci b0 b2 c0 c1 c2 c3 c4 c5;rintro e w2 ⟨rfl,hb2⟩;have HL2:Hid (zu r q w w1 q w2):=HL1.out.step (zX.below hb2);have HW2:Hid (zH w0 r q t w2):=HW1.out.below hb2;clear hb2;have ca:=Zi true w2;have b0:=zg ((HL2.out.block (w.heap.size) (Nat.le_refl _) (by omega)).trans HP1.out.1)
 obtain ⟨c0,c1,c2,c3,c4,c5⟩:=zF ((HL2.out.block (w.heap.size+1) (by omega) (by omega)).trans HP1.out.2.1)
 have b2:=zg ((HL2.out.block (w.heap.size+2) (by omega) (by omega)).trans HP1.out.2.2)
 go_wp2_with fail
 refine ca.mono ?_;clear ca;rintro e w3 ⟨rfl,rfl⟩;simp only [xY];have HL3:Hid (zu r q w w1 q w3):=HL2.out;have HW3:Hid (zH w0 r q t w3):=HW2.out;clear HL1 HW1 HL2 HW2;have cp:=HK0.out q (t) w3 HW3.out;go_wp2_with fail
 refine cp.mono ?_;clear cp b0 b2 c0 c1 c2 c3 c4 c5;rintro e w4 ⟨q4,hto4,hp4⟩;cases X0 with
 | none=>subst hp4;obtain rfl:R=none:=HR.out;exact ⟨rfl,q4,(HL3.out.step hto4).unto,rfl⟩
 | some u0 =>
 obtain ⟨rfl,hw4⟩:=hp4;have HL4:Hid (zu r q w w1 q4 w4):=HL3.out.step hto4;have HW4:Hid (zH w0 r q4 (t++u0) w4):=hw4;clear hto4 hw4;have b0:=zg ((HL4.out.block (w.heap.size) (Nat.le_refl _) (by omega)).trans HP1.out.1)
 obtain ⟨c0,c1,c2,c3,c4,c5⟩:=zF ((HL4.out.block (w.heap.size+1) (by omega) (by omega)).trans HP1.out.2.1)
 have b2:=zg ((HL4.out.block (w.heap.size+2) (by omega) (by omega)).trans HP1.out.2.2)
 obtain rfl:R=some (u0):=HR.out;have HP:Hid (zr w0 r q t w (some (u0)) (.returned (.tuple #[])) w4):=⟨q4,HL4.out.unto,rfl,by have:=HW4.out;simpa only [List.append_assoc] using this⟩
 clear HL3 HW3 HL4 HW4 b0 b2 c0 c1 c2 c3 c4 c5 HK0 HR HP1;go_wp2
 exact bodyPost_ret (v:=.tuple #[]) (by simp [results,Tryz.results142,go_sem]) rfl HP.out
theorem zh9 (w0:World) (d:Nat) (D:Int) (hD:D-1=(d:Int)) (_hD1:1≤D) (hD2:D≤24) (_hT:ZV w0) (_hX:Yx w0 d) (s:List UInt8) (be:Option Addr) (me ce:Nat) (bb:Option Addr) (mb cb:Nat) (bl:Option Addr) (ml cl:Nat) (line:Int) (es:List Ez) (hes:ZB (EzC w0.heap.size w0) 5 w0.heap.size w0 es be me ce) (r:Nat) (q:Option Nat) (t:List UInt8) (w:World) (h:zH w0 r q t w) (k:Int) (hst:XT k s es mb ml=false) :
  Calls Tryz.prog 142 #[.pointer (some ⟨r,0,none⟩),QX k s be me ce bb mb cb bl ml cl line,.int .i64 D] w (zr w0 r q t w ((none:Option (List UInt8)))):=by
 have hmf:∀(fn:Fn) (first cap:Array Value) (w:World),(Instr.makeFunc fn first cap).run Tryz.prog w=.ok (.func fn first cap) w:=fun _ _ _ _=>rfl
 obtain ⟨R,hR⟩:∃R,R=(none:Option (List UInt8)):=⟨_,rfl⟩;rw [←hR];obtain ⟨w1,hw1⟩:∃w1,w1=stW w r k s be me ce bb mb cb bl ml cl line D:=⟨_,rfl⟩;obtain ⟨hb1,hsz1,e0,e1,e2⟩:=xJ w r k s be me ce bb mb cb bl ml cl line D;rw [←hw1] at hb1 hsz1 e0 e1 e2;have hW1:=h.below hb1;have HL1:Hid (zu r q w w1 q w1):=zu.start h hb1;have HP1:Hid (w1.heap[w.heap.size]?=some (.cells #[.pointer (some ⟨r,0,none⟩)] 85 (0,0))∧w1.heap[w.heap.size+1]?=some (VC k s be me ce bb mb cb bl ml cl line)∧w1.heap[w.heap.size+2]?=some (.cells #[.int .i64 D] 3 (0,0))):=⟨e0,e1,e2⟩;have ci:=xo k s es be me ce bb mb cb bl ml cl line w0.heap.size w1 (hes.kept hW1.env fun _ _ h=>ZJ.kept h hW1.env) hW1.env.size
 rw [hst] at ci;have HW1:Hid (zH w0 r q t w1):=hW1;have hw1':=hw1.symm;have b0:=zg e0;obtain ⟨c0,c1,c2,c3,c4,c5⟩:=zF e1;have b2:=zg e2;have hD0:(0:Int)<D:=by omega
 have HR:Hid (R=none):=hR;clear hR hW1 e0 e1 e2 hw1 hb1 h hes hst _hT _hX
 go_enter Tryz.func142,Tryz.ntmps142
 go_wp2_with fail
 refine ci.mono ?_;clear ci b0 b2 c0 c1 c2 c3 c4 c5;rintro e w2 ⟨rfl,hb2⟩;have HL2:Hid (zu r q w w1 q w2):=HL1.out.step (zX.below hb2);have HW2:Hid (zH w0 r q t w2):=HW1.out.below hb2;clear hb2;have ca:=Zi false w2;have b0:=zg ((HL2.out.block (w.heap.size) (Nat.le_refl _) (by omega)).trans HP1.out.1)
 obtain ⟨c0,c1,c2,c3,c4,c5⟩:=zF ((HL2.out.block (w.heap.size+1) (by omega) (by omega)).trans HP1.out.2.1)
 have b2:=zg ((HL2.out.block (w.heap.size+2) (by omega) (by omega)).trans HP1.out.2.2)
 go_wp2_with fail
 refine ca.mono ?_;clear ca;rintro e w3 ⟨rfl,rfl⟩;obtain rfl:=HR.out;exact ⟨rfl,q,HL2.out.unto,rfl⟩
theorem zf8 (w0:World) (k:Int) (s:List UInt8) (be:Option Addr) (me ce:Nat) (bb:Option Addr) (mb cb:Nat) (bl:Option Addr) (ml cl:Nat) (line:Int) (r:Nat) (q:Option Nat) (t:List UInt8) (w:World) (h:zH w0 r q t w) :
  Calls Tryz.prog 142 #[.pointer (some ⟨r,0,none⟩),QX k s be me ce bb mb cb bl ml cl line,.int .i64 0] w (zr w0 r q t w none):=by
 obtain ⟨w1,hw1⟩:∃w1,w1=stW w r k s be me ce bb mb cb bl ml cl line 0:=⟨_,rfl⟩;obtain ⟨hb1,hsz1,e0,e1,e2⟩:=xJ w r k s be me ce bb mb cb bl ml cl line 0;rw [←hw1] at hb1 hsz1 e0 e1 e2;have HL1:Hid (zu r q w w1 q w1):=zu.start h hb1;have hw1':=hw1.symm;have b2:=zg e2;have ca:=Zi false w1;clear hb1 e0 e1 e2 hw1 h
 go_enter Tryz.func142,Tryz.ntmps142
 go_wp2_with fail
 refine ca.mono ?_;clear ca;rintro e w3 ⟨rfl,rfl⟩;exact ⟨rfl,q,HL1.out.unto,rfl⟩
end Go.Proofs.YtpejpbbdgblbeaaGreatDoor
