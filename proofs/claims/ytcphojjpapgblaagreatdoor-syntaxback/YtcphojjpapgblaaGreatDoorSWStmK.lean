import Derived.Test.YtcphojjpapgblaaGreatDoorMC29
namespace Go.Proofs.YtcphojjpapgblaaGreatDoor
open Go.RowKit Go.Shelf
set_option maxHeartbeats 16000000
set_option maxRecDepth 100000
def zeh (w0:World) (d:Nat):Prop:=∀(fz:Nat) (l:List Sz) (base:Option Addr) (m cap r:Nat) (q:Option Nat) (t:List UInt8) (w:World),Zj (ZE w0.heap.size w0 fz) 6 w0.heap.size w0 l base m cap→zy w0 r q t w →
  Calls Tryz.prog 110 #[.pointer (some ⟨r,0,none⟩),.slice base m cap,.int .i64 (d:Int)] w (zn w0 r q t w (blkO (prS d) l))
def zij (w0:World) (d:Nat):Prop:=∀(fz:Nat) (x:Sz) (c:List Value) (r:Nat) (q:Option Nat) (t:List UInt8) (w:World),ZE w0.heap.size w0 fz x c→zy w0 r q t w →
  Calls Tryz.prog 140 #[.pointer (some ⟨r,0,none⟩),.agg c.toArray,.int .i64 (d:Int)] w (zn w0 r q t w (prS d x))
abbrev stW (w:World) (r:Nat) (k:Int) (s:List UInt8) (be:Option Addr) (me ce:Nat) (bb:Option Addr) (mb cb:Nat) (bl:Option Addr) (ml cl:Nat) (line D:Int):World:=((w.alloc (.cells #[.pointer (some ⟨r,0,none⟩)] 84)).alloc (vL k s be me ce bb mb cb bl ml cl line)).alloc (.cells #[.int .i64 D] 3)
theorem YU (w:World) (r:Nat) (k:Int) (s:List UInt8) (be:Option Addr) (me ce:Nat) (bb:Option Addr) (mb cb:Nat) (bl:Option Addr) (ml cl:Nat) (line D:Int) :
  Below w.heap.size w (stW w r k s be me ce bb mb cb bl ml cl line D)∧(stW w r k s be me ce bb mb cb bl ml cl line D).heap.size=w.heap.size+3∧(stW w r k s be me ce bb mb cb bl ml cl line D).heap[w.heap.size]?=some (.cells #[.pointer (some ⟨r,0,none⟩)] 84 (0,0))∧(stW w r k s be me ce bb mb cb bl ml cl line D).heap[w.heap.size+1]?=some (vL k s be me ce bb mb cb bl ml cl line)∧(stW w r k s be me ce bb mb cb bl ml cl line D).heap[w.heap.size+2]?=some (.cells #[.int .i64 D] 3 (0,0)):=by
 refine ⟨(((Below.refl _ w).alloc (Nat.le_refl _) _).alloc (by simp) _).alloc (by simp <;> omega) _,by simp,?_,?_,?_⟩
 ·rw [Below.heap_alloc _ _ _ (by simp <;> omega),Below.heap_alloc _ _ _ (by simp)];exact World.alloc_heap_new _ _
 ·rw [Below.heap_alloc _ _ _ (by simp)]
  have:=World.alloc_heap_new (w.alloc (.cells #[.pointer (some ⟨r,0,none⟩)] 84)) (vL k s be me ce bb mb cb bl ml cl line)
  simpa using this
 ·have:=World.alloc_heap_new ((w.alloc (.cells #[.pointer (some ⟨r,0,none⟩)] 84)).alloc (vL k s be me ce bb mb cb bl ml cl line)) (.cells #[.int .i64 D] 3)
  simpa using this
theorem zi5 (w0:World) (d:Nat) (D:Int) (hD:D-1=(d:Int)) (_hD1:1≤D) (hD2:D≤24) (hX:yO w0 d) (hB:zeh w0 d) (s:List UInt8) (ce:Nat) (bb:Option Addr) (mb cb:Nat) (bl:Option Addr) (ml cl:Nat) (line:Int) (x:Ez) (b o:Nat) (a1:Int) (a2:List UInt8) (a3:Int) (a4:Option Addr) (a5 a6:Nat) (a7:Int) (hx:Zl w0.heap.size w0 x (yp a1 a2 a3 a4 a5 a6 a7)) (hkid:ZW w0 b o a1 a2 a3 a4 a5 a6 a7) (fz:Nat) (body:List Sz) (hbody:Zj (ZE w0.heap.size w0 fz) 6 w0.heap.size w0 body bb mb cb) (r:Nat) (q:Option Nat) (t:List UInt8) (w:World) (h:zy w0 r q t w) :
  Calls Tryz.prog 173 #[.pointer (some ⟨r,0,none⟩),szV 5 s (some ⟨b,o,none⟩) 1 ce bb mb cb bl ml cl line,.int .i64 D] w (zn w0 r q t w (zd (some [119,104,105,108,101,32]) (zd (prE d x) (zd (some [32]) (zd (blkO (prS d) body) ((some [10]))))))):=by
 obtain ⟨R,hR⟩:∃R,R=zd (some [119,104,105,108,101,32]) (zd (prE d x) (zd (some [32]) (zd (blkO (prS d) body) ((some [10]))))):=⟨_,rfl⟩;rw [←hR];have af:Hid (∀(q:Option Nat) (t:List UInt8) (w:World),zy w0 r q t w→Calls Tryz.prog 40 #[.pointer (some ⟨r,0,none⟩),yp a1 a2 a3 a4 a5 a6 a7,.int .i64 (d:Int)] w (zn w0 r q t w (prE d x))):=fun q t w h=>hX _ _ r q t w hx h
 have ad:Hid (∀(q:Option Nat) (t:List UInt8) (w:World),zy w0 r q t w→Calls Tryz.prog 110 #[.pointer (some ⟨r,0,none⟩),.slice bb mb cb,.int .i64 (d:Int)] w (zn w0 r q t w (blkO (prS d) body))):=fun q t w h=>hB fz body bb mb cb r q t w hbody h
 have al:Hid (ZW w0 b o a1 a2 a3 a4 a5 a6 a7):=hkid;obtain ⟨w1,L⟩:∃w1,w1=w.alloc (vL 5 s (some ⟨b,o,none⟩) 1 ce bb mb cb bl ml cl line):=⟨_,rfl⟩;have W:Below w.heap.size w w1:=by rw [L];exact (Below.refl _ w).alloc (Nat.le_refl _) _
 have p1:w1.heap[w.heap.size]?=some (vL 5 s (some ⟨b,o,none⟩) 1 ce bb mb cb bl ml cl line):=by rw [L];exact World.alloc_heap_new w _
 have av:w1.heap.size=w.heap.size+1:=by rw [L];simp
 have ap:Hid (zp r q w w1 q w1):=zp.start h W;have aq:Hid (zy w0 r q t w1):=h.below W;have z:Hid (w1.heap[w.heap.size]?=some (vL 5 s (some ⟨b,o,none⟩) 1 ce bb mb cb bl ml cl line)):=p1;have au:=L.symm;obtain ⟨H,c1,c2,G,J,N⟩:=zv p1;generalize prE d x=X0 at *;generalize blkO (prS d) body=X1 at *;have HR:Hid (R=zd (some [119,104,105,108,101,32]) (zd X0 (zd (some [32]) (zd X1 ((some [10])))))):=hR;clear hR p1 L W h hX hB hx hkid hbody
 go_enter Tryz.func173,Tryz.ntmps173
 have y:=zw w0 r q (t) [119,104,105,108,101,32] w1 aq.out (by simp)
 go_wp2_with fail
 refine y.mono ?_;clear y H c1 c2 G J N;rintro e w2 ⟨q2,U,rfl,aj⟩;have O:Hid (zp r q w w1 q2 w2):=ap.out.step U;have X:Hid (zy w0 r q2 (t++[119,104,105,108,101,32]) w2):=aj;clear U aj;obtain ⟨H,c1,c2,G,J,N⟩:=zv ((O.out.block _ (Nat.le_refl _) (by omega)).trans z.out)
 obtain ⟨n0,n1,n2,n3,n4⟩:=al.out.now X.out.env;have y:=af.out q2 (t++[119,104,105,108,101,32]) w2 X.out;go_wp2_with fail
 refine y.mono ?_;clear y H c1 c2 G J N n0 n1 n2 n3 n4;rintro e w3 ⟨q3,I,am⟩;cases X0 with
 | none=>subst am;obtain rfl:R=none:=HR.out;exact ⟨rfl,q3,(O.out.step I).unto,rfl⟩
 | some u0 =>
 obtain ⟨rfl,ao⟩:=am;have Y:Hid (zp r q w w1 q3 w3):=O.out.step I;have ab:Hid (zy w0 r q3 (t++[119,104,105,108,101,32]++u0) w3):=ao;clear I ao;obtain ⟨H,c1,c2,G,J,N⟩:=zv ((Y.out.block _ (Nat.le_refl _) (by omega)).trans z.out)
 have y:=zw w0 r q3 (t++[119,104,105,108,101,32]++u0) [32] w3 ab.out (by simp)
 go_wp2_with fail
 refine y.mono ?_;clear y H c1 c2 G J N;rintro e w4 ⟨q4,T,rfl,ah⟩;have Q:Hid (zp r q w w1 q4 w4):=Y.out.step T;have ag:Hid (zy w0 r q4 (t++[119,104,105,108,101,32]++u0++[32]) w4):=ah;clear T ah;obtain ⟨H,c1,c2,G,J,N⟩:=zv ((Q.out.block _ (Nat.le_refl _) (by omega)).trans z.out)
 have y:=ad.out q4 (t++[119,104,105,108,101,32]++u0++[32]) w4 ag.out;go_wp2_with fail
 refine y.mono ?_;clear y H c1 c2 G J N;rintro e w5 ⟨q5,A,ae⟩;cases X1 with
 | none=>subst ae;obtain rfl:R=none:=HR.out;exact ⟨rfl,q5,(Q.out.step A).unto,rfl⟩
 | some u1 =>
 obtain ⟨rfl,an⟩:=ae;have aa:Hid (zp r q w w1 q5 w5):=Q.out.step A;have ai:Hid (zy w0 r q5 (t++[119,104,105,108,101,32]++u0++[32]++u1) w5):=an;clear A an;obtain ⟨H,c1,c2,G,J,N⟩:=zv ((aa.out.block _ (Nat.le_refl _) (by omega)).trans z.out)
 have y:=zw w0 r q5 (t++[119,104,105,108,101,32]++u0++[32]++u1) [10] w5 ai.out (by simp)
 go_wp2_with fail
 refine y.mono ?_;clear y H c1 c2 G J N;rintro e w6 ⟨q6,V,rfl,ak⟩;have Z:Hid (zp r q w w1 q6 w6):=aa.out.step V;have ar:Hid (zy w0 r q6 (t++[119,104,105,108,101,32]++u0++[32]++u1++[10]) w6):=ak;clear V ak;obtain ⟨H,c1,c2,G,J,N⟩:=zv ((Z.out.block _ (Nat.le_refl _) (by omega)).trans z.out)
 obtain rfl:R=some ([119,104,105,108,101,32]++(u0++([32]++(u1++([10]))))):=HR.out;have HP:Hid (zn w0 r q t w (some ([119,104,105,108,101,32]++(u0++([32]++(u1++([10])))))) (.returned (.tuple #[])) w6):=⟨q6,Z.out.unto,rfl,by have:=ar.out;simpa only [List.append_assoc] using this⟩
 clear ap aq O X Y ab Q ag aa ai Z ar H c1 c2 G J N al af ad HR z;go_wp2
 exact bodyPost_ret (v:=.tuple #[]) (by simp [results,Tryz.results173,go_sem]) rfl HP.out
theorem zi6 (w0:World) (d:Nat) (D:Int) (hD:D-1=(d:Int)) (_hD1:1≤D) (hD2:D≤24) (hX:yO w0 d) (hB:zeh w0 d) (s:List UInt8) (ce:Nat) (bb:Option Addr) (mb cb:Nat) (bl:Option Addr) (ml cl:Nat) (line:Int) (x:Ez) (b o:Nat) (a1:Int) (a2:List UInt8) (a3:Int) (a4:Option Addr) (a5 a6:Nat) (a7:Int) (hx:Zl w0.heap.size w0 x (yp a1 a2 a3 a4 a5 a6 a7)) (hkid:ZW w0 b o a1 a2 a3 a4 a5 a6 a7) (fz:Nat) (body:List Sz) (hbody:Zj (ZE w0.heap.size w0 fz) 6 w0.heap.size w0 body bb mb cb) (r:Nat) (q:Option Nat) (t:List UInt8) (w:World) (h:zy w0 r q t w) :
  Calls Tryz.prog 173 #[.pointer (some ⟨r,0,none⟩),szV 3 s (some ⟨b,o,none⟩) 1 ce bb mb cb bl ml cl line,.int .i64 D] w (zn w0 r q t w (zd (some [105,102,32]) (zd (prE d x) (zd (some [32]) (zd (blkO (prS d) body) ((some [10]))))))):=by
 obtain ⟨R,hR⟩:∃R,R=zd (some [105,102,32]) (zd (prE d x) (zd (some [32]) (zd (blkO (prS d) body) ((some [10]))))):=⟨_,rfl⟩;rw [←hR];have af:Hid (∀(q:Option Nat) (t:List UInt8) (w:World),zy w0 r q t w→Calls Tryz.prog 40 #[.pointer (some ⟨r,0,none⟩),yp a1 a2 a3 a4 a5 a6 a7,.int .i64 (d:Int)] w (zn w0 r q t w (prE d x))):=fun q t w h=>hX _ _ r q t w hx h
 have ad:Hid (∀(q:Option Nat) (t:List UInt8) (w:World),zy w0 r q t w→Calls Tryz.prog 110 #[.pointer (some ⟨r,0,none⟩),.slice bb mb cb,.int .i64 (d:Int)] w (zn w0 r q t w (blkO (prS d) body))):=fun q t w h=>hB fz body bb mb cb r q t w hbody h
 have al:Hid (ZW w0 b o a1 a2 a3 a4 a5 a6 a7):=hkid;obtain ⟨w1,L⟩:∃w1,w1=w.alloc (vL 3 s (some ⟨b,o,none⟩) 1 ce bb mb cb bl ml cl line):=⟨_,rfl⟩;have W:Below w.heap.size w w1:=by rw [L];exact (Below.refl _ w).alloc (Nat.le_refl _) _
 have p1:w1.heap[w.heap.size]?=some (vL 3 s (some ⟨b,o,none⟩) 1 ce bb mb cb bl ml cl line):=by rw [L];exact World.alloc_heap_new w _
 have av:w1.heap.size=w.heap.size+1:=by rw [L];simp
 have ap:Hid (zp r q w w1 q w1):=zp.start h W;have aq:Hid (zy w0 r q t w1):=h.below W;have z:Hid (w1.heap[w.heap.size]?=some (vL 3 s (some ⟨b,o,none⟩) 1 ce bb mb cb bl ml cl line)):=p1;have au:=L.symm;obtain ⟨H,c1,c2,G,J,N⟩:=zv p1;generalize prE d x=X0 at *;generalize blkO (prS d) body=X1 at *;have HR:Hid (R=zd (some [105,102,32]) (zd X0 (zd (some [32]) (zd X1 ((some [10])))))):=hR;clear hR p1 L W h hX hB hx hkid hbody
 go_enter Tryz.func173,Tryz.ntmps173
 have y:=zw w0 r q (t) [105,102,32] w1 aq.out (by simp)
 go_wp2_with fail
 refine y.mono ?_;clear y H c1 c2 G J N;rintro e w2 ⟨q2,U,rfl,aj⟩;have O:Hid (zp r q w w1 q2 w2):=ap.out.step U;have X:Hid (zy w0 r q2 (t++[105,102,32]) w2):=aj;clear U aj;obtain ⟨H,c1,c2,G,J,N⟩:=zv ((O.out.block _ (Nat.le_refl _) (by omega)).trans z.out)
 obtain ⟨n0,n1,n2,n3,n4⟩:=al.out.now X.out.env;have y:=af.out q2 (t++[105,102,32]) w2 X.out;go_wp2_with fail
 refine y.mono ?_;clear y H c1 c2 G J N n0 n1 n2 n3 n4;rintro e w3 ⟨q3,I,am⟩;cases X0 with
 | none=>subst am;obtain rfl:R=none:=HR.out;exact ⟨rfl,q3,(O.out.step I).unto,rfl⟩
 | some u0 =>
 obtain ⟨rfl,ao⟩:=am;have Y:Hid (zp r q w w1 q3 w3):=O.out.step I;have ab:Hid (zy w0 r q3 (t++[105,102,32]++u0) w3):=ao;clear I ao;obtain ⟨H,c1,c2,G,J,N⟩:=zv ((Y.out.block _ (Nat.le_refl _) (by omega)).trans z.out)
 have y:=zw w0 r q3 (t++[105,102,32]++u0) [32] w3 ab.out (by simp)
 go_wp2_with fail
 refine y.mono ?_;clear y H c1 c2 G J N;rintro e w4 ⟨q4,T,rfl,ah⟩;have Q:Hid (zp r q w w1 q4 w4):=Y.out.step T;have ag:Hid (zy w0 r q4 (t++[105,102,32]++u0++[32]) w4):=ah;clear T ah;obtain ⟨H,c1,c2,G,J,N⟩:=zv ((Q.out.block _ (Nat.le_refl _) (by omega)).trans z.out)
 have y:=ad.out q4 (t++[105,102,32]++u0++[32]) w4 ag.out;go_wp2_with fail
 refine y.mono ?_;clear y H c1 c2 G J N;rintro e w5 ⟨q5,A,ae⟩;cases X1 with
 | none=>subst ae;obtain rfl:R=none:=HR.out;exact ⟨rfl,q5,(Q.out.step A).unto,rfl⟩
 | some u1 =>
 obtain ⟨rfl,an⟩:=ae;have aa:Hid (zp r q w w1 q5 w5):=Q.out.step A;have ai:Hid (zy w0 r q5 (t++[105,102,32]++u0++[32]++u1) w5):=an;clear A an;obtain ⟨H,c1,c2,G,J,N⟩:=zv ((aa.out.block _ (Nat.le_refl _) (by omega)).trans z.out)
 have y:=zw w0 r q5 (t++[105,102,32]++u0++[32]++u1) [10] w5 ai.out (by simp)
 go_wp2_with fail
 refine y.mono ?_;clear y H c1 c2 G J N;rintro e w6 ⟨q6,V,rfl,ak⟩;have Z:Hid (zp r q w w1 q6 w6):=aa.out.step V;have ar:Hid (zy w0 r q6 (t++[105,102,32]++u0++[32]++u1++[10]) w6):=ak;clear V ak;obtain ⟨H,c1,c2,G,J,N⟩:=zv ((Z.out.block _ (Nat.le_refl _) (by omega)).trans z.out)
 obtain rfl:R=some ([105,102,32]++(u0++([32]++(u1++([10]))))):=HR.out;have HP:Hid (zn w0 r q t w (some ([105,102,32]++(u0++([32]++(u1++([10])))))) (.returned (.tuple #[])) w6):=⟨q6,Z.out.unto,rfl,by have:=ar.out;simpa only [List.append_assoc] using this⟩
 clear ap aq O X Y ab Q ag aa ai Z ar H c1 c2 G J N al af ad HR z;go_wp2
 exact bodyPost_ret (v:=.tuple #[]) (by simp [results,Tryz.results173,go_sem]) rfl HP.out
theorem zi7 (w0:World) (d:Nat) (D:Int) (hD:D-1=(d:Int)) (_hD1:1≤D) (hD2:D≤24) (hX:yO w0 d) (hB:zeh w0 d) (s:List UInt8) (ce:Nat) (bb:Option Addr) (mb cb:Nat) (bl:Option Addr) (ml cl:Nat) (line:Int) (x:Ez) (b o:Nat) (a1:Int) (a2:List UInt8) (a3:Int) (a4:Option Addr) (a5 a6:Nat) (a7:Int) (hx:Zl w0.heap.size w0 x (yp a1 a2 a3 a4 a5 a6 a7)) (hkid:ZW w0 b o a1 a2 a3 a4 a5 a6 a7) (fz:Nat) (body:List Sz) (hbody:Zj (ZE w0.heap.size w0 fz) 6 w0.heap.size w0 body bb mb cb) (els:List Sz) (hels:Zj (ZE w0.heap.size w0 fz) 6 w0.heap.size w0 els bl ml cl) (r:Nat) (q:Option Nat) (t:List UInt8) (w:World) (h:zy w0 r q t w) :
  Calls Tryz.prog 173 #[.pointer (some ⟨r,0,none⟩),szV 4 s (some ⟨b,o,none⟩) 1 ce bb mb cb bl ml cl line,.int .i64 D] w (zn w0 r q t w (zd (some [105,102,32]) (zd (prE d x) (zd (some [32]) (zd (blkO (prS d) body) (zd (some [32,101,108,115,101,32]) (zd (blkO (prS d) els) ((some [10]))))))))):=by
 obtain ⟨R,hR⟩:∃R,R=zd (some [105,102,32]) (zd (prE d x) (zd (some [32]) (zd (blkO (prS d) body) (zd (some [32,101,108,115,101,32]) (zd (blkO (prS d) els) ((some [10]))))))):=⟨_,rfl⟩;rw [←hR];have ai:Hid (∀(q:Option Nat) (t:List UInt8) (w:World),zy w0 r q t w→Calls Tryz.prog 40 #[.pointer (some ⟨r,0,none⟩),yp a1 a2 a3 a4 a5 a6 a7,.int .i64 (d:Int)] w (zn w0 r q t w (prE d x))):=fun q t w h=>hX _ _ r q t w hx h
 have ag:Hid (∀(q:Option Nat) (t:List UInt8) (w:World),zy w0 r q t w→Calls Tryz.prog 110 #[.pointer (some ⟨r,0,none⟩),.slice bb mb cb,.int .i64 (d:Int)] w (zn w0 r q t w (blkO (prS d) body))):=fun q t w h=>hB fz body bb mb cb r q t w hbody h
 have aD:Hid (∀(q:Option Nat) (t:List UInt8) (w:World),zy w0 r q t w→Calls Tryz.prog 110 #[.pointer (some ⟨r,0,none⟩),.slice bl ml cl,.int .i64 (d:Int)] w (zn w0 r q t w (blkO (prS d) els))):=fun q t w h=>hB fz els bl ml cl r q t w hels h
 have ax:Hid (ZW w0 b o a1 a2 a3 a4 a5 a6 a7):=hkid;obtain ⟨w1,J⟩:∃w1,w1=w.alloc (vL 4 s (some ⟨b,o,none⟩) 1 ce bb mb cb bl ml cl line):=⟨_,rfl⟩;have Z:Below w.heap.size w w1:=by rw [J];exact (Below.refl _ w).alloc (Nat.le_refl _) _
 have p1:w1.heap[w.heap.size]?=some (vL 4 s (some ⟨b,o,none⟩) 1 ce bb mb cb bl ml cl line):=by rw [J];exact World.alloc_heap_new w _
 have aF:w1.heap.size=w.heap.size+1:=by rw [J];simp
 have ao:Hid (zp r q w w1 q w1):=zp.start h Z;have aw:Hid (zy w0 r q t w1):=h.below Z;have z:Hid (w1.heap[w.heap.size]?=some (vL 4 s (some ⟨b,o,none⟩) 1 ce bb mb cb bl ml cl line)):=p1;have aE:=J.symm;obtain ⟨G,c1,c2,A,H,I⟩:=zv p1;generalize prE d x=X0 at *;generalize blkO (prS d) body=X1 at *;generalize blkO (prS d) els=X2 at *;have HR:Hid (R=zd (some [105,102,32]) (zd X0 (zd (some [32]) (zd X1 (zd (some [32,101,108,115,101,32]) (zd X2 ((some [10])))))))):=hR;clear hR p1 J Z h hX hB hx hkid hbody hels
 go_enter Tryz.func173,Tryz.ntmps173
 have y:=zw w0 r q (t) [105,102,32] w1 aw.out (by simp)
 go_wp2_with fail
 refine y.mono ?_;clear y G c1 c2 A H I;rintro e w2 ⟨q2,Y,rfl,am⟩;have Q:Hid (zp r q w w1 q2 w2):=ao.out.step Y;have ae:Hid (zy w0 r q2 (t++[105,102,32]) w2):=am;clear Y am;obtain ⟨G,c1,c2,A,H,I⟩:=zv ((Q.out.block _ (Nat.le_refl _) (by omega)).trans z.out)
 obtain ⟨n0,n1,n2,n3,n4⟩:=ax.out.now ae.out.env;have y:=ai.out q2 (t++[105,102,32]) w2 ae.out;go_wp2_with fail
 refine y.mono ?_;clear y G c1 c2 A H I n0 n1 n2 n3 n4;rintro e w3 ⟨q3,N,az⟩;cases X0 with
 | none=>subst az;obtain rfl:R=none:=HR.out;exact ⟨rfl,q3,(Q.out.step N).unto,rfl⟩
 | some u0 =>
 obtain ⟨rfl,aB⟩:=az;have aa:Hid (zp r q w w1 q3 w3):=Q.out.step N;have ap:Hid (zy w0 r q3 (t++[105,102,32]++u0) w3):=aB;clear N aB;obtain ⟨G,c1,c2,A,H,I⟩:=zv ((aa.out.block _ (Nat.le_refl _) (by omega)).trans z.out)
 have y:=zw w0 r q3 (t++[105,102,32]++u0) [32] w3 ap.out (by simp)
 go_wp2_with fail
 refine y.mono ?_;clear y G c1 c2 A H I;rintro e w4 ⟨q4,X,rfl,ak⟩;have U:Hid (zp r q w w1 q4 w4):=aa.out.step X;have aj:Hid (zy w0 r q4 (t++[105,102,32]++u0++[32]) w4):=ak;clear X ak;obtain ⟨G,c1,c2,A,H,I⟩:=zv ((U.out.block _ (Nat.le_refl _) (by omega)).trans z.out)
 have y:=ag.out q4 (t++[105,102,32]++u0++[32]) w4 aj.out;go_wp2_with fail
 refine y.mono ?_;clear y G c1 c2 A H I;rintro e w5 ⟨q5,L,aq⟩;cases X1 with
 | none=>subst aq;obtain rfl:R=none:=HR.out;exact ⟨rfl,q5,(U.out.step L).unto,rfl⟩
 | some u1 =>
 obtain ⟨rfl,aA⟩:=aq;have ad:Hid (zp r q w w1 q5 w5):=U.out.step L;have al:Hid (zy w0 r q5 (t++[105,102,32]++u0++[32]++u1) w5):=aA;clear L aA;obtain ⟨G,c1,c2,A,H,I⟩:=zv ((ad.out.block _ (Nat.le_refl _) (by omega)).trans z.out)
 have y:=zw w0 r q5 (t++[105,102,32]++u0++[32]++u1) [32,101,108,115,101,32] w5 al.out (by simp)
 go_wp2_with fail
 refine y.mono ?_;clear y G c1 c2 A H I;rintro e w6 ⟨q6,V,rfl,an⟩;have T:Hid (zp r q w w1 q6 w6):=ad.out.step V;have aC:Hid (zy w0 r q6 (t++[105,102,32]++u0++[32]++u1++[32,101,108,115,101,32]) w6):=an;clear V an;obtain ⟨G,c1,c2,A,H,I⟩:=zv ((T.out.block _ (Nat.le_refl _) (by omega)).trans z.out)
 have y:=aD.out q6 (t++[105,102,32]++u0++[32]++u1++[32,101,108,115,101,32]) w6 aC.out;go_wp2_with fail
 refine y.mono ?_;clear y G c1 c2 A H I;rintro e w7 ⟨q7,O,av⟩;cases X2 with
 | none=>subst av;obtain rfl:R=none:=HR.out;exact ⟨rfl,q7,(T.out.step O).unto,rfl⟩
 | some u2 =>
 obtain ⟨rfl,ah⟩:=av;have af:Hid (zp r q w w1 q7 w7):=T.out.step O;have ar:Hid (zy w0 r q7 (t++[105,102,32]++u0++[32]++u1++[32,101,108,115,101,32]++u2) w7):=ah;clear O ah;obtain ⟨G,c1,c2,A,H,I⟩:=zv ((af.out.block _ (Nat.le_refl _) (by omega)).trans z.out)
 have y:=zw w0 r q7 (t++[105,102,32]++u0++[32]++u1++[32,101,108,115,101,32]++u2) [10] w7 ar.out (by simp)
 go_wp2_with fail
 refine y.mono ?_;clear y G c1 c2 A H I;rintro e w8 ⟨q8,W,rfl,ay⟩;have ab:Hid (zp r q w w1 q8 w8):=af.out.step W;have au:Hid (zy w0 r q8 (t++[105,102,32]++u0++[32]++u1++[32,101,108,115,101,32]++u2++[10]) w8):=ay;clear W ay;obtain ⟨G,c1,c2,A,H,I⟩:=zv ((ab.out.block _ (Nat.le_refl _) (by omega)).trans z.out)
 obtain rfl:R=some ([105,102,32]++(u0++([32]++(u1++([32,101,108,115,101,32]++(u2++([10]))))))):=HR.out;have HP:Hid (zn w0 r q t w (some ([105,102,32]++(u0++([32]++(u1++([32,101,108,115,101,32]++(u2++([10])))))))) (.returned (.tuple #[])) w8):=⟨q8,ab.out.unto,rfl,by have:=au.out;simpa only [List.append_assoc] using this⟩
 clear ao aw Q ae aa ap U aj ad al T aC af ar ab au G c1 c2 A H I ax ai ag aD HR z;go_wp2
 exact bodyPost_ret (v:=.tuple #[]) (by simp [results,Tryz.results173,go_sem]) rfl HP.out
theorem zik (w0:World) (d:Nat) (D:Int) (hD:D-1=(d:Int)) (hD1:1≤D) (hD2:D≤24) (hT:ZC w0) (hX:yO w0 d) (s:List UInt8) (ce:Nat) (bb:Option Addr) (mb cb:Nat) (bl:Option Addr) (ml cl:Nat) (line:Int) (b o:Nat) (x:Ez) (g01:Int) (g02:List UInt8) (g03:Int) (g04:Option Addr) (g05 g06:Nat) (g07:Int) (hx0:Zl w0.heap.size w0 x (yp g01 g02 g03 g04 g05 g06 g07)) (hkid0:ZW w0 b (o+0*5) g01 g02 g03 g04 g05 g06 g07) (es:List Ez) (hes:Zj (qN w0.heap.size w0) 5 w0.heap.size w0 es (some ⟨b,o,none⟩) 1 ce) (r:Nat) (q:Option Nat) (t:List UInt8) (w:World) (h:zy w0 r q t w) (hst:xg 1 s es mb ml=true) (hs:s.length≤100000000) :
  Calls Tryz.prog 140 #[.pointer (some ⟨r,0,none⟩),szV 1 s (some ⟨b,o,none⟩) 1 ce bb mb cb bl ml cl line,.int .i64 D] w (zn w0 r q t w (zd (some [108,101,116,32]) (zd (tokO 1 0 s) (zd (some [32,61,32]) (zd (prE d x) ((some [59,10]))))))):=by
 have aG:∀(fn:Fn) (first cap:Array Value) (w:World),(Instr.makeFunc fn first cap).run Tryz.prog w=.ok (.func fn first cap) w:=fun _ _ _ _=>rfl
 obtain ⟨R,hR⟩:∃R,R=zd (some [108,101,116,32]) (zd (tokO 1 0 s) (zd (some [32,61,32]) (zd (prE d x) ((some [59,10]))))):=⟨_,rfl⟩;rw [←hR];obtain ⟨z,ah⟩:∃z,z=stW w r 1 s (some ⟨b,o,none⟩) 1 ce bb mb cb bl ml cl line D:=⟨_,rfl⟩;obtain ⟨ab,ao,e0,e1,e2⟩:=YU w r 1 s (some ⟨b,o,none⟩) 1 ce bb mb cb bl ml cl line D;rw [←ah] at ab ao e0 e1 e2;have T:=h.below ab;have ar:Hid (zp r q w z q z):=zp.start h ab;have y:Hid (z.heap[w.heap.size]?=some (.cells #[.pointer (some ⟨r,0,none⟩)] 84 (0,0))∧z.heap[w.heap.size+1]?=some (vL 1 s (some ⟨b,o,none⟩) 1 ce bb mb cb bl ml cl line)∧z.heap[w.heap.size+2]?=some (.cells #[.int .i64 D] 3 (0,0))):=⟨e0,e1,e2⟩;have ci:=YA 1 s es (some ⟨b,o,none⟩) 1 ce bb mb cb bl ml cl line w0.heap.size z (hes.kept T.env fun _ _ h=>Zl.kept h T.env) T.env.size
 rw [hst] at ci;have aC:Hid (zy w0 r q t z):=T;have aE:=ah.symm;have H:=ze e0;obtain ⟨J,c1,c2,I,O,Q⟩:=zv e1;have N:=ze e2;have aF:(0:Int)<D:=by omega
 have al:Hid (∀(q:Option Nat) (t:List UInt8) (w:World),zy w0 r q t w→Calls Tryz.prog 80 #[.pointer (some ⟨r,0,none⟩),.string (zb s)] w (zn w0 r q t w (tokO 1 0 s))):=fun q t w h=>yu w0 r q t s w hT h hs
 have ai:Hid (∀(q2:Option Nat) (t2:List UInt8) (W:World),zy w0 r q2 t2 W→zp r q w z q2 W→Calls Tryz.prog 172 #[.int .i64 0,.pointer (some ⟨w.heap.size,0,none⟩),.pointer (some ⟨w.heap.size+1,0,none⟩),.pointer (some ⟨w.heap.size+2,0,none⟩)] W (zn w0 r q2 t2 W (prE d x))):=fun q2 t2 W h2 hL2=>vE w0 d D hD hD1 hD2 hX 0 x b o _ _ _ _ _ _ _ hx0 hkid0 _ _ _ r _ ce (by omega) (by omega) q2 t2 W h2 (ze ((hL2.block (w.heap.size) (Nat.le_refl _) (by omega)).trans y.out.1)) (zv ((hL2.block (w.heap.size+1) (by omega) (by omega)).trans y.out.2.1)).2.2.1 (ze ((hL2.block (w.heap.size+2) (by omega) (by omega)).trans y.out.2.2)) (fun k hk=>⟨by have:=hL2.hr;omega,fun e=>by have:=hL2.hq k e;omega⟩)
 generalize tokO 1 0 s=X0 at *;generalize prE d x=X1 at *;have HR:Hid (R=zd (some [108,101,116,32]) (zd X0 (zd (some [32,61,32]) (zd X1 ((some [59,10])))))):=hR;clear hR T e0 e1 e2 ah ab h hes hst hT hX hx0 hkid0
 go_enter Tryz.func140,Tryz.ntmps140
 go_wp2_with fail
 refine ci.mono ?_;clear ci H N J c1 c2 I O Q;rintro e w2 ⟨rfl,ag⟩;have U:Hid (zp r q w z q w2):=ar.out.step (zT.below ag);have av:Hid (zy w0 r q t w2):=aC.out.below ag;clear ag;have ca:=z6 true w2;have H:=ze ((U.out.block (w.heap.size) (Nat.le_refl _) (by omega)).trans y.out.1)
 obtain ⟨J,c1,c2,I,O,Q⟩:=zv ((U.out.block (w.heap.size+1) (by omega) (by omega)).trans y.out.2.1)
 have N:=ze ((U.out.block (w.heap.size+2) (by omega) (by omega)).trans y.out.2.2)
 go_wp2_with fail
 refine ca.mono ?_;clear ca;rintro e w3 ⟨rfl,rfl⟩;simp only [Y8];have ak:Hid (zp r q w z q w3):=U.out;have au:Hid (zy w0 r q t w3):=av.out;clear ar aC U av;have G:=zw w0 r q (t) [108,101,116,32] w3 au.out (by simp)
 go_wp2_with fail
 refine G.mono ?_;clear G H N J c1 c2 I O Q;rintro e w4 ⟨q4,af,rfl,an⟩;have L:Hid (zp r q w z q4 w4):=ak.out.step af;have am:Hid (zy w0 r q4 (t++[108,101,116,32]) w4):=an;clear af an;have H:=ze ((L.out.block (w.heap.size) (Nat.le_refl _) (by omega)).trans y.out.1)
 obtain ⟨J,c1,c2,I,O,Q⟩:=zv ((L.out.block (w.heap.size+1) (by omega) (by omega)).trans y.out.2.1)
 have N:=ze ((L.out.block (w.heap.size+2) (by omega) (by omega)).trans y.out.2.2)
 have G:=al.out q4 (t++[108,101,116,32]) w4 am.out;go_wp2_with fail
 refine G.mono ?_;clear G H N J c1 c2 I O Q;rintro e w5 ⟨q5,Y,aw⟩;cases X0 with
 | none=>subst aw;obtain rfl:R=none:=HR.out;exact ⟨rfl,q5,(L.out.step Y).unto,rfl⟩
 | some u0 =>
 obtain ⟨rfl,aB⟩:=aw;have X:Hid (zp r q w z q5 w5):=L.out.step Y;have ap:Hid (zy w0 r q5 (t++[108,101,116,32]++u0) w5):=aB;clear Y aB;have H:=ze ((X.out.block (w.heap.size) (Nat.le_refl _) (by omega)).trans y.out.1)
 obtain ⟨J,c1,c2,I,O,Q⟩:=zv ((X.out.block (w.heap.size+1) (by omega) (by omega)).trans y.out.2.1)
 have N:=ze ((X.out.block (w.heap.size+2) (by omega) (by omega)).trans y.out.2.2)
 have G:=zw w0 r q5 (t++[108,101,116,32]++u0) [32,61,32] w5 ap.out (by simp)
 go_wp2_with fail
 refine G.mono ?_;clear G H N J c1 c2 I O Q;rintro e w6 ⟨q6,ad,rfl,aq⟩;have A:Hid (zp r q w z q6 w6):=X.out.step ad;have aD:Hid (zy w0 r q6 (t++[108,101,116,32]++u0++[32,61,32]) w6):=aq;clear ad aq;have H:=ze ((A.out.block (w.heap.size) (Nat.le_refl _) (by omega)).trans y.out.1)
 obtain ⟨J,c1,c2,I,O,Q⟩:=zv ((A.out.block (w.heap.size+1) (by omega) (by omega)).trans y.out.2.1)
 have N:=ze ((A.out.block (w.heap.size+2) (by omega) (by omega)).trans y.out.2.2)
 have G:=ai.out q6 (t++[108,101,116,32]++u0++[32,61,32]) w6 aD.out A.out;go_wp2_with fail
 refine G.mono ?_;clear G H N J c1 c2 I O Q;rintro e w7 ⟨q7,aa,az⟩;cases X1 with
 | none=>subst az;obtain rfl:R=none:=HR.out;exact ⟨rfl,q7,(A.out.step aa).unto,rfl⟩
 | some u1 =>
 obtain ⟨rfl,aj⟩:=az;have Z:Hid (zp r q w z q7 w7):=A.out.step aa;have ax:Hid (zy w0 r q7 (t++[108,101,116,32]++u0++[32,61,32]++u1) w7):=aj;clear aa aj;have H:=ze ((Z.out.block (w.heap.size) (Nat.le_refl _) (by omega)).trans y.out.1)
 obtain ⟨J,c1,c2,I,O,Q⟩:=zv ((Z.out.block (w.heap.size+1) (by omega) (by omega)).trans y.out.2.1)
 have N:=ze ((Z.out.block (w.heap.size+2) (by omega) (by omega)).trans y.out.2.2)
 have G:=zw w0 r q7 (t++[108,101,116,32]++u0++[32,61,32]++u1) [59,10] w7 ax.out (by simp)
 go_wp2_with fail
 refine G.mono ?_;clear G H N J c1 c2 I O Q;rintro e w8 ⟨q8,ae,rfl,aA⟩;have V:Hid (zp r q w z q8 w8):=Z.out.step ae;have ay:Hid (zy w0 r q8 (t++[108,101,116,32]++u0++[32,61,32]++u1++[59,10]) w8):=aA;clear ae aA;have H:=ze ((V.out.block (w.heap.size) (Nat.le_refl _) (by omega)).trans y.out.1)
 obtain ⟨J,c1,c2,I,O,Q⟩:=zv ((V.out.block (w.heap.size+1) (by omega) (by omega)).trans y.out.2.1)
 have N:=ze ((V.out.block (w.heap.size+2) (by omega) (by omega)).trans y.out.2.2)
 obtain rfl:R=some ([108,101,116,32]++(u0++([32,61,32]++(u1++([59,10]))))):=HR.out;have HP:Hid (zn w0 r q t w (some ([108,101,116,32]++(u0++([32,61,32]++(u1++([59,10])))))) (.returned (.tuple #[])) w8):=⟨q8,V.out.unto,rfl,by have:=ay.out;simpa only [List.append_assoc] using this⟩
 clear ak au L am X ap A aD Z ax V ay H N J c1 c2 I O Q al ai HR y;go_wp2
 exact bodyPost_ret (v:=.tuple #[]) (by simp [results,Tryz.results140,go_sem]) rfl HP.out
theorem zil (w0:World) (d:Nat) (D:Int) (hD:D-1=(d:Int)) (hD1:1≤D) (hD2:D≤24) (_hT:ZC w0) (hX:yO w0 d) (s:List UInt8) (ce:Nat) (bb:Option Addr) (mb cb:Nat) (bl:Option Addr) (ml cl:Nat) (line:Int) (b o:Nat) (x:Ez) (g01:Int) (g02:List UInt8) (g03:Int) (g04:Option Addr) (g05 g06:Nat) (g07:Int) (hx0:Zl w0.heap.size w0 x (yp g01 g02 g03 g04 g05 g06 g07)) (hkid0:ZW w0 b (o+0*5) g01 g02 g03 g04 g05 g06 g07) (y:Ez) (g11:Int) (g12:List UInt8) (g13:Int) (g14:Option Addr) (g15 g16:Nat) (g17:Int) (hx1:Zl w0.heap.size w0 y (yp g11 g12 g13 g14 g15 g16 g17)) (hkid1:ZW w0 b (o+1*5) g11 g12 g13 g14 g15 g16 g17) (es:List Ez) (hes:Zj (qN w0.heap.size w0) 5 w0.heap.size w0 es (some ⟨b,o,none⟩) 2 ce) (r:Nat) (q:Option Nat) (t:List UInt8) (w:World) (h:zy w0 r q t w) (hst:xg 2 s es mb ml=true) (_hs:s.length≤100000000) :
  Calls Tryz.prog 140 #[.pointer (some ⟨r,0,none⟩),szV 2 s (some ⟨b,o,none⟩) 2 ce bb mb cb bl ml cl line,.int .i64 D] w (zn w0 r q t w (zd (prE d x) (zd (some [32,61,32]) (zd (prE d y) ((some [59,10])))))):=by
 have aD:∀(fn:Fn) (first cap:Array Value) (w:World),(Instr.makeFunc fn first cap).run Tryz.prog w=.ok (.func fn first cap) w:=fun _ _ _ _=>rfl
 obtain ⟨R,hR⟩:∃R,R=zd (prE d x) (zd (some [32,61,32]) (zd (prE d y) ((some [59,10])))):=⟨_,rfl⟩;rw [←hR];obtain ⟨A,ah⟩:∃A,A=stW w r 2 s (some ⟨b,o,none⟩) 2 ce bb mb cb bl ml cl line D:=⟨_,rfl⟩;obtain ⟨ab,aq,e0,e1,e2⟩:=YU w r 2 s (some ⟨b,o,none⟩) 2 ce bb mb cb bl ml cl line D;rw [←ah] at ab aq e0 e1 e2;have I:=h.below ab;have ay:Hid (zp r q w A q A):=zp.start h ab;have z:Hid (A.heap[w.heap.size]?=some (.cells #[.pointer (some ⟨r,0,none⟩)] 84 (0,0))∧A.heap[w.heap.size+1]?=some (vL 2 s (some ⟨b,o,none⟩) 2 ce bb mb cb bl ml cl line)∧A.heap[w.heap.size+2]?=some (.cells #[.int .i64 D] 3 (0,0))):=⟨e0,e1,e2⟩;have ci:=YA 2 s es (some ⟨b,o,none⟩) 2 ce bb mb cb bl ml cl line w0.heap.size A (hes.kept I.env fun _ _ h=>Zl.kept h I.env) I.env.size
 rw [hst] at ci;have az:Hid (zy w0 r q t A):=I;have aB:=ah.symm;have N:=ze e0;obtain ⟨T,c1,c2,Q,U,Z⟩:=zv e1;have H:=ze e2;have aC:(0:Int)<D:=by omega
 have an:Hid (∀(q2:Option Nat) (t2:List UInt8) (W:World),zy w0 r q2 t2 W→zp r q w A q2 W→Calls Tryz.prog 172 #[.int .i64 0,.pointer (some ⟨w.heap.size,0,none⟩),.pointer (some ⟨w.heap.size+1,0,none⟩),.pointer (some ⟨w.heap.size+2,0,none⟩)] W (zn w0 r q2 t2 W (prE d x))):=fun q2 t2 W h2 hL2=>vE w0 d D hD hD1 hD2 hX 0 x b o _ _ _ _ _ _ _ hx0 hkid0 _ _ _ r _ ce (by omega) (by omega) q2 t2 W h2 (ze ((hL2.block (w.heap.size) (Nat.le_refl _) (by omega)).trans z.out.1)) (zv ((hL2.block (w.heap.size+1) (by omega) (by omega)).trans z.out.2.1)).2.2.1 (ze ((hL2.block (w.heap.size+2) (by omega) (by omega)).trans z.out.2.2)) (fun k hk=>⟨by have:=hL2.hr;omega,fun e=>by have:=hL2.hq k e;omega⟩)
 have aj:Hid (∀(q2:Option Nat) (t2:List UInt8) (W:World),zy w0 r q2 t2 W→zp r q w A q2 W→Calls Tryz.prog 172 #[.int .i64 1,.pointer (some ⟨w.heap.size,0,none⟩),.pointer (some ⟨w.heap.size+1,0,none⟩),.pointer (some ⟨w.heap.size+2,0,none⟩)] W (zn w0 r q2 t2 W (prE d y))):=fun q2 t2 W h2 hL2=>vE w0 d D hD hD1 hD2 hX 1 y b o _ _ _ _ _ _ _ hx1 hkid1 _ _ _ r _ ce (by omega) (by omega) q2 t2 W h2 (ze ((hL2.block (w.heap.size) (Nat.le_refl _) (by omega)).trans z.out.1)) (zv ((hL2.block (w.heap.size+1) (by omega) (by omega)).trans z.out.2.1)).2.2.1 (ze ((hL2.block (w.heap.size+2) (by omega) (by omega)).trans z.out.2.2)) (fun k hk=>⟨by have:=hL2.hr;omega,fun e=>by have:=hL2.hq k e;omega⟩)
 generalize prE d x=X0 at *;generalize prE d y=X1 at *;have HR:Hid (R=zd X0 (zd (some [32,61,32]) (zd X1 ((some [59,10]))))):=hR;clear hR I e0 e1 e2 ah ab h hes hst _hT hX hx0 hkid0 hx1 hkid1
 go_enter Tryz.func140,Tryz.ntmps140
 go_wp2_with fail
 refine ci.mono ?_;clear ci N H T c1 c2 Q U Z;rintro e w2 ⟨rfl,ag⟩;have V:Hid (zp r q w A q w2):=ay.out.step (zT.below ag);have al:Hid (zy w0 r q t w2):=az.out.below ag;clear ag;have ca:=z6 true w2;have N:=ze ((V.out.block (w.heap.size) (Nat.le_refl _) (by omega)).trans z.out.1)
 obtain ⟨T,c1,c2,Q,U,Z⟩:=zv ((V.out.block (w.heap.size+1) (by omega) (by omega)).trans z.out.2.1)
 have H:=ze ((V.out.block (w.heap.size+2) (by omega) (by omega)).trans z.out.2.2)
 go_wp2_with fail
 refine ca.mono ?_;clear ca;rintro e w3 ⟨rfl,rfl⟩;simp only [Y8];have ad:Hid (zp r q w A q w3):=V.out;have ai:Hid (zy w0 r q t w3):=al.out;clear ay az V al;have L:=an.out q (t) w3 ai.out ad.out;go_wp2_with fail
 refine L.mono ?_;clear L N H T c1 c2 Q U Z;rintro e w4 ⟨q4,J,ar⟩;cases X0 with
 | none=>subst ar;obtain rfl:R=none:=HR.out;exact ⟨rfl,q4,(ad.out.step J).unto,rfl⟩
 | some u0 =>
 obtain ⟨rfl,ap⟩:=ar;have Y:Hid (zp r q w A q4 w4):=ad.out.step J;have ao:Hid (zy w0 r q4 (t++u0) w4):=ap;clear J ap;have N:=ze ((Y.out.block (w.heap.size) (Nat.le_refl _) (by omega)).trans z.out.1)
 obtain ⟨T,c1,c2,Q,U,Z⟩:=zv ((Y.out.block (w.heap.size+1) (by omega) (by omega)).trans z.out.2.1)
 have H:=ze ((Y.out.block (w.heap.size+2) (by omega) (by omega)).trans z.out.2.2)
 have L:=zw w0 r q4 (t++u0) [32,61,32] w4 ao.out (by simp)
 go_wp2_with fail
 refine L.mono ?_;clear L N H T c1 c2 Q U Z;rintro e w5 ⟨q5,ae,rfl,aw⟩;have G:Hid (zp r q w A q5 w5):=Y.out.step ae;have au:Hid (zy w0 r q5 (t++u0++[32,61,32]) w5):=aw;clear ae aw;have N:=ze ((G.out.block (w.heap.size) (Nat.le_refl _) (by omega)).trans z.out.1)
 obtain ⟨T,c1,c2,Q,U,Z⟩:=zv ((G.out.block (w.heap.size+1) (by omega) (by omega)).trans z.out.2.1)
 have H:=ze ((G.out.block (w.heap.size+2) (by omega) (by omega)).trans z.out.2.2)
 have L:=aj.out q5 (t++u0++[32,61,32]) w5 au.out G.out;go_wp2_with fail
 refine L.mono ?_;clear L N H T c1 c2 Q U Z;rintro e w6 ⟨q6,aa,ax⟩;cases X1 with
 | none=>subst ax;obtain rfl:R=none:=HR.out;exact ⟨rfl,q6,(G.out.step aa).unto,rfl⟩
 | some u1 =>
 obtain ⟨rfl,av⟩:=ax;have X:Hid (zp r q w A q6 w6):=G.out.step aa;have aA:Hid (zy w0 r q6 (t++u0++[32,61,32]++u1) w6):=av;clear aa av;have N:=ze ((X.out.block (w.heap.size) (Nat.le_refl _) (by omega)).trans z.out.1)
 obtain ⟨T,c1,c2,Q,U,Z⟩:=zv ((X.out.block (w.heap.size+1) (by omega) (by omega)).trans z.out.2.1)
 have H:=ze ((X.out.block (w.heap.size+2) (by omega) (by omega)).trans z.out.2.2)
 have L:=zw w0 r q6 (t++u0++[32,61,32]++u1) [59,10] w6 aA.out (by simp)
 go_wp2_with fail
 refine L.mono ?_;clear L N H T c1 c2 Q U Z;rintro e w7 ⟨q7,af,rfl,ak⟩;have O:Hid (zp r q w A q7 w7):=X.out.step af;have am:Hid (zy w0 r q7 (t++u0++[32,61,32]++u1++[59,10]) w7):=ak;clear af ak;have N:=ze ((O.out.block (w.heap.size) (Nat.le_refl _) (by omega)).trans z.out.1)
 obtain ⟨T,c1,c2,Q,U,Z⟩:=zv ((O.out.block (w.heap.size+1) (by omega) (by omega)).trans z.out.2.1)
 have H:=ze ((O.out.block (w.heap.size+2) (by omega) (by omega)).trans z.out.2.2)
 obtain rfl:R=some (u0++([32,61,32]++(u1++([59,10])))):=HR.out;have HP:Hid (zn w0 r q t w (some (u0++([32,61,32]++(u1++([59,10]))))) (.returned (.tuple #[])) w7):=⟨q7,O.out.unto,rfl,by have:=am.out;simpa only [List.append_assoc] using this⟩
 clear ad ai Y ao G au X aA O am N H T c1 c2 Q U Z an aj HR z;go_wp2
 exact bodyPost_ret (v:=.tuple #[]) (by simp [results,Tryz.results140,go_sem]) rfl HP.out
theorem zim (w0:World) (d:Nat) (D:Int) (hD:D-1=(d:Int)) (hD1:1≤D) (hD2:D≤24) (_hT:ZC w0) (hX:yO w0 d) (s:List UInt8) (ce:Nat) (bb:Option Addr) (mb cb:Nat) (bl:Option Addr) (ml cl:Nat) (line:Int) (b o:Nat) (x:Ez) (g01:Int) (g02:List UInt8) (g03:Int) (g04:Option Addr) (g05 g06:Nat) (g07:Int) (hx0:Zl w0.heap.size w0 x (yp g01 g02 g03 g04 g05 g06 g07)) (hkid0:ZW w0 b (o+0*5) g01 g02 g03 g04 g05 g06 g07) (es:List Ez) (hes:Zj (qN w0.heap.size w0) 5 w0.heap.size w0 es (some ⟨b,o,none⟩) 1 ce) (r:Nat) (q:Option Nat) (t:List UInt8) (w:World) (h:zy w0 r q t w) (hst:xg 7 s es mb ml=true) (_hs:s.length≤100000000) :
  Calls Tryz.prog 140 #[.pointer (some ⟨r,0,none⟩),szV 7 s (some ⟨b,o,none⟩) 1 ce bb mb cb bl ml cl line,.int .i64 D] w (zn w0 r q t w (zd (prE d x) ((some [59,10])))):=by
 have ao:∀(fn:Fn) (first cap:Array Value) (w:World),(Instr.makeFunc fn first cap).run Tryz.prog w=.ok (.func fn first cap) w:=fun _ _ _ _=>rfl
 obtain ⟨R,hR⟩:∃R,R=zd (prE d x) ((some [59,10])):=⟨_,rfl⟩;rw [←hR];obtain ⟨z,Z⟩:∃z,z=stW w r 7 s (some ⟨b,o,none⟩) 1 ce bb mb cb bl ml cl line D:=⟨_,rfl⟩;obtain ⟨L,ag,e0,e1,e2⟩:=YU w r 7 s (some ⟨b,o,none⟩) 1 ce bb mb cb bl ml cl line D;rw [←Z] at L ag e0 e1 e2;have A:=h.below L;have ak:Hid (zp r q w z q z):=zp.start h L;have y:Hid (z.heap[w.heap.size]?=some (.cells #[.pointer (some ⟨r,0,none⟩)] 84 (0,0))∧z.heap[w.heap.size+1]?=some (vL 7 s (some ⟨b,o,none⟩) 1 ce bb mb cb bl ml cl line)∧z.heap[w.heap.size+2]?=some (.cells #[.int .i64 D] 3 (0,0))):=⟨e0,e1,e2⟩;have ci:=YA 7 s es (some ⟨b,o,none⟩) 1 ce bb mb cb bl ml cl line w0.heap.size z (hes.kept A.env fun _ _ h=>Zl.kept h A.env) A.env.size
 rw [hst] at ci;have al:Hid (zy w0 r q t z):=A;have am:=Z.symm;have U:=ze e0;obtain ⟨X,c1,c2,V,Y,c5⟩:=zv e1;have Q:=ze e2;have an:(0:Int)<D:=by omega
 have ad:Hid (∀(q2:Option Nat) (t2:List UInt8) (W:World),zy w0 r q2 t2 W→zp r q w z q2 W→Calls Tryz.prog 172 #[.int .i64 0,.pointer (some ⟨w.heap.size,0,none⟩),.pointer (some ⟨w.heap.size+1,0,none⟩),.pointer (some ⟨w.heap.size+2,0,none⟩)] W (zn w0 r q2 t2 W (prE d x))):=fun q2 t2 W h2 hL2=>vE w0 d D hD hD1 hD2 hX 0 x b o _ _ _ _ _ _ _ hx0 hkid0 _ _ _ r _ ce (by omega) (by omega) q2 t2 W h2 (ze ((hL2.block (w.heap.size) (Nat.le_refl _) (by omega)).trans y.out.1)) (zv ((hL2.block (w.heap.size+1) (by omega) (by omega)).trans y.out.2.1)).2.2.1 (ze ((hL2.block (w.heap.size+2) (by omega) (by omega)).trans y.out.2.2)) (fun k hk=>⟨by have:=hL2.hr;omega,fun e=>by have:=hL2.hq k e;omega⟩)
 generalize prE d x=X0 at *;have HR:Hid (R=zd X0 ((some [59,10]))):=hR;clear hR A e0 e1 e2 Z L h hes hst _hT hX hx0 hkid0
 go_enter Tryz.func140,Tryz.ntmps140
 go_wp2_with fail
 refine ci.mono ?_;clear ci U Q X c1 c2 V Y c5;rintro e w2 ⟨rfl,T⟩;have H:Hid (zp r q w z q w2):=ak.out.step (zT.below T);have ab:Hid (zy w0 r q t w2):=al.out.below T;clear T;have ca:=z6 true w2;have U:=ze ((H.out.block (w.heap.size) (Nat.le_refl _) (by omega)).trans y.out.1)
 obtain ⟨X,c1,c2,V,Y,c5⟩:=zv ((H.out.block (w.heap.size+1) (by omega) (by omega)).trans y.out.2.1)
 have Q:=ze ((H.out.block (w.heap.size+2) (by omega) (by omega)).trans y.out.2.2)
 go_wp2_with fail
 refine ca.mono ?_;clear ca;rintro e w3 ⟨rfl,rfl⟩;simp only [Y8];have N:Hid (zp r q w z q w3):=H.out;have aa:Hid (zy w0 r q t w3):=ab.out;clear ak al H ab;have cp:=ad.out q (t) w3 aa.out N.out;go_wp2_with fail
 refine cp.mono ?_;clear cp U Q X c1 c2 V Y c5;rintro e w4 ⟨q4,G,ah⟩;cases X0 with
 | none=>subst ah;obtain rfl:R=none:=HR.out;exact ⟨rfl,q4,(N.out.step G).unto,rfl⟩
 | some u0 =>
 obtain ⟨rfl,af⟩:=ah;have I:Hid (zp r q w z q4 w4):=N.out.step G;have ae:Hid (zy w0 r q4 (t++u0) w4):=af;clear G af;have U:=ze ((I.out.block (w.heap.size) (Nat.le_refl _) (by omega)).trans y.out.1)
 obtain ⟨X,c1,c2,V,Y,c5⟩:=zv ((I.out.block (w.heap.size+1) (by omega) (by omega)).trans y.out.2.1)
 have Q:=ze ((I.out.block (w.heap.size+2) (by omega) (by omega)).trans y.out.2.2)
 have cp:=zw w0 r q4 (t++u0) [59,10] w4 ae.out (by simp)
 go_wp2_with fail
 refine cp.mono ?_;clear cp U Q X c1 c2 V Y c5;rintro e w5 ⟨q5,O,rfl,aj⟩;have J:Hid (zp r q w z q5 w5):=I.out.step O;have ai:Hid (zy w0 r q5 (t++u0++[59,10]) w5):=aj;clear O aj;have U:=ze ((J.out.block (w.heap.size) (Nat.le_refl _) (by omega)).trans y.out.1)
 obtain ⟨X,c1,c2,V,Y,c5⟩:=zv ((J.out.block (w.heap.size+1) (by omega) (by omega)).trans y.out.2.1)
 have Q:=ze ((J.out.block (w.heap.size+2) (by omega) (by omega)).trans y.out.2.2)
 obtain rfl:R=some (u0++([59,10])):=HR.out;have HP:Hid (zn w0 r q t w (some (u0++([59,10]))) (.returned (.tuple #[])) w5):=⟨q5,J.out.unto,rfl,by have:=ai.out;simpa only [List.append_assoc] using this⟩
 clear N aa I ae J ai U Q X c1 c2 V Y c5 ad HR y;go_wp2
 exact bodyPost_ret (v:=.tuple #[]) (by simp [results,Tryz.results140,go_sem]) rfl HP.out
theorem zg2 (w0:World) (d:Nat) (D:Int) (hD:D-1=(d:Int)) (_hD1:1≤D) (hD2:D≤24) (_hT:ZC w0) (_hX:yO w0 d) (s:List UInt8) (be:Option Addr) (ce:Nat) (bb:Option Addr) (mb cb:Nat) (bl:Option Addr) (ml cl:Nat) (line:Int) (es:List Ez) (hes:Zj (qN w0.heap.size w0) 5 w0.heap.size w0 es be 0 ce) (r:Nat) (q:Option Nat) (t:List UInt8) (w:World) (h:zy w0 r q t w) (hst:xg 6 s es mb ml=true) :
  Calls Tryz.prog 140 #[.pointer (some ⟨r,0,none⟩),szV 6 s be 0 ce bb mb cb bl ml cl line,.int .i64 D] w (zn w0 r q t w (zd (some [114,101,116,117,114,110]) (some [59,10]))):=by
 have aj:∀(fn:Fn) (first cap:Array Value) (w:World),(Instr.makeFunc fn first cap).run Tryz.prog w=.ok (.func fn first cap) w:=fun _ _ _ _=>rfl
 obtain ⟨R,hR⟩:∃R,R=zd (some [114,101,116,117,114,110]) (some [59,10]):=⟨_,rfl⟩;rw [←hR];obtain ⟨z,O⟩:∃z,z=stW w r 6 s be 0 ce bb mb cb bl ml cl line D:=⟨_,rfl⟩;obtain ⟨H,ad,e0,e1,e2⟩:=YU w r 6 s be 0 ce bb mb cb bl ml cl line D;rw [←O] at H ad e0 e1 e2;have A:=h.below H;have af:Hid (zp r q w z q z):=zp.start h H;have o:Hid (z.heap[w.heap.size]?=some (.cells #[.pointer (some ⟨r,0,none⟩)] 84 (0,0))∧z.heap[w.heap.size+1]?=some (vL 6 s be 0 ce bb mb cb bl ml cl line)∧z.heap[w.heap.size+2]?=some (.cells #[.int .i64 D] 3 (0,0))):=⟨e0,e1,e2⟩;have ci:=YA 6 s es be 0 ce bb mb cb bl ml cl line w0.heap.size z (hes.kept A.env fun _ _ h=>Zl.kept h A.env) A.env.size
 rw [hst] at ci;have ag:Hid (zy w0 r q t z):=A;have ah:=O.symm;have N:=ze e0;obtain ⟨c0,c1,c2,Y,c4,c5⟩:=zv e1;have U:=ze e2;have ai:(0:Int)<D:=by omega
 have HR:Hid (R=zd (some [114,101,116,117,114,110]) (some [59,10])):=hR;clear hR A e0 e1 e2 O H h hes hst _hT _hX
 go_enter Tryz.func140,Tryz.ntmps140
 go_wp2_with fail
 refine ci.mono ?_;clear ci N U c0 c1 c2 Y c4 c5;rintro e w2 ⟨rfl,L⟩;have G:Hid (zp r q w z q w2):=af.out.step (zT.below L);have V:Hid (zy w0 r q t w2):=ag.out.below L;clear L;have ca:=z6 true w2;have N:=ze ((G.out.block (w.heap.size) (Nat.le_refl _) (by omega)).trans o.out.1)
 obtain ⟨c0,c1,c2,Y,c4,c5⟩:=zv ((G.out.block (w.heap.size+1) (by omega) (by omega)).trans o.out.2.1)
 have U:=ze ((G.out.block (w.heap.size+2) (by omega) (by omega)).trans o.out.2.2)
 go_wp2_with fail
 refine ca.mono ?_;clear ca;rintro e w3 ⟨rfl,rfl⟩;simp only [Y8];have X:Hid (zp r q w z q w3):=G.out;have T:Hid (zy w0 r q t w3):=V.out;clear af ag G V;have W:=zw w0 r q (t) [114,101,116,117,114,110] w3 T.out (by simp)
 go_wp2_with fail
 refine W.mono ?_;clear W N U c0 c1 c2 Y c4 c5;rintro e w4 ⟨Q,J,rfl,ab⟩;have y:Hid (zp r q w z Q w4):=X.out.step J;have Z:Hid (zy w0 r Q (t++[114,101,116,117,114,110]) w4):=ab;clear J ab;have N:=ze ((y.out.block (w.heap.size) (Nat.le_refl _) (by omega)).trans o.out.1)
 obtain ⟨c0,c1,c2,Y,c4,c5⟩:=zv ((y.out.block (w.heap.size+1) (by omega) (by omega)).trans o.out.2.1)
 have U:=ze ((y.out.block (w.heap.size+2) (by omega) (by omega)).trans o.out.2.2)
 go_wp2_with fail
 go_loopw [54] (fun i wr=>i=.int .i64 0∧zp r q w z Q wr∧zy w0 r Q (t++[114,101,116,117,114,110]) wr) (fun _ _=>0)
 case atStart=>exact ⟨rfl,y.out,Z.out⟩
 case round =>
  obtain ⟨rfl,hL,aa⟩:=hrel;clear N U c0 c1 c2 Y c4 c5 X T y Z;have y:Hid (zp r q w z Q wr):=hL;have N:=ze ((hL.block (w.heap.size) (Nat.le_refl _) (by omega)).trans o.out.1)
  have W:=zw w0 r Q (t++[114,101,116,117,114,110]) [59,10] wr aa (by simp)
  clear hL aa;go_wp2_with fail
  refine W.mono ?_;clear W N;rintro e w5 ⟨q5,I,rfl,ae⟩;obtain rfl:R=some ([114,101,116,117,114,110]++[59,10]):=HR.out;have HP:Hid (zn w0 r q t w (some ([114,101,116,117,114,110]++[59,10])) (.returned (.tuple #[])) w5):=⟨q5,(y.out.step I).unto,rfl,by simpa only [List.append_assoc] using ae⟩
  clear I ae y HR o;go_wp2
  exact bodyPost_ret (v:=.tuple #[]) (by simp [results,Tryz.results140,go_sem]) rfl HP.out
theorem zg3 (w0:World) (d:Nat) (D:Int) (hD:D-1=(d:Int)) (_hD1:1≤D) (hD2:D≤24) (_hT:ZC w0) (hX:yO w0 d) (s:List UInt8) (ce:Nat) (bb:Option Addr) (mb cb:Nat) (bl:Option Addr) (ml cl:Nat) (line:Int) (b o:Nat) (x:Ez) (g01:Int) (g02:List UInt8) (g03:Int) (g04:Option Addr) (g05 g06:Nat) (g07:Int) (hx0:Zl w0.heap.size w0 x (yp g01 g02 g03 g04 g05 g06 g07)) (hkid0:ZW w0 b (o+0*5) g01 g02 g03 g04 g05 g06 g07) (es:List Ez) (hes:Zj (qN w0.heap.size w0) 5 w0.heap.size w0 es (some ⟨b,o,none⟩) 1 ce) (r:Nat) (q:Option Nat) (t:List UInt8) (w:World) (h:zy w0 r q t w) (hst:xg 6 s es mb ml=true) :
  Calls Tryz.prog 140 #[.pointer (some ⟨r,0,none⟩),szV 6 s (some ⟨b,o,none⟩) 1 ce bb mb cb bl ml cl line,.int .i64 D] w (zn w0 r q t w (zd (some [114,101,116,117,114,110]) (zd (some [32]) (zd (prE d x) (some [59,10]))))):=by
 have aH:∀(fn:Fn) (first cap:Array Value) (w:World),(Instr.makeFunc fn first cap).run Tryz.prog w=.ok (.func fn first cap) w:=fun _ _ _ _=>rfl
 obtain ⟨R,hR⟩:∃R,R=zd (some [114,101,116,117,114,110]) (zd (some [32]) (zd (prE d x) (some [59,10]))):=⟨_,rfl⟩;rw [←hR];obtain ⟨z,ae⟩:∃z,z=stW w r 6 s (some ⟨b,o,none⟩) 1 ce bb mb cb bl ml cl line D:=⟨_,rfl⟩;obtain ⟨V,ak,e0,e1,e2⟩:=YU w r 6 s (some ⟨b,o,none⟩) 1 ce bb mb cb bl ml cl line D;rw [←ae] at V ak e0 e1 e2;have I:=h.below V;have ap:Hid (zp r q w z q z):=zp.start h V;have y:Hid (z.heap[w.heap.size]?=some (.cells #[.pointer (some ⟨r,0,none⟩)] 84 (0,0))∧z.heap[w.heap.size+1]?=some (vL 6 s (some ⟨b,o,none⟩) 1 ce bb mb cb bl ml cl line)∧z.heap[w.heap.size+2]?=some (.cells #[.int .i64 D] 3 (0,0))):=⟨e0,e1,e2⟩;have ci:=YA 6 s es (some ⟨b,o,none⟩) 1 ce bb mb cb bl ml cl line w0.heap.size z (hes.kept I.env fun _ _ h=>Zl.kept h I.env) I.env.size
 rw [hst] at ci;have aw:Hid (zy w0 r q t z):=I;have aD:=ae.symm;have L:=ze e0;obtain ⟨c0,c1,c2,c3,c4,c5⟩:=zv e1;have Y:=ze e2;have aG:(0:Int)<D:=by omega
 have ad:Hid (∀(q:Option Nat) (t:List UInt8) (w:World),zy w0 r q t w→Calls Tryz.prog 40 #[.pointer (some ⟨r,0,none⟩),yp g01 g02 g03 g04 g05 g06 g07,.int .i64 (d:Int)] w (zn w0 r q t w (prE d x))):=fun q t w h=>hX _ _ r q t w hx0 h
 have ax:Hid (ZW w0 b (o+0*5) g01 g02 g03 g04 g05 g06 g07):=hkid0;generalize prE d x=X0 at *;have HR:Hid (R=zd (some [114,101,116,117,114,110]) (zd (some [32]) (zd X0 (some [59,10])))):=hR;clear hR I e0 e1 e2 ae V h hes hst _hT hX hx0 hkid0
 go_enter Tryz.func140,Tryz.ntmps140
 go_wp2_with fail
 refine ci.mono ?_;clear ci L Y c0 c1 c2 c3 c4 c5;rintro e w2 ⟨rfl,ab⟩;have N:Hid (zp r q w z q w2):=ap.out.step (zT.below ab);have ar:Hid (zy w0 r q t w2):=aw.out.below ab;clear ab;have ca:=z6 true w2;have L:=ze ((N.out.block (w.heap.size) (Nat.le_refl _) (by omega)).trans y.out.1)
 obtain ⟨c0,c1,c2,c3,c4,c5⟩:=zv ((N.out.block (w.heap.size+1) (by omega) (by omega)).trans y.out.2.1)
 have Y:=ze ((N.out.block (w.heap.size+2) (by omega) (by omega)).trans y.out.2.2)
 go_wp2_with fail
 refine ca.mono ?_;clear ca;rintro e w3 ⟨rfl,rfl⟩;simp only [Y8];have ah:Hid (zp r q w z q w3):=N.out;have aq:Hid (zy w0 r q t w3):=ar.out;clear ap aw N ar;have J:=zw w0 r q (t) [114,101,116,117,114,110] w3 aq.out (by simp)
 go_wp2_with fail
 refine J.mono ?_;clear J L Y c0 c1 c2 c3 c4 c5;rintro e w4 ⟨q4,aa,rfl,aj⟩;have A:Hid (zp r q w z q4 w4):=ah.out.step aa;have ai:Hid (zy w0 r q4 (t++[114,101,116,117,114,110]) w4):=aj;clear aa aj;have L:=ze ((A.out.block (w.heap.size) (Nat.le_refl _) (by omega)).trans y.out.1)
 obtain ⟨c0,c1,c2,c3,c4,c5⟩:=zv ((A.out.block (w.heap.size+1) (by omega) (by omega)).trans y.out.2.1)
 have Y:=ze ((A.out.block (w.heap.size+2) (by omega) (by omega)).trans y.out.2.2)
 go_wp2_with fail
 go_loopw [54] (fun i wr=>∃(k:Nat) (q1:Option Nat) (s1:List UInt8),k≤1∧i=.int .i64 k∧zp r q w z q1 wr∧(if k=0 then some [] else zd (some [32]) X0)=some s1∧zy w0 r q1 (t++[114,101,116,117,114,110]++s1) wr) (fun i _=>1-(intOf i).toNat)
 case atStart=>exact ⟨0,q4,[],Nat.zero_le _,rfl,A.out,rfl,by rw [List.append_nil];exact ai.out⟩
 case round =>
  obtain ⟨k,q1,s1,hk,rfl,hL,W,G⟩:=hrel;clear L Y c0 c1 c2 c3 c4 c5 ah aq A ai
  by_cases hlt:k<1
  ·obtain rfl:k=0:=by omega
   obtain rfl:s1=[]:=by simpa using W.symm
   clear W;rw [List.append_nil] at G;obtain ⟨n0,n1,n2,n3,n4⟩:=ax.out.now G.env;rw [Nat.zero_mul,Nat.add_zero] at n0 n1 n2 n3 n4;obtain ⟨w5,H⟩:∃w5,w5=wr.alloc (yW g01 g02 g03 g04 g05 g06 g07):=⟨_,rfl⟩;have p5:w5.heap[wr.heap.size]?=some (yW g01 g02 g03 g04 g05 g06 g07):=by rw [H];exact World.alloc_heap_new wr _
   have aC:w5.heap.size=wr.heap.size+1:=by rw [H];simp
   have af:Below wr.heap.size wr w5:=by rw [H];exact (Below.refl _ wr).alloc (Nat.le_refl _) _
   have X:Hid (zp r q w z q1 w5):=hL.step (zT.below af);have al:Hid (zy w0 r q1 (t++[114,101,116,117,114,110]) w5):=G.below af;have an:Hid (w5.heap[wr.heap.size]?=some (yW g01 g02 g03 g04 g05 g06 g07)):=p5;have aF:=G.lt.1;have ao:=G.lt.2;have L:=ze ((X.out.block (w.heap.size) (Nat.le_refl _) (by omega)).trans y.out.1)
   have Y:=ze ((X.out.block (w.heap.size+2) (by omega) (by omega)).trans y.out.2.2)
   have az:=ze ((hL.block (w.heap.size) (Nat.le_refl _) (by omega)).trans y.out.1)
   have aA:=ze ((hL.block (w.heap.size+2) (by omega) (by omega)).trans y.out.2.2)
   obtain ⟨d0,d1,d2,d3,d4⟩:=zF p5;have J:=zw w0 r q1 (t++[114,101,116,117,114,110]) [32] w5 al.out (by simp)
   have aE:=H.symm;clear hL G af H p5;go_wp2_with fail
   refine J.mono ?_;clear J L Y az aA d0 d1 d2 d3 d4 n0 n1 n2 n3 n4;rintro e w6 ⟨q6,Q,rfl,am⟩;have T:w6.heap[wr.heap.size]?=w5.heap[wr.heap.size]?:=Q.block _ (by omega) (by omega) (fun e=>by have:=ao _ e;omega)
   obtain ⟨d0,d1,d2,d3,d4⟩:=zF (T.trans an.out);have O:Hid (zp r q w z q6 w6):=X.out.step Q;have L:=ze ((O.out.block (w.heap.size) (Nat.le_refl _) (by omega)).trans y.out.1)
   have Y:=ze ((O.out.block (w.heap.size+2) (by omega) (by omega)).trans y.out.2.2)
   have J:=ad.out q6 (t++[114,101,116,117,114,110]++[32]) w6 am;clear Q am T;go_wp2_with fail
   refine J.mono ?_;clear J L Y d0 d1 d2 d3 d4;rintro e w7 ⟨q7,U,au⟩;cases X0 with
   | none=>subst au;obtain rfl:R=none:=HR.out;exact ⟨rfl,q7,(O.out.step U).unto,rfl⟩
   | some u0 =>
   obtain ⟨rfl,ag⟩:=au;have ay:Hid (∃(k':Nat) (q':Option Nat) (s':List UInt8),k'=1∧zp r q w z q' w7∧(if k'=0 then some [] else zd (some [32]) (some u0))=some s'∧zy w0 r q' (t++[114,101,116,117,114,110]++s') w7):=⟨1,q7,[32]++u0,rfl,O.out.step U,rfl,by rw [←List.append_assoc];exact ag⟩
   clear U ag X O al an ad;go_wp2
   obtain ⟨k',q',s',rfl,h1,h2,h3⟩:=ay.out;exact ⟨⟨1,q',s',by omega,by go_num,h1,h2,h3⟩,by simp [intOf]⟩
  ·obtain rfl:k=1:=by omega
   have A:Hid (zp r q w z q1 wr):=hL;have L:=ze ((hL.block (w.heap.size) (Nat.le_refl _) (by omega)).trans y.out.1)
   have J:=zw w0 r q1 (t++[114,101,116,117,114,110]++s1) [59,10] wr G (by simp)
   have av:Hid (zd (some [32]) X0=some s1):=show _=_ by simpa using W
   clear hL G W;go_wp2_with fail
   refine J.mono ?_;clear J L;rintro e w5 ⟨q5,Z,rfl,H⟩
   have aB:R=some ([114,101,116,117,114,110]++(s1++[59,10])):=by
    rw [HR.out,←uM (some [32]),av.out];rfl
   subst aB;have HP:Hid (zn w0 r q t w (some ([114,101,116,117,114,110]++(s1++[59,10]))) (.returned (.tuple #[])) w5):=⟨q5,(A.out.step Z).unto,rfl,by simpa only [List.append_assoc] using H⟩
   clear Z H A HR y av ad ax;go_wp2
   exact bodyPost_ret (v:=.tuple #[]) (by simp [results,Tryz.results140,go_sem]) rfl HP.out
theorem zin (w0:World) (d:Nat) (D:Int) (hD:D-1=(d:Int)) (_hD1:1≤D) (hD2:D≤24) (_hT:ZC w0) (_hX:yO w0 d) (s:List UInt8) (be:Option Addr) (me ce:Nat) (bb:Option Addr) (mb cb:Nat) (bl:Option Addr) (ml cl:Nat) (line:Int) (es:List Ez) (hes:Zj (qN w0.heap.size w0) 5 w0.heap.size w0 es be me ce) (r:Nat) (q:Option Nat) (t:List UInt8) (w:World) (h:zy w0 r q t w) (hst:xg 3 s es mb ml=true) (X:Option (List UInt8)) (hS:Hid (∀(q:Option Nat) (t:List UInt8) (w:World),zy w0 r q t w→Calls Tryz.prog 173 #[.pointer (some ⟨r,0,none⟩),szV 3 s be me ce bb mb cb bl ml cl line,.int .i64 D] w (zn w0 r q t w X))) :
  Calls Tryz.prog 140 #[.pointer (some ⟨r,0,none⟩),szV 3 s be me ce bb mb cb bl ml cl line,.int .i64 D] w (zn w0 r q t w (X)):=by
 have ai:∀(fn:Fn) (first cap:Array Value) (w:World),(Instr.makeFunc fn first cap).run Tryz.prog w=.ok (.func fn first cap) w:=fun _ _ _ _=>rfl
 obtain ⟨R,hR⟩:∃R,R=X:=⟨_,rfl⟩;rw [←hR];obtain ⟨y,N⟩:∃y,y=stW w r 3 s be me ce bb mb cb bl ml cl line D:=⟨_,rfl⟩;obtain ⟨I,ab,e0,e1,e2⟩:=YU w r 3 s be me ce bb mb cb bl ml cl line D;rw [←N] at I ab e0 e1 e2;have z:=h.below I;have ae:Hid (zp r q w y q y):=zp.start h I;have o:Hid (y.heap[w.heap.size]?=some (.cells #[.pointer (some ⟨r,0,none⟩)] 84 (0,0))∧y.heap[w.heap.size+1]?=some (vL 3 s be me ce bb mb cb bl ml cl line)∧y.heap[w.heap.size+2]?=some (.cells #[.int .i64 D] 3 (0,0))):=⟨e0,e1,e2⟩;have ci:=YA 3 s es be me ce bb mb cb bl ml cl line w0.heap.size y (hes.kept z.env fun _ _ h=>Zl.kept h z.env) z.env.size
 rw [hst] at ci;have af:Hid (zy w0 r q t y):=z;have ag:=N.symm;have U:=ze e0;obtain ⟨Z,c1,c2,Y,c4,c5⟩:=zv e1;have Q:=ze e2;have ah:(0:Int)<D:=by omega
 have V:=hS;clear hS;generalize X=X0 at *;have HR:Hid (R=X0):=hR;clear hR z e0 e1 e2 N I h hes hst _hT _hX
 go_enter Tryz.func140,Tryz.ntmps140
 go_wp2_with fail
 refine ci.mono ?_;clear ci U Q Z c1 c2 Y c4 c5;rintro e w2 ⟨rfl,J⟩;have G:Hid (zp r q w y q w2):=ae.out.step (zT.below J);have T:Hid (zy w0 r q t w2):=af.out.below J;clear J;have ca:=z6 true w2;have U:=ze ((G.out.block (w.heap.size) (Nat.le_refl _) (by omega)).trans o.out.1)
 obtain ⟨Z,c1,c2,Y,c4,c5⟩:=zv ((G.out.block (w.heap.size+1) (by omega) (by omega)).trans o.out.2.1)
 have Q:=ze ((G.out.block (w.heap.size+2) (by omega) (by omega)).trans o.out.2.2)
 go_wp2_with fail
 refine ca.mono ?_;clear ca;rintro e w3 ⟨rfl,rfl⟩;simp only [Y8];have L:Hid (zp r q w y q w3):=G.out;have O:Hid (zy w0 r q t w3):=T.out;clear ae af G T;have cp:=V.out q (t) w3 O.out;go_wp2_with fail
 refine cp.mono ?_;clear cp U Q Z c1 c2 Y c4 c5;rintro e w4 ⟨q4,A,ad⟩;cases X0 with
 | none=>subst ad;obtain rfl:R=none:=HR.out;exact ⟨rfl,q4,(L.out.step A).unto,rfl⟩
 | some u0 =>
 obtain ⟨rfl,aa⟩:=ad;have H:Hid (zp r q w y q4 w4):=L.out.step A;have W:Hid (zy w0 r q4 (t++u0) w4):=aa;clear A aa;have U:=ze ((H.out.block (w.heap.size) (Nat.le_refl _) (by omega)).trans o.out.1)
 obtain ⟨Z,c1,c2,Y,c4,c5⟩:=zv ((H.out.block (w.heap.size+1) (by omega) (by omega)).trans o.out.2.1)
 have Q:=ze ((H.out.block (w.heap.size+2) (by omega) (by omega)).trans o.out.2.2)
 obtain rfl:R=some (u0):=HR.out;have HP:Hid (zn w0 r q t w (some (u0)) (.returned (.tuple #[])) w4):=⟨q4,H.out.unto,rfl,by have:=W.out;simpa only [List.append_assoc] using this⟩
 clear L O H W U Q Z c1 c2 Y c4 c5 V HR o;go_wp2
 exact bodyPost_ret (v:=.tuple #[]) (by simp [results,Tryz.results140,go_sem]) rfl HP.out
theorem zio (w0:World) (d:Nat) (D:Int) (hD:D-1=(d:Int)) (_hD1:1≤D) (hD2:D≤24) (_hT:ZC w0) (_hX:yO w0 d) (s:List UInt8) (be:Option Addr) (me ce:Nat) (bb:Option Addr) (mb cb:Nat) (bl:Option Addr) (ml cl:Nat) (line:Int) (es:List Ez) (hes:Zj (qN w0.heap.size w0) 5 w0.heap.size w0 es be me ce) (r:Nat) (q:Option Nat) (t:List UInt8) (w:World) (h:zy w0 r q t w) (hst:xg 4 s es mb ml=true) (X:Option (List UInt8)) (hS:Hid (∀(q:Option Nat) (t:List UInt8) (w:World),zy w0 r q t w→Calls Tryz.prog 173 #[.pointer (some ⟨r,0,none⟩),szV 4 s be me ce bb mb cb bl ml cl line,.int .i64 D] w (zn w0 r q t w X))) :
  Calls Tryz.prog 140 #[.pointer (some ⟨r,0,none⟩),szV 4 s be me ce bb mb cb bl ml cl line,.int .i64 D] w (zn w0 r q t w (X)):=by
 have ai:∀(fn:Fn) (first cap:Array Value) (w:World),(Instr.makeFunc fn first cap).run Tryz.prog w=.ok (.func fn first cap) w:=fun _ _ _ _=>rfl
 obtain ⟨R,hR⟩:∃R,R=X:=⟨_,rfl⟩;rw [←hR];obtain ⟨y,N⟩:∃y,y=stW w r 4 s be me ce bb mb cb bl ml cl line D:=⟨_,rfl⟩;obtain ⟨I,ab,e0,e1,e2⟩:=YU w r 4 s be me ce bb mb cb bl ml cl line D;rw [←N] at I ab e0 e1 e2;have z:=h.below I;have ae:Hid (zp r q w y q y):=zp.start h I;have o:Hid (y.heap[w.heap.size]?=some (.cells #[.pointer (some ⟨r,0,none⟩)] 84 (0,0))∧y.heap[w.heap.size+1]?=some (vL 4 s be me ce bb mb cb bl ml cl line)∧y.heap[w.heap.size+2]?=some (.cells #[.int .i64 D] 3 (0,0))):=⟨e0,e1,e2⟩;have ci:=YA 4 s es be me ce bb mb cb bl ml cl line w0.heap.size y (hes.kept z.env fun _ _ h=>Zl.kept h z.env) z.env.size
 rw [hst] at ci;have af:Hid (zy w0 r q t y):=z;have ag:=N.symm;have U:=ze e0;obtain ⟨Z,c1,c2,Y,c4,c5⟩:=zv e1;have Q:=ze e2;have ah:(0:Int)<D:=by omega
 have V:=hS;clear hS;generalize X=X0 at *;have HR:Hid (R=X0):=hR;clear hR z e0 e1 e2 N I h hes hst _hT _hX
 go_enter Tryz.func140,Tryz.ntmps140
 go_wp2_with fail
 refine ci.mono ?_;clear ci U Q Z c1 c2 Y c4 c5;rintro e w2 ⟨rfl,J⟩;have G:Hid (zp r q w y q w2):=ae.out.step (zT.below J);have T:Hid (zy w0 r q t w2):=af.out.below J;clear J;have ca:=z6 true w2;have U:=ze ((G.out.block (w.heap.size) (Nat.le_refl _) (by omega)).trans o.out.1)
 obtain ⟨Z,c1,c2,Y,c4,c5⟩:=zv ((G.out.block (w.heap.size+1) (by omega) (by omega)).trans o.out.2.1)
 have Q:=ze ((G.out.block (w.heap.size+2) (by omega) (by omega)).trans o.out.2.2)
 go_wp2_with fail
 refine ca.mono ?_;clear ca;rintro e w3 ⟨rfl,rfl⟩;simp only [Y8];have L:Hid (zp r q w y q w3):=G.out;have O:Hid (zy w0 r q t w3):=T.out;clear ae af G T;have cp:=V.out q (t) w3 O.out;go_wp2_with fail
 refine cp.mono ?_;clear cp U Q Z c1 c2 Y c4 c5;rintro e w4 ⟨q4,A,ad⟩;cases X0 with
 | none=>subst ad;obtain rfl:R=none:=HR.out;exact ⟨rfl,q4,(L.out.step A).unto,rfl⟩
 | some u0 =>
 obtain ⟨rfl,aa⟩:=ad;have H:Hid (zp r q w y q4 w4):=L.out.step A;have W:Hid (zy w0 r q4 (t++u0) w4):=aa;clear A aa;have U:=ze ((H.out.block (w.heap.size) (Nat.le_refl _) (by omega)).trans o.out.1)
 obtain ⟨Z,c1,c2,Y,c4,c5⟩:=zv ((H.out.block (w.heap.size+1) (by omega) (by omega)).trans o.out.2.1)
 have Q:=ze ((H.out.block (w.heap.size+2) (by omega) (by omega)).trans o.out.2.2)
 obtain rfl:R=some (u0):=HR.out;have HP:Hid (zn w0 r q t w (some (u0)) (.returned (.tuple #[])) w4):=⟨q4,H.out.unto,rfl,by have:=W.out;simpa only [List.append_assoc] using this⟩
 clear L O H W U Q Z c1 c2 Y c4 c5 V HR o;go_wp2
 exact bodyPost_ret (v:=.tuple #[]) (by simp [results,Tryz.results140,go_sem]) rfl HP.out
theorem zip (w0:World) (d:Nat) (D:Int) (hD:D-1=(d:Int)) (_hD1:1≤D) (hD2:D≤24) (_hT:ZC w0) (_hX:yO w0 d) (s:List UInt8) (be:Option Addr) (me ce:Nat) (bb:Option Addr) (mb cb:Nat) (bl:Option Addr) (ml cl:Nat) (line:Int) (es:List Ez) (hes:Zj (qN w0.heap.size w0) 5 w0.heap.size w0 es be me ce) (r:Nat) (q:Option Nat) (t:List UInt8) (w:World) (h:zy w0 r q t w) (hst:xg 5 s es mb ml=true) (X:Option (List UInt8)) (hS:Hid (∀(q:Option Nat) (t:List UInt8) (w:World),zy w0 r q t w→Calls Tryz.prog 173 #[.pointer (some ⟨r,0,none⟩),szV 5 s be me ce bb mb cb bl ml cl line,.int .i64 D] w (zn w0 r q t w X))) :
  Calls Tryz.prog 140 #[.pointer (some ⟨r,0,none⟩),szV 5 s be me ce bb mb cb bl ml cl line,.int .i64 D] w (zn w0 r q t w (X)):=by
 have ai:∀(fn:Fn) (first cap:Array Value) (w:World),(Instr.makeFunc fn first cap).run Tryz.prog w=.ok (.func fn first cap) w:=fun _ _ _ _=>rfl
 obtain ⟨R,hR⟩:∃R,R=X:=⟨_,rfl⟩;rw [←hR];obtain ⟨y,N⟩:∃y,y=stW w r 5 s be me ce bb mb cb bl ml cl line D:=⟨_,rfl⟩;obtain ⟨I,ab,e0,e1,e2⟩:=YU w r 5 s be me ce bb mb cb bl ml cl line D;rw [←N] at I ab e0 e1 e2;have z:=h.below I;have ae:Hid (zp r q w y q y):=zp.start h I;have o:Hid (y.heap[w.heap.size]?=some (.cells #[.pointer (some ⟨r,0,none⟩)] 84 (0,0))∧y.heap[w.heap.size+1]?=some (vL 5 s be me ce bb mb cb bl ml cl line)∧y.heap[w.heap.size+2]?=some (.cells #[.int .i64 D] 3 (0,0))):=⟨e0,e1,e2⟩;have ci:=YA 5 s es be me ce bb mb cb bl ml cl line w0.heap.size y (hes.kept z.env fun _ _ h=>Zl.kept h z.env) z.env.size
 rw [hst] at ci;have af:Hid (zy w0 r q t y):=z;have ag:=N.symm;have U:=ze e0;obtain ⟨Z,c1,c2,Y,c4,c5⟩:=zv e1;have Q:=ze e2;have ah:(0:Int)<D:=by omega
 have V:=hS;clear hS;generalize X=X0 at *;have HR:Hid (R=X0):=hR;clear hR z e0 e1 e2 N I h hes hst _hT _hX
 go_enter Tryz.func140,Tryz.ntmps140
 go_wp2_with fail
 refine ci.mono ?_;clear ci U Q Z c1 c2 Y c4 c5;rintro e w2 ⟨rfl,J⟩;have G:Hid (zp r q w y q w2):=ae.out.step (zT.below J);have T:Hid (zy w0 r q t w2):=af.out.below J;clear J;have ca:=z6 true w2;have U:=ze ((G.out.block (w.heap.size) (Nat.le_refl _) (by omega)).trans o.out.1)
 obtain ⟨Z,c1,c2,Y,c4,c5⟩:=zv ((G.out.block (w.heap.size+1) (by omega) (by omega)).trans o.out.2.1)
 have Q:=ze ((G.out.block (w.heap.size+2) (by omega) (by omega)).trans o.out.2.2)
 go_wp2_with fail
 refine ca.mono ?_;clear ca;rintro e w3 ⟨rfl,rfl⟩;simp only [Y8];have L:Hid (zp r q w y q w3):=G.out;have O:Hid (zy w0 r q t w3):=T.out;clear ae af G T;have cp:=V.out q (t) w3 O.out;go_wp2_with fail
 refine cp.mono ?_;clear cp U Q Z c1 c2 Y c4 c5;rintro e w4 ⟨q4,A,ad⟩;cases X0 with
 | none=>subst ad;obtain rfl:R=none:=HR.out;exact ⟨rfl,q4,(L.out.step A).unto,rfl⟩
 | some u0 =>
 obtain ⟨rfl,aa⟩:=ad;have H:Hid (zp r q w y q4 w4):=L.out.step A;have W:Hid (zy w0 r q4 (t++u0) w4):=aa;clear A aa;have U:=ze ((H.out.block (w.heap.size) (Nat.le_refl _) (by omega)).trans o.out.1)
 obtain ⟨Z,c1,c2,Y,c4,c5⟩:=zv ((H.out.block (w.heap.size+1) (by omega) (by omega)).trans o.out.2.1)
 have Q:=ze ((H.out.block (w.heap.size+2) (by omega) (by omega)).trans o.out.2.2)
 obtain rfl:R=some (u0):=HR.out;have HP:Hid (zn w0 r q t w (some (u0)) (.returned (.tuple #[])) w4):=⟨q4,H.out.unto,rfl,by have:=W.out;simpa only [List.append_assoc] using this⟩
 clear L O H W U Q Z c1 c2 Y c4 c5 V HR o;go_wp2
 exact bodyPost_ret (v:=.tuple #[]) (by simp [results,Tryz.results140,go_sem]) rfl HP.out
theorem ziq (w0:World) (d:Nat) (D:Int) (hD:D-1=(d:Int)) (_hD1:1≤D) (hD2:D≤24) (_hT:ZC w0) (_hX:yO w0 d) (s:List UInt8) (be:Option Addr) (me ce:Nat) (bb:Option Addr) (mb cb:Nat) (bl:Option Addr) (ml cl:Nat) (line:Int) (es:List Ez) (hes:Zj (qN w0.heap.size w0) 5 w0.heap.size w0 es be me ce) (r:Nat) (q:Option Nat) (t:List UInt8) (w:World) (h:zy w0 r q t w) (k:Int) (hst:xg k s es mb ml=false) :
  Calls Tryz.prog 140 #[.pointer (some ⟨r,0,none⟩),szV k s be me ce bb mb cb bl ml cl line,.int .i64 D] w (zn w0 r q t w ((none:Option (List UInt8)))):=by
 have ae:∀(fn:Fn) (first cap:Array Value) (w:World),(Instr.makeFunc fn first cap).run Tryz.prog w=.ok (.func fn first cap) w:=fun _ _ _ _=>rfl
 obtain ⟨R,T⟩:∃R,R=(none:Option (List UInt8)):=⟨_,rfl⟩;rw [←T];obtain ⟨y,H⟩:∃y,y=stW w r k s be me ce bb mb cb bl ml cl line D:=⟨_,rfl⟩;obtain ⟨z,J,O,N,L⟩:=YU w r k s be me ce bb mb cb bl ml cl line D;rw [←H] at z J O N L;have o:=h.below z;have U:Hid (zp r q w y q y):=zp.start h z;have I:Hid (y.heap[w.heap.size]?=some (.cells #[.pointer (some ⟨r,0,none⟩)] 84 (0,0))∧y.heap[w.heap.size+1]?=some (vL k s be me ce bb mb cb bl ml cl line)∧y.heap[w.heap.size+2]?=some (.cells #[.int .i64 D] 3 (0,0))):=⟨O,N,L⟩;have Q:=YA k s es be me ce bb mb cb bl ml cl line w0.heap.size y (hes.kept o.env fun _ _ h=>Zl.kept h o.env) o.env.size
 rw [hst] at Q;have V:Hid (zy w0 r q t y):=o;have aa:=H.symm;have Y:=ze O;obtain ⟨c0,c1,c2,Z,c4,c5⟩:=zv N;have X:=ze L;have ab:(0:Int)<D:=by omega
 have HR:Hid (R=none):=T;clear T o O N L H z h hes hst _hT _hX
 go_enter Tryz.func140,Tryz.ntmps140
 go_wp2_with fail
 refine Q.mono ?_;clear Q Y X c0 c1 c2 Z c4 c5;rintro e W ⟨rfl,G⟩;have A:Hid (zp r q w y q W):=U.out.step (zT.below G);have ad:Hid (zy w0 r q t W):=V.out.below G;clear G;have ca:=z6 false W;have Y:=ze ((A.out.block (w.heap.size) (Nat.le_refl _) (by omega)).trans I.out.1)
 obtain ⟨c0,c1,c2,Z,c4,c5⟩:=zv ((A.out.block (w.heap.size+1) (by omega) (by omega)).trans I.out.2.1)
 have X:=ze ((A.out.block (w.heap.size+2) (by omega) (by omega)).trans I.out.2.2)
 go_wp2_with fail
 refine ca.mono ?_;clear ca;rintro e w3 ⟨rfl,rfl⟩;obtain rfl:=HR.out;exact ⟨rfl,q,A.out.unto,rfl⟩
theorem zfz (w0:World) (k:Int) (s:List UInt8) (be:Option Addr) (me ce:Nat) (bb:Option Addr) (mb cb:Nat) (bl:Option Addr) (ml cl:Nat) (line:Int) (r:Nat) (q:Option Nat) (t:List UInt8) (w:World) (h:zy w0 r q t w) :
  Calls Tryz.prog 140 #[.pointer (some ⟨r,0,none⟩),szV k s be me ce bb mb cb bl ml cl line,.int .i64 0] w (zn w0 r q t w none):=by
 obtain ⟨A,y⟩:∃A,A=stW w r k s be me ce bb mb cb bl ml cl line 0:=⟨_,rfl⟩;obtain ⟨o,z,L,H,D⟩:=YU w r k s be me ce bb mb cb bl ml cl line 0;rw [←y] at o z L H D;have G:Hid (zp r q w A q A):=zp.start h o;have I:=y.symm;have N:=ze D;have J:=z6 false A;clear o L H D y h
 go_enter Tryz.func140,Tryz.ntmps140
 go_wp2_with fail
 refine J.mono ?_;clear J;rintro e O ⟨rfl,rfl⟩;exact ⟨rfl,q,G.out.unto,rfl⟩
end Go.Proofs.YtcphojjpapgblaaGreatDoor
