import Derived.Test.YtpejpbbdgblbeaaGreatDoorMC24
namespace Go.Proofs.YtpejpbbdgblbeaaGreatDoor
open Go.RowKit Go.Shelf
set_option maxHeartbeats 16000000
set_option maxRecDepth 100000
def zcD (w0:World) (d:Nat):Prop:=∀(fz:Nat) (l:List Sz) (base:Option Addr) (m cap r:Nat) (q:Option Nat) (t:List UInt8) (w:World),Zk (ZN w0.heap.size w0 fz) 6 w0.heap.size w0 l base m cap→zu w0 r q t w →
  Calls Tryz.prog 112 #[.pointer (some ⟨r,0,none⟩),.slice base m cap,.int .i64 (d:Int)] w (zk w0 r q t w (blkO (prS d) l))
def zf8 (w0:World) (d:Nat):Prop:=∀(fz:Nat) (x:Sz) (c:List Value) (r:Nat) (q:Option Nat) (t:List UInt8) (w:World),ZN w0.heap.size w0 fz x c→zu w0 r q t w →
  Calls Tryz.prog 142 #[.pointer (some ⟨r,0,none⟩),.agg c.toArray,.int .i64 (d:Int)] w (zk w0 r q t w (prS d x))
abbrev stW (w:World) (r:Nat) (k:Int) (s:List UInt8) (be:Option Addr) (me ce:Nat) (bb:Option Addr) (mb cb:Nat) (bl:Option Addr) (ml cl:Nat) (line D:Int):World:=((w.alloc (.cells #[.pointer (some ⟨r,0,none⟩)] 85)).alloc (Vc k s be me ce bb mb cb bl ml cl line)).alloc (.cells #[.int .i64 D] 3)
theorem YE (w:World) (r:Nat) (k:Int) (s:List UInt8) (be:Option Addr) (me ce:Nat) (bb:Option Addr) (mb cb:Nat) (bl:Option Addr) (ml cl:Nat) (line D:Int) :
  Below w.heap.size w (stW w r k s be me ce bb mb cb bl ml cl line D)∧(stW w r k s be me ce bb mb cb bl ml cl line D).heap.size=w.heap.size+3∧(stW w r k s be me ce bb mb cb bl ml cl line D).heap[w.heap.size]?=some (.cells #[.pointer (some ⟨r,0,none⟩)] 85 (0,0))∧(stW w r k s be me ce bb mb cb bl ml cl line D).heap[w.heap.size+1]?=some (Vc k s be me ce bb mb cb bl ml cl line)∧(stW w r k s be me ce bb mb cb bl ml cl line D).heap[w.heap.size+2]?=some (.cells #[.int .i64 D] 3 (0,0)):=by
 refine ⟨(((Below.refl _ w).alloc (Nat.le_refl _) _).alloc (by simp) _).alloc (by simp <;> omega) _,by simp,?_,?_,?_⟩
 ·rw [Below.heap_alloc _ _ _ (by simp <;> omega),Below.heap_alloc _ _ _ (by simp)];exact World.alloc_heap_new _ _
 ·rw [Below.heap_alloc _ _ _ (by simp)]
  have:=World.alloc_heap_new (w.alloc (.cells #[.pointer (some ⟨r,0,none⟩)] 85)) (Vc k s be me ce bb mb cb bl ml cl line)
  simpa using this
 ·have:=World.alloc_heap_new ((w.alloc (.cells #[.pointer (some ⟨r,0,none⟩)] 85)).alloc (Vc k s be me ce bb mb cb bl ml cl line)) (.cells #[.int .i64 D] 3)
  simpa using this
theorem zgK (w0:World) (d:Nat) (D:Int) (hD:D-1=(d:Int)) (_hD1:1≤D) (hD2:D≤24) (hX:yD w0 d) (hB:zcD w0 d) (s:List UInt8) (ce:Nat) (bb:Option Addr) (mb cb:Nat) (bl:Option Addr) (ml cl:Nat) (line:Int) (x:Ez) (b o:Nat) (a1:Int) (a2:List UInt8) (a3:Int) (a4:Option Addr) (a5 a6:Nat) (a7:Int) (hx:Zs w0.heap.size w0 x (yu a1 a2 a3 a4 a5 a6 a7)) (hkid:ZX w0 b o a1 a2 a3 a4 a5 a6 a7) (fz:Nat) (body:List Sz) (hbody:Zk (ZN w0.heap.size w0 fz) 6 w0.heap.size w0 body bb mb cb) (r:Nat) (q:Option Nat) (t:List UInt8) (w:World) (h:zu w0 r q t w) :
  Calls Tryz.prog 175 #[.pointer (some ⟨r,0,none⟩),qP 5 s (some ⟨b,o,none⟩) 1 ce bb mb cb bl ml cl line,.int .i64 D] w (zk w0 r q t w (zc (some [119,104,105,108,101,32]) (zc (prE d x) (zc (some [32]) (zc (blkO (prS d) body) ((some [10]))))))):=by
 obtain ⟨R,hR⟩:∃R,R=zc (some [119,104,105,108,101,32]) (zc (prE d x) (zc (some [32]) (zc (blkO (prS d) body) ((some [10]))))):=⟨_,rfl⟩;rw [←hR];have ar:Hid (∀(q:Option Nat) (t:List UInt8) (w:World),zu w0 r q t w→Calls Tryz.prog 42 #[.pointer (some ⟨r,0,none⟩),yu a1 a2 a3 a4 a5 a6 a7,.int .i64 (d:Int)] w (zk w0 r q t w (prE d x))):=fun q t w h=>hX _ _ r q t w hx h
 have ai:Hid (∀(q:Option Nat) (t:List UInt8) (w:World),zu w0 r q t w→Calls Tryz.prog 112 #[.pointer (some ⟨r,0,none⟩),.slice bb mb cb,.int .i64 (d:Int)] w (zk w0 r q t w (blkO (prS d) body))):=fun q t w h=>hB fz body bb mb cb r q t w hbody h
 have ak:Hid (ZX w0 b o a1 a2 a3 a4 a5 a6 a7):=hkid;obtain ⟨w1,H⟩:∃w1,w1=w.alloc (Vc 5 s (some ⟨b,o,none⟩) 1 ce bb mb cb bl ml cl line):=⟨_,rfl⟩;have Y:Below w.heap.size w w1:=by rw [H];exact (Below.refl _ w).alloc (Nat.le_refl _) _
 have p1:w1.heap[w.heap.size]?=some (Vc 5 s (some ⟨b,o,none⟩) 1 ce bb mb cb bl ml cl line):=by rw [H];exact World.alloc_heap_new w _
 have au:w1.heap.size=w.heap.size+1:=by rw [H];simp
 have ah:Hid (zp r q w w1 q w1):=zp.start h Y;have ao:Hid (zu w0 r q t w1):=h.below Y;have z:Hid (w1.heap[w.heap.size]?=some (Vc 5 s (some ⟨b,o,none⟩) 1 ce bb mb cb bl ml cl line)):=p1;have av:=H.symm;obtain ⟨J,c1,c2,L,I,A⟩:=zv p1;generalize prE d x=X0 at *;generalize blkO (prS d) body=X1 at *;have HR:Hid (R=zc (some [119,104,105,108,101,32]) (zc X0 (zc (some [32]) (zc X1 ((some [10])))))):=hR;clear hR p1 H Y h hX hB hx hkid hbody
 go_enter Tryz.func175,Tryz.ntmps175
 have y:=zt w0 r q (t) [119,104,105,108,101,32] w1 ao.out (by simp)
 go_wp2_with fail
 refine y.mono ?_;clear y J c1 c2 L I A;rintro e w2 ⟨q2,U,rfl,af⟩;have O:Hid (zp r q w w1 q2 w2):=ah.out.step U;have V:Hid (zu w0 r q2 (t++[119,104,105,108,101,32]) w2):=af;clear U af;obtain ⟨J,c1,c2,L,I,A⟩:=zv ((O.out.block _ (Nat.le_refl _) (by omega)).trans z.out)
 obtain ⟨n0,n1,n2,n3,n4⟩:=ak.out.now V.out.env;have y:=ar.out q2 (t++[119,104,105,108,101,32]) w2 V.out;go_wp2_with fail
 refine y.mono ?_;clear y J c1 c2 L I A n0 n1 n2 n3 n4;rintro e w3 ⟨q3,K,an⟩;cases X0 with
 | none=>subst an;obtain rfl:R=none:=HR.out;exact ⟨rfl,q3,(O.out.step K).unto,rfl⟩
 | some u0 =>
 obtain ⟨rfl,ag⟩:=an;have W:Hid (zp r q w w1 q3 w3):=O.out.step K;have ab:Hid (zu w0 r q3 (t++[119,104,105,108,101,32]++u0) w3):=ag;clear K ag;obtain ⟨J,c1,c2,L,I,A⟩:=zv ((W.out.block _ (Nat.le_refl _) (by omega)).trans z.out)
 have y:=zt w0 r q3 (t++[119,104,105,108,101,32]++u0) [32] w3 ab.out (by simp)
 go_wp2_with fail
 refine y.mono ?_;clear y J c1 c2 L I A;rintro e w4 ⟨q4,T,rfl,am⟩;have N:Hid (zp r q w w1 q4 w4):=W.out.step T;have al:Hid (zu w0 r q4 (t++[119,104,105,108,101,32]++u0++[32]) w4):=am;clear T am;obtain ⟨J,c1,c2,L,I,A⟩:=zv ((N.out.block _ (Nat.le_refl _) (by omega)).trans z.out)
 have y:=ai.out q4 (t++[119,104,105,108,101,32]++u0++[32]) w4 al.out;go_wp2_with fail
 refine y.mono ?_;clear y J c1 c2 L I A;rintro e w5 ⟨q5,G,aj⟩;cases X1 with
 | none=>subst aj;obtain rfl:R=none:=HR.out;exact ⟨rfl,q5,(N.out.step G).unto,rfl⟩
 | some u1 =>
 obtain ⟨rfl,ae⟩:=aj;have aa:Hid (zp r q w w1 q5 w5):=N.out.step G;have aq:Hid (zu w0 r q5 (t++[119,104,105,108,101,32]++u0++[32]++u1) w5):=ae;clear G ae;obtain ⟨J,c1,c2,L,I,A⟩:=zv ((aa.out.block _ (Nat.le_refl _) (by omega)).trans z.out)
 have y:=zt w0 r q5 (t++[119,104,105,108,101,32]++u0++[32]++u1) [10] w5 aq.out (by simp)
 go_wp2_with fail
 refine y.mono ?_;clear y J c1 c2 L I A;rintro e w6 ⟨q6,Q,rfl,ad⟩;have Z:Hid (zp r q w w1 q6 w6):=aa.out.step Q;have ap:Hid (zu w0 r q6 (t++[119,104,105,108,101,32]++u0++[32]++u1++[10]) w6):=ad;clear Q ad;obtain ⟨J,c1,c2,L,I,A⟩:=zv ((Z.out.block _ (Nat.le_refl _) (by omega)).trans z.out)
 obtain rfl:R=some ([119,104,105,108,101,32]++(u0++([32]++(u1++([10]))))):=HR.out;have HP:Hid (zk w0 r q t w (some ([119,104,105,108,101,32]++(u0++([32]++(u1++([10])))))) (.returned (.tuple #[])) w6):=⟨q6,Z.out.unto,rfl,by have:=ap.out;simpa only [List.append_assoc] using this⟩
 clear ah ao O V W ab N al aa aq Z ap J c1 c2 L I A ak ar ai HR z;go_wp2
 exact bodyPost_ret (v:=.tuple #[]) (by simp [results,Tryz.results175,go_sem]) rfl HP.out
theorem zgL (w0:World) (d:Nat) (D:Int) (hD:D-1=(d:Int)) (_hD1:1≤D) (hD2:D≤24) (hX:yD w0 d) (hB:zcD w0 d) (s:List UInt8) (ce:Nat) (bb:Option Addr) (mb cb:Nat) (bl:Option Addr) (ml cl:Nat) (line:Int) (x:Ez) (b o:Nat) (a1:Int) (a2:List UInt8) (a3:Int) (a4:Option Addr) (a5 a6:Nat) (a7:Int) (hx:Zs w0.heap.size w0 x (yu a1 a2 a3 a4 a5 a6 a7)) (hkid:ZX w0 b o a1 a2 a3 a4 a5 a6 a7) (fz:Nat) (body:List Sz) (hbody:Zk (ZN w0.heap.size w0 fz) 6 w0.heap.size w0 body bb mb cb) (r:Nat) (q:Option Nat) (t:List UInt8) (w:World) (h:zu w0 r q t w) :
  Calls Tryz.prog 175 #[.pointer (some ⟨r,0,none⟩),qP 3 s (some ⟨b,o,none⟩) 1 ce bb mb cb bl ml cl line,.int .i64 D] w (zk w0 r q t w (zc (some [105,102,32]) (zc (prE d x) (zc (some [32]) (zc (blkO (prS d) body) ((some [10]))))))):=by
 obtain ⟨R,hR⟩:∃R,R=zc (some [105,102,32]) (zc (prE d x) (zc (some [32]) (zc (blkO (prS d) body) ((some [10]))))):=⟨_,rfl⟩;rw [←hR];have ar:Hid (∀(q:Option Nat) (t:List UInt8) (w:World),zu w0 r q t w→Calls Tryz.prog 42 #[.pointer (some ⟨r,0,none⟩),yu a1 a2 a3 a4 a5 a6 a7,.int .i64 (d:Int)] w (zk w0 r q t w (prE d x))):=fun q t w h=>hX _ _ r q t w hx h
 have ai:Hid (∀(q:Option Nat) (t:List UInt8) (w:World),zu w0 r q t w→Calls Tryz.prog 112 #[.pointer (some ⟨r,0,none⟩),.slice bb mb cb,.int .i64 (d:Int)] w (zk w0 r q t w (blkO (prS d) body))):=fun q t w h=>hB fz body bb mb cb r q t w hbody h
 have ak:Hid (ZX w0 b o a1 a2 a3 a4 a5 a6 a7):=hkid;obtain ⟨w1,H⟩:∃w1,w1=w.alloc (Vc 3 s (some ⟨b,o,none⟩) 1 ce bb mb cb bl ml cl line):=⟨_,rfl⟩;have Y:Below w.heap.size w w1:=by rw [H];exact (Below.refl _ w).alloc (Nat.le_refl _) _
 have p1:w1.heap[w.heap.size]?=some (Vc 3 s (some ⟨b,o,none⟩) 1 ce bb mb cb bl ml cl line):=by rw [H];exact World.alloc_heap_new w _
 have au:w1.heap.size=w.heap.size+1:=by rw [H];simp
 have ah:Hid (zp r q w w1 q w1):=zp.start h Y;have ao:Hid (zu w0 r q t w1):=h.below Y;have z:Hid (w1.heap[w.heap.size]?=some (Vc 3 s (some ⟨b,o,none⟩) 1 ce bb mb cb bl ml cl line)):=p1;have av:=H.symm;obtain ⟨J,c1,c2,L,I,A⟩:=zv p1;generalize prE d x=X0 at *;generalize blkO (prS d) body=X1 at *;have HR:Hid (R=zc (some [105,102,32]) (zc X0 (zc (some [32]) (zc X1 ((some [10])))))):=hR;clear hR p1 H Y h hX hB hx hkid hbody
 go_enter Tryz.func175,Tryz.ntmps175
 have y:=zt w0 r q (t) [105,102,32] w1 ao.out (by simp)
 go_wp2_with fail
 refine y.mono ?_;clear y J c1 c2 L I A;rintro e w2 ⟨q2,U,rfl,af⟩;have O:Hid (zp r q w w1 q2 w2):=ah.out.step U;have V:Hid (zu w0 r q2 (t++[105,102,32]) w2):=af;clear U af;obtain ⟨J,c1,c2,L,I,A⟩:=zv ((O.out.block _ (Nat.le_refl _) (by omega)).trans z.out)
 obtain ⟨n0,n1,n2,n3,n4⟩:=ak.out.now V.out.env;have y:=ar.out q2 (t++[105,102,32]) w2 V.out;go_wp2_with fail
 refine y.mono ?_;clear y J c1 c2 L I A n0 n1 n2 n3 n4;rintro e w3 ⟨q3,K,an⟩;cases X0 with
 | none=>subst an;obtain rfl:R=none:=HR.out;exact ⟨rfl,q3,(O.out.step K).unto,rfl⟩
 | some u0 =>
 obtain ⟨rfl,ag⟩:=an;have W:Hid (zp r q w w1 q3 w3):=O.out.step K;have ab:Hid (zu w0 r q3 (t++[105,102,32]++u0) w3):=ag;clear K ag;obtain ⟨J,c1,c2,L,I,A⟩:=zv ((W.out.block _ (Nat.le_refl _) (by omega)).trans z.out)
 have y:=zt w0 r q3 (t++[105,102,32]++u0) [32] w3 ab.out (by simp)
 go_wp2_with fail
 refine y.mono ?_;clear y J c1 c2 L I A;rintro e w4 ⟨q4,T,rfl,am⟩;have N:Hid (zp r q w w1 q4 w4):=W.out.step T;have al:Hid (zu w0 r q4 (t++[105,102,32]++u0++[32]) w4):=am;clear T am;obtain ⟨J,c1,c2,L,I,A⟩:=zv ((N.out.block _ (Nat.le_refl _) (by omega)).trans z.out)
 have y:=ai.out q4 (t++[105,102,32]++u0++[32]) w4 al.out;go_wp2_with fail
 refine y.mono ?_;clear y J c1 c2 L I A;rintro e w5 ⟨q5,G,aj⟩;cases X1 with
 | none=>subst aj;obtain rfl:R=none:=HR.out;exact ⟨rfl,q5,(N.out.step G).unto,rfl⟩
 | some u1 =>
 obtain ⟨rfl,ae⟩:=aj;have aa:Hid (zp r q w w1 q5 w5):=N.out.step G;have aq:Hid (zu w0 r q5 (t++[105,102,32]++u0++[32]++u1) w5):=ae;clear G ae;obtain ⟨J,c1,c2,L,I,A⟩:=zv ((aa.out.block _ (Nat.le_refl _) (by omega)).trans z.out)
 have y:=zt w0 r q5 (t++[105,102,32]++u0++[32]++u1) [10] w5 aq.out (by simp)
 go_wp2_with fail
 refine y.mono ?_;clear y J c1 c2 L I A;rintro e w6 ⟨q6,Q,rfl,ad⟩;have Z:Hid (zp r q w w1 q6 w6):=aa.out.step Q;have ap:Hid (zu w0 r q6 (t++[105,102,32]++u0++[32]++u1++[10]) w6):=ad;clear Q ad;obtain ⟨J,c1,c2,L,I,A⟩:=zv ((Z.out.block _ (Nat.le_refl _) (by omega)).trans z.out)
 obtain rfl:R=some ([105,102,32]++(u0++([32]++(u1++([10]))))):=HR.out;have HP:Hid (zk w0 r q t w (some ([105,102,32]++(u0++([32]++(u1++([10])))))) (.returned (.tuple #[])) w6):=⟨q6,Z.out.unto,rfl,by have:=ap.out;simpa only [List.append_assoc] using this⟩
 clear ah ao O V W ab N al aa aq Z ap J c1 c2 L I A ak ar ai HR z;go_wp2
 exact bodyPost_ret (v:=.tuple #[]) (by simp [results,Tryz.results175,go_sem]) rfl HP.out
theorem zgM (w0:World) (d:Nat) (D:Int) (hD:D-1=(d:Int)) (_hD1:1≤D) (hD2:D≤24) (hX:yD w0 d) (hB:zcD w0 d) (s:List UInt8) (ce:Nat) (bb:Option Addr) (mb cb:Nat) (bl:Option Addr) (ml cl:Nat) (line:Int) (x:Ez) (b o:Nat) (a1:Int) (a2:List UInt8) (a3:Int) (a4:Option Addr) (a5 a6:Nat) (a7:Int) (hx:Zs w0.heap.size w0 x (yu a1 a2 a3 a4 a5 a6 a7)) (hkid:ZX w0 b o a1 a2 a3 a4 a5 a6 a7) (fz:Nat) (body:List Sz) (hbody:Zk (ZN w0.heap.size w0 fz) 6 w0.heap.size w0 body bb mb cb) (els:List Sz) (hels:Zk (ZN w0.heap.size w0 fz) 6 w0.heap.size w0 els bl ml cl) (r:Nat) (q:Option Nat) (t:List UInt8) (w:World) (h:zu w0 r q t w) :
  Calls Tryz.prog 175 #[.pointer (some ⟨r,0,none⟩),qP 4 s (some ⟨b,o,none⟩) 1 ce bb mb cb bl ml cl line,.int .i64 D] w (zk w0 r q t w (zc (some [105,102,32]) (zc (prE d x) (zc (some [32]) (zc (blkO (prS d) body) (zc (some [32,101,108,115,101,32]) (zc (blkO (prS d) els) ((some [10]))))))))):=by
 obtain ⟨R,hR⟩:∃R,R=zc (some [105,102,32]) (zc (prE d x) (zc (some [32]) (zc (blkO (prS d) body) (zc (some [32,101,108,115,101,32]) (zc (blkO (prS d) els) ((some [10]))))))):=⟨_,rfl⟩;rw [←hR];have aD:Hid (∀(q:Option Nat) (t:List UInt8) (w:World),zu w0 r q t w→Calls Tryz.prog 42 #[.pointer (some ⟨r,0,none⟩),yu a1 a2 a3 a4 a5 a6 a7,.int .i64 (d:Int)] w (zk w0 r q t w (prE d x))):=fun q t w h=>hX _ _ r q t w hx h
 have ay:Hid (∀(q:Option Nat) (t:List UInt8) (w:World),zu w0 r q t w→Calls Tryz.prog 112 #[.pointer (some ⟨r,0,none⟩),.slice bb mb cb,.int .i64 (d:Int)] w (zk w0 r q t w (blkO (prS d) body))):=fun q t w h=>hB fz body bb mb cb r q t w hbody h
 have aA:Hid (∀(q:Option Nat) (t:List UInt8) (w:World),zu w0 r q t w→Calls Tryz.prog 112 #[.pointer (some ⟨r,0,none⟩),.slice bl ml cl,.int .i64 (d:Int)] w (zk w0 r q t w (blkO (prS d) els))):=fun q t w h=>hB fz els bl ml cl r q t w hels h
 have al:Hid (ZX w0 b o a1 a2 a3 a4 a5 a6 a7):=hkid;obtain ⟨w1,J⟩:∃w1,w1=w.alloc (Vc 4 s (some ⟨b,o,none⟩) 1 ce bb mb cb bl ml cl line):=⟨_,rfl⟩;have aa:Below w.heap.size w w1:=by rw [J];exact (Below.refl _ w).alloc (Nat.le_refl _) _
 have p1:w1.heap[w.heap.size]?=some (Vc 4 s (some ⟨b,o,none⟩) 1 ce bb mb cb bl ml cl line):=by rw [J];exact World.alloc_heap_new w _
 have aE:w1.heap.size=w.heap.size+1:=by rw [J];simp
 have ax:Hid (zp r q w w1 q w1):=zp.start h aa;have aB:Hid (zu w0 r q t w1):=h.below aa;have z:Hid (w1.heap[w.heap.size]?=some (Vc 4 s (some ⟨b,o,none⟩) 1 ce bb mb cb bl ml cl line)):=p1;have aF:=J.symm;obtain ⟨G,c1,c2,H,I,A⟩:=zv p1;generalize prE d x=X0 at *;generalize blkO (prS d) body=X1 at *;generalize blkO (prS d) els=X2 at *;have HR:Hid (R=zc (some [105,102,32]) (zc X0 (zc (some [32]) (zc X1 (zc (some [32,101,108,115,101,32]) (zc X2 ((some [10])))))))):=hR;clear hR p1 J aa h hX hB hx hkid hbody hels
 go_enter Tryz.func175,Tryz.ntmps175
 have y:=zt w0 r q (t) [105,102,32] w1 aB.out (by simp)
 go_wp2_with fail
 refine y.mono ?_;clear y G c1 c2 H I A;rintro e w2 ⟨q2,Y,rfl,au⟩;have T:Hid (zp r q w w1 q2 w2):=ax.out.step Y;have ad:Hid (zu w0 r q2 (t++[105,102,32]) w2):=au;clear Y au;obtain ⟨G,c1,c2,H,I,A⟩:=zv ((T.out.block _ (Nat.le_refl _) (by omega)).trans z.out)
 obtain ⟨n0,n1,n2,n3,n4⟩:=al.out.now ad.out.env;have y:=aD.out q2 (t++[105,102,32]) w2 ad.out;go_wp2_with fail
 refine y.mono ?_;clear y G c1 c2 H I A n0 n1 n2 n3 n4;rintro e w3 ⟨q3,K,ao⟩;cases X0 with
 | none=>subst ao;obtain rfl:R=none:=HR.out;exact ⟨rfl,q3,(T.out.step K).unto,rfl⟩
 | some u0 =>
 obtain ⟨rfl,av⟩:=ao;have Z:Hid (zp r q w w1 q3 w3):=T.out.step K;have ag:Hid (zu w0 r q3 (t++[105,102,32]++u0) w3):=av;clear K av;obtain ⟨G,c1,c2,H,I,A⟩:=zv ((Z.out.block _ (Nat.le_refl _) (by omega)).trans z.out)
 have y:=zt w0 r q3 (t++[105,102,32]++u0) [32] w3 ag.out (by simp)
 go_wp2_with fail
 refine y.mono ?_;clear y G c1 c2 H I A;rintro e w4 ⟨q4,U,rfl,an⟩;have O:Hid (zp r q w w1 q4 w4):=Z.out.step U;have az:Hid (zu w0 r q4 (t++[105,102,32]++u0++[32]) w4):=an;clear U an;obtain ⟨G,c1,c2,H,I,A⟩:=zv ((O.out.block _ (Nat.le_refl _) (by omega)).trans z.out)
 have y:=ay.out q4 (t++[105,102,32]++u0++[32]) w4 az.out;go_wp2_with fail
 refine y.mono ?_;clear y G c1 c2 H I A;rintro e w5 ⟨q5,N,ai⟩;cases X1 with
 | none=>subst ai;obtain rfl:R=none:=HR.out;exact ⟨rfl,q5,(O.out.step N).unto,rfl⟩
 | some u1 =>
 obtain ⟨rfl,ar⟩:=ai;have af:Hid (zp r q w w1 q5 w5):=O.out.step N;have aq:Hid (zu w0 r q5 (t++[105,102,32]++u0++[32]++u1) w5):=ar;clear N ar;obtain ⟨G,c1,c2,H,I,A⟩:=zv ((af.out.block _ (Nat.le_refl _) (by omega)).trans z.out)
 have y:=zt w0 r q5 (t++[105,102,32]++u0++[32]++u1) [32,101,108,115,101,32] w5 aq.out (by simp)
 go_wp2_with fail
 refine y.mono ?_;clear y G c1 c2 H I A;rintro e w6 ⟨q6,W,rfl,ah⟩;have Q:Hid (zp r q w w1 q6 w6):=af.out.step W;have aC:Hid (zu w0 r q6 (t++[105,102,32]++u0++[32]++u1++[32,101,108,115,101,32]) w6):=ah;clear W ah;obtain ⟨G,c1,c2,H,I,A⟩:=zv ((Q.out.block _ (Nat.le_refl _) (by omega)).trans z.out)
 have y:=aA.out q6 (t++[105,102,32]++u0++[32]++u1++[32,101,108,115,101,32]) w6 aC.out;go_wp2_with fail
 refine y.mono ?_;clear y G c1 c2 H I A;rintro e w7 ⟨q7,L,aj⟩;cases X2 with
 | none=>subst aj;obtain rfl:R=none:=HR.out;exact ⟨rfl,q7,(Q.out.step L).unto,rfl⟩
 | some u2 =>
 obtain ⟨rfl,aw⟩:=aj;have ae:Hid (zp r q w w1 q7 w7):=Q.out.step L;have ak:Hid (zu w0 r q7 (t++[105,102,32]++u0++[32]++u1++[32,101,108,115,101,32]++u2) w7):=aw;clear L aw;obtain ⟨G,c1,c2,H,I,A⟩:=zv ((ae.out.block _ (Nat.le_refl _) (by omega)).trans z.out)
 have y:=zt w0 r q7 (t++[105,102,32]++u0++[32]++u1++[32,101,108,115,101,32]++u2) [10] w7 ak.out (by simp)
 go_wp2_with fail
 refine y.mono ?_;clear y G c1 c2 H I A;rintro e w8 ⟨q8,V,rfl,am⟩;have ab:Hid (zp r q w w1 q8 w8):=ae.out.step V;have ap:Hid (zu w0 r q8 (t++[105,102,32]++u0++[32]++u1++[32,101,108,115,101,32]++u2++[10]) w8):=am;clear V am;obtain ⟨G,c1,c2,H,I,A⟩:=zv ((ab.out.block _ (Nat.le_refl _) (by omega)).trans z.out)
 obtain rfl:R=some ([105,102,32]++(u0++([32]++(u1++([32,101,108,115,101,32]++(u2++([10]))))))):=HR.out;have HP:Hid (zk w0 r q t w (some ([105,102,32]++(u0++([32]++(u1++([32,101,108,115,101,32]++(u2++([10])))))))) (.returned (.tuple #[])) w8):=⟨q8,ab.out.unto,rfl,by have:=ap.out;simpa only [List.append_assoc] using this⟩
 clear ax aB T ad Z ag O az af aq Q aC ae ak ab ap G c1 c2 H I A al aD ay aA HR z;go_wp2
 exact bodyPost_ret (v:=.tuple #[]) (by simp [results,Tryz.results175,go_sem]) rfl HP.out
theorem zf9 (w0:World) (d:Nat) (D:Int) (hD:D-1=(d:Int)) (hD1:1≤D) (hD2:D≤24) (hT:ZC w0) (hX:yD w0 d) (s:List UInt8) (ce:Nat) (bb:Option Addr) (mb cb:Nat) (bl:Option Addr) (ml cl:Nat) (line:Int) (b o:Nat) (x:Ez) (g01:Int) (g02:List UInt8) (g03:Int) (g04:Option Addr) (g05 g06:Nat) (g07:Int) (hx0:Zs w0.heap.size w0 x (yu g01 g02 g03 g04 g05 g06 g07)) (hkid0:ZX w0 b (o+0*5) g01 g02 g03 g04 g05 g06 g07) (es:List Ez) (hes:Zk (qI w0.heap.size w0) 5 w0.heap.size w0 es (some ⟨b,o,none⟩) 1 ce) (r:Nat) (q:Option Nat) (t:List UInt8) (w:World) (h:zu w0 r q t w) (hst:xM 1 s es mb ml=true) (hs:s.length≤100000000) :
  Calls Tryz.prog 142 #[.pointer (some ⟨r,0,none⟩),qP 1 s (some ⟨b,o,none⟩) 1 ce bb mb cb bl ml cl line,.int .i64 D] w (zk w0 r q t w (zc (some [108,101,116,32]) (zc (tokO 1 0 s) (zc (some [32,61,32]) (zc (prE d x) ((some [59,10]))))))):=by
 have aG:∀(fn:Fn) (first cap:Array Value) (w:World),(Instr.makeFunc fn first cap).run Tryz.prog w=.ok (.func fn first cap) w:=fun _ _ _ _=>rfl
 obtain ⟨R,hR⟩:∃R,R=zc (some [108,101,116,32]) (zc (tokO 1 0 s) (zc (some [32,61,32]) (zc (prE d x) ((some [59,10]))))):=⟨_,rfl⟩;rw [←hR];obtain ⟨z,ag⟩:∃z,z=stW w r 1 s (some ⟨b,o,none⟩) 1 ce bb mb cb bl ml cl line D:=⟨_,rfl⟩;obtain ⟨ab,ao,e0,e1,e2⟩:=YE w r 1 s (some ⟨b,o,none⟩) 1 ce bb mb cb bl ml cl line D;rw [←ag] at ab ao e0 e1 e2;have Z:=h.below ab;have ay:Hid (zp r q w z q z):=zp.start h ab;have y:Hid (z.heap[w.heap.size]?=some (.cells #[.pointer (some ⟨r,0,none⟩)] 85 (0,0))∧z.heap[w.heap.size+1]?=some (Vc 1 s (some ⟨b,o,none⟩) 1 ce bb mb cb bl ml cl line)∧z.heap[w.heap.size+2]?=some (.cells #[.int .i64 D] 3 (0,0))):=⟨e0,e1,e2⟩;have ci:=Yp 1 s es (some ⟨b,o,none⟩) 1 ce bb mb cb bl ml cl line w0.heap.size z (hes.kept Z.env fun _ _ h=>Zs.kept h Z.env) Z.env.size
 rw [hst] at ci;have aB:Hid (zu w0 r q t z):=Z;have aE:=ag.symm;have O:=ze e0;obtain ⟨J,c1,c2,K,N,I⟩:=zv e1;have L:=ze e2;have aF:(0:Int)<D:=by omega
 have aD:Hid (∀(q:Option Nat) (t:List UInt8) (w:World),zu w0 r q t w→Calls Tryz.prog 82 #[.pointer (some ⟨r,0,none⟩),.string (zb s)] w (zk w0 r q t w (tokO 1 0 s))):=fun q t w h=>ym w0 r q t s w hT h hs
 have az:Hid (∀(q2:Option Nat) (t2:List UInt8) (W:World),zu w0 r q2 t2 W→zp r q w z q2 W→Calls Tryz.prog 174 #[.int .i64 0,.pointer (some ⟨w.heap.size,0,none⟩),.pointer (some ⟨w.heap.size+1,0,none⟩),.pointer (some ⟨w.heap.size+2,0,none⟩)] W (zk w0 r q2 t2 W (prE d x))):=fun q2 t2 W h2 hL2=>XT w0 d D hD hD1 hD2 hX 0 x b o _ _ _ _ _ _ _ hx0 hkid0 _ _ _ r _ ce (by omega) (by omega) q2 t2 W h2 (ze ((hL2.block (w.heap.size) (Nat.le_refl _) (by omega)).trans y.out.1)) (zv ((hL2.block (w.heap.size+1) (by omega) (by omega)).trans y.out.2.1)).2.2.1 (ze ((hL2.block (w.heap.size+2) (by omega) (by omega)).trans y.out.2.2)) (fun k hk=>⟨by have:=hL2.hr;omega,fun e=>by have:=hL2.hq k e;omega⟩)
 generalize tokO 1 0 s=X0 at *;generalize prE d x=X1 at *;have HR:Hid (R=zc (some [108,101,116,32]) (zc X0 (zc (some [32,61,32]) (zc X1 ((some [59,10])))))):=hR;clear hR Z e0 e1 e2 ag ab h hes hst hT hX hx0 hkid0
 go_enter Tryz.func142,Tryz.ntmps142
 go_wp2_with fail
 refine ci.mono ?_;clear ci O L J c1 c2 K N I;rintro e w2 ⟨rfl,ah⟩;have aa:Hid (zp r q w z q w2):=ay.out.step (zP.below ah);have av:Hid (zu w0 r q t w2):=aB.out.below ah;clear ah;have ca:=zX true w2;have O:=ze ((aa.out.block (w.heap.size) (Nat.le_refl _) (by omega)).trans y.out.1)
 obtain ⟨J,c1,c2,K,N,I⟩:=zv ((aa.out.block (w.heap.size+1) (by omega) (by omega)).trans y.out.2.1)
 have L:=ze ((aa.out.block (w.heap.size+2) (by omega) (by omega)).trans y.out.2.2)
 go_wp2_with fail
 refine ca.mono ?_;clear ca;rintro e w3 ⟨rfl,rfl⟩;simp only [YW];have ai:Hid (zp r q w z q w3):=aa.out;have aj:Hid (zu w0 r q t w3):=av.out;clear ay aB aa av;have G:=zt w0 r q (t) [108,101,116,32] w3 aj.out (by simp)
 go_wp2_with fail
 refine G.mono ?_;clear G O L J c1 c2 K N I;rintro e w4 ⟨q4,ad,rfl,aq⟩;have H:Hid (zp r q w z q4 w4):=ai.out.step ad;have aA:Hid (zu w0 r q4 (t++[108,101,116,32]) w4):=aq;clear ad aq;have O:=ze ((H.out.block (w.heap.size) (Nat.le_refl _) (by omega)).trans y.out.1)
 obtain ⟨J,c1,c2,K,N,I⟩:=zv ((H.out.block (w.heap.size+1) (by omega) (by omega)).trans y.out.2.1)
 have L:=ze ((H.out.block (w.heap.size+2) (by omega) (by omega)).trans y.out.2.2)
 have G:=aD.out q4 (t++[108,101,116,32]) w4 aA.out;go_wp2_with fail
 refine G.mono ?_;clear G O L J c1 c2 K N I;rintro e w5 ⟨q5,U,al⟩;cases X0 with
 | none=>subst al;obtain rfl:R=none:=HR.out;exact ⟨rfl,q5,(H.out.step U).unto,rfl⟩
 | some u0 =>
 obtain ⟨rfl,aw⟩:=al;have Y:Hid (zp r q w z q5 w5):=H.out.step U;have au:Hid (zu w0 r q5 (t++[108,101,116,32]++u0) w5):=aw;clear U aw;have O:=ze ((Y.out.block (w.heap.size) (Nat.le_refl _) (by omega)).trans y.out.1)
 obtain ⟨J,c1,c2,K,N,I⟩:=zv ((Y.out.block (w.heap.size+1) (by omega) (by omega)).trans y.out.2.1)
 have L:=ze ((Y.out.block (w.heap.size+2) (by omega) (by omega)).trans y.out.2.2)
 have G:=zt w0 r q5 (t++[108,101,116,32]++u0) [32,61,32] w5 au.out (by simp)
 go_wp2_with fail
 refine G.mono ?_;clear G O L J c1 c2 K N I;rintro e w6 ⟨q6,af,rfl,ak⟩;have A:Hid (zp r q w z q6 w6):=Y.out.step af;have aC:Hid (zu w0 r q6 (t++[108,101,116,32]++u0++[32,61,32]) w6):=ak;clear af ak;have O:=ze ((A.out.block (w.heap.size) (Nat.le_refl _) (by omega)).trans y.out.1)
 obtain ⟨J,c1,c2,K,N,I⟩:=zv ((A.out.block (w.heap.size+1) (by omega) (by omega)).trans y.out.2.1)
 have L:=ze ((A.out.block (w.heap.size+2) (by omega) (by omega)).trans y.out.2.2)
 have G:=az.out q6 (t++[108,101,116,32]++u0++[32,61,32]) w6 aC.out A.out;go_wp2_with fail
 refine G.mono ?_;clear G O L J c1 c2 K N I;rintro e w7 ⟨q7,T,am⟩;cases X1 with
 | none=>subst am;obtain rfl:R=none:=HR.out;exact ⟨rfl,q7,(A.out.step T).unto,rfl⟩
 | some u1 =>
 obtain ⟨rfl,ax⟩:=am;have V:Hid (zp r q w z q7 w7):=A.out.step T;have an:Hid (zu w0 r q7 (t++[108,101,116,32]++u0++[32,61,32]++u1) w7):=ax;clear T ax;have O:=ze ((V.out.block (w.heap.size) (Nat.le_refl _) (by omega)).trans y.out.1)
 obtain ⟨J,c1,c2,K,N,I⟩:=zv ((V.out.block (w.heap.size+1) (by omega) (by omega)).trans y.out.2.1)
 have L:=ze ((V.out.block (w.heap.size+2) (by omega) (by omega)).trans y.out.2.2)
 have G:=zt w0 r q7 (t++[108,101,116,32]++u0++[32,61,32]++u1) [59,10] w7 an.out (by simp)
 go_wp2_with fail
 refine G.mono ?_;clear G O L J c1 c2 K N I;rintro e w8 ⟨q8,ae,rfl,ap⟩;have Q:Hid (zp r q w z q8 w8):=V.out.step ae;have ar:Hid (zu w0 r q8 (t++[108,101,116,32]++u0++[32,61,32]++u1++[59,10]) w8):=ap;clear ae ap;have O:=ze ((Q.out.block (w.heap.size) (Nat.le_refl _) (by omega)).trans y.out.1)
 obtain ⟨J,c1,c2,K,N,I⟩:=zv ((Q.out.block (w.heap.size+1) (by omega) (by omega)).trans y.out.2.1)
 have L:=ze ((Q.out.block (w.heap.size+2) (by omega) (by omega)).trans y.out.2.2)
 obtain rfl:R=some ([108,101,116,32]++(u0++([32,61,32]++(u1++([59,10]))))):=HR.out;have HP:Hid (zk w0 r q t w (some ([108,101,116,32]++(u0++([32,61,32]++(u1++([59,10])))))) (.returned (.tuple #[])) w8):=⟨q8,Q.out.unto,rfl,by have:=ar.out;simpa only [List.append_assoc] using this⟩
 clear ai aj H aA Y au A aC V an Q ar O L J c1 c2 K N I aD az HR y;go_wp2
 exact bodyPost_ret (v:=.tuple #[]) (by simp [results,Tryz.results142,go_sem]) rfl HP.out
theorem zga (w0:World) (d:Nat) (D:Int) (hD:D-1=(d:Int)) (hD1:1≤D) (hD2:D≤24) (_hT:ZC w0) (hX:yD w0 d) (s:List UInt8) (ce:Nat) (bb:Option Addr) (mb cb:Nat) (bl:Option Addr) (ml cl:Nat) (line:Int) (b o:Nat) (x:Ez) (g01:Int) (g02:List UInt8) (g03:Int) (g04:Option Addr) (g05 g06:Nat) (g07:Int) (hx0:Zs w0.heap.size w0 x (yu g01 g02 g03 g04 g05 g06 g07)) (hkid0:ZX w0 b (o+0*5) g01 g02 g03 g04 g05 g06 g07) (y:Ez) (g11:Int) (g12:List UInt8) (g13:Int) (g14:Option Addr) (g15 g16:Nat) (g17:Int) (hx1:Zs w0.heap.size w0 y (yu g11 g12 g13 g14 g15 g16 g17)) (hkid1:ZX w0 b (o+1*5) g11 g12 g13 g14 g15 g16 g17) (es:List Ez) (hes:Zk (qI w0.heap.size w0) 5 w0.heap.size w0 es (some ⟨b,o,none⟩) 2 ce) (r:Nat) (q:Option Nat) (t:List UInt8) (w:World) (h:zu w0 r q t w) (hst:xM 2 s es mb ml=true) (_hs:s.length≤100000000) :
  Calls Tryz.prog 142 #[.pointer (some ⟨r,0,none⟩),qP 2 s (some ⟨b,o,none⟩) 2 ce bb mb cb bl ml cl line,.int .i64 D] w (zk w0 r q t w (zc (prE d x) (zc (some [32,61,32]) (zc (prE d y) ((some [59,10])))))):=by
 have aC:∀(fn:Fn) (first cap:Array Value) (w:World),(Instr.makeFunc fn first cap).run Tryz.prog w=.ok (.func fn first cap) w:=fun _ _ _ _=>rfl
 obtain ⟨R,hR⟩:∃R,R=zc (prE d x) (zc (some [32,61,32]) (zc (prE d y) ((some [59,10])))):=⟨_,rfl⟩;rw [←hR];obtain ⟨A,ag⟩:∃A,A=stW w r 2 s (some ⟨b,o,none⟩) 2 ce bb mb cb bl ml cl line D:=⟨_,rfl⟩;obtain ⟨ad,au,e0,e1,e2⟩:=YE w r 2 s (some ⟨b,o,none⟩) 2 ce bb mb cb bl ml cl line D;rw [←ag] at ad au e0 e1 e2;have V:=h.below ad;have ao:Hid (zp r q w A q A):=zp.start h ad;have z:Hid (A.heap[w.heap.size]?=some (.cells #[.pointer (some ⟨r,0,none⟩)] 85 (0,0))∧A.heap[w.heap.size+1]?=some (Vc 2 s (some ⟨b,o,none⟩) 2 ce bb mb cb bl ml cl line)∧A.heap[w.heap.size+2]?=some (.cells #[.int .i64 D] 3 (0,0))):=⟨e0,e1,e2⟩;have ci:=Yp 2 s es (some ⟨b,o,none⟩) 2 ce bb mb cb bl ml cl line w0.heap.size A (hes.kept V.env fun _ _ h=>Zs.kept h V.env) V.env.size
 rw [hst] at ci;have ax:Hid (zu w0 r q t A):=V;have aB:=ag.symm;have Z:=ze e0;obtain ⟨U,c1,c2,Y,T,K⟩:=zv e1;have O:=ze e2;have aD:(0:Int)<D:=by omega
 have aA:Hid (∀(q2:Option Nat) (t2:List UInt8) (W:World),zu w0 r q2 t2 W→zp r q w A q2 W→Calls Tryz.prog 174 #[.int .i64 0,.pointer (some ⟨w.heap.size,0,none⟩),.pointer (some ⟨w.heap.size+1,0,none⟩),.pointer (some ⟨w.heap.size+2,0,none⟩)] W (zk w0 r q2 t2 W (prE d x))):=fun q2 t2 W h2 hL2=>XT w0 d D hD hD1 hD2 hX 0 x b o _ _ _ _ _ _ _ hx0 hkid0 _ _ _ r _ ce (by omega) (by omega) q2 t2 W h2 (ze ((hL2.block (w.heap.size) (Nat.le_refl _) (by omega)).trans z.out.1)) (zv ((hL2.block (w.heap.size+1) (by omega) (by omega)).trans z.out.2.1)).2.2.1 (ze ((hL2.block (w.heap.size+2) (by omega) (by omega)).trans z.out.2.2)) (fun k hk=>⟨by have:=hL2.hr;omega,fun e=>by have:=hL2.hq k e;omega⟩)
 have ap:Hid (∀(q2:Option Nat) (t2:List UInt8) (W:World),zu w0 r q2 t2 W→zp r q w A q2 W→Calls Tryz.prog 174 #[.int .i64 1,.pointer (some ⟨w.heap.size,0,none⟩),.pointer (some ⟨w.heap.size+1,0,none⟩),.pointer (some ⟨w.heap.size+2,0,none⟩)] W (zk w0 r q2 t2 W (prE d y))):=fun q2 t2 W h2 hL2=>XT w0 d D hD hD1 hD2 hX 1 y b o _ _ _ _ _ _ _ hx1 hkid1 _ _ _ r _ ce (by omega) (by omega) q2 t2 W h2 (ze ((hL2.block (w.heap.size) (Nat.le_refl _) (by omega)).trans z.out.1)) (zv ((hL2.block (w.heap.size+1) (by omega) (by omega)).trans z.out.2.1)).2.2.1 (ze ((hL2.block (w.heap.size+2) (by omega) (by omega)).trans z.out.2.2)) (fun k hk=>⟨by have:=hL2.hr;omega,fun e=>by have:=hL2.hq k e;omega⟩)
 generalize prE d x=X0 at *;generalize prE d y=X1 at *;have HR:Hid (R=zc X0 (zc (some [32,61,32]) (zc X1 ((some [59,10]))))):=hR;clear hR V e0 e1 e2 ag ad h hes hst _hT hX hx0 hkid0 hx1 hkid1
 go_enter Tryz.func142,Tryz.ntmps142
 go_wp2_with fail
 refine ci.mono ?_;clear ci Z O U c1 c2 Y T K;rintro e w2 ⟨rfl,ah⟩;have aa:Hid (zp r q w A q w2):=ao.out.step (zP.below ah);have ai:Hid (zu w0 r q t w2):=ax.out.below ah;clear ah;have ca:=zX true w2;have Z:=ze ((aa.out.block (w.heap.size) (Nat.le_refl _) (by omega)).trans z.out.1)
 obtain ⟨U,c1,c2,Y,T,K⟩:=zv ((aa.out.block (w.heap.size+1) (by omega) (by omega)).trans z.out.2.1)
 have O:=ze ((aa.out.block (w.heap.size+2) (by omega) (by omega)).trans z.out.2.2)
 go_wp2_with fail
 refine ca.mono ?_;clear ca;rintro e w3 ⟨rfl,rfl⟩;simp only [YW];have ab:Hid (zp r q w A q w3):=aa.out;have ak:Hid (zu w0 r q t w3):=ai.out;clear ao ax aa ai;have L:=aA.out q (t) w3 ak.out ab.out;go_wp2_with fail
 refine L.mono ?_;clear L Z O U c1 c2 Y T K;rintro e w4 ⟨q4,Q,ar⟩;cases X0 with
 | none=>subst ar;obtain rfl:R=none:=HR.out;exact ⟨rfl,q4,(ab.out.step Q).unto,rfl⟩
 | some u0 =>
 obtain ⟨rfl,aw⟩:=ar;have H:Hid (zp r q w A q4 w4):=ab.out.step Q;have av:Hid (zu w0 r q4 (t++u0) w4):=aw;clear Q aw;have Z:=ze ((H.out.block (w.heap.size) (Nat.le_refl _) (by omega)).trans z.out.1)
 obtain ⟨U,c1,c2,Y,T,K⟩:=zv ((H.out.block (w.heap.size+1) (by omega) (by omega)).trans z.out.2.1)
 have O:=ze ((H.out.block (w.heap.size+2) (by omega) (by omega)).trans z.out.2.2)
 have L:=zt w0 r q4 (t++u0) [32,61,32] w4 av.out (by simp)
 go_wp2_with fail
 refine L.mono ?_;clear L Z O U c1 c2 Y T K;rintro e w5 ⟨q5,af,rfl,am⟩;have G:Hid (zp r q w A q5 w5):=H.out.step af;have az:Hid (zu w0 r q5 (t++u0++[32,61,32]) w5):=am;clear af am;have Z:=ze ((G.out.block (w.heap.size) (Nat.le_refl _) (by omega)).trans z.out.1)
 obtain ⟨U,c1,c2,Y,T,K⟩:=zv ((G.out.block (w.heap.size+1) (by omega) (by omega)).trans z.out.2.1)
 have O:=ze ((G.out.block (w.heap.size+2) (by omega) (by omega)).trans z.out.2.2)
 have L:=ap.out q5 (t++u0++[32,61,32]) w5 az.out G.out;go_wp2_with fail
 refine L.mono ?_;clear L Z O U c1 c2 Y T K;rintro e w6 ⟨q6,I,aj⟩;cases X1 with
 | none=>subst aj;obtain rfl:R=none:=HR.out;exact ⟨rfl,q6,(G.out.step I).unto,rfl⟩
 | some u1 =>
 obtain ⟨rfl,al⟩:=aj;have N:Hid (zp r q w A q6 w6):=G.out.step I;have ay:Hid (zu w0 r q6 (t++u0++[32,61,32]++u1) w6):=al;clear I al;have Z:=ze ((N.out.block (w.heap.size) (Nat.le_refl _) (by omega)).trans z.out.1)
 obtain ⟨U,c1,c2,Y,T,K⟩:=zv ((N.out.block (w.heap.size+1) (by omega) (by omega)).trans z.out.2.1)
 have O:=ze ((N.out.block (w.heap.size+2) (by omega) (by omega)).trans z.out.2.2)
 have L:=zt w0 r q6 (t++u0++[32,61,32]++u1) [59,10] w6 ay.out (by simp)
 go_wp2_with fail
 refine L.mono ?_;clear L Z O U c1 c2 Y T K;rintro e w7 ⟨q7,ae,rfl,an⟩;have J:Hid (zp r q w A q7 w7):=N.out.step ae;have aq:Hid (zu w0 r q7 (t++u0++[32,61,32]++u1++[59,10]) w7):=an;clear ae an;have Z:=ze ((J.out.block (w.heap.size) (Nat.le_refl _) (by omega)).trans z.out.1)
 obtain ⟨U,c1,c2,Y,T,K⟩:=zv ((J.out.block (w.heap.size+1) (by omega) (by omega)).trans z.out.2.1)
 have O:=ze ((J.out.block (w.heap.size+2) (by omega) (by omega)).trans z.out.2.2)
 obtain rfl:R=some (u0++([32,61,32]++(u1++([59,10])))):=HR.out;have HP:Hid (zk w0 r q t w (some (u0++([32,61,32]++(u1++([59,10]))))) (.returned (.tuple #[])) w7):=⟨q7,J.out.unto,rfl,by have:=aq.out;simpa only [List.append_assoc] using this⟩
 clear ab ak H av G az N ay J aq Z O U c1 c2 Y T K aA ap HR z;go_wp2
 exact bodyPost_ret (v:=.tuple #[]) (by simp [results,Tryz.results142,go_sem]) rfl HP.out
theorem zgb (w0:World) (d:Nat) (D:Int) (hD:D-1=(d:Int)) (hD1:1≤D) (hD2:D≤24) (_hT:ZC w0) (hX:yD w0 d) (s:List UInt8) (ce:Nat) (bb:Option Addr) (mb cb:Nat) (bl:Option Addr) (ml cl:Nat) (line:Int) (b o:Nat) (x:Ez) (g01:Int) (g02:List UInt8) (g03:Int) (g04:Option Addr) (g05 g06:Nat) (g07:Int) (hx0:Zs w0.heap.size w0 x (yu g01 g02 g03 g04 g05 g06 g07)) (hkid0:ZX w0 b (o+0*5) g01 g02 g03 g04 g05 g06 g07) (es:List Ez) (hes:Zk (qI w0.heap.size w0) 5 w0.heap.size w0 es (some ⟨b,o,none⟩) 1 ce) (r:Nat) (q:Option Nat) (t:List UInt8) (w:World) (h:zu w0 r q t w) (hst:xM 7 s es mb ml=true) (_hs:s.length≤100000000) :
  Calls Tryz.prog 142 #[.pointer (some ⟨r,0,none⟩),qP 7 s (some ⟨b,o,none⟩) 1 ce bb mb cb bl ml cl line,.int .i64 D] w (zk w0 r q t w (zc (prE d x) ((some [59,10])))):=by
 have an:∀(fn:Fn) (first cap:Array Value) (w:World),(Instr.makeFunc fn first cap).run Tryz.prog w=.ok (.func fn first cap) w:=fun _ _ _ _=>rfl
 obtain ⟨R,hR⟩:∃R,R=zc (prE d x) ((some [59,10])):=⟨_,rfl⟩;rw [←hR];obtain ⟨z,Q⟩:∃z,z=stW w r 7 s (some ⟨b,o,none⟩) 1 ce bb mb cb bl ml cl line D:=⟨_,rfl⟩;obtain ⟨L,ag,e0,e1,e2⟩:=YE w r 7 s (some ⟨b,o,none⟩) 1 ce bb mb cb bl ml cl line D;rw [←Q] at L ag e0 e1 e2;have I:=h.below L;have ae:Hid (zp r q w z q z):=zp.start h L;have y:Hid (z.heap[w.heap.size]?=some (.cells #[.pointer (some ⟨r,0,none⟩)] 85 (0,0))∧z.heap[w.heap.size+1]?=some (Vc 7 s (some ⟨b,o,none⟩) 1 ce bb mb cb bl ml cl line)∧z.heap[w.heap.size+2]?=some (.cells #[.int .i64 D] 3 (0,0))):=⟨e0,e1,e2⟩;have ci:=Yp 7 s es (some ⟨b,o,none⟩) 1 ce bb mb cb bl ml cl line w0.heap.size z (hes.kept I.env fun _ _ h=>Zs.kept h I.env) I.env.size
 rw [hst] at ci;have aj:Hid (zu w0 r q t z):=I;have am:=Q.symm;have b0:=ze e0;obtain ⟨V,c1,c2,Z,U,O⟩:=zv e1;have T:=ze e2;have ao:(0:Int)<D:=by omega
 have al:Hid (∀(q2:Option Nat) (t2:List UInt8) (W:World),zu w0 r q2 t2 W→zp r q w z q2 W→Calls Tryz.prog 174 #[.int .i64 0,.pointer (some ⟨w.heap.size,0,none⟩),.pointer (some ⟨w.heap.size+1,0,none⟩),.pointer (some ⟨w.heap.size+2,0,none⟩)] W (zk w0 r q2 t2 W (prE d x))):=fun q2 t2 W h2 hL2=>XT w0 d D hD hD1 hD2 hX 0 x b o _ _ _ _ _ _ _ hx0 hkid0 _ _ _ r _ ce (by omega) (by omega) q2 t2 W h2 (ze ((hL2.block (w.heap.size) (Nat.le_refl _) (by omega)).trans y.out.1)) (zv ((hL2.block (w.heap.size+1) (by omega) (by omega)).trans y.out.2.1)).2.2.1 (ze ((hL2.block (w.heap.size+2) (by omega) (by omega)).trans y.out.2.2)) (fun k hk=>⟨by have:=hL2.hr;omega,fun e=>by have:=hL2.hq k e;omega⟩)
 generalize prE d x=X0 at *;have HR:Hid (R=zc X0 ((some [59,10]))):=hR;clear hR I e0 e1 e2 Q L h hes hst _hT hX hx0 hkid0
 go_enter Tryz.func142,Tryz.ntmps142
 go_wp2_with fail
 refine ci.mono ?_;clear ci b0 T V c1 c2 Z U O;rintro e w2 ⟨rfl,Y⟩;have J:Hid (zp r q w z q w2):=ae.out.step (zP.below Y);have aa:Hid (zu w0 r q t w2):=aj.out.below Y;clear Y;have ca:=zX true w2;have b0:=ze ((J.out.block (w.heap.size) (Nat.le_refl _) (by omega)).trans y.out.1)
 obtain ⟨V,c1,c2,Z,U,O⟩:=zv ((J.out.block (w.heap.size+1) (by omega) (by omega)).trans y.out.2.1)
 have T:=ze ((J.out.block (w.heap.size+2) (by omega) (by omega)).trans y.out.2.2)
 go_wp2_with fail
 refine ca.mono ?_;clear ca;rintro e w3 ⟨rfl,rfl⟩;simp only [YW];have K:Hid (zp r q w z q w3):=J.out;have ab:Hid (zu w0 r q t w3):=aa.out;clear ae aj J aa;have cp:=al.out q (t) w3 ab.out K.out;go_wp2_with fail
 refine cp.mono ?_;clear cp b0 T V c1 c2 Z U O;rintro e w4 ⟨q4,G,af⟩;cases X0 with
 | none=>subst af;obtain rfl:R=none:=HR.out;exact ⟨rfl,q4,(K.out.step G).unto,rfl⟩
 | some u0 =>
 obtain ⟨rfl,ai⟩:=af;have A:Hid (zp r q w z q4 w4):=K.out.step G;have ah:Hid (zu w0 r q4 (t++u0) w4):=ai;clear G ai;have b0:=ze ((A.out.block (w.heap.size) (Nat.le_refl _) (by omega)).trans y.out.1)
 obtain ⟨V,c1,c2,Z,U,O⟩:=zv ((A.out.block (w.heap.size+1) (by omega) (by omega)).trans y.out.2.1)
 have T:=ze ((A.out.block (w.heap.size+2) (by omega) (by omega)).trans y.out.2.2)
 have cp:=zt w0 r q4 (t++u0) [59,10] w4 ah.out (by simp)
 go_wp2_with fail
 refine cp.mono ?_;clear cp b0 T V c1 c2 Z U O;rintro e w5 ⟨q5,N,rfl,ad⟩;have H:Hid (zp r q w z q5 w5):=A.out.step N;have ak:Hid (zu w0 r q5 (t++u0++[59,10]) w5):=ad;clear N ad;have b0:=ze ((H.out.block (w.heap.size) (Nat.le_refl _) (by omega)).trans y.out.1)
 obtain ⟨V,c1,c2,Z,U,O⟩:=zv ((H.out.block (w.heap.size+1) (by omega) (by omega)).trans y.out.2.1)
 have T:=ze ((H.out.block (w.heap.size+2) (by omega) (by omega)).trans y.out.2.2)
 obtain rfl:R=some (u0++([59,10])):=HR.out;have HP:Hid (zk w0 r q t w (some (u0++([59,10]))) (.returned (.tuple #[])) w5):=⟨q5,H.out.unto,rfl,by have:=ak.out;simpa only [List.append_assoc] using this⟩
 clear K ab A ah H ak b0 T V c1 c2 Z U O al HR y;go_wp2
 exact bodyPost_ret (v:=.tuple #[]) (by simp [results,Tryz.results142,go_sem]) rfl HP.out
theorem ze0 (w0:World) (d:Nat) (D:Int) (hD:D-1=(d:Int)) (_hD1:1≤D) (hD2:D≤24) (_hT:ZC w0) (_hX:yD w0 d) (s:List UInt8) (be:Option Addr) (ce:Nat) (bb:Option Addr) (mb cb:Nat) (bl:Option Addr) (ml cl:Nat) (line:Int) (es:List Ez) (hes:Zk (qI w0.heap.size w0) 5 w0.heap.size w0 es be 0 ce) (r:Nat) (q:Option Nat) (t:List UInt8) (w:World) (h:zu w0 r q t w) (hst:xM 6 s es mb ml=true) :
  Calls Tryz.prog 142 #[.pointer (some ⟨r,0,none⟩),qP 6 s be 0 ce bb mb cb bl ml cl line,.int .i64 D] w (zk w0 r q t w (zc (some [114,101,116,117,114,110]) (some [59,10]))):=by
 have ah:∀(fn:Fn) (first cap:Array Value) (w:World),(Instr.makeFunc fn first cap).run Tryz.prog w=.ok (.func fn first cap) w:=fun _ _ _ _=>rfl
 obtain ⟨R,hR⟩:∃R,R=zc (some [114,101,116,117,114,110]) (some [59,10]):=⟨_,rfl⟩;rw [←hR];obtain ⟨z,K⟩:∃z,z=stW w r 6 s be 0 ce bb mb cb bl ml cl line D:=⟨_,rfl⟩;obtain ⟨H,aa,e0,e1,e2⟩:=YE w r 6 s be 0 ce bb mb cb bl ml cl line D;rw [←K] at H aa e0 e1 e2;have A:=h.below H;have Z:Hid (zp r q w z q z):=zp.start h H;have y:Hid (z.heap[w.heap.size]?=some (.cells #[.pointer (some ⟨r,0,none⟩)] 85 (0,0))∧z.heap[w.heap.size+1]?=some (Vc 6 s be 0 ce bb mb cb bl ml cl line)∧z.heap[w.heap.size+2]?=some (.cells #[.int .i64 D] 3 (0,0))):=⟨e0,e1,e2⟩;have ci:=Yp 6 s es be 0 ce bb mb cb bl ml cl line w0.heap.size z (hes.kept A.env fun _ _ h=>Zs.kept h A.env) A.env.size
 rw [hst] at ci;have ae:Hid (zu w0 r q t z):=A;have ag:=K.symm;have N:=ze e0;obtain ⟨c0,c1,c2,c3,c4,W⟩:=zv e1;have b2:=ze e2;have ai:(0:Int)<D:=by omega
 have HR:Hid (R=zc (some [114,101,116,117,114,110]) (some [59,10])):=hR;clear hR A e0 e1 e2 K H h hes hst _hT _hX
 go_enter Tryz.func142,Tryz.ntmps142
 go_wp2_with fail
 refine ci.mono ?_;clear ci N b2 c0 c1 c2 c3 c4 W;rintro e w2 ⟨rfl,L⟩;have G:Hid (zp r q w z q w2):=Z.out.step (zP.below L);have Q:Hid (zu w0 r q t w2):=ae.out.below L;clear L;have ca:=zX true w2;have N:=ze ((G.out.block (w.heap.size) (Nat.le_refl _) (by omega)).trans y.out.1)
 obtain ⟨c0,c1,c2,c3,c4,W⟩:=zv ((G.out.block (w.heap.size+1) (by omega) (by omega)).trans y.out.2.1)
 have b2:=ze ((G.out.block (w.heap.size+2) (by omega) (by omega)).trans y.out.2.2)
 go_wp2_with fail
 refine ca.mono ?_;clear ca;rintro e w3 ⟨rfl,rfl⟩;simp only [YW];have T:Hid (zp r q w z q w3):=G.out;have U:Hid (zu w0 r q t w3):=Q.out;clear Z ae G Q;have Y:=zt w0 r q (t) [114,101,116,117,114,110] w3 U.out (by simp)
 go_wp2_with fail
 refine Y.mono ?_;clear Y N b2 c0 c1 c2 c3 c4 W;rintro e w4 ⟨O,J,rfl,ad⟩;have o:Hid (zp r q w z O w4):=T.out.step J;have ab:Hid (zu w0 r O (t++[114,101,116,117,114,110]) w4):=ad;clear J ad;have N:=ze ((o.out.block (w.heap.size) (Nat.le_refl _) (by omega)).trans y.out.1)
 obtain ⟨c0,c1,c2,c3,c4,W⟩:=zv ((o.out.block (w.heap.size+1) (by omega) (by omega)).trans y.out.2.1)
 have b2:=ze ((o.out.block (w.heap.size+2) (by omega) (by omega)).trans y.out.2.2)
 go_wp2_with fail
 go_loopw [54] (fun i wr=>i=.int .i64 0∧zp r q w z O wr∧zu w0 r O (t++[114,101,116,117,114,110]) wr) (fun _ _=>0)
 case atStart=>exact ⟨rfl,o.out,ab.out⟩
 case round =>
  obtain ⟨rfl,hL,af⟩:=hrel;clear N b2 c0 c1 c2 c3 c4 W T U o ab;have o:Hid (zp r q w z O wr):=hL;have N:=ze ((hL.block (w.heap.size) (Nat.le_refl _) (by omega)).trans y.out.1)
  have Y:=zt w0 r O (t++[114,101,116,117,114,110]) [59,10] wr af (by simp)
  clear hL af;go_wp2_with fail
  refine Y.mono ?_;clear Y N;rintro e w5 ⟨q5,I,rfl,V⟩;obtain rfl:R=some ([114,101,116,117,114,110]++[59,10]):=HR.out;have HP:Hid (zk w0 r q t w (some ([114,101,116,117,114,110]++[59,10])) (.returned (.tuple #[])) w5):=⟨q5,(o.out.step I).unto,rfl,by simpa only [List.append_assoc] using V⟩
  clear I V o HR y;go_wp2
  exact bodyPost_ret (v:=.tuple #[]) (by simp [results,Tryz.results142,go_sem]) rfl HP.out
theorem ze1 (w0:World) (d:Nat) (D:Int) (hD:D-1=(d:Int)) (_hD1:1≤D) (hD2:D≤24) (_hT:ZC w0) (hX:yD w0 d) (s:List UInt8) (ce:Nat) (bb:Option Addr) (mb cb:Nat) (bl:Option Addr) (ml cl:Nat) (line:Int) (b o:Nat) (x:Ez) (g01:Int) (g02:List UInt8) (g03:Int) (g04:Option Addr) (g05 g06:Nat) (g07:Int) (hx0:Zs w0.heap.size w0 x (yu g01 g02 g03 g04 g05 g06 g07)) (hkid0:ZX w0 b (o+0*5) g01 g02 g03 g04 g05 g06 g07) (es:List Ez) (hes:Zk (qI w0.heap.size w0) 5 w0.heap.size w0 es (some ⟨b,o,none⟩) 1 ce) (r:Nat) (q:Option Nat) (t:List UInt8) (w:World) (h:zu w0 r q t w) (hst:xM 6 s es mb ml=true) :
  Calls Tryz.prog 142 #[.pointer (some ⟨r,0,none⟩),qP 6 s (some ⟨b,o,none⟩) 1 ce bb mb cb bl ml cl line,.int .i64 D] w (zk w0 r q t w (zc (some [114,101,116,117,114,110]) (zc (some [32]) (zc (prE d x) (some [59,10]))))):=by
 have aH:∀(fn:Fn) (first cap:Array Value) (w:World),(Instr.makeFunc fn first cap).run Tryz.prog w=.ok (.func fn first cap) w:=fun _ _ _ _=>rfl
 obtain ⟨R,hR⟩:∃R,R=zc (some [114,101,116,117,114,110]) (zc (some [32]) (zc (prE d x) (some [59,10]))):=⟨_,rfl⟩;rw [←hR];obtain ⟨A,ab⟩:∃A,A=stW w r 6 s (some ⟨b,o,none⟩) 1 ce bb mb cb bl ml cl line D:=⟨_,rfl⟩;obtain ⟨U,am,e0,e1,e2⟩:=YE w r 6 s (some ⟨b,o,none⟩) 1 ce bb mb cb bl ml cl line D;rw [←ab] at U am e0 e1 e2;have N:=h.below U;have au:Hid (zp r q w A q A):=zp.start h U;have y:Hid (A.heap[w.heap.size]?=some (.cells #[.pointer (some ⟨r,0,none⟩)] 85 (0,0))∧A.heap[w.heap.size+1]?=some (Vc 6 s (some ⟨b,o,none⟩) 1 ce bb mb cb bl ml cl line)∧A.heap[w.heap.size+2]?=some (.cells #[.int .i64 D] 3 (0,0))):=⟨e0,e1,e2⟩;have ci:=Yp 6 s es (some ⟨b,o,none⟩) 1 ce bb mb cb bl ml cl line w0.heap.size A (hes.kept N.env fun _ _ h=>Zs.kept h N.env) N.env.size
 rw [hst] at ci;have ay:Hid (zu w0 r q t A):=N;have aF:=ab.symm;have O:=ze e0;obtain ⟨c0,c1,c2,c3,c4,c5⟩:=zv e1;have V:=ze e2;have aG:(0:Int)<D:=by omega
 have af:Hid (∀(q:Option Nat) (t:List UInt8) (w:World),zu w0 r q t w→Calls Tryz.prog 42 #[.pointer (some ⟨r,0,none⟩),yu g01 g02 g03 g04 g05 g06 g07,.int .i64 (d:Int)] w (zk w0 r q t w (prE d x))):=fun q t w h=>hX _ _ r q t w hx0 h
 have al:Hid (ZX w0 b (o+0*5) g01 g02 g03 g04 g05 g06 g07):=hkid0;generalize prE d x=X0 at *;have HR:Hid (R=zc (some [114,101,116,117,114,110]) (zc (some [32]) (zc X0 (some [59,10])))):=hR;clear hR N e0 e1 e2 ab U h hes hst _hT hX hx0 hkid0
 go_enter Tryz.func142,Tryz.ntmps142
 go_wp2_with fail
 refine ci.mono ?_;clear ci O V c0 c1 c2 c3 c4 c5;rintro e w2 ⟨rfl,ad⟩;have Q:Hid (zp r q w A q w2):=au.out.step (zP.below ad);have ap:Hid (zu w0 r q t w2):=ay.out.below ad;clear ad;have ca:=zX true w2;have O:=ze ((Q.out.block (w.heap.size) (Nat.le_refl _) (by omega)).trans y.out.1)
 obtain ⟨c0,c1,c2,c3,c4,c5⟩:=zv ((Q.out.block (w.heap.size+1) (by omega) (by omega)).trans y.out.2.1)
 have V:=ze ((Q.out.block (w.heap.size+2) (by omega) (by omega)).trans y.out.2.2)
 go_wp2_with fail
 refine ca.mono ?_;clear ca;rintro e w3 ⟨rfl,rfl⟩;simp only [YW];have ag:Hid (zp r q w A q w3):=Q.out;have ah:Hid (zu w0 r q t w3):=ap.out;clear au ay Q ap;have K:=zt w0 r q (t) [114,101,116,117,114,110] w3 ah.out (by simp)
 go_wp2_with fail
 refine K.mono ?_;clear K O V c0 c1 c2 c3 c4 c5;rintro e w4 ⟨q4,Z,rfl,an⟩;have z:Hid (zp r q w A q4 w4):=ag.out.step Z;have ax:Hid (zu w0 r q4 (t++[114,101,116,117,114,110]) w4):=an;clear Z an;have O:=ze ((z.out.block (w.heap.size) (Nat.le_refl _) (by omega)).trans y.out.1)
 obtain ⟨c0,c1,c2,c3,c4,c5⟩:=zv ((z.out.block (w.heap.size+1) (by omega) (by omega)).trans y.out.2.1)
 have V:=ze ((z.out.block (w.heap.size+2) (by omega) (by omega)).trans y.out.2.2)
 go_wp2_with fail
 go_loopw [54] (fun i wr=>∃(k:Nat) (q1:Option Nat) (s1:List UInt8),k≤1∧i=.int .i64 k∧zp r q w A q1 wr∧(if k=0 then some [] else zc (some [32]) X0)=some s1∧zu w0 r q1 (t++[114,101,116,117,114,110]++s1) wr) (fun i _=>1-(intOf i).toNat)
 case atStart=>exact ⟨0,q4,[],Nat.zero_le _,rfl,z.out,rfl,by rw [List.append_nil];exact ax.out⟩
 case round =>
  obtain ⟨k,q1,s1,hk,rfl,hL,Y,H⟩:=hrel;clear O V c0 c1 c2 c3 c4 c5 ag ah z ax
  by_cases hlt:k<1
  ·obtain rfl:k=0:=by omega
   obtain rfl:s1=[]:=by simpa using Y.symm
   clear Y;rw [List.append_nil] at H;obtain ⟨n0,n1,n2,n3,n4⟩:=al.out.now H.env;rw [Nat.zero_mul,Nat.add_zero] at n0 n1 n2 n3 n4;obtain ⟨w5,G⟩:∃w5,w5=wr.alloc (Yi g01 g02 g03 g04 g05 g06 g07):=⟨_,rfl⟩;have p5:w5.heap[wr.heap.size]?=some (Yi g01 g02 g03 g04 g05 g06 g07):=by rw [G];exact World.alloc_heap_new wr _
   have aD:w5.heap.size=wr.heap.size+1:=by rw [G];simp
   have ae:Below wr.heap.size wr w5:=by rw [G];exact (Below.refl _ wr).alloc (Nat.le_refl _) _
   have W:Hid (zp r q w A q1 w5):=hL.step (zP.below ae);have ao:Hid (zu w0 r q1 (t++[114,101,116,117,114,110]) w5):=H.below ae;have av:Hid (w5.heap[wr.heap.size]?=some (Yi g01 g02 g03 g04 g05 g06 g07)):=p5;have aC:=H.lt.1;have aq:=H.lt.2;have O:=ze ((W.out.block (w.heap.size) (Nat.le_refl _) (by omega)).trans y.out.1)
   have V:=ze ((W.out.block (w.heap.size+2) (by omega) (by omega)).trans y.out.2.2)
   have aB:=ze ((hL.block (w.heap.size) (Nat.le_refl _) (by omega)).trans y.out.1)
   have aA:=ze ((hL.block (w.heap.size+2) (by omega) (by omega)).trans y.out.2.2)
   obtain ⟨d0,d1,d2,d3,d4⟩:=zF p5;have K:=zt w0 r q1 (t++[114,101,116,117,114,110]) [32] w5 ao.out (by simp)
   have aE:=G.symm;clear hL H ae G p5;go_wp2_with fail
   refine K.mono ?_;clear K O V aB aA d0 d1 d2 d3 d4 n0 n1 n2 n3 n4;rintro e w6 ⟨q6,I,rfl,ai⟩;have T:w6.heap[wr.heap.size]?=w5.heap[wr.heap.size]?:=I.block _ (by omega) (by omega) (fun e=>by have:=aq _ e;omega)
   obtain ⟨d0,d1,d2,d3,d4⟩:=zF (T.trans av.out);have L:Hid (zp r q w A q6 w6):=W.out.step I;have O:=ze ((L.out.block (w.heap.size) (Nat.le_refl _) (by omega)).trans y.out.1)
   have V:=ze ((L.out.block (w.heap.size+2) (by omega) (by omega)).trans y.out.2.2)
   have K:=af.out q6 (t++[114,101,116,117,114,110]++[32]) w6 ai;clear I ai T;go_wp2_with fail
   refine K.mono ?_;clear K O V d0 d1 d2 d3 d4;rintro e w7 ⟨q7,J,ak⟩;cases X0 with
   | none=>subst ak;obtain rfl:R=none:=HR.out;exact ⟨rfl,q7,(L.out.step J).unto,rfl⟩
   | some u0 =>
   obtain ⟨rfl,ar⟩:=ak;have aw:Hid (∃(k':Nat) (q':Option Nat) (s':List UInt8),k'=1∧zp r q w A q' w7∧(if k'=0 then some [] else zc (some [32]) (some u0))=some s'∧zu w0 r q' (t++[114,101,116,117,114,110]++s') w7):=⟨1,q7,[32]++u0,rfl,L.out.step J,rfl,by rw [←List.append_assoc];exact ar⟩
   clear J ar W L ao av af;go_wp2
   obtain ⟨k',q',s',rfl,h1,h2,h3⟩:=aw.out;exact ⟨⟨1,q',s',by omega,by go_num,h1,h2,h3⟩,by simp [intOf]⟩
  ·obtain rfl:k=1:=by omega
   have z:Hid (zp r q w A q1 wr):=hL;have O:=ze ((hL.block (w.heap.size) (Nat.le_refl _) (by omega)).trans y.out.1)
   have K:=zt w0 r q1 (t++[114,101,116,117,114,110]++s1) [59,10] wr H (by simp)
   have aj:Hid (zc (some [32]) X0=some s1):=show _=_ by simpa using Y
   clear hL H Y;go_wp2_with fail
   refine K.mono ?_;clear K O;rintro e w5 ⟨q5,aa,rfl,G⟩
   have az:R=some ([114,101,116,117,114,110]++(s1++[59,10])):=by
    rw [HR.out,←VV (some [32]),aj.out];rfl
   subst az;have HP:Hid (zk w0 r q t w (some ([114,101,116,117,114,110]++(s1++[59,10]))) (.returned (.tuple #[])) w5):=⟨q5,(z.out.step aa).unto,rfl,by simpa only [List.append_assoc] using G⟩
   clear aa G z HR y aj af al;go_wp2
   exact bodyPost_ret (v:=.tuple #[]) (by simp [results,Tryz.results142,go_sem]) rfl HP.out
theorem zgc (w0:World) (d:Nat) (D:Int) (hD:D-1=(d:Int)) (_hD1:1≤D) (hD2:D≤24) (_hT:ZC w0) (_hX:yD w0 d) (s:List UInt8) (be:Option Addr) (me ce:Nat) (bb:Option Addr) (mb cb:Nat) (bl:Option Addr) (ml cl:Nat) (line:Int) (es:List Ez) (hes:Zk (qI w0.heap.size w0) 5 w0.heap.size w0 es be me ce) (r:Nat) (q:Option Nat) (t:List UInt8) (w:World) (h:zu w0 r q t w) (hst:xM 3 s es mb ml=true) (X:Option (List UInt8)) (hS:Hid (∀(q:Option Nat) (t:List UInt8) (w:World),zu w0 r q t w→Calls Tryz.prog 175 #[.pointer (some ⟨r,0,none⟩),qP 3 s be me ce bb mb cb bl ml cl line,.int .i64 D] w (zk w0 r q t w X))) :
  Calls Tryz.prog 142 #[.pointer (some ⟨r,0,none⟩),qP 3 s be me ce bb mb cb bl ml cl line,.int .i64 D] w (zk w0 r q t w (X)):=by
 have ag:∀(fn:Fn) (first cap:Array Value) (w:World),(Instr.makeFunc fn first cap).run Tryz.prog w=.ok (.func fn first cap) w:=fun _ _ _ _=>rfl
 obtain ⟨R,hR⟩:∃R,R=X:=⟨_,rfl⟩;rw [←hR];obtain ⟨y,K⟩:∃y,y=stW w r 3 s be me ce bb mb cb bl ml cl line D:=⟨_,rfl⟩;obtain ⟨I,Z,e0,e1,e2⟩:=YE w r 3 s be me ce bb mb cb bl ml cl line D;rw [←K] at I Z e0 e1 e2;have G:=h.below I;have T:Hid (zp r q w y q y):=zp.start h I;have o:Hid (y.heap[w.heap.size]?=some (.cells #[.pointer (some ⟨r,0,none⟩)] 85 (0,0))∧y.heap[w.heap.size+1]?=some (Vc 3 s be me ce bb mb cb bl ml cl line)∧y.heap[w.heap.size+2]?=some (.cells #[.int .i64 D] 3 (0,0))):=⟨e0,e1,e2⟩;have ci:=Yp 3 s es be me ce bb mb cb bl ml cl line w0.heap.size y (hes.kept G.env fun _ _ h=>Zs.kept h G.env) G.env.size
 rw [hst] at ci;have ad:Hid (zu w0 r q t y):=G;have af:=K.symm;have b0:=ze e0;obtain ⟨W,c1,c2,c3,V,Q⟩:=zv e1;have U:=ze e2;have ah:(0:Int)<D:=by omega
 have ae:=hS;clear hS;generalize X=X0 at *;have HR:Hid (R=X0):=hR;clear hR G e0 e1 e2 K I h hes hst _hT _hX
 go_enter Tryz.func142,Tryz.ntmps142
 go_wp2_with fail
 refine ci.mono ?_;clear ci b0 U W c1 c2 c3 V Q;rintro e w2 ⟨rfl,L⟩;have H:Hid (zp r q w y q w2):=T.out.step (zP.below L);have N:Hid (zu w0 r q t w2):=ad.out.below L;clear L;have ca:=zX true w2;have b0:=ze ((H.out.block (w.heap.size) (Nat.le_refl _) (by omega)).trans o.out.1)
 obtain ⟨W,c1,c2,c3,V,Q⟩:=zv ((H.out.block (w.heap.size+1) (by omega) (by omega)).trans o.out.2.1)
 have U:=ze ((H.out.block (w.heap.size+2) (by omega) (by omega)).trans o.out.2.2)
 go_wp2_with fail
 refine ca.mono ?_;clear ca;rintro e w3 ⟨rfl,rfl⟩;simp only [YW];have J:Hid (zp r q w y q w3):=H.out;have O:Hid (zu w0 r q t w3):=N.out;clear T ad H N;have cp:=ae.out q (t) w3 O.out;go_wp2_with fail
 refine cp.mono ?_;clear cp b0 U W c1 c2 c3 V Q;rintro e w4 ⟨q4,A,Y⟩;cases X0 with
 | none=>subst Y;obtain rfl:R=none:=HR.out;exact ⟨rfl,q4,(J.out.step A).unto,rfl⟩
 | some u0 =>
 obtain ⟨rfl,ab⟩:=Y;have z:Hid (zp r q w y q4 w4):=J.out.step A;have aa:Hid (zu w0 r q4 (t++u0) w4):=ab;clear A ab;have b0:=ze ((z.out.block (w.heap.size) (Nat.le_refl _) (by omega)).trans o.out.1)
 obtain ⟨W,c1,c2,c3,V,Q⟩:=zv ((z.out.block (w.heap.size+1) (by omega) (by omega)).trans o.out.2.1)
 have U:=ze ((z.out.block (w.heap.size+2) (by omega) (by omega)).trans o.out.2.2)
 obtain rfl:R=some (u0):=HR.out;have HP:Hid (zk w0 r q t w (some (u0)) (.returned (.tuple #[])) w4):=⟨q4,z.out.unto,rfl,by have:=aa.out;simpa only [List.append_assoc] using this⟩
 clear J O z aa b0 U W c1 c2 c3 V Q ae HR o;go_wp2
 exact bodyPost_ret (v:=.tuple #[]) (by simp [results,Tryz.results142,go_sem]) rfl HP.out
theorem zgd (w0:World) (d:Nat) (D:Int) (hD:D-1=(d:Int)) (_hD1:1≤D) (hD2:D≤24) (_hT:ZC w0) (_hX:yD w0 d) (s:List UInt8) (be:Option Addr) (me ce:Nat) (bb:Option Addr) (mb cb:Nat) (bl:Option Addr) (ml cl:Nat) (line:Int) (es:List Ez) (hes:Zk (qI w0.heap.size w0) 5 w0.heap.size w0 es be me ce) (r:Nat) (q:Option Nat) (t:List UInt8) (w:World) (h:zu w0 r q t w) (hst:xM 4 s es mb ml=true) (X:Option (List UInt8)) (hS:Hid (∀(q:Option Nat) (t:List UInt8) (w:World),zu w0 r q t w→Calls Tryz.prog 175 #[.pointer (some ⟨r,0,none⟩),qP 4 s be me ce bb mb cb bl ml cl line,.int .i64 D] w (zk w0 r q t w X))) :
  Calls Tryz.prog 142 #[.pointer (some ⟨r,0,none⟩),qP 4 s be me ce bb mb cb bl ml cl line,.int .i64 D] w (zk w0 r q t w (X)):=by
 have ag:∀(fn:Fn) (first cap:Array Value) (w:World),(Instr.makeFunc fn first cap).run Tryz.prog w=.ok (.func fn first cap) w:=fun _ _ _ _=>rfl
 obtain ⟨R,hR⟩:∃R,R=X:=⟨_,rfl⟩;rw [←hR];obtain ⟨y,K⟩:∃y,y=stW w r 4 s be me ce bb mb cb bl ml cl line D:=⟨_,rfl⟩;obtain ⟨I,Z,e0,e1,e2⟩:=YE w r 4 s be me ce bb mb cb bl ml cl line D;rw [←K] at I Z e0 e1 e2;have G:=h.below I;have T:Hid (zp r q w y q y):=zp.start h I;have o:Hid (y.heap[w.heap.size]?=some (.cells #[.pointer (some ⟨r,0,none⟩)] 85 (0,0))∧y.heap[w.heap.size+1]?=some (Vc 4 s be me ce bb mb cb bl ml cl line)∧y.heap[w.heap.size+2]?=some (.cells #[.int .i64 D] 3 (0,0))):=⟨e0,e1,e2⟩;have ci:=Yp 4 s es be me ce bb mb cb bl ml cl line w0.heap.size y (hes.kept G.env fun _ _ h=>Zs.kept h G.env) G.env.size
 rw [hst] at ci;have ad:Hid (zu w0 r q t y):=G;have af:=K.symm;have b0:=ze e0;obtain ⟨W,c1,c2,c3,V,Q⟩:=zv e1;have U:=ze e2;have ah:(0:Int)<D:=by omega
 have ae:=hS;clear hS;generalize X=X0 at *;have HR:Hid (R=X0):=hR;clear hR G e0 e1 e2 K I h hes hst _hT _hX
 go_enter Tryz.func142,Tryz.ntmps142
 go_wp2_with fail
 refine ci.mono ?_;clear ci b0 U W c1 c2 c3 V Q;rintro e w2 ⟨rfl,L⟩;have H:Hid (zp r q w y q w2):=T.out.step (zP.below L);have N:Hid (zu w0 r q t w2):=ad.out.below L;clear L;have ca:=zX true w2;have b0:=ze ((H.out.block (w.heap.size) (Nat.le_refl _) (by omega)).trans o.out.1)
 obtain ⟨W,c1,c2,c3,V,Q⟩:=zv ((H.out.block (w.heap.size+1) (by omega) (by omega)).trans o.out.2.1)
 have U:=ze ((H.out.block (w.heap.size+2) (by omega) (by omega)).trans o.out.2.2)
 go_wp2_with fail
 refine ca.mono ?_;clear ca;rintro e w3 ⟨rfl,rfl⟩;simp only [YW];have J:Hid (zp r q w y q w3):=H.out;have O:Hid (zu w0 r q t w3):=N.out;clear T ad H N;have cp:=ae.out q (t) w3 O.out;go_wp2_with fail
 refine cp.mono ?_;clear cp b0 U W c1 c2 c3 V Q;rintro e w4 ⟨q4,A,Y⟩;cases X0 with
 | none=>subst Y;obtain rfl:R=none:=HR.out;exact ⟨rfl,q4,(J.out.step A).unto,rfl⟩
 | some u0 =>
 obtain ⟨rfl,ab⟩:=Y;have z:Hid (zp r q w y q4 w4):=J.out.step A;have aa:Hid (zu w0 r q4 (t++u0) w4):=ab;clear A ab;have b0:=ze ((z.out.block (w.heap.size) (Nat.le_refl _) (by omega)).trans o.out.1)
 obtain ⟨W,c1,c2,c3,V,Q⟩:=zv ((z.out.block (w.heap.size+1) (by omega) (by omega)).trans o.out.2.1)
 have U:=ze ((z.out.block (w.heap.size+2) (by omega) (by omega)).trans o.out.2.2)
 obtain rfl:R=some (u0):=HR.out;have HP:Hid (zk w0 r q t w (some (u0)) (.returned (.tuple #[])) w4):=⟨q4,z.out.unto,rfl,by have:=aa.out;simpa only [List.append_assoc] using this⟩
 clear J O z aa b0 U W c1 c2 c3 V Q ae HR o;go_wp2
 exact bodyPost_ret (v:=.tuple #[]) (by simp [results,Tryz.results142,go_sem]) rfl HP.out
theorem zge (w0:World) (d:Nat) (D:Int) (hD:D-1=(d:Int)) (_hD1:1≤D) (hD2:D≤24) (_hT:ZC w0) (_hX:yD w0 d) (s:List UInt8) (be:Option Addr) (me ce:Nat) (bb:Option Addr) (mb cb:Nat) (bl:Option Addr) (ml cl:Nat) (line:Int) (es:List Ez) (hes:Zk (qI w0.heap.size w0) 5 w0.heap.size w0 es be me ce) (r:Nat) (q:Option Nat) (t:List UInt8) (w:World) (h:zu w0 r q t w) (hst:xM 5 s es mb ml=true) (X:Option (List UInt8)) (hS:Hid (∀(q:Option Nat) (t:List UInt8) (w:World),zu w0 r q t w→Calls Tryz.prog 175 #[.pointer (some ⟨r,0,none⟩),qP 5 s be me ce bb mb cb bl ml cl line,.int .i64 D] w (zk w0 r q t w X))) :
  Calls Tryz.prog 142 #[.pointer (some ⟨r,0,none⟩),qP 5 s be me ce bb mb cb bl ml cl line,.int .i64 D] w (zk w0 r q t w (X)):=by
 have ag:∀(fn:Fn) (first cap:Array Value) (w:World),(Instr.makeFunc fn first cap).run Tryz.prog w=.ok (.func fn first cap) w:=fun _ _ _ _=>rfl
 obtain ⟨R,hR⟩:∃R,R=X:=⟨_,rfl⟩;rw [←hR];obtain ⟨y,K⟩:∃y,y=stW w r 5 s be me ce bb mb cb bl ml cl line D:=⟨_,rfl⟩;obtain ⟨I,Z,e0,e1,e2⟩:=YE w r 5 s be me ce bb mb cb bl ml cl line D;rw [←K] at I Z e0 e1 e2;have G:=h.below I;have T:Hid (zp r q w y q y):=zp.start h I;have o:Hid (y.heap[w.heap.size]?=some (.cells #[.pointer (some ⟨r,0,none⟩)] 85 (0,0))∧y.heap[w.heap.size+1]?=some (Vc 5 s be me ce bb mb cb bl ml cl line)∧y.heap[w.heap.size+2]?=some (.cells #[.int .i64 D] 3 (0,0))):=⟨e0,e1,e2⟩;have ci:=Yp 5 s es be me ce bb mb cb bl ml cl line w0.heap.size y (hes.kept G.env fun _ _ h=>Zs.kept h G.env) G.env.size
 rw [hst] at ci;have ad:Hid (zu w0 r q t y):=G;have af:=K.symm;have b0:=ze e0;obtain ⟨W,c1,c2,c3,V,Q⟩:=zv e1;have U:=ze e2;have ah:(0:Int)<D:=by omega
 have ae:=hS;clear hS;generalize X=X0 at *;have HR:Hid (R=X0):=hR;clear hR G e0 e1 e2 K I h hes hst _hT _hX
 go_enter Tryz.func142,Tryz.ntmps142
 go_wp2_with fail
 refine ci.mono ?_;clear ci b0 U W c1 c2 c3 V Q;rintro e w2 ⟨rfl,L⟩;have H:Hid (zp r q w y q w2):=T.out.step (zP.below L);have N:Hid (zu w0 r q t w2):=ad.out.below L;clear L;have ca:=zX true w2;have b0:=ze ((H.out.block (w.heap.size) (Nat.le_refl _) (by omega)).trans o.out.1)
 obtain ⟨W,c1,c2,c3,V,Q⟩:=zv ((H.out.block (w.heap.size+1) (by omega) (by omega)).trans o.out.2.1)
 have U:=ze ((H.out.block (w.heap.size+2) (by omega) (by omega)).trans o.out.2.2)
 go_wp2_with fail
 refine ca.mono ?_;clear ca;rintro e w3 ⟨rfl,rfl⟩;simp only [YW];have J:Hid (zp r q w y q w3):=H.out;have O:Hid (zu w0 r q t w3):=N.out;clear T ad H N;have cp:=ae.out q (t) w3 O.out;go_wp2_with fail
 refine cp.mono ?_;clear cp b0 U W c1 c2 c3 V Q;rintro e w4 ⟨q4,A,Y⟩;cases X0 with
 | none=>subst Y;obtain rfl:R=none:=HR.out;exact ⟨rfl,q4,(J.out.step A).unto,rfl⟩
 | some u0 =>
 obtain ⟨rfl,ab⟩:=Y;have z:Hid (zp r q w y q4 w4):=J.out.step A;have aa:Hid (zu w0 r q4 (t++u0) w4):=ab;clear A ab;have b0:=ze ((z.out.block (w.heap.size) (Nat.le_refl _) (by omega)).trans o.out.1)
 obtain ⟨W,c1,c2,c3,V,Q⟩:=zv ((z.out.block (w.heap.size+1) (by omega) (by omega)).trans o.out.2.1)
 have U:=ze ((z.out.block (w.heap.size+2) (by omega) (by omega)).trans o.out.2.2)
 obtain rfl:R=some (u0):=HR.out;have HP:Hid (zk w0 r q t w (some (u0)) (.returned (.tuple #[])) w4):=⟨q4,z.out.unto,rfl,by have:=aa.out;simpa only [List.append_assoc] using this⟩
 clear J O z aa b0 U W c1 c2 c3 V Q ae HR o;go_wp2
 exact bodyPost_ret (v:=.tuple #[]) (by simp [results,Tryz.results142,go_sem]) rfl HP.out
theorem zgf (w0:World) (d:Nat) (D:Int) (hD:D-1=(d:Int)) (_hD1:1≤D) (hD2:D≤24) (_hT:ZC w0) (_hX:yD w0 d) (s:List UInt8) (be:Option Addr) (me ce:Nat) (bb:Option Addr) (mb cb:Nat) (bl:Option Addr) (ml cl:Nat) (line:Int) (es:List Ez) (hes:Zk (qI w0.heap.size w0) 5 w0.heap.size w0 es be me ce) (r:Nat) (q:Option Nat) (t:List UInt8) (w:World) (h:zu w0 r q t w) (k:Int) (hst:xM k s es mb ml=false) :
  Calls Tryz.prog 142 #[.pointer (some ⟨r,0,none⟩),qP k s be me ce bb mb cb bl ml cl line,.int .i64 D] w (zk w0 r q t w ((none:Option (List UInt8)))):=by
 have ad:∀(fn:Fn) (first cap:Array Value) (w:World),(Instr.makeFunc fn first cap).run Tryz.prog w=.ok (.func fn first cap) w:=fun _ _ _ _=>rfl
 obtain ⟨R,Q⟩:∃R,R=(none:Option (List UInt8)):=⟨_,rfl⟩;rw [←Q];obtain ⟨y,G⟩:∃y,y=stW w r k s be me ce bb mb cb bl ml cl line D:=⟨_,rfl⟩;obtain ⟨z,J,L,N,K⟩:=YE w r k s be me ce bb mb cb bl ml cl line D;rw [←G] at z J L N K;have o:=h.below z;have O:Hid (zp r q w y q y):=zp.start h z;have I:Hid (y.heap[w.heap.size]?=some (.cells #[.pointer (some ⟨r,0,none⟩)] 85 (0,0))∧y.heap[w.heap.size+1]?=some (Vc k s be me ce bb mb cb bl ml cl line)∧y.heap[w.heap.size+2]?=some (.cells #[.int .i64 D] 3 (0,0))):=⟨L,N,K⟩;have V:=Yp k s es be me ce bb mb cb bl ml cl line w0.heap.size y (hes.kept o.env fun _ _ h=>Zs.kept h o.env) o.env.size
 rw [hst] at V;have U:Hid (zu w0 r q t y):=o;have aa:=G.symm;have b0:=ze L;obtain ⟨c0,c1,c2,c3,c4,W⟩:=zv N;have Z:=ze K;have ae:(0:Int)<D:=by omega
 have HR:Hid (R=none):=Q;clear Q o L N K G z h hes hst _hT _hX
 go_enter Tryz.func142,Tryz.ntmps142
 go_wp2_with fail
 refine V.mono ?_;clear V b0 Z c0 c1 c2 c3 c4 W;rintro e T ⟨rfl,H⟩;have A:Hid (zp r q w y q T):=O.out.step (zP.below H);have ab:Hid (zu w0 r q t T):=U.out.below H;clear H;have Y:=zX false T;have b0:=ze ((A.out.block (w.heap.size) (Nat.le_refl _) (by omega)).trans I.out.1)
 obtain ⟨c0,c1,c2,c3,c4,W⟩:=zv ((A.out.block (w.heap.size+1) (by omega) (by omega)).trans I.out.2.1)
 have Z:=ze ((A.out.block (w.heap.size+2) (by omega) (by omega)).trans I.out.2.2)
 go_wp2_with fail
 refine Y.mono ?_;clear Y;rintro e w3 ⟨rfl,rfl⟩;obtain rfl:=HR.out;exact ⟨rfl,q,A.out.unto,rfl⟩
theorem zdW (w0:World) (k:Int) (s:List UInt8) (be:Option Addr) (me ce:Nat) (bb:Option Addr) (mb cb:Nat) (bl:Option Addr) (ml cl:Nat) (line:Int) (r:Nat) (q:Option Nat) (t:List UInt8) (w:World) (h:zu w0 r q t w) :
  Calls Tryz.prog 142 #[.pointer (some ⟨r,0,none⟩),qP k s be me ce bb mb cb bl ml cl line,.int .i64 0] w (zk w0 r q t w none):=by
 obtain ⟨A,y⟩:∃A,A=stW w r k s be me ce bb mb cb bl ml cl line 0:=⟨_,rfl⟩;obtain ⟨o,z,I,J,G⟩:=YE w r k s be me ce bb mb cb bl ml cl line 0;rw [←y] at o z I J G;have D:Hid (zp r q w A q A):=zp.start h o;have H:=y.symm;have L:=ze G;have K:=zX false A;clear o I J G y h
 go_enter Tryz.func142,Tryz.ntmps142
 go_wp2_with fail
 refine K.mono ?_;clear K;rintro e N ⟨rfl,rfl⟩;exact ⟨rfl,q,D.out.unto,rfl⟩
end Go.Proofs.YtpejpbbdgblbeaaGreatDoor
