import Derived.Test.YtpejpbbdgblbeaaGreatDoorMC24
namespace Go.Proofs.YtpejpbbdgblbeaaGreatDoor
open Go.RowKit Go.Shelf
set_option maxHeartbeats 16000000
set_option maxRecDepth 100000
def zdV (w0:World) (d:Nat):Prop:=∀(fz:Nat) (l:List Sz) (base:Option Addr) (m cap r:Nat) (q:Option Nat) (t:List UInt8) (w:World),Zr (ZW w0.heap.size w0 fz) 6 w0.heap.size w0 l base m cap→zy w0 r q t w →
  Calls Tryz.prog 112 #[.pointer (some ⟨r,0,none⟩),.slice base m cap,.int .i64 (d:Int)] w (zo w0 r q t w (blkO (prS d) l))
def zh7 (w0:World) (d:Nat):Prop:=∀(fz:Nat) (x:Sz) (c:List Value) (r:Nat) (q:Option Nat) (t:List UInt8) (w:World),ZW w0.heap.size w0 fz x c→zy w0 r q t w →
  Calls Tryz.prog 142 #[.pointer (some ⟨r,0,none⟩),.agg c.toArray,.int .i64 (d:Int)] w (zo w0 r q t w (prS d x))
abbrev stW (w:World) (r:Nat) (k:Int) (s:List UInt8) (be:Option Addr) (me ce:Nat) (bb:Option Addr) (mb cb:Nat) (bl:Option Addr) (ml cl:Nat) (line D:Int):World:=((w.alloc (.cells #[.pointer (some ⟨r,0,none⟩)] 85)).alloc (VL k s be me ce bb mb cb bl ml cl line)).alloc (.cells #[.int .i64 D] 3)
theorem YR (w:World) (r:Nat) (k:Int) (s:List UInt8) (be:Option Addr) (me ce:Nat) (bb:Option Addr) (mb cb:Nat) (bl:Option Addr) (ml cl:Nat) (line D:Int) :
  Below w.heap.size w (stW w r k s be me ce bb mb cb bl ml cl line D)∧(stW w r k s be me ce bb mb cb bl ml cl line D).heap.size=w.heap.size+3∧(stW w r k s be me ce bb mb cb bl ml cl line D).heap[w.heap.size]?=some (.cells #[.pointer (some ⟨r,0,none⟩)] 85 (0,0))∧(stW w r k s be me ce bb mb cb bl ml cl line D).heap[w.heap.size+1]?=some (VL k s be me ce bb mb cb bl ml cl line)∧(stW w r k s be me ce bb mb cb bl ml cl line D).heap[w.heap.size+2]?=some (.cells #[.int .i64 D] 3 (0,0)):=by
 refine ⟨(((Below.refl _ w).alloc (Nat.le_refl _) _).alloc (by simp) _).alloc (by simp <;> omega) _,by simp,?_,?_,?_⟩
 ·rw [Below.heap_alloc _ _ _ (by simp <;> omega),Below.heap_alloc _ _ _ (by simp)];exact World.alloc_heap_new _ _
 ·rw [Below.heap_alloc _ _ _ (by simp)]
  have:=World.alloc_heap_new (w.alloc (.cells #[.pointer (some ⟨r,0,none⟩)] 85)) (VL k s be me ce bb mb cb bl ml cl line)
  simpa using this
 ·have:=World.alloc_heap_new ((w.alloc (.cells #[.pointer (some ⟨r,0,none⟩)] 85)).alloc (VL k s be me ce bb mb cb bl ml cl line)) (.cells #[.int .i64 D] 3)
  simpa using this
theorem ziQ (w0:World) (d:Nat) (D:Int) (hD:D-1=(d:Int)) (_hD1:1≤D) (hD2:D≤24) (hX:yN w0 d) (hB:zdV w0 d) (s:List UInt8) (ce:Nat) (bb:Option Addr) (mb cb:Nat) (bl:Option Addr) (ml cl:Nat) (line:Int) (x:Ez) (b o:Nat) (a1:Int) (a2:List UInt8) (a3:Int) (a4:Option Addr) (a5 a6:Nat) (a7:Int) (hx:Zy w0.heap.size w0 x (yz a1 a2 a3 a4 a5 a6 a7)) (hkid:ZZ w0 b o a1 a2 a3 a4 a5 a6 a7) (fz:Nat) (body:List Sz) (hbody:Zr (ZW w0.heap.size w0 fz) 6 w0.heap.size w0 body bb mb cb) (r:Nat) (q:Option Nat) (t:List UInt8) (w:World) (h:zy w0 r q t w) :
  Calls Tryz.prog 175 #[.pointer (some ⟨r,0,none⟩),QU 5 s (some ⟨b,o,none⟩) 1 ce bb mb cb bl ml cl line,.int .i64 D] w (zo w0 r q t w (zc (some [119,104,105,108,101,32]) (zc (prE d x) (zc (some [32]) (zc (blkO (prS d) body) ((some [10]))))))):=by
 obtain ⟨R,hR⟩:∃R,R=zc (some [119,104,105,108,101,32]) (zc (prE d x) (zc (some [32]) (zc (blkO (prS d) body) ((some [10]))))):=⟨_,rfl⟩;rw [←hR];have aj:Hid (∀(q:Option Nat) (t:List UInt8) (w:World),zy w0 r q t w→Calls Tryz.prog 42 #[.pointer (some ⟨r,0,none⟩),yz a1 a2 a3 a4 a5 a6 a7,.int .i64 (d:Int)] w (zo w0 r q t w (prE d x))):=fun q t w h=>hX _ _ r q t w hx h
 have ap:Hid (∀(q:Option Nat) (t:List UInt8) (w:World),zy w0 r q t w→Calls Tryz.prog 112 #[.pointer (some ⟨r,0,none⟩),.slice bb mb cb,.int .i64 (d:Int)] w (zo w0 r q t w (blkO (prS d) body))):=fun q t w h=>hB fz body bb mb cb r q t w hbody h
 have ar:Hid (ZZ w0 b o a1 a2 a3 a4 a5 a6 a7):=hkid;obtain ⟨w1,I⟩:∃w1,w1=w.alloc (VL 5 s (some ⟨b,o,none⟩) 1 ce bb mb cb bl ml cl line):=⟨_,rfl⟩;have W:Below w.heap.size w w1:=by rw [I];exact (Below.refl _ w).alloc (Nat.le_refl _) _
 have p1:w1.heap[w.heap.size]?=some (VL 5 s (some ⟨b,o,none⟩) 1 ce bb mb cb bl ml cl line):=by rw [I];exact World.alloc_heap_new w _
 have av:w1.heap.size=w.heap.size+1:=by rw [I];simp
 have ao:Hid (zr r q w w1 q w1):=zr.start h W;have af:Hid (zy w0 r q t w1):=h.below W;have z:Hid (w1.heap[w.heap.size]?=some (VL 5 s (some ⟨b,o,none⟩) 1 ce bb mb cb bl ml cl line)):=p1;have aw:=I.symm;obtain ⟨H,c1,c2,A,G,J⟩:=zz p1;generalize prE d x=X0 at *;generalize blkO (prS d) body=X1 at *;have HR:Hid (R=zc (some [119,104,105,108,101,32]) (zc X0 (zc (some [32]) (zc X1 ((some [10])))))):=hR;clear hR p1 I W h hX hB hx hkid hbody
 go_enter Tryz.func175,Tryz.ntmps175
 have y:=zx w0 r q (t) [119,104,105,108,101,32] w1 af.out (by simp)
 go_wp2_with fail
 refine y.mono ?_;clear y H c1 c2 A G J;rintro e w2 ⟨q2,U,rfl,al⟩;have Q:Hid (zr r q w w1 q2 w2):=ao.out.step U;have aa:Hid (zy w0 r q2 (t++[119,104,105,108,101,32]) w2):=al;clear U al;obtain ⟨H,c1,c2,A,G,J⟩:=zz ((Q.out.block _ (Nat.le_refl _) (by omega)).trans z.out)
 obtain ⟨n0,n1,n2,n3,n4⟩:=ar.out.now aa.out.env;have y:=aj.out q2 (t++[119,104,105,108,101,32]) w2 aa.out;go_wp2_with fail
 refine y.mono ?_;clear y H c1 c2 A G J n0 n1 n2 n3 n4;rintro e w3 ⟨q3,N,ak⟩;cases X0 with
 | none=>subst ak;obtain rfl:R=none:=HR.out;exact ⟨rfl,q3,(Q.out.step N).unto,rfl⟩
 | some u0 =>
 obtain ⟨rfl,ad⟩:=ak;have ab:Hid (zr r q w w1 q3 w3):=Q.out.step N;have ai:Hid (zy w0 r q3 (t++[119,104,105,108,101,32]++u0) w3):=ad;clear N ad;obtain ⟨H,c1,c2,A,G,J⟩:=zz ((ab.out.block _ (Nat.le_refl _) (by omega)).trans z.out)
 have y:=zx w0 r q3 (t++[119,104,105,108,101,32]++u0) [32] w3 ai.out (by simp)
 go_wp2_with fail
 refine y.mono ?_;clear y H c1 c2 A G J;rintro e w4 ⟨q4,T,rfl,ae⟩;have O:Hid (zr r q w w1 q4 w4):=ab.out.step T;have ah:Hid (zy w0 r q4 (t++[119,104,105,108,101,32]++u0++[32]) w4):=ae;clear T ae;obtain ⟨H,c1,c2,A,G,J⟩:=zz ((O.out.block _ (Nat.le_refl _) (by omega)).trans z.out)
 have y:=ap.out q4 (t++[119,104,105,108,101,32]++u0++[32]) w4 ah.out;go_wp2_with fail
 refine y.mono ?_;clear y H c1 c2 A G J;rintro e w5 ⟨q5,L,am⟩;cases X1 with
 | none=>subst am;obtain rfl:R=none:=HR.out;exact ⟨rfl,q5,(O.out.step L).unto,rfl⟩
 | some u1 =>
 obtain ⟨rfl,aq⟩:=am;have Z:Hid (zr r q w w1 q5 w5):=O.out.step L;have au:Hid (zy w0 r q5 (t++[119,104,105,108,101,32]++u0++[32]++u1) w5):=aq;clear L aq;obtain ⟨H,c1,c2,A,G,J⟩:=zz ((Z.out.block _ (Nat.le_refl _) (by omega)).trans z.out)
 have y:=zx w0 r q5 (t++[119,104,105,108,101,32]++u0++[32]++u1) [10] w5 au.out (by simp)
 go_wp2_with fail
 refine y.mono ?_;clear y H c1 c2 A G J;rintro e w6 ⟨q6,V,rfl,an⟩;have Y:Hid (zr r q w w1 q6 w6):=Z.out.step V;have ag:Hid (zy w0 r q6 (t++[119,104,105,108,101,32]++u0++[32]++u1++[10]) w6):=an;clear V an;obtain ⟨H,c1,c2,A,G,J⟩:=zz ((Y.out.block _ (Nat.le_refl _) (by omega)).trans z.out)
 obtain rfl:R=some ([119,104,105,108,101,32]++(u0++([32]++(u1++([10]))))):=HR.out;have HP:Hid (zo w0 r q t w (some ([119,104,105,108,101,32]++(u0++([32]++(u1++([10])))))) (.returned (.tuple #[])) w6):=⟨q6,Y.out.unto,rfl,by have:=ag.out;simpa only [List.append_assoc] using this⟩
 clear ao af Q aa ab ai O ah Z au Y ag H c1 c2 A G J ar aj ap HR z;go_wp2
 exact bodyPost_ret (v:=.tuple #[]) (by simp [results,Tryz.results175,go_sem]) rfl HP.out
theorem ziR (w0:World) (d:Nat) (D:Int) (hD:D-1=(d:Int)) (_hD1:1≤D) (hD2:D≤24) (hX:yN w0 d) (hB:zdV w0 d) (s:List UInt8) (ce:Nat) (bb:Option Addr) (mb cb:Nat) (bl:Option Addr) (ml cl:Nat) (line:Int) (x:Ez) (b o:Nat) (a1:Int) (a2:List UInt8) (a3:Int) (a4:Option Addr) (a5 a6:Nat) (a7:Int) (hx:Zy w0.heap.size w0 x (yz a1 a2 a3 a4 a5 a6 a7)) (hkid:ZZ w0 b o a1 a2 a3 a4 a5 a6 a7) (fz:Nat) (body:List Sz) (hbody:Zr (ZW w0.heap.size w0 fz) 6 w0.heap.size w0 body bb mb cb) (r:Nat) (q:Option Nat) (t:List UInt8) (w:World) (h:zy w0 r q t w) :
  Calls Tryz.prog 175 #[.pointer (some ⟨r,0,none⟩),QU 3 s (some ⟨b,o,none⟩) 1 ce bb mb cb bl ml cl line,.int .i64 D] w (zo w0 r q t w (zc (some [105,102,32]) (zc (prE d x) (zc (some [32]) (zc (blkO (prS d) body) ((some [10]))))))):=by
 obtain ⟨R,hR⟩:∃R,R=zc (some [105,102,32]) (zc (prE d x) (zc (some [32]) (zc (blkO (prS d) body) ((some [10]))))):=⟨_,rfl⟩;rw [←hR];have aj:Hid (∀(q:Option Nat) (t:List UInt8) (w:World),zy w0 r q t w→Calls Tryz.prog 42 #[.pointer (some ⟨r,0,none⟩),yz a1 a2 a3 a4 a5 a6 a7,.int .i64 (d:Int)] w (zo w0 r q t w (prE d x))):=fun q t w h=>hX _ _ r q t w hx h
 have ap:Hid (∀(q:Option Nat) (t:List UInt8) (w:World),zy w0 r q t w→Calls Tryz.prog 112 #[.pointer (some ⟨r,0,none⟩),.slice bb mb cb,.int .i64 (d:Int)] w (zo w0 r q t w (blkO (prS d) body))):=fun q t w h=>hB fz body bb mb cb r q t w hbody h
 have ar:Hid (ZZ w0 b o a1 a2 a3 a4 a5 a6 a7):=hkid;obtain ⟨w1,I⟩:∃w1,w1=w.alloc (VL 3 s (some ⟨b,o,none⟩) 1 ce bb mb cb bl ml cl line):=⟨_,rfl⟩;have W:Below w.heap.size w w1:=by rw [I];exact (Below.refl _ w).alloc (Nat.le_refl _) _
 have p1:w1.heap[w.heap.size]?=some (VL 3 s (some ⟨b,o,none⟩) 1 ce bb mb cb bl ml cl line):=by rw [I];exact World.alloc_heap_new w _
 have av:w1.heap.size=w.heap.size+1:=by rw [I];simp
 have ao:Hid (zr r q w w1 q w1):=zr.start h W;have af:Hid (zy w0 r q t w1):=h.below W;have z:Hid (w1.heap[w.heap.size]?=some (VL 3 s (some ⟨b,o,none⟩) 1 ce bb mb cb bl ml cl line)):=p1;have aw:=I.symm;obtain ⟨H,c1,c2,A,G,J⟩:=zz p1;generalize prE d x=X0 at *;generalize blkO (prS d) body=X1 at *;have HR:Hid (R=zc (some [105,102,32]) (zc X0 (zc (some [32]) (zc X1 ((some [10])))))):=hR;clear hR p1 I W h hX hB hx hkid hbody
 go_enter Tryz.func175,Tryz.ntmps175
 have y:=zx w0 r q (t) [105,102,32] w1 af.out (by simp)
 go_wp2_with fail
 refine y.mono ?_;clear y H c1 c2 A G J;rintro e w2 ⟨q2,U,rfl,al⟩;have Q:Hid (zr r q w w1 q2 w2):=ao.out.step U;have aa:Hid (zy w0 r q2 (t++[105,102,32]) w2):=al;clear U al;obtain ⟨H,c1,c2,A,G,J⟩:=zz ((Q.out.block _ (Nat.le_refl _) (by omega)).trans z.out)
 obtain ⟨n0,n1,n2,n3,n4⟩:=ar.out.now aa.out.env;have y:=aj.out q2 (t++[105,102,32]) w2 aa.out;go_wp2_with fail
 refine y.mono ?_;clear y H c1 c2 A G J n0 n1 n2 n3 n4;rintro e w3 ⟨q3,N,ak⟩;cases X0 with
 | none=>subst ak;obtain rfl:R=none:=HR.out;exact ⟨rfl,q3,(Q.out.step N).unto,rfl⟩
 | some u0 =>
 obtain ⟨rfl,ad⟩:=ak;have ab:Hid (zr r q w w1 q3 w3):=Q.out.step N;have ai:Hid (zy w0 r q3 (t++[105,102,32]++u0) w3):=ad;clear N ad;obtain ⟨H,c1,c2,A,G,J⟩:=zz ((ab.out.block _ (Nat.le_refl _) (by omega)).trans z.out)
 have y:=zx w0 r q3 (t++[105,102,32]++u0) [32] w3 ai.out (by simp)
 go_wp2_with fail
 refine y.mono ?_;clear y H c1 c2 A G J;rintro e w4 ⟨q4,T,rfl,ae⟩;have O:Hid (zr r q w w1 q4 w4):=ab.out.step T;have ah:Hid (zy w0 r q4 (t++[105,102,32]++u0++[32]) w4):=ae;clear T ae;obtain ⟨H,c1,c2,A,G,J⟩:=zz ((O.out.block _ (Nat.le_refl _) (by omega)).trans z.out)
 have y:=ap.out q4 (t++[105,102,32]++u0++[32]) w4 ah.out;go_wp2_with fail
 refine y.mono ?_;clear y H c1 c2 A G J;rintro e w5 ⟨q5,L,am⟩;cases X1 with
 | none=>subst am;obtain rfl:R=none:=HR.out;exact ⟨rfl,q5,(O.out.step L).unto,rfl⟩
 | some u1 =>
 obtain ⟨rfl,aq⟩:=am;have Z:Hid (zr r q w w1 q5 w5):=O.out.step L;have au:Hid (zy w0 r q5 (t++[105,102,32]++u0++[32]++u1) w5):=aq;clear L aq;obtain ⟨H,c1,c2,A,G,J⟩:=zz ((Z.out.block _ (Nat.le_refl _) (by omega)).trans z.out)
 have y:=zx w0 r q5 (t++[105,102,32]++u0++[32]++u1) [10] w5 au.out (by simp)
 go_wp2_with fail
 refine y.mono ?_;clear y H c1 c2 A G J;rintro e w6 ⟨q6,V,rfl,an⟩;have Y:Hid (zr r q w w1 q6 w6):=Z.out.step V;have ag:Hid (zy w0 r q6 (t++[105,102,32]++u0++[32]++u1++[10]) w6):=an;clear V an;obtain ⟨H,c1,c2,A,G,J⟩:=zz ((Y.out.block _ (Nat.le_refl _) (by omega)).trans z.out)
 obtain rfl:R=some ([105,102,32]++(u0++([32]++(u1++([10]))))):=HR.out;have HP:Hid (zo w0 r q t w (some ([105,102,32]++(u0++([32]++(u1++([10])))))) (.returned (.tuple #[])) w6):=⟨q6,Y.out.unto,rfl,by have:=ag.out;simpa only [List.append_assoc] using this⟩
 clear ao af Q aa ab ai O ah Z au Y ag H c1 c2 A G J ar aj ap HR z;go_wp2
 exact bodyPost_ret (v:=.tuple #[]) (by simp [results,Tryz.results175,go_sem]) rfl HP.out
theorem ziS (w0:World) (d:Nat) (D:Int) (hD:D-1=(d:Int)) (_hD1:1≤D) (hD2:D≤24) (hX:yN w0 d) (hB:zdV w0 d) (s:List UInt8) (ce:Nat) (bb:Option Addr) (mb cb:Nat) (bl:Option Addr) (ml cl:Nat) (line:Int) (x:Ez) (b o:Nat) (a1:Int) (a2:List UInt8) (a3:Int) (a4:Option Addr) (a5 a6:Nat) (a7:Int) (hx:Zy w0.heap.size w0 x (yz a1 a2 a3 a4 a5 a6 a7)) (hkid:ZZ w0 b o a1 a2 a3 a4 a5 a6 a7) (fz:Nat) (body:List Sz) (hbody:Zr (ZW w0.heap.size w0 fz) 6 w0.heap.size w0 body bb mb cb) (els:List Sz) (hels:Zr (ZW w0.heap.size w0 fz) 6 w0.heap.size w0 els bl ml cl) (r:Nat) (q:Option Nat) (t:List UInt8) (w:World) (h:zy w0 r q t w) :
  Calls Tryz.prog 175 #[.pointer (some ⟨r,0,none⟩),QU 4 s (some ⟨b,o,none⟩) 1 ce bb mb cb bl ml cl line,.int .i64 D] w (zo w0 r q t w (zc (some [105,102,32]) (zc (prE d x) (zc (some [32]) (zc (blkO (prS d) body) (zc (some [32,101,108,115,101,32]) (zc (blkO (prS d) els) ((some [10]))))))))):=by
 obtain ⟨R,hR⟩:∃R,R=zc (some [105,102,32]) (zc (prE d x) (zc (some [32]) (zc (blkO (prS d) body) (zc (some [32,101,108,115,101,32]) (zc (blkO (prS d) els) ((some [10]))))))):=⟨_,rfl⟩;rw [←hR];have ax:Hid (∀(q:Option Nat) (t:List UInt8) (w:World),zy w0 r q t w→Calls Tryz.prog 42 #[.pointer (some ⟨r,0,none⟩),yz a1 a2 a3 a4 a5 a6 a7,.int .i64 (d:Int)] w (zo w0 r q t w (prE d x))):=fun q t w h=>hX _ _ r q t w hx h
 have ak:Hid (∀(q:Option Nat) (t:List UInt8) (w:World),zy w0 r q t w→Calls Tryz.prog 112 #[.pointer (some ⟨r,0,none⟩),.slice bb mb cb,.int .i64 (d:Int)] w (zo w0 r q t w (blkO (prS d) body))):=fun q t w h=>hB fz body bb mb cb r q t w hbody h
 have aj:Hid (∀(q:Option Nat) (t:List UInt8) (w:World),zy w0 r q t w→Calls Tryz.prog 112 #[.pointer (some ⟨r,0,none⟩),.slice bl ml cl,.int .i64 (d:Int)] w (zo w0 r q t w (blkO (prS d) els))):=fun q t w h=>hB fz els bl ml cl r q t w hels h
 have an:Hid (ZZ w0 b o a1 a2 a3 a4 a5 a6 a7):=hkid;obtain ⟨w1,J⟩:∃w1,w1=w.alloc (VL 4 s (some ⟨b,o,none⟩) 1 ce bb mb cb bl ml cl line):=⟨_,rfl⟩;have ae:Below w.heap.size w w1:=by rw [J];exact (Below.refl _ w).alloc (Nat.le_refl _) _
 have p1:w1.heap[w.heap.size]?=some (VL 4 s (some ⟨b,o,none⟩) 1 ce bb mb cb bl ml cl line):=by rw [J];exact World.alloc_heap_new w _
 have aF:w1.heap.size=w.heap.size+1:=by rw [J];simp
 have aB:Hid (zr r q w w1 q w1):=zr.start h ae;have aq:Hid (zy w0 r q t w1):=h.below ae;have z:Hid (w1.heap[w.heap.size]?=some (VL 4 s (some ⟨b,o,none⟩) 1 ce bb mb cb bl ml cl line)):=p1;have aG:=J.symm;obtain ⟨H,c1,c2,A,G,I⟩:=zz p1;generalize prE d x=X0 at *;generalize blkO (prS d) body=X1 at *;generalize blkO (prS d) els=X2 at *;have HR:Hid (R=zc (some [105,102,32]) (zc X0 (zc (some [32]) (zc X1 (zc (some [32,101,108,115,101,32]) (zc X2 ((some [10])))))))):=hR;clear hR p1 J ae h hX hB hx hkid hbody hels
 go_enter Tryz.func175,Tryz.ntmps175
 have y:=zx w0 r q (t) [105,102,32] w1 aq.out (by simp)
 go_wp2_with fail
 refine y.mono ?_;clear y H c1 c2 A G I;rintro e w2 ⟨q2,V,rfl,ai⟩;have T:Hid (zr r q w w1 q2 w2):=aB.out.step V;have af:Hid (zy w0 r q2 (t++[105,102,32]) w2):=ai;clear V ai;obtain ⟨H,c1,c2,A,G,I⟩:=zz ((T.out.block _ (Nat.le_refl _) (by omega)).trans z.out)
 obtain ⟨n0,n1,n2,n3,n4⟩:=an.out.now af.out.env;have y:=ax.out q2 (t++[105,102,32]) w2 af.out;go_wp2_with fail
 refine y.mono ?_;clear y H c1 c2 A G I n0 n1 n2 n3 n4;rintro e w3 ⟨q3,O,ay⟩;cases X0 with
 | none=>subst ay;obtain rfl:R=none:=HR.out;exact ⟨rfl,q3,(T.out.step O).unto,rfl⟩
 | some u0 =>
 obtain ⟨rfl,ap⟩:=ay;have ab:Hid (zr r q w w1 q3 w3):=T.out.step O;have aw:Hid (zy w0 r q3 (t++[105,102,32]++u0) w3):=ap;clear O ap;obtain ⟨H,c1,c2,A,G,I⟩:=zz ((ab.out.block _ (Nat.le_refl _) (by omega)).trans z.out)
 have y:=zx w0 r q3 (t++[105,102,32]++u0) [32] w3 aw.out (by simp)
 go_wp2_with fail
 refine y.mono ?_;clear y H c1 c2 A G I;rintro e w4 ⟨q4,Y,rfl,ao⟩;have U:Hid (zr r q w w1 q4 w4):=ab.out.step Y;have au:Hid (zy w0 r q4 (t++[105,102,32]++u0++[32]) w4):=ao;clear Y ao;obtain ⟨H,c1,c2,A,G,I⟩:=zz ((U.out.block _ (Nat.le_refl _) (by omega)).trans z.out)
 have y:=ak.out q4 (t++[105,102,32]++u0++[32]) w4 au.out;go_wp2_with fail
 refine y.mono ?_;clear y H c1 c2 A G I;rintro e w5 ⟨q5,L,aD⟩;cases X1 with
 | none=>subst aD;obtain rfl:R=none:=HR.out;exact ⟨rfl,q5,(U.out.step L).unto,rfl⟩
 | some u1 =>
 obtain ⟨rfl,al⟩:=aD;have aa:Hid (zr r q w w1 q5 w5):=U.out.step L;have aE:Hid (zy w0 r q5 (t++[105,102,32]++u0++[32]++u1) w5):=al;clear L al;obtain ⟨H,c1,c2,A,G,I⟩:=zz ((aa.out.block _ (Nat.le_refl _) (by omega)).trans z.out)
 have y:=zx w0 r q5 (t++[105,102,32]++u0++[32]++u1) [32,101,108,115,101,32] w5 aE.out (by simp)
 go_wp2_with fail
 refine y.mono ?_;clear y H c1 c2 A G I;rintro e w6 ⟨q6,Z,rfl,aA⟩;have Q:Hid (zr r q w w1 q6 w6):=aa.out.step Z;have ar:Hid (zy w0 r q6 (t++[105,102,32]++u0++[32]++u1++[32,101,108,115,101,32]) w6):=aA;clear Z aA;obtain ⟨H,c1,c2,A,G,I⟩:=zz ((Q.out.block _ (Nat.le_refl _) (by omega)).trans z.out)
 have y:=aj.out q6 (t++[105,102,32]++u0++[32]++u1++[32,101,108,115,101,32]) w6 ar.out;go_wp2_with fail
 refine y.mono ?_;clear y H c1 c2 A G I;rintro e w7 ⟨q7,N,av⟩;cases X2 with
 | none=>subst av;obtain rfl:R=none:=HR.out;exact ⟨rfl,q7,(Q.out.step N).unto,rfl⟩
 | some u2 =>
 obtain ⟨rfl,am⟩:=av;have ad:Hid (zr r q w w1 q7 w7):=Q.out.step N;have ah:Hid (zy w0 r q7 (t++[105,102,32]++u0++[32]++u1++[32,101,108,115,101,32]++u2) w7):=am;clear N am;obtain ⟨H,c1,c2,A,G,I⟩:=zz ((ad.out.block _ (Nat.le_refl _) (by omega)).trans z.out)
 have y:=zx w0 r q7 (t++[105,102,32]++u0++[32]++u1++[32,101,108,115,101,32]++u2) [10] w7 ah.out (by simp)
 go_wp2_with fail
 refine y.mono ?_;clear y H c1 c2 A G I;rintro e w8 ⟨q8,W,rfl,az⟩;have ag:Hid (zr r q w w1 q8 w8):=ad.out.step W;have aC:Hid (zy w0 r q8 (t++[105,102,32]++u0++[32]++u1++[32,101,108,115,101,32]++u2++[10]) w8):=az;clear W az;obtain ⟨H,c1,c2,A,G,I⟩:=zz ((ag.out.block _ (Nat.le_refl _) (by omega)).trans z.out)
 obtain rfl:R=some ([105,102,32]++(u0++([32]++(u1++([32,101,108,115,101,32]++(u2++([10]))))))):=HR.out;have HP:Hid (zo w0 r q t w (some ([105,102,32]++(u0++([32]++(u1++([32,101,108,115,101,32]++(u2++([10])))))))) (.returned (.tuple #[])) w8):=⟨q8,ag.out.unto,rfl,by have:=aC.out;simpa only [List.append_assoc] using this⟩
 clear aB aq T af ab aw U au aa aE Q ar ad ah ag aC H c1 c2 A G I an ax ak aj HR z;go_wp2
 exact bodyPost_ret (v:=.tuple #[]) (by simp [results,Tryz.results175,go_sem]) rfl HP.out
theorem zh8 (w0:World) (d:Nat) (D:Int) (hD:D-1=(d:Int)) (hD1:1≤D) (hD2:D≤24) (hT:ZE w0) (hX:yN w0 d) (s:List UInt8) (ce:Nat) (bb:Option Addr) (mb cb:Nat) (bl:Option Addr) (ml cl:Nat) (line:Int) (b o:Nat) (x:Ez) (g01:Int) (g02:List UInt8) (g03:Int) (g04:Option Addr) (g05 g06:Nat) (g07:Int) (hx0:Zy w0.heap.size w0 x (yz g01 g02 g03 g04 g05 g06 g07)) (hkid0:ZZ w0 b (o+0*5) g01 g02 g03 g04 g05 g06 g07) (es:List Ez) (hes:Zr (QS w0.heap.size w0) 5 w0.heap.size w0 es (some ⟨b,o,none⟩) 1 ce) (r:Nat) (q:Option Nat) (t:List UInt8) (w:World) (h:zy w0 r q t w) (hst:Ye 1 s es mb ml=true) (hs:s.length≤100000000) :
  Calls Tryz.prog 142 #[.pointer (some ⟨r,0,none⟩),QU 1 s (some ⟨b,o,none⟩) 1 ce bb mb cb bl ml cl line,.int .i64 D] w (zo w0 r q t w (zc (some [108,101,116,32]) (zc (tokO 1 0 s) (zc (some [32,61,32]) (zc (prE d x) ((some [59,10]))))))):=by
 have aH:∀(fn:Fn) (first cap:Array Value) (w:World),(Instr.makeFunc fn first cap).run Tryz.prog w=.ok (.func fn first cap) w:=fun _ _ _ _=>rfl
 obtain ⟨R,hR⟩:∃R,R=zc (some [108,101,116,32]) (zc (tokO 1 0 s) (zc (some [32,61,32]) (zc (prE d x) ((some [59,10]))))):=⟨_,rfl⟩;rw [←hR];obtain ⟨z,ai⟩:∃z,z=stW w r 1 s (some ⟨b,o,none⟩) 1 ce bb mb cb bl ml cl line D:=⟨_,rfl⟩;obtain ⟨ad,aB,e0,e1,e2⟩:=YR w r 1 s (some ⟨b,o,none⟩) 1 ce bb mb cb bl ml cl line D;rw [←ai] at ad aB e0 e1 e2;have V:=h.below ad;have aA:Hid (zr r q w z q z):=zr.start h ad;have y:Hid (z.heap[w.heap.size]?=some (.cells #[.pointer (some ⟨r,0,none⟩)] 85 (0,0))∧z.heap[w.heap.size+1]?=some (VL 1 s (some ⟨b,o,none⟩) 1 ce bb mb cb bl ml cl line)∧z.heap[w.heap.size+2]?=some (.cells #[.int .i64 D] 3 (0,0))):=⟨e0,e1,e2⟩;have ci:=Yx 1 s es (some ⟨b,o,none⟩) 1 ce bb mb cb bl ml cl line w0.heap.size z (hes.kept V.env fun _ _ h=>Zy.kept h V.env) V.env.size
 rw [hst] at ci;have ap:Hid (zy w0 r q t z):=V;have aF:=ai.symm;have O:=ze e0;obtain ⟨J,c1,c2,H,I,Q⟩:=zz e1;have L:=ze e2;have aG:(0:Int)<D:=by omega
 have aw:Hid (∀(q:Option Nat) (t:List UInt8) (w:World),zy w0 r q t w→Calls Tryz.prog 82 #[.pointer (some ⟨r,0,none⟩),.string (zb s)] w (zo w0 r q t w (tokO 1 0 s))):=fun q t w h=>yx w0 r q t s w hT h hs
 have al:Hid (∀(q2:Option Nat) (t2:List UInt8) (W:World),zy w0 r q2 t2 W→zr r q w z q2 W→Calls Tryz.prog 174 #[.int .i64 0,.pointer (some ⟨w.heap.size,0,none⟩),.pointer (some ⟨w.heap.size+1,0,none⟩),.pointer (some ⟨w.heap.size+2,0,none⟩)] W (zo w0 r q2 t2 W (prE d x))):=fun q2 t2 W h2 hL2=>vK w0 d D hD hD1 hD2 hX 0 x b o _ _ _ _ _ _ _ hx0 hkid0 _ _ _ r _ ce (by omega) (by omega) q2 t2 W h2 (ze ((hL2.block (w.heap.size) (Nat.le_refl _) (by omega)).trans y.out.1)) (zz ((hL2.block (w.heap.size+1) (by omega) (by omega)).trans y.out.2.1)).2.2.1 (ze ((hL2.block (w.heap.size+2) (by omega) (by omega)).trans y.out.2.2)) (fun k hk=>⟨by have:=hL2.hr;omega,fun e=>by have:=hL2.hq k e;omega⟩)
 generalize tokO 1 0 s=X0 at *;generalize prE d x=X1 at *;have HR:Hid (R=zc (some [108,101,116,32]) (zc X0 (zc (some [32,61,32]) (zc X1 ((some [59,10])))))):=hR;clear hR V e0 e1 e2 ai ad h hes hst hT hX hx0 hkid0
 go_enter Tryz.func142,Tryz.ntmps142
 go_wp2_with fail
 refine ci.mono ?_;clear ci O L J c1 c2 H I Q;rintro e w2 ⟨rfl,ah⟩;have U:Hid (zr r q w z q w2):=aA.out.step (zT.below ah);have ay:Hid (zy w0 r q t w2):=ap.out.below ah;clear ah;have ca:=z6 true w2;have O:=ze ((U.out.block (w.heap.size) (Nat.le_refl _) (by omega)).trans y.out.1)
 obtain ⟨J,c1,c2,H,I,Q⟩:=zz ((U.out.block (w.heap.size+1) (by omega) (by omega)).trans y.out.2.1)
 have L:=ze ((U.out.block (w.heap.size+2) (by omega) (by omega)).trans y.out.2.2)
 go_wp2_with fail
 refine ca.mono ?_;clear ca;rintro e w3 ⟨rfl,rfl⟩;simp only [xd];have ak:Hid (zr r q w z q w3):=U.out;have av:Hid (zy w0 r q t w3):=ay.out;clear aA ap U ay;have G:=zx w0 r q (t) [108,101,116,32] w3 av.out (by simp)
 go_wp2_with fail
 refine G.mono ?_;clear G O L J c1 c2 H I Q;rintro e w4 ⟨q4,af,rfl,ao⟩;have N:Hid (zr r q w z q4 w4):=ak.out.step af;have ar:Hid (zy w0 r q4 (t++[108,101,116,32]) w4):=ao;clear af ao;have O:=ze ((N.out.block (w.heap.size) (Nat.le_refl _) (by omega)).trans y.out.1)
 obtain ⟨J,c1,c2,H,I,Q⟩:=zz ((N.out.block (w.heap.size+1) (by omega) (by omega)).trans y.out.2.1)
 have L:=ze ((N.out.block (w.heap.size+2) (by omega) (by omega)).trans y.out.2.2)
 have G:=aw.out q4 (t++[108,101,116,32]) w4 ar.out;go_wp2_with fail
 refine G.mono ?_;clear G O L J c1 c2 H I Q;rintro e w5 ⟨q5,Z,aD⟩;cases X0 with
 | none=>subst aD;obtain rfl:R=none:=HR.out;exact ⟨rfl,q5,(N.out.step Z).unto,rfl⟩
 | some u0 =>
 obtain ⟨rfl,am⟩:=aD;have T:Hid (zr r q w z q5 w5):=N.out.step Z;have aE:Hid (zy w0 r q5 (t++[108,101,116,32]++u0) w5):=am;clear Z am;have O:=ze ((T.out.block (w.heap.size) (Nat.le_refl _) (by omega)).trans y.out.1)
 obtain ⟨J,c1,c2,H,I,Q⟩:=zz ((T.out.block (w.heap.size+1) (by omega) (by omega)).trans y.out.2.1)
 have L:=ze ((T.out.block (w.heap.size+2) (by omega) (by omega)).trans y.out.2.2)
 have G:=zx w0 r q5 (t++[108,101,116,32]++u0) [32,61,32] w5 aE.out (by simp)
 go_wp2_with fail
 refine G.mono ?_;clear G O L J c1 c2 H I Q;rintro e w6 ⟨q6,ag,rfl,az⟩;have A:Hid (zr r q w z q6 w6):=T.out.step ag;have aq:Hid (zy w0 r q6 (t++[108,101,116,32]++u0++[32,61,32]) w6):=az;clear ag az;have O:=ze ((A.out.block (w.heap.size) (Nat.le_refl _) (by omega)).trans y.out.1)
 obtain ⟨J,c1,c2,H,I,Q⟩:=zz ((A.out.block (w.heap.size+1) (by omega) (by omega)).trans y.out.2.1)
 have L:=ze ((A.out.block (w.heap.size+2) (by omega) (by omega)).trans y.out.2.2)
 have G:=al.out q6 (t++[108,101,116,32]++u0++[32,61,32]) w6 aq.out A.out;go_wp2_with fail
 refine G.mono ?_;clear G O L J c1 c2 H I Q;rintro e w7 ⟨q7,ab,au⟩;cases X1 with
 | none=>subst au;obtain rfl:R=none:=HR.out;exact ⟨rfl,q7,(A.out.step ab).unto,rfl⟩
 | some u1 =>
 obtain ⟨rfl,an⟩:=au;have Y:Hid (zr r q w z q7 w7):=A.out.step ab;have aj:Hid (zy w0 r q7 (t++[108,101,116,32]++u0++[32,61,32]++u1) w7):=an;clear ab an;have O:=ze ((Y.out.block (w.heap.size) (Nat.le_refl _) (by omega)).trans y.out.1)
 obtain ⟨J,c1,c2,H,I,Q⟩:=zz ((Y.out.block (w.heap.size+1) (by omega) (by omega)).trans y.out.2.1)
 have L:=ze ((Y.out.block (w.heap.size+2) (by omega) (by omega)).trans y.out.2.2)
 have G:=zx w0 r q7 (t++[108,101,116,32]++u0++[32,61,32]++u1) [59,10] w7 aj.out (by simp)
 go_wp2_with fail
 refine G.mono ?_;clear G O L J c1 c2 H I Q;rintro e w8 ⟨q8,ae,rfl,ax⟩;have aa:Hid (zr r q w z q8 w8):=Y.out.step ae;have aC:Hid (zy w0 r q8 (t++[108,101,116,32]++u0++[32,61,32]++u1++[59,10]) w8):=ax;clear ae ax;have O:=ze ((aa.out.block (w.heap.size) (Nat.le_refl _) (by omega)).trans y.out.1)
 obtain ⟨J,c1,c2,H,I,Q⟩:=zz ((aa.out.block (w.heap.size+1) (by omega) (by omega)).trans y.out.2.1)
 have L:=ze ((aa.out.block (w.heap.size+2) (by omega) (by omega)).trans y.out.2.2)
 obtain rfl:R=some ([108,101,116,32]++(u0++([32,61,32]++(u1++([59,10]))))):=HR.out;have HP:Hid (zo w0 r q t w (some ([108,101,116,32]++(u0++([32,61,32]++(u1++([59,10])))))) (.returned (.tuple #[])) w8):=⟨q8,aa.out.unto,rfl,by have:=aC.out;simpa only [List.append_assoc] using this⟩
 clear ak av N ar T aE A aq Y aj aa aC O L J c1 c2 H I Q aw al HR y;go_wp2
 exact bodyPost_ret (v:=.tuple #[]) (by simp [results,Tryz.results142,go_sem]) rfl HP.out
theorem zh9 (w0:World) (d:Nat) (D:Int) (hD:D-1=(d:Int)) (hD1:1≤D) (hD2:D≤24) (_hT:ZE w0) (hX:yN w0 d) (s:List UInt8) (ce:Nat) (bb:Option Addr) (mb cb:Nat) (bl:Option Addr) (ml cl:Nat) (line:Int) (b o:Nat) (x:Ez) (g01:Int) (g02:List UInt8) (g03:Int) (g04:Option Addr) (g05 g06:Nat) (g07:Int) (hx0:Zy w0.heap.size w0 x (yz g01 g02 g03 g04 g05 g06 g07)) (hkid0:ZZ w0 b (o+0*5) g01 g02 g03 g04 g05 g06 g07) (y:Ez) (g11:Int) (g12:List UInt8) (g13:Int) (g14:Option Addr) (g15 g16:Nat) (g17:Int) (hx1:Zy w0.heap.size w0 y (yz g11 g12 g13 g14 g15 g16 g17)) (hkid1:ZZ w0 b (o+1*5) g11 g12 g13 g14 g15 g16 g17) (es:List Ez) (hes:Zr (QS w0.heap.size w0) 5 w0.heap.size w0 es (some ⟨b,o,none⟩) 2 ce) (r:Nat) (q:Option Nat) (t:List UInt8) (w:World) (h:zy w0 r q t w) (hst:Ye 2 s es mb ml=true) (_hs:s.length≤100000000) :
  Calls Tryz.prog 142 #[.pointer (some ⟨r,0,none⟩),QU 2 s (some ⟨b,o,none⟩) 2 ce bb mb cb bl ml cl line,.int .i64 D] w (zo w0 r q t w (zc (prE d x) (zc (some [32,61,32]) (zc (prE d y) ((some [59,10])))))):=by
 have aC:∀(fn:Fn) (first cap:Array Value) (w:World),(Instr.makeFunc fn first cap).run Tryz.prog w=.ok (.func fn first cap) w:=fun _ _ _ _=>rfl
 obtain ⟨R,hR⟩:∃R,R=zc (prE d x) (zc (some [32,61,32]) (zc (prE d y) ((some [59,10])))):=⟨_,rfl⟩;rw [←hR];obtain ⟨A,ah⟩:∃A,A=stW w r 2 s (some ⟨b,o,none⟩) 2 ce bb mb cb bl ml cl line D:=⟨_,rfl⟩;obtain ⟨ab,aw,e0,e1,e2⟩:=YR w r 2 s (some ⟨b,o,none⟩) 2 ce bb mb cb bl ml cl line D;rw [←ah] at ab aw e0 e1 e2;have Z:=h.below ab;have av:Hid (zr r q w A q A):=zr.start h ab;have z:Hid (A.heap[w.heap.size]?=some (.cells #[.pointer (some ⟨r,0,none⟩)] 85 (0,0))∧A.heap[w.heap.size+1]?=some (VL 2 s (some ⟨b,o,none⟩) 2 ce bb mb cb bl ml cl line)∧A.heap[w.heap.size+2]?=some (.cells #[.int .i64 D] 3 (0,0))):=⟨e0,e1,e2⟩;have ci:=Yx 2 s es (some ⟨b,o,none⟩) 2 ce bb mb cb bl ml cl line w0.heap.size A (hes.kept Z.env fun _ _ h=>Zy.kept h Z.env) Z.env.size
 rw [hst] at ci;have aj:Hid (zy w0 r q t A):=Z;have aB:=ah.symm;have I:=ze e0;obtain ⟨O,c1,c2,J,L,c5⟩:=zz e1;have U:=ze e2;have aD:(0:Int)<D:=by omega
 have ap:Hid (∀(q2:Option Nat) (t2:List UInt8) (W:World),zy w0 r q2 t2 W→zr r q w A q2 W→Calls Tryz.prog 174 #[.int .i64 0,.pointer (some ⟨w.heap.size,0,none⟩),.pointer (some ⟨w.heap.size+1,0,none⟩),.pointer (some ⟨w.heap.size+2,0,none⟩)] W (zo w0 r q2 t2 W (prE d x))):=fun q2 t2 W h2 hL2=>vK w0 d D hD hD1 hD2 hX 0 x b o _ _ _ _ _ _ _ hx0 hkid0 _ _ _ r _ ce (by omega) (by omega) q2 t2 W h2 (ze ((hL2.block (w.heap.size) (Nat.le_refl _) (by omega)).trans z.out.1)) (zz ((hL2.block (w.heap.size+1) (by omega) (by omega)).trans z.out.2.1)).2.2.1 (ze ((hL2.block (w.heap.size+2) (by omega) (by omega)).trans z.out.2.2)) (fun k hk=>⟨by have:=hL2.hr;omega,fun e=>by have:=hL2.hq k e;omega⟩)
 have ax:Hid (∀(q2:Option Nat) (t2:List UInt8) (W:World),zy w0 r q2 t2 W→zr r q w A q2 W→Calls Tryz.prog 174 #[.int .i64 1,.pointer (some ⟨w.heap.size,0,none⟩),.pointer (some ⟨w.heap.size+1,0,none⟩),.pointer (some ⟨w.heap.size+2,0,none⟩)] W (zo w0 r q2 t2 W (prE d y))):=fun q2 t2 W h2 hL2=>vK w0 d D hD hD1 hD2 hX 1 y b o _ _ _ _ _ _ _ hx1 hkid1 _ _ _ r _ ce (by omega) (by omega) q2 t2 W h2 (ze ((hL2.block (w.heap.size) (Nat.le_refl _) (by omega)).trans z.out.1)) (zz ((hL2.block (w.heap.size+1) (by omega) (by omega)).trans z.out.2.1)).2.2.1 (ze ((hL2.block (w.heap.size+2) (by omega) (by omega)).trans z.out.2.2)) (fun k hk=>⟨by have:=hL2.hr;omega,fun e=>by have:=hL2.hq k e;omega⟩)
 generalize prE d x=X0 at *;generalize prE d y=X1 at *;have HR:Hid (R=zc X0 (zc (some [32,61,32]) (zc X1 ((some [59,10]))))):=hR;clear hR Z e0 e1 e2 ah ab h hes hst _hT hX hx0 hkid0 hx1 hkid1
 go_enter Tryz.func142,Tryz.ntmps142
 go_wp2_with fail
 refine ci.mono ?_;clear ci I U O c1 c2 J L c5;rintro e w2 ⟨rfl,ag⟩;have Y:Hid (zr r q w A q w2):=av.out.step (zT.below ag);have ar:Hid (zy w0 r q t w2):=aj.out.below ag;clear ag;have ca:=z6 true w2;have I:=ze ((Y.out.block (w.heap.size) (Nat.le_refl _) (by omega)).trans z.out.1)
 obtain ⟨O,c1,c2,J,L,c5⟩:=zz ((Y.out.block (w.heap.size+1) (by omega) (by omega)).trans z.out.2.1)
 have U:=ze ((Y.out.block (w.heap.size+2) (by omega) (by omega)).trans z.out.2.2)
 go_wp2_with fail
 refine ca.mono ?_;clear ca;rintro e w3 ⟨rfl,rfl⟩;simp only [xd];have ad:Hid (zr r q w A q w3):=Y.out;have ao:Hid (zy w0 r q t w3):=ar.out;clear av aj Y ar;have N:=ap.out q (t) w3 ao.out ad.out;go_wp2_with fail
 refine N.mono ?_;clear N I U O c1 c2 J L c5;rintro e w4 ⟨q4,T,ak⟩;cases X0 with
 | none=>subst ak;obtain rfl:R=none:=HR.out;exact ⟨rfl,q4,(ad.out.step T).unto,rfl⟩
 | some u0 =>
 obtain ⟨rfl,ai⟩:=ak;have H:Hid (zr r q w A q4 w4):=ad.out.step T;have am:Hid (zy w0 r q4 (t++u0) w4):=ai;clear T ai;have I:=ze ((H.out.block (w.heap.size) (Nat.le_refl _) (by omega)).trans z.out.1)
 obtain ⟨O,c1,c2,J,L,c5⟩:=zz ((H.out.block (w.heap.size+1) (by omega) (by omega)).trans z.out.2.1)
 have U:=ze ((H.out.block (w.heap.size+2) (by omega) (by omega)).trans z.out.2.2)
 have N:=zx w0 r q4 (t++u0) [32,61,32] w4 am.out (by simp)
 go_wp2_with fail
 refine N.mono ?_;clear N I U O c1 c2 J L c5;rintro e w5 ⟨q5,ae,rfl,ay⟩;have G:Hid (zr r q w A q5 w5):=H.out.step ae;have aA:Hid (zy w0 r q5 (t++u0++[32,61,32]) w5):=ay;clear ae ay;have I:=ze ((G.out.block (w.heap.size) (Nat.le_refl _) (by omega)).trans z.out.1)
 obtain ⟨O,c1,c2,J,L,c5⟩:=zz ((G.out.block (w.heap.size+1) (by omega) (by omega)).trans z.out.2.1)
 have U:=ze ((G.out.block (w.heap.size+2) (by omega) (by omega)).trans z.out.2.2)
 have N:=ax.out q5 (t++u0++[32,61,32]) w5 aA.out G.out;go_wp2_with fail
 refine N.mono ?_;clear N I U O c1 c2 J L c5;rintro e w6 ⟨q6,V,aq⟩;cases X1 with
 | none=>subst aq;obtain rfl:R=none:=HR.out;exact ⟨rfl,q6,(G.out.step V).unto,rfl⟩
 | some u1 =>
 obtain ⟨rfl,au⟩:=aq;have Q:Hid (zr r q w A q6 w6):=G.out.step V;have al:Hid (zy w0 r q6 (t++u0++[32,61,32]++u1) w6):=au;clear V au;have I:=ze ((Q.out.block (w.heap.size) (Nat.le_refl _) (by omega)).trans z.out.1)
 obtain ⟨O,c1,c2,J,L,c5⟩:=zz ((Q.out.block (w.heap.size+1) (by omega) (by omega)).trans z.out.2.1)
 have U:=ze ((Q.out.block (w.heap.size+2) (by omega) (by omega)).trans z.out.2.2)
 have N:=zx w0 r q6 (t++u0++[32,61,32]++u1) [59,10] w6 al.out (by simp)
 go_wp2_with fail
 refine N.mono ?_;clear N I U O c1 c2 J L c5;rintro e w7 ⟨q7,af,rfl,az⟩;have aa:Hid (zr r q w A q7 w7):=Q.out.step af;have an:Hid (zy w0 r q7 (t++u0++[32,61,32]++u1++[59,10]) w7):=az;clear af az;have I:=ze ((aa.out.block (w.heap.size) (Nat.le_refl _) (by omega)).trans z.out.1)
 obtain ⟨O,c1,c2,J,L,c5⟩:=zz ((aa.out.block (w.heap.size+1) (by omega) (by omega)).trans z.out.2.1)
 have U:=ze ((aa.out.block (w.heap.size+2) (by omega) (by omega)).trans z.out.2.2)
 obtain rfl:R=some (u0++([32,61,32]++(u1++([59,10])))):=HR.out;have HP:Hid (zo w0 r q t w (some (u0++([32,61,32]++(u1++([59,10]))))) (.returned (.tuple #[])) w7):=⟨q7,aa.out.unto,rfl,by have:=an.out;simpa only [List.append_assoc] using this⟩
 clear ad ao H am G aA Q al aa an I U O c1 c2 J L c5 ap ax HR z;go_wp2
 exact bodyPost_ret (v:=.tuple #[]) (by simp [results,Tryz.results142,go_sem]) rfl HP.out
theorem zia (w0:World) (d:Nat) (D:Int) (hD:D-1=(d:Int)) (hD1:1≤D) (hD2:D≤24) (_hT:ZE w0) (hX:yN w0 d) (s:List UInt8) (ce:Nat) (bb:Option Addr) (mb cb:Nat) (bl:Option Addr) (ml cl:Nat) (line:Int) (b o:Nat) (x:Ez) (g01:Int) (g02:List UInt8) (g03:Int) (g04:Option Addr) (g05 g06:Nat) (g07:Int) (hx0:Zy w0.heap.size w0 x (yz g01 g02 g03 g04 g05 g06 g07)) (hkid0:ZZ w0 b (o+0*5) g01 g02 g03 g04 g05 g06 g07) (es:List Ez) (hes:Zr (QS w0.heap.size w0) 5 w0.heap.size w0 es (some ⟨b,o,none⟩) 1 ce) (r:Nat) (q:Option Nat) (t:List UInt8) (w:World) (h:zy w0 r q t w) (hst:Ye 7 s es mb ml=true) (_hs:s.length≤100000000) :
  Calls Tryz.prog 142 #[.pointer (some ⟨r,0,none⟩),QU 7 s (some ⟨b,o,none⟩) 1 ce bb mb cb bl ml cl line,.int .i64 D] w (zo w0 r q t w (zc (prE d x) ((some [59,10])))):=by
 have an:∀(fn:Fn) (first cap:Array Value) (w:World),(Instr.makeFunc fn first cap).run Tryz.prog w=.ok (.func fn first cap) w:=fun _ _ _ _=>rfl
 obtain ⟨R,hR⟩:∃R,R=zc (prE d x) ((some [59,10])):=⟨_,rfl⟩;rw [←hR];obtain ⟨z,Z⟩:∃z,z=stW w r 7 s (some ⟨b,o,none⟩) 1 ce bb mb cb bl ml cl line D:=⟨_,rfl⟩;obtain ⟨L,aj,e0,e1,e2⟩:=YR w r 7 s (some ⟨b,o,none⟩) 1 ce bb mb cb bl ml cl line D;rw [←Z] at L aj e0 e1 e2;have J:=h.below L;have ai:Hid (zr r q w z q z):=zr.start h L;have y:Hid (z.heap[w.heap.size]?=some (.cells #[.pointer (some ⟨r,0,none⟩)] 85 (0,0))∧z.heap[w.heap.size+1]?=some (VL 7 s (some ⟨b,o,none⟩) 1 ce bb mb cb bl ml cl line)∧z.heap[w.heap.size+2]?=some (.cells #[.int .i64 D] 3 (0,0))):=⟨e0,e1,e2⟩;have ci:=Yx 7 s es (some ⟨b,o,none⟩) 1 ce bb mb cb bl ml cl line w0.heap.size z (hes.kept J.env fun _ _ h=>Zy.kept h J.env) J.env.size
 rw [hst] at ci;have ab:Hid (zy w0 r q t z):=J;have am:=Z.symm;have Q:=ze e0;obtain ⟨Y,c1,c2,U,V,c5⟩:=zz e1;have b2:=ze e2;have ao:(0:Int)<D:=by omega
 have ag:Hid (∀(q2:Option Nat) (t2:List UInt8) (W:World),zy w0 r q2 t2 W→zr r q w z q2 W→Calls Tryz.prog 174 #[.int .i64 0,.pointer (some ⟨w.heap.size,0,none⟩),.pointer (some ⟨w.heap.size+1,0,none⟩),.pointer (some ⟨w.heap.size+2,0,none⟩)] W (zo w0 r q2 t2 W (prE d x))):=fun q2 t2 W h2 hL2=>vK w0 d D hD hD1 hD2 hX 0 x b o _ _ _ _ _ _ _ hx0 hkid0 _ _ _ r _ ce (by omega) (by omega) q2 t2 W h2 (ze ((hL2.block (w.heap.size) (Nat.le_refl _) (by omega)).trans y.out.1)) (zz ((hL2.block (w.heap.size+1) (by omega) (by omega)).trans y.out.2.1)).2.2.1 (ze ((hL2.block (w.heap.size+2) (by omega) (by omega)).trans y.out.2.2)) (fun k hk=>⟨by have:=hL2.hr;omega,fun e=>by have:=hL2.hq k e;omega⟩)
 generalize prE d x=X0 at *;have HR:Hid (R=zc X0 ((some [59,10]))):=hR;clear hR J e0 e1 e2 Z L h hes hst _hT hX hx0 hkid0
 go_enter Tryz.func142,Tryz.ntmps142
 go_wp2_with fail
 refine ci.mono ?_;clear ci Q b2 Y c1 c2 U V c5;rintro e w2 ⟨rfl,T⟩;have I:Hid (zr r q w z q w2):=ai.out.step (zT.below T);have ah:Hid (zy w0 r q t w2):=ab.out.below T;clear T;have ca:=z6 true w2;have Q:=ze ((I.out.block (w.heap.size) (Nat.le_refl _) (by omega)).trans y.out.1)
 obtain ⟨Y,c1,c2,U,V,c5⟩:=zz ((I.out.block (w.heap.size+1) (by omega) (by omega)).trans y.out.2.1)
 have b2:=ze ((I.out.block (w.heap.size+2) (by omega) (by omega)).trans y.out.2.2)
 go_wp2_with fail
 refine ca.mono ?_;clear ca;rintro e w3 ⟨rfl,rfl⟩;simp only [xd];have N:Hid (zr r q w z q w3):=I.out;have af:Hid (zy w0 r q t w3):=ah.out;clear ai ab I ah;have cp:=ag.out q (t) w3 af.out N.out;go_wp2_with fail
 refine cp.mono ?_;clear cp Q b2 Y c1 c2 U V c5;rintro e w4 ⟨q4,H,ad⟩;cases X0 with
 | none=>subst ad;obtain rfl:R=none:=HR.out;exact ⟨rfl,q4,(N.out.step H).unto,rfl⟩
 | some u0 =>
 obtain ⟨rfl,aa⟩:=ad;have A:Hid (zr r q w z q4 w4):=N.out.step H;have ae:Hid (zy w0 r q4 (t++u0) w4):=aa;clear H aa;have Q:=ze ((A.out.block (w.heap.size) (Nat.le_refl _) (by omega)).trans y.out.1)
 obtain ⟨Y,c1,c2,U,V,c5⟩:=zz ((A.out.block (w.heap.size+1) (by omega) (by omega)).trans y.out.2.1)
 have b2:=ze ((A.out.block (w.heap.size+2) (by omega) (by omega)).trans y.out.2.2)
 have cp:=zx w0 r q4 (t++u0) [59,10] w4 ae.out (by simp)
 go_wp2_with fail
 refine cp.mono ?_;clear cp Q b2 Y c1 c2 U V c5;rintro e w5 ⟨q5,O,rfl,ak⟩;have G:Hid (zr r q w z q5 w5):=A.out.step O;have al:Hid (zy w0 r q5 (t++u0++[59,10]) w5):=ak;clear O ak;have Q:=ze ((G.out.block (w.heap.size) (Nat.le_refl _) (by omega)).trans y.out.1)
 obtain ⟨Y,c1,c2,U,V,c5⟩:=zz ((G.out.block (w.heap.size+1) (by omega) (by omega)).trans y.out.2.1)
 have b2:=ze ((G.out.block (w.heap.size+2) (by omega) (by omega)).trans y.out.2.2)
 obtain rfl:R=some (u0++([59,10])):=HR.out;have HP:Hid (zo w0 r q t w (some (u0++([59,10]))) (.returned (.tuple #[])) w5):=⟨q5,G.out.unto,rfl,by have:=al.out;simpa only [List.append_assoc] using this⟩
 clear N af A ae G al Q b2 Y c1 c2 U V c5 ag HR y;go_wp2
 exact bodyPost_ret (v:=.tuple #[]) (by simp [results,Tryz.results142,go_sem]) rfl HP.out
theorem zgM (w0:World) (d:Nat) (D:Int) (hD:D-1=(d:Int)) (_hD1:1≤D) (hD2:D≤24) (_hT:ZE w0) (_hX:yN w0 d) (s:List UInt8) (be:Option Addr) (ce:Nat) (bb:Option Addr) (mb cb:Nat) (bl:Option Addr) (ml cl:Nat) (line:Int) (es:List Ez) (hes:Zr (QS w0.heap.size w0) 5 w0.heap.size w0 es be 0 ce) (r:Nat) (q:Option Nat) (t:List UInt8) (w:World) (h:zy w0 r q t w) (hst:Ye 6 s es mb ml=true) :
  Calls Tryz.prog 142 #[.pointer (some ⟨r,0,none⟩),QU 6 s be 0 ce bb mb cb bl ml cl line,.int .i64 D] w (zo w0 r q t w (zc (some [114,101,116,117,114,110]) (some [59,10]))):=by
 have aj:∀(fn:Fn) (first cap:Array Value) (w:World),(Instr.makeFunc fn first cap).run Tryz.prog w=.ok (.func fn first cap) w:=fun _ _ _ _=>rfl
 obtain ⟨R,hR⟩:∃R,R=zc (some [114,101,116,117,114,110]) (some [59,10]):=⟨_,rfl⟩;rw [←hR];obtain ⟨z,O⟩:∃z,z=stW w r 6 s be 0 ce bb mb cb bl ml cl line D:=⟨_,rfl⟩;obtain ⟨H,ae,e0,e1,e2⟩:=YR w r 6 s be 0 ce bb mb cb bl ml cl line D;rw [←O] at H ae e0 e1 e2;have G:=h.below H;have ad:Hid (zr r q w z q z):=zr.start h H;have y:Hid (z.heap[w.heap.size]?=some (.cells #[.pointer (some ⟨r,0,none⟩)] 85 (0,0))∧z.heap[w.heap.size+1]?=some (VL 6 s be 0 ce bb mb cb bl ml cl line)∧z.heap[w.heap.size+2]?=some (.cells #[.int .i64 D] 3 (0,0))):=⟨e0,e1,e2⟩;have ci:=Yx 6 s es be 0 ce bb mb cb bl ml cl line w0.heap.size z (hes.kept G.env fun _ _ h=>Zy.kept h G.env) G.env.size
 rw [hst] at ci;have U:Hid (zy w0 r q t z):=G;have ai:=O.symm;have L:=ze e0;obtain ⟨c0,c1,c2,W,Y,c5⟩:=zz e1;have b2:=ze e2;have ak:(0:Int)<D:=by omega
 have HR:Hid (R=zc (some [114,101,116,117,114,110]) (some [59,10])):=hR;clear hR G e0 e1 e2 O H h hes hst _hT _hX
 go_enter Tryz.func142,Tryz.ntmps142
 go_wp2_with fail
 refine ci.mono ?_;clear ci L b2 c0 c1 c2 W Y c5;rintro e w2 ⟨rfl,N⟩;have A:Hid (zr r q w z q w2):=ad.out.step (zT.below N);have ab:Hid (zy w0 r q t w2):=U.out.below N;clear N;have ca:=z6 true w2;have L:=ze ((A.out.block (w.heap.size) (Nat.le_refl _) (by omega)).trans y.out.1)
 obtain ⟨c0,c1,c2,W,Y,c5⟩:=zz ((A.out.block (w.heap.size+1) (by omega) (by omega)).trans y.out.2.1)
 have b2:=ze ((A.out.block (w.heap.size+2) (by omega) (by omega)).trans y.out.2.2)
 go_wp2_with fail
 refine ca.mono ?_;clear ca;rintro e w3 ⟨rfl,rfl⟩;simp only [xd];have af:Hid (zr r q w z q w3):=A.out;have aa:Hid (zy w0 r q t w3):=ab.out;clear ad U A ab;have Z:=zx w0 r q (t) [114,101,116,117,114,110] w3 aa.out (by simp)
 go_wp2_with fail
 refine Z.mono ?_;clear Z L b2 c0 c1 c2 W Y c5;rintro e w4 ⟨Q,I,rfl,T⟩;have o:Hid (zr r q w z Q w4):=af.out.step I;have V:Hid (zy w0 r Q (t++[114,101,116,117,114,110]) w4):=T;clear I T;have L:=ze ((o.out.block (w.heap.size) (Nat.le_refl _) (by omega)).trans y.out.1)
 obtain ⟨c0,c1,c2,W,Y,c5⟩:=zz ((o.out.block (w.heap.size+1) (by omega) (by omega)).trans y.out.2.1)
 have b2:=ze ((o.out.block (w.heap.size+2) (by omega) (by omega)).trans y.out.2.2)
 go_wp2_with fail
 go_loopw [54] (fun i wr=>i=.int .i64 0∧zr r q w z Q wr∧zy w0 r Q (t++[114,101,116,117,114,110]) wr) (fun _ _=>0)
 case atStart=>exact ⟨rfl,o.out,V.out⟩
 case round =>
  obtain ⟨rfl,hL,ag⟩:=hrel;clear L b2 c0 c1 c2 W Y c5 af aa o V;have o:Hid (zr r q w z Q wr):=hL;have L:=ze ((hL.block (w.heap.size) (Nat.le_refl _) (by omega)).trans y.out.1)
  have Z:=zx w0 r Q (t++[114,101,116,117,114,110]) [59,10] wr ag (by simp)
  clear hL ag;go_wp2_with fail
  refine Z.mono ?_;clear Z L;rintro e w5 ⟨q5,J,rfl,ah⟩;obtain rfl:R=some ([114,101,116,117,114,110]++[59,10]):=HR.out;have HP:Hid (zo w0 r q t w (some ([114,101,116,117,114,110]++[59,10])) (.returned (.tuple #[])) w5):=⟨q5,(o.out.step J).unto,rfl,by simpa only [List.append_assoc] using ah⟩
  clear J ah o HR y;go_wp2
  exact bodyPost_ret (v:=.tuple #[]) (by simp [results,Tryz.results142,go_sem]) rfl HP.out
theorem zgN (w0:World) (d:Nat) (D:Int) (hD:D-1=(d:Int)) (_hD1:1≤D) (hD2:D≤24) (_hT:ZE w0) (hX:yN w0 d) (s:List UInt8) (ce:Nat) (bb:Option Addr) (mb cb:Nat) (bl:Option Addr) (ml cl:Nat) (line:Int) (b o:Nat) (x:Ez) (g01:Int) (g02:List UInt8) (g03:Int) (g04:Option Addr) (g05 g06:Nat) (g07:Int) (hx0:Zy w0.heap.size w0 x (yz g01 g02 g03 g04 g05 g06 g07)) (hkid0:ZZ w0 b (o+0*5) g01 g02 g03 g04 g05 g06 g07) (es:List Ez) (hes:Zr (QS w0.heap.size w0) 5 w0.heap.size w0 es (some ⟨b,o,none⟩) 1 ce) (r:Nat) (q:Option Nat) (t:List UInt8) (w:World) (h:zy w0 r q t w) (hst:Ye 6 s es mb ml=true) :
  Calls Tryz.prog 142 #[.pointer (some ⟨r,0,none⟩),QU 6 s (some ⟨b,o,none⟩) 1 ce bb mb cb bl ml cl line,.int .i64 D] w (zo w0 r q t w (zc (some [114,101,116,117,114,110]) (zc (some [32]) (zc (prE d x) (some [59,10]))))):=by
 have aI:∀(fn:Fn) (first cap:Array Value) (w:World),(Instr.makeFunc fn first cap).run Tryz.prog w=.ok (.func fn first cap) w:=fun _ _ _ _=>rfl
 obtain ⟨R,hR⟩:∃R,R=zc (some [114,101,116,117,114,110]) (zc (some [32]) (zc (prE d x) (some [59,10]))):=⟨_,rfl⟩;rw [←hR];obtain ⟨A,ae⟩:∃A,A=stW w r 6 s (some ⟨b,o,none⟩) 1 ce bb mb cb bl ml cl line D:=⟨_,rfl⟩;obtain ⟨Y,aw,e0,e1,e2⟩:=YR w r 6 s (some ⟨b,o,none⟩) 1 ce bb mb cb bl ml cl line D;rw [←ae] at Y aw e0 e1 e2;have L:=h.below Y;have av:Hid (zr r q w A q A):=zr.start h Y;have y:Hid (A.heap[w.heap.size]?=some (.cells #[.pointer (some ⟨r,0,none⟩)] 85 (0,0))∧A.heap[w.heap.size+1]?=some (VL 6 s (some ⟨b,o,none⟩) 1 ce bb mb cb bl ml cl line)∧A.heap[w.heap.size+2]?=some (.cells #[.int .i64 D] 3 (0,0))):=⟨e0,e1,e2⟩;have ci:=Yx 6 s es (some ⟨b,o,none⟩) 1 ce bb mb cb bl ml cl line w0.heap.size A (hes.kept L.env fun _ _ h=>Zy.kept h L.env) L.env.size
 rw [hst] at ci;have an:Hid (zy w0 r q t A):=L;have aG:=ae.symm;have N:=ze e0;obtain ⟨c0,c1,c2,c3,c4,c5⟩:=zz e1;have W:=ze e2;have aH:(0:Int)<D:=by omega
 have ag:Hid (∀(q:Option Nat) (t:List UInt8) (w:World),zy w0 r q t w→Calls Tryz.prog 42 #[.pointer (some ⟨r,0,none⟩),yz g01 g02 g03 g04 g05 g06 g07,.int .i64 (d:Int)] w (zo w0 r q t w (prE d x))):=fun q t w h=>hX _ _ r q t w hx0 h
 have al:Hid (ZZ w0 b (o+0*5) g01 g02 g03 g04 g05 g06 g07):=hkid0;generalize prE d x=X0 at *;have HR:Hid (R=zc (some [114,101,116,117,114,110]) (zc (some [32]) (zc X0 (some [59,10])))):=hR;clear hR L e0 e1 e2 ae Y h hes hst _hT hX hx0 hkid0
 go_enter Tryz.func142,Tryz.ntmps142
 go_wp2_with fail
 refine ci.mono ?_;clear ci N W c0 c1 c2 c3 c4 c5;rintro e w2 ⟨rfl,ad⟩;have J:Hid (zr r q w A q w2):=av.out.step (zT.below ad);have ar:Hid (zy w0 r q t w2):=an.out.below ad;clear ad;have ca:=z6 true w2;have N:=ze ((J.out.block (w.heap.size) (Nat.le_refl _) (by omega)).trans y.out.1)
 obtain ⟨c0,c1,c2,c3,c4,c5⟩:=zz ((J.out.block (w.heap.size+1) (by omega) (by omega)).trans y.out.2.1)
 have W:=ze ((J.out.block (w.heap.size+2) (by omega) (by omega)).trans y.out.2.2)
 go_wp2_with fail
 refine ca.mono ?_;clear ca;rintro e w3 ⟨rfl,rfl⟩;simp only [xd];have ai:Hid (zr r q w A q w3):=J.out;have aq:Hid (zy w0 r q t w3):=ar.out;clear av an J ar;have O:=zx w0 r q (t) [114,101,116,117,114,110] w3 aq.out (by simp)
 go_wp2_with fail
 refine O.mono ?_;clear O N W c0 c1 c2 c3 c4 c5;rintro e w4 ⟨q4,ab,rfl,am⟩;have G:Hid (zr r q w A q4 w4):=ai.out.step ab;have ao:Hid (zy w0 r q4 (t++[114,101,116,117,114,110]) w4):=am;clear ab am;have N:=ze ((G.out.block (w.heap.size) (Nat.le_refl _) (by omega)).trans y.out.1)
 obtain ⟨c0,c1,c2,c3,c4,c5⟩:=zz ((G.out.block (w.heap.size+1) (by omega) (by omega)).trans y.out.2.1)
 have W:=ze ((G.out.block (w.heap.size+2) (by omega) (by omega)).trans y.out.2.2)
 go_wp2_with fail
 go_loopw [54] (fun i wr=>∃(k:Nat) (q1:Option Nat) (s1:List UInt8),k≤1∧i=.int .i64 k∧zr r q w A q1 wr∧(if k=0 then some [] else zc (some [32]) X0)=some s1∧zy w0 r q1 (t++[114,101,116,117,114,110]++s1) wr) (fun i _=>1-(intOf i).toNat)
 case atStart=>exact ⟨0,q4,[],Nat.zero_le _,rfl,G.out,rfl,by rw [List.append_nil];exact ao.out⟩
 case round =>
  obtain ⟨k,q1,s1,hk,rfl,hL,Z,H⟩:=hrel;clear N W c0 c1 c2 c3 c4 c5 ai aq G ao
  by_cases hlt:k<1
  ·obtain rfl:k=0:=by omega
   obtain rfl:s1=[]:=by simpa using Z.symm
   clear Z;rw [List.append_nil] at H;obtain ⟨n0,n1,n2,n3,n4⟩:=al.out.now H.env;rw [Nat.zero_mul,Nat.add_zero] at n0 n1 n2 n3 n4;obtain ⟨w5,z⟩:∃w5,w5=wr.alloc (YD g01 g02 g03 g04 g05 g06 g07):=⟨_,rfl⟩;have p5:w5.heap[wr.heap.size]?=some (YD g01 g02 g03 g04 g05 g06 g07):=by rw [z];exact World.alloc_heap_new wr _
   have aE:w5.heap.size=wr.heap.size+1:=by rw [z];simp
   have af:Below wr.heap.size wr w5:=by rw [z];exact (Below.refl _ wr).alloc (Nat.le_refl _) _
   have V:Hid (zr r q w A q1 w5):=hL.step (zT.below af);have ay:Hid (zy w0 r q1 (t++[114,101,116,117,114,110]) w5):=H.below af;have ah:Hid (w5.heap[wr.heap.size]?=some (YD g01 g02 g03 g04 g05 g06 g07)):=p5;have aF:=H.lt.1;have ax:=H.lt.2;have N:=ze ((V.out.block (w.heap.size) (Nat.le_refl _) (by omega)).trans y.out.1)
   have W:=ze ((V.out.block (w.heap.size+2) (by omega) (by omega)).trans y.out.2.2)
   have aB:=ze ((hL.block (w.heap.size) (Nat.le_refl _) (by omega)).trans y.out.1)
   have aA:=ze ((hL.block (w.heap.size+2) (by omega) (by omega)).trans y.out.2.2)
   obtain ⟨d0,d1,d2,d3,d4⟩:=zI p5;have O:=zx w0 r q1 (t++[114,101,116,117,114,110]) [32] w5 ay.out (by simp)
   have aD:=z.symm;clear hL H af z p5;go_wp2_with fail
   refine O.mono ?_;clear O N W aB aA d0 d1 d2 d3 d4 n0 n1 n2 n3 n4;rintro e w6 ⟨q6,T,rfl,au⟩;have Q:w6.heap[wr.heap.size]?=w5.heap[wr.heap.size]?:=T.block _ (by omega) (by omega) (fun e=>by have:=ax _ e;omega)
   obtain ⟨d0,d1,d2,d3,d4⟩:=zI (Q.trans ah.out);have I:Hid (zr r q w A q6 w6):=V.out.step T;have N:=ze ((I.out.block (w.heap.size) (Nat.le_refl _) (by omega)).trans y.out.1)
   have W:=ze ((I.out.block (w.heap.size+2) (by omega) (by omega)).trans y.out.2.2)
   have O:=ag.out q6 (t++[114,101,116,117,114,110]++[32]) w6 au;clear T au Q;go_wp2_with fail
   refine O.mono ?_;clear O N W d0 d1 d2 d3 d4;rintro e w7 ⟨q7,U,ap⟩;cases X0 with
   | none=>subst ap;obtain rfl:R=none:=HR.out;exact ⟨rfl,q7,(I.out.step U).unto,rfl⟩
   | some u0 =>
   obtain ⟨rfl,ak⟩:=ap;have az:Hid (∃(k':Nat) (q':Option Nat) (s':List UInt8),k'=1∧zr r q w A q' w7∧(if k'=0 then some [] else zc (some [32]) (some u0))=some s'∧zy w0 r q' (t++[114,101,116,117,114,110]++s') w7):=⟨1,q7,[32]++u0,rfl,I.out.step U,rfl,by rw [←List.append_assoc];exact ak⟩
   clear U ak V I ay ah ag;go_wp2
   obtain ⟨k',q',s',rfl,h1,h2,h3⟩:=az.out;exact ⟨⟨1,q',s',by omega,by go_num,h1,h2,h3⟩,by simp [intOf]⟩
  ·obtain rfl:k=1:=by omega
   have G:Hid (zr r q w A q1 wr):=hL;have N:=ze ((hL.block (w.heap.size) (Nat.le_refl _) (by omega)).trans y.out.1)
   have O:=zx w0 r q1 (t++[114,101,116,117,114,110]++s1) [59,10] wr H (by simp)
   have aj:Hid (zc (some [32]) X0=some s1):=show _=_ by simpa using Z
   clear hL H Z;go_wp2_with fail
   refine O.mono ?_;clear O N;rintro e w5 ⟨q5,aa,rfl,z⟩
   have aC:R=some ([114,101,116,117,114,110]++(s1++[59,10])):=by
    rw [HR.out,←uG (some [32]),aj.out];rfl
   subst aC;have HP:Hid (zo w0 r q t w (some ([114,101,116,117,114,110]++(s1++[59,10]))) (.returned (.tuple #[])) w5):=⟨q5,(G.out.step aa).unto,rfl,by simpa only [List.append_assoc] using z⟩
   clear aa z G HR y aj ag al;go_wp2
   exact bodyPost_ret (v:=.tuple #[]) (by simp [results,Tryz.results142,go_sem]) rfl HP.out
theorem zib (w0:World) (d:Nat) (D:Int) (hD:D-1=(d:Int)) (_hD1:1≤D) (hD2:D≤24) (_hT:ZE w0) (_hX:yN w0 d) (s:List UInt8) (be:Option Addr) (me ce:Nat) (bb:Option Addr) (mb cb:Nat) (bl:Option Addr) (ml cl:Nat) (line:Int) (es:List Ez) (hes:Zr (QS w0.heap.size w0) 5 w0.heap.size w0 es be me ce) (r:Nat) (q:Option Nat) (t:List UInt8) (w:World) (h:zy w0 r q t w) (hst:Ye 3 s es mb ml=true) (X:Option (List UInt8)) (hS:Hid (∀(q:Option Nat) (t:List UInt8) (w:World),zy w0 r q t w→Calls Tryz.prog 175 #[.pointer (some ⟨r,0,none⟩),QU 3 s be me ce bb mb cb bl ml cl line,.int .i64 D] w (zo w0 r q t w X))) :
  Calls Tryz.prog 142 #[.pointer (some ⟨r,0,none⟩),QU 3 s be me ce bb mb cb bl ml cl line,.int .i64 D] w (zo w0 r q t w (X)):=by
 have ah:∀(fn:Fn) (first cap:Array Value) (w:World),(Instr.makeFunc fn first cap).run Tryz.prog w=.ok (.func fn first cap) w:=fun _ _ _ _=>rfl
 obtain ⟨R,hR⟩:∃R,R=X:=⟨_,rfl⟩;rw [←hR];obtain ⟨y,L⟩:∃y,y=stW w r 3 s be me ce bb mb cb bl ml cl line D:=⟨_,rfl⟩;obtain ⟨I,af,e0,e1,e2⟩:=YR w r 3 s be me ce bb mb cb bl ml cl line D;rw [←L] at I af e0 e1 e2;have H:=h.below I;have ae:Hid (zr r q w y q y):=zr.start h I;have o:Hid (y.heap[w.heap.size]?=some (.cells #[.pointer (some ⟨r,0,none⟩)] 85 (0,0))∧y.heap[w.heap.size+1]?=some (VL 3 s be me ce bb mb cb bl ml cl line)∧y.heap[w.heap.size+2]?=some (.cells #[.int .i64 D] 3 (0,0))):=⟨e0,e1,e2⟩;have ci:=Yx 3 s es be me ce bb mb cb bl ml cl line w0.heap.size y (hes.kept H.env fun _ _ h=>Zy.kept h H.env) H.env.size
 rw [hst] at ci;have T:Hid (zy w0 r q t y):=H;have ag:=L.symm;have Q:=ze e0;obtain ⟨Z,c1,c2,W,Y,c5⟩:=zz e1;have b2:=ze e2;have ai:(0:Int)<D:=by omega
 have ab:=hS;clear hS;generalize X=X0 at *;have HR:Hid (R=X0):=hR;clear hR H e0 e1 e2 L I h hes hst _hT _hX
 go_enter Tryz.func142,Tryz.ntmps142
 go_wp2_with fail
 refine ci.mono ?_;clear ci Q b2 Z c1 c2 W Y c5;rintro e w2 ⟨rfl,J⟩;have G:Hid (zr r q w y q w2):=ae.out.step (zT.below J);have ad:Hid (zy w0 r q t w2):=T.out.below J;clear J;have ca:=z6 true w2;have Q:=ze ((G.out.block (w.heap.size) (Nat.le_refl _) (by omega)).trans o.out.1)
 obtain ⟨Z,c1,c2,W,Y,c5⟩:=zz ((G.out.block (w.heap.size+1) (by omega) (by omega)).trans o.out.2.1)
 have b2:=ze ((G.out.block (w.heap.size+2) (by omega) (by omega)).trans o.out.2.2)
 go_wp2_with fail
 refine ca.mono ?_;clear ca;rintro e w3 ⟨rfl,rfl⟩;simp only [xd];have N:Hid (zr r q w y q w3):=G.out;have aa:Hid (zy w0 r q t w3):=ad.out;clear ae T G ad;have cp:=ab.out q (t) w3 aa.out;go_wp2_with fail
 refine cp.mono ?_;clear cp Q b2 Z c1 c2 W Y c5;rintro e w4 ⟨q4,A,U⟩;cases X0 with
 | none=>subst U;obtain rfl:R=none:=HR.out;exact ⟨rfl,q4,(N.out.step A).unto,rfl⟩
 | some u0 =>
 obtain ⟨rfl,O⟩:=U;have z:Hid (zr r q w y q4 w4):=N.out.step A;have V:Hid (zy w0 r q4 (t++u0) w4):=O;clear A O;have Q:=ze ((z.out.block (w.heap.size) (Nat.le_refl _) (by omega)).trans o.out.1)
 obtain ⟨Z,c1,c2,W,Y,c5⟩:=zz ((z.out.block (w.heap.size+1) (by omega) (by omega)).trans o.out.2.1)
 have b2:=ze ((z.out.block (w.heap.size+2) (by omega) (by omega)).trans o.out.2.2)
 obtain rfl:R=some (u0):=HR.out;have HP:Hid (zo w0 r q t w (some (u0)) (.returned (.tuple #[])) w4):=⟨q4,z.out.unto,rfl,by have:=V.out;simpa only [List.append_assoc] using this⟩
 clear N aa z V Q b2 Z c1 c2 W Y c5 ab HR o;go_wp2
 exact bodyPost_ret (v:=.tuple #[]) (by simp [results,Tryz.results142,go_sem]) rfl HP.out
theorem zic (w0:World) (d:Nat) (D:Int) (hD:D-1=(d:Int)) (_hD1:1≤D) (hD2:D≤24) (_hT:ZE w0) (_hX:yN w0 d) (s:List UInt8) (be:Option Addr) (me ce:Nat) (bb:Option Addr) (mb cb:Nat) (bl:Option Addr) (ml cl:Nat) (line:Int) (es:List Ez) (hes:Zr (QS w0.heap.size w0) 5 w0.heap.size w0 es be me ce) (r:Nat) (q:Option Nat) (t:List UInt8) (w:World) (h:zy w0 r q t w) (hst:Ye 4 s es mb ml=true) (X:Option (List UInt8)) (hS:Hid (∀(q:Option Nat) (t:List UInt8) (w:World),zy w0 r q t w→Calls Tryz.prog 175 #[.pointer (some ⟨r,0,none⟩),QU 4 s be me ce bb mb cb bl ml cl line,.int .i64 D] w (zo w0 r q t w X))) :
  Calls Tryz.prog 142 #[.pointer (some ⟨r,0,none⟩),QU 4 s be me ce bb mb cb bl ml cl line,.int .i64 D] w (zo w0 r q t w (X)):=by
 have ah:∀(fn:Fn) (first cap:Array Value) (w:World),(Instr.makeFunc fn first cap).run Tryz.prog w=.ok (.func fn first cap) w:=fun _ _ _ _=>rfl
 obtain ⟨R,hR⟩:∃R,R=X:=⟨_,rfl⟩;rw [←hR];obtain ⟨y,L⟩:∃y,y=stW w r 4 s be me ce bb mb cb bl ml cl line D:=⟨_,rfl⟩;obtain ⟨I,af,e0,e1,e2⟩:=YR w r 4 s be me ce bb mb cb bl ml cl line D;rw [←L] at I af e0 e1 e2;have H:=h.below I;have ae:Hid (zr r q w y q y):=zr.start h I;have o:Hid (y.heap[w.heap.size]?=some (.cells #[.pointer (some ⟨r,0,none⟩)] 85 (0,0))∧y.heap[w.heap.size+1]?=some (VL 4 s be me ce bb mb cb bl ml cl line)∧y.heap[w.heap.size+2]?=some (.cells #[.int .i64 D] 3 (0,0))):=⟨e0,e1,e2⟩;have ci:=Yx 4 s es be me ce bb mb cb bl ml cl line w0.heap.size y (hes.kept H.env fun _ _ h=>Zy.kept h H.env) H.env.size
 rw [hst] at ci;have T:Hid (zy w0 r q t y):=H;have ag:=L.symm;have Q:=ze e0;obtain ⟨Z,c1,c2,W,Y,c5⟩:=zz e1;have b2:=ze e2;have ai:(0:Int)<D:=by omega
 have ab:=hS;clear hS;generalize X=X0 at *;have HR:Hid (R=X0):=hR;clear hR H e0 e1 e2 L I h hes hst _hT _hX
 go_enter Tryz.func142,Tryz.ntmps142
 go_wp2_with fail
 refine ci.mono ?_;clear ci Q b2 Z c1 c2 W Y c5;rintro e w2 ⟨rfl,J⟩;have G:Hid (zr r q w y q w2):=ae.out.step (zT.below J);have ad:Hid (zy w0 r q t w2):=T.out.below J;clear J;have ca:=z6 true w2;have Q:=ze ((G.out.block (w.heap.size) (Nat.le_refl _) (by omega)).trans o.out.1)
 obtain ⟨Z,c1,c2,W,Y,c5⟩:=zz ((G.out.block (w.heap.size+1) (by omega) (by omega)).trans o.out.2.1)
 have b2:=ze ((G.out.block (w.heap.size+2) (by omega) (by omega)).trans o.out.2.2)
 go_wp2_with fail
 refine ca.mono ?_;clear ca;rintro e w3 ⟨rfl,rfl⟩;simp only [xd];have N:Hid (zr r q w y q w3):=G.out;have aa:Hid (zy w0 r q t w3):=ad.out;clear ae T G ad;have cp:=ab.out q (t) w3 aa.out;go_wp2_with fail
 refine cp.mono ?_;clear cp Q b2 Z c1 c2 W Y c5;rintro e w4 ⟨q4,A,U⟩;cases X0 with
 | none=>subst U;obtain rfl:R=none:=HR.out;exact ⟨rfl,q4,(N.out.step A).unto,rfl⟩
 | some u0 =>
 obtain ⟨rfl,O⟩:=U;have z:Hid (zr r q w y q4 w4):=N.out.step A;have V:Hid (zy w0 r q4 (t++u0) w4):=O;clear A O;have Q:=ze ((z.out.block (w.heap.size) (Nat.le_refl _) (by omega)).trans o.out.1)
 obtain ⟨Z,c1,c2,W,Y,c5⟩:=zz ((z.out.block (w.heap.size+1) (by omega) (by omega)).trans o.out.2.1)
 have b2:=ze ((z.out.block (w.heap.size+2) (by omega) (by omega)).trans o.out.2.2)
 obtain rfl:R=some (u0):=HR.out;have HP:Hid (zo w0 r q t w (some (u0)) (.returned (.tuple #[])) w4):=⟨q4,z.out.unto,rfl,by have:=V.out;simpa only [List.append_assoc] using this⟩
 clear N aa z V Q b2 Z c1 c2 W Y c5 ab HR o;go_wp2
 exact bodyPost_ret (v:=.tuple #[]) (by simp [results,Tryz.results142,go_sem]) rfl HP.out
theorem zid (w0:World) (d:Nat) (D:Int) (hD:D-1=(d:Int)) (_hD1:1≤D) (hD2:D≤24) (_hT:ZE w0) (_hX:yN w0 d) (s:List UInt8) (be:Option Addr) (me ce:Nat) (bb:Option Addr) (mb cb:Nat) (bl:Option Addr) (ml cl:Nat) (line:Int) (es:List Ez) (hes:Zr (QS w0.heap.size w0) 5 w0.heap.size w0 es be me ce) (r:Nat) (q:Option Nat) (t:List UInt8) (w:World) (h:zy w0 r q t w) (hst:Ye 5 s es mb ml=true) (X:Option (List UInt8)) (hS:Hid (∀(q:Option Nat) (t:List UInt8) (w:World),zy w0 r q t w→Calls Tryz.prog 175 #[.pointer (some ⟨r,0,none⟩),QU 5 s be me ce bb mb cb bl ml cl line,.int .i64 D] w (zo w0 r q t w X))) :
  Calls Tryz.prog 142 #[.pointer (some ⟨r,0,none⟩),QU 5 s be me ce bb mb cb bl ml cl line,.int .i64 D] w (zo w0 r q t w (X)):=by
 have ah:∀(fn:Fn) (first cap:Array Value) (w:World),(Instr.makeFunc fn first cap).run Tryz.prog w=.ok (.func fn first cap) w:=fun _ _ _ _=>rfl
 obtain ⟨R,hR⟩:∃R,R=X:=⟨_,rfl⟩;rw [←hR];obtain ⟨y,L⟩:∃y,y=stW w r 5 s be me ce bb mb cb bl ml cl line D:=⟨_,rfl⟩;obtain ⟨I,af,e0,e1,e2⟩:=YR w r 5 s be me ce bb mb cb bl ml cl line D;rw [←L] at I af e0 e1 e2;have H:=h.below I;have ae:Hid (zr r q w y q y):=zr.start h I;have o:Hid (y.heap[w.heap.size]?=some (.cells #[.pointer (some ⟨r,0,none⟩)] 85 (0,0))∧y.heap[w.heap.size+1]?=some (VL 5 s be me ce bb mb cb bl ml cl line)∧y.heap[w.heap.size+2]?=some (.cells #[.int .i64 D] 3 (0,0))):=⟨e0,e1,e2⟩;have ci:=Yx 5 s es be me ce bb mb cb bl ml cl line w0.heap.size y (hes.kept H.env fun _ _ h=>Zy.kept h H.env) H.env.size
 rw [hst] at ci;have T:Hid (zy w0 r q t y):=H;have ag:=L.symm;have Q:=ze e0;obtain ⟨Z,c1,c2,W,Y,c5⟩:=zz e1;have b2:=ze e2;have ai:(0:Int)<D:=by omega
 have ab:=hS;clear hS;generalize X=X0 at *;have HR:Hid (R=X0):=hR;clear hR H e0 e1 e2 L I h hes hst _hT _hX
 go_enter Tryz.func142,Tryz.ntmps142
 go_wp2_with fail
 refine ci.mono ?_;clear ci Q b2 Z c1 c2 W Y c5;rintro e w2 ⟨rfl,J⟩;have G:Hid (zr r q w y q w2):=ae.out.step (zT.below J);have ad:Hid (zy w0 r q t w2):=T.out.below J;clear J;have ca:=z6 true w2;have Q:=ze ((G.out.block (w.heap.size) (Nat.le_refl _) (by omega)).trans o.out.1)
 obtain ⟨Z,c1,c2,W,Y,c5⟩:=zz ((G.out.block (w.heap.size+1) (by omega) (by omega)).trans o.out.2.1)
 have b2:=ze ((G.out.block (w.heap.size+2) (by omega) (by omega)).trans o.out.2.2)
 go_wp2_with fail
 refine ca.mono ?_;clear ca;rintro e w3 ⟨rfl,rfl⟩;simp only [xd];have N:Hid (zr r q w y q w3):=G.out;have aa:Hid (zy w0 r q t w3):=ad.out;clear ae T G ad;have cp:=ab.out q (t) w3 aa.out;go_wp2_with fail
 refine cp.mono ?_;clear cp Q b2 Z c1 c2 W Y c5;rintro e w4 ⟨q4,A,U⟩;cases X0 with
 | none=>subst U;obtain rfl:R=none:=HR.out;exact ⟨rfl,q4,(N.out.step A).unto,rfl⟩
 | some u0 =>
 obtain ⟨rfl,O⟩:=U;have z:Hid (zr r q w y q4 w4):=N.out.step A;have V:Hid (zy w0 r q4 (t++u0) w4):=O;clear A O;have Q:=ze ((z.out.block (w.heap.size) (Nat.le_refl _) (by omega)).trans o.out.1)
 obtain ⟨Z,c1,c2,W,Y,c5⟩:=zz ((z.out.block (w.heap.size+1) (by omega) (by omega)).trans o.out.2.1)
 have b2:=ze ((z.out.block (w.heap.size+2) (by omega) (by omega)).trans o.out.2.2)
 obtain rfl:R=some (u0):=HR.out;have HP:Hid (zo w0 r q t w (some (u0)) (.returned (.tuple #[])) w4):=⟨q4,z.out.unto,rfl,by have:=V.out;simpa only [List.append_assoc] using this⟩
 clear N aa z V Q b2 Z c1 c2 W Y c5 ab HR o;go_wp2
 exact bodyPost_ret (v:=.tuple #[]) (by simp [results,Tryz.results142,go_sem]) rfl HP.out
theorem zie (w0:World) (d:Nat) (D:Int) (hD:D-1=(d:Int)) (_hD1:1≤D) (hD2:D≤24) (_hT:ZE w0) (_hX:yN w0 d) (s:List UInt8) (be:Option Addr) (me ce:Nat) (bb:Option Addr) (mb cb:Nat) (bl:Option Addr) (ml cl:Nat) (line:Int) (es:List Ez) (hes:Zr (QS w0.heap.size w0) 5 w0.heap.size w0 es be me ce) (r:Nat) (q:Option Nat) (t:List UInt8) (w:World) (h:zy w0 r q t w) (k:Int) (hst:Ye k s es mb ml=false) :
  Calls Tryz.prog 142 #[.pointer (some ⟨r,0,none⟩),QU k s be me ce bb mb cb bl ml cl line,.int .i64 D] w (zo w0 r q t w ((none:Option (List UInt8)))):=by
 have ad:∀(fn:Fn) (first cap:Array Value) (w:World),(Instr.makeFunc fn first cap).run Tryz.prog w=.ok (.func fn first cap) w:=fun _ _ _ _=>rfl
 obtain ⟨R,U⟩:∃R,R=(none:Option (List UInt8)):=⟨_,rfl⟩;rw [←U];obtain ⟨y,H⟩:∃y,y=stW w r k s be me ce bb mb cb bl ml cl line D:=⟨_,rfl⟩;obtain ⟨z,J,L,N,O⟩:=YR w r k s be me ce bb mb cb bl ml cl line D;rw [←H] at z J L N O;have o:=h.below z;have V:Hid (zr r q w y q y):=zr.start h z;have I:Hid (y.heap[w.heap.size]?=some (.cells #[.pointer (some ⟨r,0,none⟩)] 85 (0,0))∧y.heap[w.heap.size+1]?=some (VL k s be me ce bb mb cb bl ml cl line)∧y.heap[w.heap.size+2]?=some (.cells #[.int .i64 D] 3 (0,0))):=⟨L,N,O⟩;have W:=Yx k s es be me ce bb mb cb bl ml cl line w0.heap.size y (hes.kept o.env fun _ _ h=>Zy.kept h o.env) o.env.size
 rw [hst] at W;have Q:Hid (zy w0 r q t y):=o;have aa:=H.symm;have Y:=ze L;obtain ⟨c0,c1,c2,Z,c4,c5⟩:=zz N;have b2:=ze O;have ae:(0:Int)<D:=by omega
 have HR:Hid (R=none):=U;clear U o L N O H z h hes hst _hT _hX
 go_enter Tryz.func142,Tryz.ntmps142
 go_wp2_with fail
 refine W.mono ?_;clear W Y b2 c0 c1 c2 Z c4 c5;rintro e T ⟨rfl,G⟩;have A:Hid (zr r q w y q T):=V.out.step (zT.below G);have ab:Hid (zy w0 r q t T):=Q.out.below G;clear G;have ca:=z6 false T;have Y:=ze ((A.out.block (w.heap.size) (Nat.le_refl _) (by omega)).trans I.out.1)
 obtain ⟨c0,c1,c2,Z,c4,c5⟩:=zz ((A.out.block (w.heap.size+1) (by omega) (by omega)).trans I.out.2.1)
 have b2:=ze ((A.out.block (w.heap.size+2) (by omega) (by omega)).trans I.out.2.2)
 go_wp2_with fail
 refine ca.mono ?_;clear ca;rintro e w3 ⟨rfl,rfl⟩;obtain rfl:=HR.out;exact ⟨rfl,q,A.out.unto,rfl⟩
theorem zfi (w0:World) (k:Int) (s:List UInt8) (be:Option Addr) (me ce:Nat) (bb:Option Addr) (mb cb:Nat) (bl:Option Addr) (ml cl:Nat) (line:Int) (r:Nat) (q:Option Nat) (t:List UInt8) (w:World) (h:zy w0 r q t w) :
  Calls Tryz.prog 142 #[.pointer (some ⟨r,0,none⟩),QU k s be me ce bb mb cb bl ml cl line,.int .i64 0] w (zo w0 r q t w none):=by
 obtain ⟨A,o⟩:∃A,A=stW w r k s be me ce bb mb cb bl ml cl line 0:=⟨_,rfl⟩;obtain ⟨y,z,L,H,G⟩:=YR w r k s be me ce bb mb cb bl ml cl line 0;rw [←o] at y z L H G;have D:Hid (zr r q w A q A):=zr.start h y;have I:=o.symm;have O:=ze G;have J:=z6 false A;clear y L H G o h
 go_enter Tryz.func142,Tryz.ntmps142
 go_wp2_with fail
 refine J.mono ?_;clear J;rintro e N ⟨rfl,rfl⟩;exact ⟨rfl,q,D.out.unto,rfl⟩
end Go.Proofs.YtpejpbbdgblbeaaGreatDoor
