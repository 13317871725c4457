import Derived.Test.YtpejpbbdgblbeaaGreatDoorMC24
namespace Go.Proofs.YtpejpbbdgblbeaaGreatDoor
open Go.RowKit Go.Shelf
set_option maxHeartbeats 16000000
set_option maxRecDepth 100000
def zdV (w0:World) (d:Nat):Prop:=∀(fz:Nat) (l:List Sz) (base:Option Addr) (m cap r:Nat) (q:Option Nat) (t:List UInt8) (w:World),Zr (ZW w0.heap.size w0 fz) 6 w0.heap.size w0 l base m cap→zy w0 r q t w →
  Calls Tryz.prog 112 #[.pointer (some ⟨r,0,none⟩),.slice base m cap,.int .i64 (d:Int)] w (zo w0 r q t w (blkO (prS d) l))
def zh7 (w0:World) (d:Nat):Prop:=∀(fz:Nat) (x:Sz) (c:List Value) (r:Nat) (q:Option Nat) (t:List UInt8) (w:World),ZW w0.heap.size w0 fz x c→zy w0 r q t w →
  Calls Tryz.prog 142 #[.pointer (some ⟨r,0,none⟩),.agg c.toArray,.int .i64 (d:Int)] w (zo w0 r q t w (prS d x))
abbrev stW (w:World) (r:Nat) (k:Int) (s:List UInt8) (be:Option Addr) (me ce:Nat) (bb:Option Addr) (mb cb:Nat) (bl:Option Addr) (ml cl:Nat) (line D:Int):World:=((w.alloc (.cells #[.pointer (some ⟨r,0,none⟩)] 85)).alloc (VK k s be me ce bb mb cb bl ml cl line)).alloc (.cells #[.int .i64 D] 3)
theorem YR (w:World) (r:Nat) (k:Int) (s:List UInt8) (be:Option Addr) (me ce:Nat) (bb:Option Addr) (mb cb:Nat) (bl:Option Addr) (ml cl:Nat) (line D:Int) :
  Below w.heap.size w (stW w r k s be me ce bb mb cb bl ml cl line D)∧(stW w r k s be me ce bb mb cb bl ml cl line D).heap.size=w.heap.size+3∧(stW w r k s be me ce bb mb cb bl ml cl line D).heap[w.heap.size]?=some (.cells #[.pointer (some ⟨r,0,none⟩)] 85 (0,0))∧(stW w r k s be me ce bb mb cb bl ml cl line D).heap[w.heap.size+1]?=some (VK k s be me ce bb mb cb bl ml cl line)∧(stW w r k s be me ce bb mb cb bl ml cl line D).heap[w.heap.size+2]?=some (.cells #[.int .i64 D] 3 (0,0)):=by
 refine ⟨(((Below.refl _ w).alloc (Nat.le_refl _) _).alloc (by simp) _).alloc (by simp <;> omega) _,by simp,?_,?_,?_⟩
 ·rw [Below.heap_alloc _ _ _ (by simp <;> omega),Below.heap_alloc _ _ _ (by simp)];exact World.alloc_heap_new _ _
 ·rw [Below.heap_alloc _ _ _ (by simp)]
  have:=World.alloc_heap_new (w.alloc (.cells #[.pointer (some ⟨r,0,none⟩)] 85)) (VK k s be me ce bb mb cb bl ml cl line)
  simpa using this
 ·have:=World.alloc_heap_new ((w.alloc (.cells #[.pointer (some ⟨r,0,none⟩)] 85)).alloc (VK k s be me ce bb mb cb bl ml cl line)) (.cells #[.int .i64 D] 3)
  simpa using this
theorem ziQ (w0:World) (d:Nat) (D:Int) (hD:D-1=(d:Int)) (_hD1:1≤D) (hD2:D≤24) (hX:yN w0 d) (hB:zdV w0 d) (s:List UInt8) (ce:Nat) (bb:Option Addr) (mb cb:Nat) (bl:Option Addr) (ml cl:Nat) (line:Int) (x:Ez) (b o:Nat) (a1:Int) (a2:List UInt8) (a3:Int) (a4:Option Addr) (a5 a6:Nat) (a7:Int) (hx:Zy w0.heap.size w0 x (yz a1 a2 a3 a4 a5 a6 a7)) (hkid:ZZ w0 b o a1 a2 a3 a4 a5 a6 a7) (fz:Nat) (body:List Sz) (hbody:Zr (ZW w0.heap.size w0 fz) 6 w0.heap.size w0 body bb mb cb) (r:Nat) (q:Option Nat) (t:List UInt8) (w:World) (h:zy w0 r q t w) :
  Calls Tryz.prog 175 #[.pointer (some ⟨r,0,none⟩),QT 5 s (some ⟨b,o,none⟩) 1 ce bb mb cb bl ml cl line,.int .i64 D] w (zo w0 r q t w (zc (some [119,104,105,108,101,32]) (zc (prE d x) (zc (some [32]) (zc (blkO (prS d) body) ((some [10]))))))):=by
 obtain ⟨R,hR⟩:∃R,R=zc (some [119,104,105,108,101,32]) (zc (prE d x) (zc (some [32]) (zc (blkO (prS d) body) ((some [10]))))):=⟨_,rfl⟩;rw [←hR];have au:Hid (∀(q:Option Nat) (t:List UInt8) (w:World),zy w0 r q t w→Calls Tryz.prog 42 #[.pointer (some ⟨r,0,none⟩),yz a1 a2 a3 a4 a5 a6 a7,.int .i64 (d:Int)] w (zo w0 r q t w (prE d x))):=fun q t w h=>hX _ _ r q t w hx h
 have am:Hid (∀(q:Option Nat) (t:List UInt8) (w:World),zy w0 r q t w→Calls Tryz.prog 112 #[.pointer (some ⟨r,0,none⟩),.slice bb mb cb,.int .i64 (d:Int)] w (zo w0 r q t w (blkO (prS d) body))):=fun q t w h=>hB fz body bb mb cb r q t w hbody h
 have ag:Hid (ZZ w0 b o a1 a2 a3 a4 a5 a6 a7):=hkid;obtain ⟨w1,L⟩:∃w1,w1=w.alloc (VK 5 s (some ⟨b,o,none⟩) 1 ce bb mb cb bl ml cl line):=⟨_,rfl⟩;have aa:Below w.heap.size w w1:=by rw [L];exact (Below.refl _ w).alloc (Nat.le_refl _) _
 have p1:w1.heap[w.heap.size]?=some (VK 5 s (some ⟨b,o,none⟩) 1 ce bb mb cb bl ml cl line):=by rw [L];exact World.alloc_heap_new w _
 have av:w1.heap.size=w.heap.size+1:=by rw [L];simp
 have aj:Hid (zr r q w w1 q w1):=zr.start h aa;have ar:Hid (zy w0 r q t w1):=h.below aa;have z:Hid (w1.heap[w.heap.size]?=some (VK 5 s (some ⟨b,o,none⟩) 1 ce bb mb cb bl ml cl line)):=p1;have aw:=L.symm;obtain ⟨N,c1,c2,I,H,J⟩:=zz p1;generalize prE d x=X0 at *;generalize blkO (prS d) body=X1 at *;have HR:Hid (R=zc (some [119,104,105,108,101,32]) (zc X0 (zc (some [32]) (zc X1 ((some [10])))))):=hR;clear hR p1 L aa h hX hB hx hkid hbody
 go_enter Tryz.func175,Tryz.ntmps175
 have y:=zx w0 r q (t) [119,104,105,108,101,32] w1 ar.out (by simp)
 go_wp2_with fail
 refine y.mono ?_;clear y N c1 c2 I H J;rintro e w2 ⟨q2,V,rfl,ae⟩;have O:Hid (zr r q w w1 q2 w2):=aj.out.step V;have W:Hid (zy w0 r q2 (t++[119,104,105,108,101,32]) w2):=ae;clear V ae;obtain ⟨N,c1,c2,I,H,J⟩:=zz ((O.out.block _ (Nat.le_refl _) (by omega)).trans z.out)
 obtain ⟨n0,n1,n2,n3,n4⟩:=ag.out.now W.out.env;have y:=au.out q2 (t++[119,104,105,108,101,32]) w2 W.out;go_wp2_with fail
 refine y.mono ?_;clear y N c1 c2 I H J n0 n1 n2 n3 n4;rintro e w3 ⟨q3,A,ak⟩;cases X0 with
 | none=>subst ak;obtain rfl:R=none:=HR.out;exact ⟨rfl,q3,(O.out.step A).unto,rfl⟩
 | some u0 =>
 obtain ⟨rfl,an⟩:=ak;have ab:Hid (zr r q w w1 q3 w3):=O.out.step A;have ao:Hid (zy w0 r q3 (t++[119,104,105,108,101,32]++u0) w3):=an;clear A an;obtain ⟨N,c1,c2,I,H,J⟩:=zz ((ab.out.block _ (Nat.le_refl _) (by omega)).trans z.out)
 have y:=zx w0 r q3 (t++[119,104,105,108,101,32]++u0) [32] w3 ao.out (by simp)
 go_wp2_with fail
 refine y.mono ?_;clear y N c1 c2 I H J;rintro e w4 ⟨q4,T,rfl,ai⟩;have Q:Hid (zr r q w w1 q4 w4):=ab.out.step T;have al:Hid (zy w0 r q4 (t++[119,104,105,108,101,32]++u0++[32]) w4):=ai;clear T ai;obtain ⟨N,c1,c2,I,H,J⟩:=zz ((Q.out.block _ (Nat.le_refl _) (by omega)).trans z.out)
 have y:=am.out q4 (t++[119,104,105,108,101,32]++u0++[32]) w4 al.out;go_wp2_with fail
 refine y.mono ?_;clear y N c1 c2 I H J;rintro e w5 ⟨q5,G,ap⟩;cases X1 with
 | none=>subst ap;obtain rfl:R=none:=HR.out;exact ⟨rfl,q5,(Q.out.step G).unto,rfl⟩
 | some u1 =>
 obtain ⟨rfl,aq⟩:=ap;have Y:Hid (zr r q w w1 q5 w5):=Q.out.step G;have ad:Hid (zy w0 r q5 (t++[119,104,105,108,101,32]++u0++[32]++u1) w5):=aq;clear G aq;obtain ⟨N,c1,c2,I,H,J⟩:=zz ((Y.out.block _ (Nat.le_refl _) (by omega)).trans z.out)
 have y:=zx w0 r q5 (t++[119,104,105,108,101,32]++u0++[32]++u1) [10] w5 ad.out (by simp)
 go_wp2_with fail
 refine y.mono ?_;clear y N c1 c2 I H J;rintro e w6 ⟨q6,U,rfl,af⟩;have Z:Hid (zr r q w w1 q6 w6):=Y.out.step U;have ah:Hid (zy w0 r q6 (t++[119,104,105,108,101,32]++u0++[32]++u1++[10]) w6):=af;clear U af;obtain ⟨N,c1,c2,I,H,J⟩:=zz ((Z.out.block _ (Nat.le_refl _) (by omega)).trans z.out)
 obtain rfl:R=some ([119,104,105,108,101,32]++(u0++([32]++(u1++([10]))))):=HR.out;have HP:Hid (zo w0 r q t w (some ([119,104,105,108,101,32]++(u0++([32]++(u1++([10])))))) (.returned (.tuple #[])) w6):=⟨q6,Z.out.unto,rfl,by have:=ah.out;simpa only [List.append_assoc] using this⟩
 clear aj ar O W ab ao Q al Y ad Z ah N c1 c2 I H J ag au am HR z;go_wp2
 exact bodyPost_ret (v:=.tuple #[]) (by simp [results,Tryz.results175,go_sem]) rfl HP.out
theorem ziR (w0:World) (d:Nat) (D:Int) (hD:D-1=(d:Int)) (_hD1:1≤D) (hD2:D≤24) (hX:yN w0 d) (hB:zdV w0 d) (s:List UInt8) (ce:Nat) (bb:Option Addr) (mb cb:Nat) (bl:Option Addr) (ml cl:Nat) (line:Int) (x:Ez) (b o:Nat) (a1:Int) (a2:List UInt8) (a3:Int) (a4:Option Addr) (a5 a6:Nat) (a7:Int) (hx:Zy w0.heap.size w0 x (yz a1 a2 a3 a4 a5 a6 a7)) (hkid:ZZ w0 b o a1 a2 a3 a4 a5 a6 a7) (fz:Nat) (body:List Sz) (hbody:Zr (ZW w0.heap.size w0 fz) 6 w0.heap.size w0 body bb mb cb) (r:Nat) (q:Option Nat) (t:List UInt8) (w:World) (h:zy w0 r q t w) :
  Calls Tryz.prog 175 #[.pointer (some ⟨r,0,none⟩),QT 3 s (some ⟨b,o,none⟩) 1 ce bb mb cb bl ml cl line,.int .i64 D] w (zo w0 r q t w (zc (some [105,102,32]) (zc (prE d x) (zc (some [32]) (zc (blkO (prS d) body) ((some [10]))))))):=by
 obtain ⟨R,hR⟩:∃R,R=zc (some [105,102,32]) (zc (prE d x) (zc (some [32]) (zc (blkO (prS d) body) ((some [10]))))):=⟨_,rfl⟩;rw [←hR];have au:Hid (∀(q:Option Nat) (t:List UInt8) (w:World),zy w0 r q t w→Calls Tryz.prog 42 #[.pointer (some ⟨r,0,none⟩),yz a1 a2 a3 a4 a5 a6 a7,.int .i64 (d:Int)] w (zo w0 r q t w (prE d x))):=fun q t w h=>hX _ _ r q t w hx h
 have am:Hid (∀(q:Option Nat) (t:List UInt8) (w:World),zy w0 r q t w→Calls Tryz.prog 112 #[.pointer (some ⟨r,0,none⟩),.slice bb mb cb,.int .i64 (d:Int)] w (zo w0 r q t w (blkO (prS d) body))):=fun q t w h=>hB fz body bb mb cb r q t w hbody h
 have ag:Hid (ZZ w0 b o a1 a2 a3 a4 a5 a6 a7):=hkid;obtain ⟨w1,L⟩:∃w1,w1=w.alloc (VK 3 s (some ⟨b,o,none⟩) 1 ce bb mb cb bl ml cl line):=⟨_,rfl⟩;have aa:Below w.heap.size w w1:=by rw [L];exact (Below.refl _ w).alloc (Nat.le_refl _) _
 have p1:w1.heap[w.heap.size]?=some (VK 3 s (some ⟨b,o,none⟩) 1 ce bb mb cb bl ml cl line):=by rw [L];exact World.alloc_heap_new w _
 have av:w1.heap.size=w.heap.size+1:=by rw [L];simp
 have aj:Hid (zr r q w w1 q w1):=zr.start h aa;have ar:Hid (zy w0 r q t w1):=h.below aa;have z:Hid (w1.heap[w.heap.size]?=some (VK 3 s (some ⟨b,o,none⟩) 1 ce bb mb cb bl ml cl line)):=p1;have aw:=L.symm;obtain ⟨N,c1,c2,I,H,J⟩:=zz p1;generalize prE d x=X0 at *;generalize blkO (prS d) body=X1 at *;have HR:Hid (R=zc (some [105,102,32]) (zc X0 (zc (some [32]) (zc X1 ((some [10])))))):=hR;clear hR p1 L aa h hX hB hx hkid hbody
 go_enter Tryz.func175,Tryz.ntmps175
 have y:=zx w0 r q (t) [105,102,32] w1 ar.out (by simp)
 go_wp2_with fail
 refine y.mono ?_;clear y N c1 c2 I H J;rintro e w2 ⟨q2,V,rfl,ae⟩;have O:Hid (zr r q w w1 q2 w2):=aj.out.step V;have W:Hid (zy w0 r q2 (t++[105,102,32]) w2):=ae;clear V ae;obtain ⟨N,c1,c2,I,H,J⟩:=zz ((O.out.block _ (Nat.le_refl _) (by omega)).trans z.out)
 obtain ⟨n0,n1,n2,n3,n4⟩:=ag.out.now W.out.env;have y:=au.out q2 (t++[105,102,32]) w2 W.out;go_wp2_with fail
 refine y.mono ?_;clear y N c1 c2 I H J n0 n1 n2 n3 n4;rintro e w3 ⟨q3,A,ak⟩;cases X0 with
 | none=>subst ak;obtain rfl:R=none:=HR.out;exact ⟨rfl,q3,(O.out.step A).unto,rfl⟩
 | some u0 =>
 obtain ⟨rfl,an⟩:=ak;have ab:Hid (zr r q w w1 q3 w3):=O.out.step A;have ao:Hid (zy w0 r q3 (t++[105,102,32]++u0) w3):=an;clear A an;obtain ⟨N,c1,c2,I,H,J⟩:=zz ((ab.out.block _ (Nat.le_refl _) (by omega)).trans z.out)
 have y:=zx w0 r q3 (t++[105,102,32]++u0) [32] w3 ao.out (by simp)
 go_wp2_with fail
 refine y.mono ?_;clear y N c1 c2 I H J;rintro e w4 ⟨q4,T,rfl,ai⟩;have Q:Hid (zr r q w w1 q4 w4):=ab.out.step T;have al:Hid (zy w0 r q4 (t++[105,102,32]++u0++[32]) w4):=ai;clear T ai;obtain ⟨N,c1,c2,I,H,J⟩:=zz ((Q.out.block _ (Nat.le_refl _) (by omega)).trans z.out)
 have y:=am.out q4 (t++[105,102,32]++u0++[32]) w4 al.out;go_wp2_with fail
 refine y.mono ?_;clear y N c1 c2 I H J;rintro e w5 ⟨q5,G,ap⟩;cases X1 with
 | none=>subst ap;obtain rfl:R=none:=HR.out;exact ⟨rfl,q5,(Q.out.step G).unto,rfl⟩
 | some u1 =>
 obtain ⟨rfl,aq⟩:=ap;have Y:Hid (zr r q w w1 q5 w5):=Q.out.step G;have ad:Hid (zy w0 r q5 (t++[105,102,32]++u0++[32]++u1) w5):=aq;clear G aq;obtain ⟨N,c1,c2,I,H,J⟩:=zz ((Y.out.block _ (Nat.le_refl _) (by omega)).trans z.out)
 have y:=zx w0 r q5 (t++[105,102,32]++u0++[32]++u1) [10] w5 ad.out (by simp)
 go_wp2_with fail
 refine y.mono ?_;clear y N c1 c2 I H J;rintro e w6 ⟨q6,U,rfl,af⟩;have Z:Hid (zr r q w w1 q6 w6):=Y.out.step U;have ah:Hid (zy w0 r q6 (t++[105,102,32]++u0++[32]++u1++[10]) w6):=af;clear U af;obtain ⟨N,c1,c2,I,H,J⟩:=zz ((Z.out.block _ (Nat.le_refl _) (by omega)).trans z.out)
 obtain rfl:R=some ([105,102,32]++(u0++([32]++(u1++([10]))))):=HR.out;have HP:Hid (zo w0 r q t w (some ([105,102,32]++(u0++([32]++(u1++([10])))))) (.returned (.tuple #[])) w6):=⟨q6,Z.out.unto,rfl,by have:=ah.out;simpa only [List.append_assoc] using this⟩
 clear aj ar O W ab ao Q al Y ad Z ah N c1 c2 I H J ag au am HR z;go_wp2
 exact bodyPost_ret (v:=.tuple #[]) (by simp [results,Tryz.results175,go_sem]) rfl HP.out
theorem ziS (w0:World) (d:Nat) (D:Int) (hD:D-1=(d:Int)) (_hD1:1≤D) (hD2:D≤24) (hX:yN w0 d) (hB:zdV w0 d) (s:List UInt8) (ce:Nat) (bb:Option Addr) (mb cb:Nat) (bl:Option Addr) (ml cl:Nat) (line:Int) (x:Ez) (b o:Nat) (a1:Int) (a2:List UInt8) (a3:Int) (a4:Option Addr) (a5 a6:Nat) (a7:Int) (hx:Zy w0.heap.size w0 x (yz a1 a2 a3 a4 a5 a6 a7)) (hkid:ZZ w0 b o a1 a2 a3 a4 a5 a6 a7) (fz:Nat) (body:List Sz) (hbody:Zr (ZW w0.heap.size w0 fz) 6 w0.heap.size w0 body bb mb cb) (els:List Sz) (hels:Zr (ZW w0.heap.size w0 fz) 6 w0.heap.size w0 els bl ml cl) (r:Nat) (q:Option Nat) (t:List UInt8) (w:World) (h:zy w0 r q t w) :
  Calls Tryz.prog 175 #[.pointer (some ⟨r,0,none⟩),QT 4 s (some ⟨b,o,none⟩) 1 ce bb mb cb bl ml cl line,.int .i64 D] w (zo w0 r q t w (zc (some [105,102,32]) (zc (prE d x) (zc (some [32]) (zc (blkO (prS d) body) (zc (some [32,101,108,115,101,32]) (zc (blkO (prS d) els) ((some [10]))))))))):=by
 obtain ⟨R,hR⟩:∃R,R=zc (some [105,102,32]) (zc (prE d x) (zc (some [32]) (zc (blkO (prS d) body) (zc (some [32,101,108,115,101,32]) (zc (blkO (prS d) els) ((some [10]))))))):=⟨_,rfl⟩;rw [←hR];have ap:Hid (∀(q:Option Nat) (t:List UInt8) (w:World),zy w0 r q t w→Calls Tryz.prog 42 #[.pointer (some ⟨r,0,none⟩),yz a1 a2 a3 a4 a5 a6 a7,.int .i64 (d:Int)] w (zo w0 r q t w (prE d x))):=fun q t w h=>hX _ _ r q t w hx h
 have ay:Hid (∀(q:Option Nat) (t:List UInt8) (w:World),zy w0 r q t w→Calls Tryz.prog 112 #[.pointer (some ⟨r,0,none⟩),.slice bb mb cb,.int .i64 (d:Int)] w (zo w0 r q t w (blkO (prS d) body))):=fun q t w h=>hB fz body bb mb cb r q t w hbody h
 have aD:Hid (∀(q:Option Nat) (t:List UInt8) (w:World),zy w0 r q t w→Calls Tryz.prog 112 #[.pointer (some ⟨r,0,none⟩),.slice bl ml cl,.int .i64 (d:Int)] w (zo w0 r q t w (blkO (prS d) els))):=fun q t w h=>hB fz els bl ml cl r q t w hels h
 have ar:Hid (ZZ w0 b o a1 a2 a3 a4 a5 a6 a7):=hkid;obtain ⟨w1,L⟩:∃w1,w1=w.alloc (VK 4 s (some ⟨b,o,none⟩) 1 ce bb mb cb bl ml cl line):=⟨_,rfl⟩;have af:Below w.heap.size w w1:=by rw [L];exact (Below.refl _ w).alloc (Nat.le_refl _) _
 have p1:w1.heap[w.heap.size]?=some (VK 4 s (some ⟨b,o,none⟩) 1 ce bb mb cb bl ml cl line):=by rw [L];exact World.alloc_heap_new w _
 have aF:w1.heap.size=w.heap.size+1:=by rw [L];simp
 have al:Hid (zr r q w w1 q w1):=zr.start h af;have ao:Hid (zy w0 r q t w1):=h.below af;have z:Hid (w1.heap[w.heap.size]?=some (VK 4 s (some ⟨b,o,none⟩) 1 ce bb mb cb bl ml cl line)):=p1;have aG:=L.symm;obtain ⟨H,c1,c2,I,A,G⟩:=zz p1;generalize prE d x=X0 at *;generalize blkO (prS d) body=X1 at *;generalize blkO (prS d) els=X2 at *;have HR:Hid (R=zc (some [105,102,32]) (zc X0 (zc (some [32]) (zc X1 (zc (some [32,101,108,115,101,32]) (zc X2 ((some [10])))))))):=hR;clear hR p1 L af h hX hB hx hkid hbody hels
 go_enter Tryz.func175,Tryz.ntmps175
 have y:=zx w0 r q (t) [105,102,32] w1 ao.out (by simp)
 go_wp2_with fail
 refine y.mono ?_;clear y H c1 c2 I A G;rintro e w2 ⟨q2,Z,rfl,ah⟩;have Q:Hid (zr r q w w1 q2 w2):=al.out.step Z;have ad:Hid (zy w0 r q2 (t++[105,102,32]) w2):=ah;clear Z ah;obtain ⟨H,c1,c2,I,A,G⟩:=zz ((Q.out.block _ (Nat.le_refl _) (by omega)).trans z.out)
 obtain ⟨n0,n1,n2,n3,n4⟩:=ar.out.now ad.out.env;have y:=ap.out q2 (t++[105,102,32]) w2 ad.out;go_wp2_with fail
 refine y.mono ?_;clear y H c1 c2 I A G n0 n1 n2 n3 n4;rintro e w3 ⟨q3,J,am⟩;cases X0 with
 | none=>subst am;obtain rfl:R=none:=HR.out;exact ⟨rfl,q3,(Q.out.step J).unto,rfl⟩
 | some u0 =>
 obtain ⟨rfl,an⟩:=am;have ab:Hid (zr r q w w1 q3 w3):=Q.out.step J;have aB:Hid (zy w0 r q3 (t++[105,102,32]++u0) w3):=an;clear J an;obtain ⟨H,c1,c2,I,A,G⟩:=zz ((ab.out.block _ (Nat.le_refl _) (by omega)).trans z.out)
 have y:=zx w0 r q3 (t++[105,102,32]++u0) [32] w3 aB.out (by simp)
 go_wp2_with fail
 refine y.mono ?_;clear y H c1 c2 I A G;rintro e w4 ⟨q4,Y,rfl,av⟩;have T:Hid (zr r q w w1 q4 w4):=ab.out.step Y;have ax:Hid (zy w0 r q4 (t++[105,102,32]++u0++[32]) w4):=av;clear Y av;obtain ⟨H,c1,c2,I,A,G⟩:=zz ((T.out.block _ (Nat.le_refl _) (by omega)).trans z.out)
 have y:=ay.out q4 (t++[105,102,32]++u0++[32]) w4 ax.out;go_wp2_with fail
 refine y.mono ?_;clear y H c1 c2 I A G;rintro e w5 ⟨q5,N,aA⟩;cases X1 with
 | none=>subst aA;obtain rfl:R=none:=HR.out;exact ⟨rfl,q5,(T.out.step N).unto,rfl⟩
 | some u1 =>
 obtain ⟨rfl,aC⟩:=aA;have ae:Hid (zr r q w w1 q5 w5):=T.out.step N;have aq:Hid (zy w0 r q5 (t++[105,102,32]++u0++[32]++u1) w5):=aC;clear N aC;obtain ⟨H,c1,c2,I,A,G⟩:=zz ((ae.out.block _ (Nat.le_refl _) (by omega)).trans z.out)
 have y:=zx w0 r q5 (t++[105,102,32]++u0++[32]++u1) [32,101,108,115,101,32] w5 aq.out (by simp)
 go_wp2_with fail
 refine y.mono ?_;clear y H c1 c2 I A G;rintro e w6 ⟨q6,W,rfl,aE⟩;have U:Hid (zr r q w w1 q6 w6):=ae.out.step W;have aj:Hid (zy w0 r q6 (t++[105,102,32]++u0++[32]++u1++[32,101,108,115,101,32]) w6):=aE;clear W aE;obtain ⟨H,c1,c2,I,A,G⟩:=zz ((U.out.block _ (Nat.le_refl _) (by omega)).trans z.out)
 have y:=aD.out q6 (t++[105,102,32]++u0++[32]++u1++[32,101,108,115,101,32]) w6 aj.out;go_wp2_with fail
 refine y.mono ?_;clear y H c1 c2 I A G;rintro e w7 ⟨q7,O,aw⟩;cases X2 with
 | none=>subst aw;obtain rfl:R=none:=HR.out;exact ⟨rfl,q7,(U.out.step O).unto,rfl⟩
 | some u2 =>
 obtain ⟨rfl,ai⟩:=aw;have ag:Hid (zr r q w w1 q7 w7):=U.out.step O;have ak:Hid (zy w0 r q7 (t++[105,102,32]++u0++[32]++u1++[32,101,108,115,101,32]++u2) w7):=ai;clear O ai;obtain ⟨H,c1,c2,I,A,G⟩:=zz ((ag.out.block _ (Nat.le_refl _) (by omega)).trans z.out)
 have y:=zx w0 r q7 (t++[105,102,32]++u0++[32]++u1++[32,101,108,115,101,32]++u2) [10] w7 ak.out (by simp)
 go_wp2_with fail
 refine y.mono ?_;clear y H c1 c2 I A G;rintro e w8 ⟨q8,V,rfl,az⟩;have aa:Hid (zr r q w w1 q8 w8):=ag.out.step V;have au:Hid (zy w0 r q8 (t++[105,102,32]++u0++[32]++u1++[32,101,108,115,101,32]++u2++[10]) w8):=az;clear V az;obtain ⟨H,c1,c2,I,A,G⟩:=zz ((aa.out.block _ (Nat.le_refl _) (by omega)).trans z.out)
 obtain rfl:R=some ([105,102,32]++(u0++([32]++(u1++([32,101,108,115,101,32]++(u2++([10]))))))):=HR.out;have HP:Hid (zo w0 r q t w (some ([105,102,32]++(u0++([32]++(u1++([32,101,108,115,101,32]++(u2++([10])))))))) (.returned (.tuple #[])) w8):=⟨q8,aa.out.unto,rfl,by have:=au.out;simpa only [List.append_assoc] using this⟩
 clear al ao Q ad ab aB T ax ae aq U aj ag ak aa au H c1 c2 I A G ar ap ay aD HR z;go_wp2
 exact bodyPost_ret (v:=.tuple #[]) (by simp [results,Tryz.results175,go_sem]) rfl HP.out
theorem zh8 (w0:World) (d:Nat) (D:Int) (hD:D-1=(d:Int)) (hD1:1≤D) (hD2:D≤24) (hT:ZE w0) (hX:yN w0 d) (s:List UInt8) (ce:Nat) (bb:Option Addr) (mb cb:Nat) (bl:Option Addr) (ml cl:Nat) (line:Int) (b o:Nat) (x:Ez) (g01:Int) (g02:List UInt8) (g03:Int) (g04:Option Addr) (g05 g06:Nat) (g07:Int) (hx0:Zy w0.heap.size w0 x (yz g01 g02 g03 g04 g05 g06 g07)) (hkid0:ZZ w0 b (o+0*5) g01 g02 g03 g04 g05 g06 g07) (es:List Ez) (hes:Zr (QR w0.heap.size w0) 5 w0.heap.size w0 es (some ⟨b,o,none⟩) 1 ce) (r:Nat) (q:Option Nat) (t:List UInt8) (w:World) (h:zy w0 r q t w) (hst:Ye 1 s es mb ml=true) (hs:s.length≤100000000) :
  Calls Tryz.prog 142 #[.pointer (some ⟨r,0,none⟩),QT 1 s (some ⟨b,o,none⟩) 1 ce bb mb cb bl ml cl line,.int .i64 D] w (zo w0 r q t w (zc (some [108,101,116,32]) (zc (tokO 1 0 s) (zc (some [32,61,32]) (zc (prE d x) ((some [59,10]))))))):=by
 have aG:∀(fn:Fn) (first cap:Array Value) (w:World),(Instr.makeFunc fn first cap).run Tryz.prog w=.ok (.func fn first cap) w:=fun _ _ _ _=>rfl
 obtain ⟨R,hR⟩:∃R,R=zc (some [108,101,116,32]) (zc (tokO 1 0 s) (zc (some [32,61,32]) (zc (prE d x) ((some [59,10]))))):=⟨_,rfl⟩;rw [←hR];obtain ⟨z,ai⟩:∃z,z=stW w r 1 s (some ⟨b,o,none⟩) 1 ce bb mb cb bl ml cl line D:=⟨_,rfl⟩;obtain ⟨ad,av,e0,e1,e2⟩:=YR w r 1 s (some ⟨b,o,none⟩) 1 ce bb mb cb bl ml cl line D;rw [←ai] at ad av e0 e1 e2;have U:=h.below ad;have am:Hid (zr r q w z q z):=zr.start h ad;have y:Hid (z.heap[w.heap.size]?=some (.cells #[.pointer (some ⟨r,0,none⟩)] 85 (0,0))∧z.heap[w.heap.size+1]?=some (VK 1 s (some ⟨b,o,none⟩) 1 ce bb mb cb bl ml cl line)∧z.heap[w.heap.size+2]?=some (.cells #[.int .i64 D] 3 (0,0))):=⟨e0,e1,e2⟩;have ci:=Yx 1 s es (some ⟨b,o,none⟩) 1 ce bb mb cb bl ml cl line w0.heap.size z (hes.kept U.env fun _ _ h=>Zy.kept h U.env) U.env.size
 rw [hst] at ci;have ao:Hid (zy w0 r q t z):=U;have aF:=ai.symm;have N:=ze e0;obtain ⟨J,c1,c2,O,H,I⟩:=zz e1;have Q:=ze e2;have aH:(0:Int)<D:=by omega
 have ap:Hid (∀(q:Option Nat) (t:List UInt8) (w:World),zy w0 r q t w→Calls Tryz.prog 82 #[.pointer (some ⟨r,0,none⟩),.string (zb s)] w (zo w0 r q t w (tokO 1 0 s))):=fun q t w h=>yx w0 r q t s w hT h hs
 have ay:Hid (∀(q2:Option Nat) (t2:List UInt8) (W:World),zy w0 r q2 t2 W→zr r q w z q2 W→Calls Tryz.prog 174 #[.int .i64 0,.pointer (some ⟨w.heap.size,0,none⟩),.pointer (some ⟨w.heap.size+1,0,none⟩),.pointer (some ⟨w.heap.size+2,0,none⟩)] W (zo w0 r q2 t2 W (prE d x))):=fun q2 t2 W h2 hL2=>vK w0 d D hD hD1 hD2 hX 0 x b o _ _ _ _ _ _ _ hx0 hkid0 _ _ _ r _ ce (by omega) (by omega) q2 t2 W h2 (ze ((hL2.block (w.heap.size) (Nat.le_refl _) (by omega)).trans y.out.1)) (zz ((hL2.block (w.heap.size+1) (by omega) (by omega)).trans y.out.2.1)).2.2.1 (ze ((hL2.block (w.heap.size+2) (by omega) (by omega)).trans y.out.2.2)) (fun k hk=>⟨by have:=hL2.hr;omega,fun e=>by have:=hL2.hq k e;omega⟩)
 generalize tokO 1 0 s=X0 at *;generalize prE d x=X1 at *;have HR:Hid (R=zc (some [108,101,116,32]) (zc X0 (zc (some [32,61,32]) (zc X1 ((some [59,10])))))):=hR;clear hR U e0 e1 e2 ai ad h hes hst hT hX hx0 hkid0
 go_enter Tryz.func142,Tryz.ntmps142
 go_wp2_with fail
 refine ci.mono ?_;clear ci N Q J c1 c2 O H I;rintro e w2 ⟨rfl,ah⟩;have Y:Hid (zr r q w z q w2):=am.out.step (zT.below ah);have az:Hid (zy w0 r q t w2):=ao.out.below ah;clear ah;have ca:=z6 true w2;have N:=ze ((Y.out.block (w.heap.size) (Nat.le_refl _) (by omega)).trans y.out.1)
 obtain ⟨J,c1,c2,O,H,I⟩:=zz ((Y.out.block (w.heap.size+1) (by omega) (by omega)).trans y.out.2.1)
 have Q:=ze ((Y.out.block (w.heap.size+2) (by omega) (by omega)).trans y.out.2.2)
 go_wp2_with fail
 refine ca.mono ?_;clear ca;rintro e w3 ⟨rfl,rfl⟩;simp only [xd];have an:Hid (zr r q w z q w3):=Y.out;have aC:Hid (zy w0 r q t w3):=az.out;clear am ao Y az;have G:=zx w0 r q (t) [108,101,116,32] w3 aC.out (by simp)
 go_wp2_with fail
 refine G.mono ?_;clear G N Q J c1 c2 O H I;rintro e w4 ⟨q4,ag,rfl,au⟩;have L:Hid (zr r q w z q4 w4):=an.out.step ag;have ax:Hid (zy w0 r q4 (t++[108,101,116,32]) w4):=au;clear ag au;have N:=ze ((L.out.block (w.heap.size) (Nat.le_refl _) (by omega)).trans y.out.1)
 obtain ⟨J,c1,c2,O,H,I⟩:=zz ((L.out.block (w.heap.size+1) (by omega) (by omega)).trans y.out.2.1)
 have Q:=ze ((L.out.block (w.heap.size+2) (by omega) (by omega)).trans y.out.2.2)
 have G:=ap.out q4 (t++[108,101,116,32]) w4 ax.out;go_wp2_with fail
 refine G.mono ?_;clear G N Q J c1 c2 O H I;rintro e w5 ⟨q5,V,aB⟩;cases X0 with
 | none=>subst aB;obtain rfl:R=none:=HR.out;exact ⟨rfl,q5,(L.out.step V).unto,rfl⟩
 | some u0 =>
 obtain ⟨rfl,aD⟩:=aB;have Z:Hid (zr r q w z q5 w5):=L.out.step V;have aq:Hid (zy w0 r q5 (t++[108,101,116,32]++u0) w5):=aD;clear V aD;have N:=ze ((Z.out.block (w.heap.size) (Nat.le_refl _) (by omega)).trans y.out.1)
 obtain ⟨J,c1,c2,O,H,I⟩:=zz ((Z.out.block (w.heap.size+1) (by omega) (by omega)).trans y.out.2.1)
 have Q:=ze ((Z.out.block (w.heap.size+2) (by omega) (by omega)).trans y.out.2.2)
 have G:=zx w0 r q5 (t++[108,101,116,32]++u0) [32,61,32] w5 aq.out (by simp)
 go_wp2_with fail
 refine G.mono ?_;clear G N Q J c1 c2 O H I;rintro e w6 ⟨q6,af,rfl,aE⟩;have A:Hid (zr r q w z q6 w6):=Z.out.step af;have ak:Hid (zy w0 r q6 (t++[108,101,116,32]++u0++[32,61,32]) w6):=aE;clear af aE;have N:=ze ((A.out.block (w.heap.size) (Nat.le_refl _) (by omega)).trans y.out.1)
 obtain ⟨J,c1,c2,O,H,I⟩:=zz ((A.out.block (w.heap.size+1) (by omega) (by omega)).trans y.out.2.1)
 have Q:=ze ((A.out.block (w.heap.size+2) (by omega) (by omega)).trans y.out.2.2)
 have G:=ay.out q6 (t++[108,101,116,32]++u0++[32,61,32]) w6 ak.out A.out;go_wp2_with fail
 refine G.mono ?_;clear G N Q J c1 c2 O H I;rintro e w7 ⟨q7,ab,aw⟩;cases X1 with
 | none=>subst aw;obtain rfl:R=none:=HR.out;exact ⟨rfl,q7,(A.out.step ab).unto,rfl⟩
 | some u1 =>
 obtain ⟨rfl,aj⟩:=aw;have aa:Hid (zr r q w z q7 w7):=A.out.step ab;have al:Hid (zy w0 r q7 (t++[108,101,116,32]++u0++[32,61,32]++u1) w7):=aj;clear ab aj;have N:=ze ((aa.out.block (w.heap.size) (Nat.le_refl _) (by omega)).trans y.out.1)
 obtain ⟨J,c1,c2,O,H,I⟩:=zz ((aa.out.block (w.heap.size+1) (by omega) (by omega)).trans y.out.2.1)
 have Q:=ze ((aa.out.block (w.heap.size+2) (by omega) (by omega)).trans y.out.2.2)
 have G:=zx w0 r q7 (t++[108,101,116,32]++u0++[32,61,32]++u1) [59,10] w7 al.out (by simp)
 go_wp2_with fail
 refine G.mono ?_;clear G N Q J c1 c2 O H I;rintro e w8 ⟨q8,ae,rfl,aA⟩;have T:Hid (zr r q w z q8 w8):=aa.out.step ae;have ar:Hid (zy w0 r q8 (t++[108,101,116,32]++u0++[32,61,32]++u1++[59,10]) w8):=aA;clear ae aA;have N:=ze ((T.out.block (w.heap.size) (Nat.le_refl _) (by omega)).trans y.out.1)
 obtain ⟨J,c1,c2,O,H,I⟩:=zz ((T.out.block (w.heap.size+1) (by omega) (by omega)).trans y.out.2.1)
 have Q:=ze ((T.out.block (w.heap.size+2) (by omega) (by omega)).trans y.out.2.2)
 obtain rfl:R=some ([108,101,116,32]++(u0++([32,61,32]++(u1++([59,10]))))):=HR.out;have HP:Hid (zo w0 r q t w (some ([108,101,116,32]++(u0++([32,61,32]++(u1++([59,10])))))) (.returned (.tuple #[])) w8):=⟨q8,T.out.unto,rfl,by have:=ar.out;simpa only [List.append_assoc] using this⟩
 clear an aC L ax Z aq A ak aa al T ar N Q J c1 c2 O H I ap ay HR y;go_wp2
 exact bodyPost_ret (v:=.tuple #[]) (by simp [results,Tryz.results142,go_sem]) rfl HP.out
theorem zh9 (w0:World) (d:Nat) (D:Int) (hD:D-1=(d:Int)) (hD1:1≤D) (hD2:D≤24) (_hT:ZE w0) (hX:yN w0 d) (s:List UInt8) (ce:Nat) (bb:Option Addr) (mb cb:Nat) (bl:Option Addr) (ml cl:Nat) (line:Int) (b o:Nat) (x:Ez) (g01:Int) (g02:List UInt8) (g03:Int) (g04:Option Addr) (g05 g06:Nat) (g07:Int) (hx0:Zy w0.heap.size w0 x (yz g01 g02 g03 g04 g05 g06 g07)) (hkid0:ZZ w0 b (o+0*5) g01 g02 g03 g04 g05 g06 g07) (y:Ez) (g11:Int) (g12:List UInt8) (g13:Int) (g14:Option Addr) (g15 g16:Nat) (g17:Int) (hx1:Zy w0.heap.size w0 y (yz g11 g12 g13 g14 g15 g16 g17)) (hkid1:ZZ w0 b (o+1*5) g11 g12 g13 g14 g15 g16 g17) (es:List Ez) (hes:Zr (QR w0.heap.size w0) 5 w0.heap.size w0 es (some ⟨b,o,none⟩) 2 ce) (r:Nat) (q:Option Nat) (t:List UInt8) (w:World) (h:zy w0 r q t w) (hst:Ye 2 s es mb ml=true) (_hs:s.length≤100000000) :
  Calls Tryz.prog 142 #[.pointer (some ⟨r,0,none⟩),QT 2 s (some ⟨b,o,none⟩) 2 ce bb mb cb bl ml cl line,.int .i64 D] w (zo w0 r q t w (zc (prE d x) (zc (some [32,61,32]) (zc (prE d y) ((some [59,10])))))):=by
 have aB:∀(fn:Fn) (first cap:Array Value) (w:World),(Instr.makeFunc fn first cap).run Tryz.prog w=.ok (.func fn first cap) w:=fun _ _ _ _=>rfl
 obtain ⟨R,hR⟩:∃R,R=zc (prE d x) (zc (some [32,61,32]) (zc (prE d y) ((some [59,10])))):=⟨_,rfl⟩;rw [←hR];obtain ⟨A,ag⟩:∃A,A=stW w r 2 s (some ⟨b,o,none⟩) 2 ce bb mb cb bl ml cl line D:=⟨_,rfl⟩;obtain ⟨aa,ap,e0,e1,e2⟩:=YR w r 2 s (some ⟨b,o,none⟩) 2 ce bb mb cb bl ml cl line D;rw [←ag] at aa ap e0 e1 e2;have H:=h.below aa;have ao:Hid (zr r q w A q A):=zr.start h aa;have z:Hid (A.heap[w.heap.size]?=some (.cells #[.pointer (some ⟨r,0,none⟩)] 85 (0,0))∧A.heap[w.heap.size+1]?=some (VK 2 s (some ⟨b,o,none⟩) 2 ce bb mb cb bl ml cl line)∧A.heap[w.heap.size+2]?=some (.cells #[.int .i64 D] 3 (0,0))):=⟨e0,e1,e2⟩;have ci:=Yx 2 s es (some ⟨b,o,none⟩) 2 ce bb mb cb bl ml cl line w0.heap.size A (hes.kept H.env fun _ _ h=>Zy.kept h H.env) H.env.size
 rw [hst] at ci;have ay:Hid (zy w0 r q t A):=H;have aA:=ag.symm;have O:=ze e0;obtain ⟨c0,c1,c2,V,L,c5⟩:=zz e1;have Z:=ze e2;have aC:(0:Int)<D:=by omega
 have az:Hid (∀(q2:Option Nat) (t2:List UInt8) (W:World),zy w0 r q2 t2 W→zr r q w A q2 W→Calls Tryz.prog 174 #[.int .i64 0,.pointer (some ⟨w.heap.size,0,none⟩),.pointer (some ⟨w.heap.size+1,0,none⟩),.pointer (some ⟨w.heap.size+2,0,none⟩)] W (zo w0 r q2 t2 W (prE d x))):=fun q2 t2 W h2 hL2=>vK w0 d D hD hD1 hD2 hX 0 x b o _ _ _ _ _ _ _ hx0 hkid0 _ _ _ r _ ce (by omega) (by omega) q2 t2 W h2 (ze ((hL2.block (w.heap.size) (Nat.le_refl _) (by omega)).trans z.out.1)) (zz ((hL2.block (w.heap.size+1) (by omega) (by omega)).trans z.out.2.1)).2.2.1 (ze ((hL2.block (w.heap.size+2) (by omega) (by omega)).trans z.out.2.2)) (fun k hk=>⟨by have:=hL2.hr;omega,fun e=>by have:=hL2.hq k e;omega⟩)
 have au:Hid (∀(q2:Option Nat) (t2:List UInt8) (W:World),zy w0 r q2 t2 W→zr r q w A q2 W→Calls Tryz.prog 174 #[.int .i64 1,.pointer (some ⟨w.heap.size,0,none⟩),.pointer (some ⟨w.heap.size+1,0,none⟩),.pointer (some ⟨w.heap.size+2,0,none⟩)] W (zo w0 r q2 t2 W (prE d y))):=fun q2 t2 W h2 hL2=>vK w0 d D hD hD1 hD2 hX 1 y b o _ _ _ _ _ _ _ hx1 hkid1 _ _ _ r _ ce (by omega) (by omega) q2 t2 W h2 (ze ((hL2.block (w.heap.size) (Nat.le_refl _) (by omega)).trans z.out.1)) (zz ((hL2.block (w.heap.size+1) (by omega) (by omega)).trans z.out.2.1)).2.2.1 (ze ((hL2.block (w.heap.size+2) (by omega) (by omega)).trans z.out.2.2)) (fun k hk=>⟨by have:=hL2.hr;omega,fun e=>by have:=hL2.hq k e;omega⟩)
 generalize prE d x=X0 at *;generalize prE d y=X1 at *;have HR:Hid (R=zc X0 (zc (some [32,61,32]) (zc X1 ((some [59,10]))))):=hR;clear hR H e0 e1 e2 ag aa h hes hst _hT hX hx0 hkid0 hx1 hkid1
 go_enter Tryz.func142,Tryz.ntmps142
 go_wp2_with fail
 refine ci.mono ?_;clear ci O Z c0 c1 c2 V L c5;rintro e w2 ⟨rfl,af⟩;have I:Hid (zr r q w A q w2):=ao.out.step (zT.below af);have av:Hid (zy w0 r q t w2):=ay.out.below af;clear af;have ca:=z6 true w2;have O:=ze ((I.out.block (w.heap.size) (Nat.le_refl _) (by omega)).trans z.out.1)
 obtain ⟨c0,c1,c2,V,L,c5⟩:=zz ((I.out.block (w.heap.size+1) (by omega) (by omega)).trans z.out.2.1)
 have Z:=ze ((I.out.block (w.heap.size+2) (by omega) (by omega)).trans z.out.2.2)
 go_wp2_with fail
 refine ca.mono ?_;clear ca;rintro e w3 ⟨rfl,rfl⟩;simp only [xd];have ab:Hid (zr r q w A q w3):=I.out;have aw:Hid (zy w0 r q t w3):=av.out;clear ao ay I av;have N:=az.out q (t) w3 aw.out ab.out;go_wp2_with fail
 refine N.mono ?_;clear N O Z c0 c1 c2 V L c5;rintro e w4 ⟨q4,U,aq⟩;cases X0 with
 | none=>subst aq;obtain rfl:R=none:=HR.out;exact ⟨rfl,q4,(ab.out.step U).unto,rfl⟩
 | some u0 =>
 obtain ⟨rfl,am⟩:=aq;have J:Hid (zr r q w A q4 w4):=ab.out.step U;have ar:Hid (zy w0 r q4 (t++u0) w4):=am;clear U am;have O:=ze ((J.out.block (w.heap.size) (Nat.le_refl _) (by omega)).trans z.out.1)
 obtain ⟨c0,c1,c2,V,L,c5⟩:=zz ((J.out.block (w.heap.size+1) (by omega) (by omega)).trans z.out.2.1)
 have Z:=ze ((J.out.block (w.heap.size+2) (by omega) (by omega)).trans z.out.2.2)
 have N:=zx w0 r q4 (t++u0) [32,61,32] w4 ar.out (by simp)
 go_wp2_with fail
 refine N.mono ?_;clear N O Z c0 c1 c2 V L c5;rintro e w5 ⟨q5,ad,rfl,ax⟩;have G:Hid (zr r q w A q5 w5):=J.out.step ad;have ah:Hid (zy w0 r q5 (t++u0++[32,61,32]) w5):=ax;clear ad ax;have O:=ze ((G.out.block (w.heap.size) (Nat.le_refl _) (by omega)).trans z.out.1)
 obtain ⟨c0,c1,c2,V,L,c5⟩:=zz ((G.out.block (w.heap.size+1) (by omega) (by omega)).trans z.out.2.1)
 have Z:=ze ((G.out.block (w.heap.size+2) (by omega) (by omega)).trans z.out.2.2)
 have N:=au.out q5 (t++u0++[32,61,32]) w5 ah.out G.out;go_wp2_with fail
 refine N.mono ?_;clear N O Z c0 c1 c2 V L c5;rintro e w6 ⟨q6,T,aj⟩;cases X1 with
 | none=>subst aj;obtain rfl:R=none:=HR.out;exact ⟨rfl,q6,(G.out.step T).unto,rfl⟩
 | some u1 =>
 obtain ⟨rfl,ai⟩:=aj;have Q:Hid (zr r q w A q6 w6):=G.out.step T;have al:Hid (zy w0 r q6 (t++u0++[32,61,32]++u1) w6):=ai;clear T ai;have O:=ze ((Q.out.block (w.heap.size) (Nat.le_refl _) (by omega)).trans z.out.1)
 obtain ⟨c0,c1,c2,V,L,c5⟩:=zz ((Q.out.block (w.heap.size+1) (by omega) (by omega)).trans z.out.2.1)
 have Z:=ze ((Q.out.block (w.heap.size+2) (by omega) (by omega)).trans z.out.2.2)
 have N:=zx w0 r q6 (t++u0++[32,61,32]++u1) [59,10] w6 al.out (by simp)
 go_wp2_with fail
 refine N.mono ?_;clear N O Z c0 c1 c2 V L c5;rintro e w7 ⟨q7,ae,rfl,ak⟩;have Y:Hid (zr r q w A q7 w7):=Q.out.step ae;have an:Hid (zy w0 r q7 (t++u0++[32,61,32]++u1++[59,10]) w7):=ak;clear ae ak;have O:=ze ((Y.out.block (w.heap.size) (Nat.le_refl _) (by omega)).trans z.out.1)
 obtain ⟨c0,c1,c2,V,L,c5⟩:=zz ((Y.out.block (w.heap.size+1) (by omega) (by omega)).trans z.out.2.1)
 have Z:=ze ((Y.out.block (w.heap.size+2) (by omega) (by omega)).trans z.out.2.2)
 obtain rfl:R=some (u0++([32,61,32]++(u1++([59,10])))):=HR.out;have HP:Hid (zo w0 r q t w (some (u0++([32,61,32]++(u1++([59,10]))))) (.returned (.tuple #[])) w7):=⟨q7,Y.out.unto,rfl,by have:=an.out;simpa only [List.append_assoc] using this⟩
 clear ab aw J ar G ah Q al Y an O Z c0 c1 c2 V L c5 az au HR z;go_wp2
 exact bodyPost_ret (v:=.tuple #[]) (by simp [results,Tryz.results142,go_sem]) rfl HP.out
theorem zia (w0:World) (d:Nat) (D:Int) (hD:D-1=(d:Int)) (hD1:1≤D) (hD2:D≤24) (_hT:ZE w0) (hX:yN w0 d) (s:List UInt8) (ce:Nat) (bb:Option Addr) (mb cb:Nat) (bl:Option Addr) (ml cl:Nat) (line:Int) (b o:Nat) (x:Ez) (g01:Int) (g02:List UInt8) (g03:Int) (g04:Option Addr) (g05 g06:Nat) (g07:Int) (hx0:Zy w0.heap.size w0 x (yz g01 g02 g03 g04 g05 g06 g07)) (hkid0:ZZ w0 b (o+0*5) g01 g02 g03 g04 g05 g06 g07) (es:List Ez) (hes:Zr (QR w0.heap.size w0) 5 w0.heap.size w0 es (some ⟨b,o,none⟩) 1 ce) (r:Nat) (q:Option Nat) (t:List UInt8) (w:World) (h:zy w0 r q t w) (hst:Ye 7 s es mb ml=true) (_hs:s.length≤100000000) :
  Calls Tryz.prog 142 #[.pointer (some ⟨r,0,none⟩),QT 7 s (some ⟨b,o,none⟩) 1 ce bb mb cb bl ml cl line,.int .i64 D] w (zo w0 r q t w (zc (prE d x) ((some [59,10])))):=by
 have ao:∀(fn:Fn) (first cap:Array Value) (w:World),(Instr.makeFunc fn first cap).run Tryz.prog w=.ok (.func fn first cap) w:=fun _ _ _ _=>rfl
 obtain ⟨R,hR⟩:∃R,R=zc (prE d x) ((some [59,10])):=⟨_,rfl⟩;rw [←hR];obtain ⟨z,aa⟩:∃z,z=stW w r 7 s (some ⟨b,o,none⟩) 1 ce bb mb cb bl ml cl line D:=⟨_,rfl⟩;obtain ⟨L,af,e0,e1,e2⟩:=YR w r 7 s (some ⟨b,o,none⟩) 1 ce bb mb cb bl ml cl line D;rw [←aa] at L af e0 e1 e2;have A:=h.below L;have ae:Hid (zr r q w z q z):=zr.start h L;have y:Hid (z.heap[w.heap.size]?=some (.cells #[.pointer (some ⟨r,0,none⟩)] 85 (0,0))∧z.heap[w.heap.size+1]?=some (VK 7 s (some ⟨b,o,none⟩) 1 ce bb mb cb bl ml cl line)∧z.heap[w.heap.size+2]?=some (.cells #[.int .i64 D] 3 (0,0))):=⟨e0,e1,e2⟩;have ci:=Yx 7 s es (some ⟨b,o,none⟩) 1 ce bb mb cb bl ml cl line w0.heap.size z (hes.kept A.env fun _ _ h=>Zy.kept h A.env) A.env.size
 rw [hst] at ci;have al:Hid (zy w0 r q t z):=A;have an:=aa.symm;have U:=ze e0;obtain ⟨c0,c1,c2,V,T,Z⟩:=zz e1;have Y:=ze e2;have ap:(0:Int)<D:=by omega
 have am:Hid (∀(q2:Option Nat) (t2:List UInt8) (W:World),zy w0 r q2 t2 W→zr r q w z q2 W→Calls Tryz.prog 174 #[.int .i64 0,.pointer (some ⟨w.heap.size,0,none⟩),.pointer (some ⟨w.heap.size+1,0,none⟩),.pointer (some ⟨w.heap.size+2,0,none⟩)] W (zo w0 r q2 t2 W (prE d x))):=fun q2 t2 W h2 hL2=>vK w0 d D hD hD1 hD2 hX 0 x b o _ _ _ _ _ _ _ hx0 hkid0 _ _ _ r _ ce (by omega) (by omega) q2 t2 W h2 (ze ((hL2.block (w.heap.size) (Nat.le_refl _) (by omega)).trans y.out.1)) (zz ((hL2.block (w.heap.size+1) (by omega) (by omega)).trans y.out.2.1)).2.2.1 (ze ((hL2.block (w.heap.size+2) (by omega) (by omega)).trans y.out.2.2)) (fun k hk=>⟨by have:=hL2.hr;omega,fun e=>by have:=hL2.hq k e;omega⟩)
 generalize prE d x=X0 at *;have HR:Hid (R=zc X0 ((some [59,10]))):=hR;clear hR A e0 e1 e2 aa L h hes hst _hT hX hx0 hkid0
 go_enter Tryz.func142,Tryz.ntmps142
 go_wp2_with fail
 refine ci.mono ?_;clear ci U Y c0 c1 c2 V T Z;rintro e w2 ⟨rfl,Q⟩;have G:Hid (zr r q w z q w2):=ae.out.step (zT.below Q);have ai:Hid (zy w0 r q t w2):=al.out.below Q;clear Q;have ca:=z6 true w2;have U:=ze ((G.out.block (w.heap.size) (Nat.le_refl _) (by omega)).trans y.out.1)
 obtain ⟨c0,c1,c2,V,T,Z⟩:=zz ((G.out.block (w.heap.size+1) (by omega) (by omega)).trans y.out.2.1)
 have Y:=ze ((G.out.block (w.heap.size+2) (by omega) (by omega)).trans y.out.2.2)
 go_wp2_with fail
 refine ca.mono ?_;clear ca;rintro e w3 ⟨rfl,rfl⟩;simp only [xd];have N:Hid (zr r q w z q w3):=G.out;have aj:Hid (zy w0 r q t w3):=ai.out;clear ae al G ai;have cp:=am.out q (t) w3 aj.out N.out;go_wp2_with fail
 refine cp.mono ?_;clear cp U Y c0 c1 c2 V T Z;rintro e w4 ⟨q4,J,ag⟩;cases X0 with
 | none=>subst ag;obtain rfl:R=none:=HR.out;exact ⟨rfl,q4,(N.out.step J).unto,rfl⟩
 | some u0 =>
 obtain ⟨rfl,ad⟩:=ag;have H:Hid (zr r q w z q4 w4):=N.out.step J;have ah:Hid (zy w0 r q4 (t++u0) w4):=ad;clear J ad;have U:=ze ((H.out.block (w.heap.size) (Nat.le_refl _) (by omega)).trans y.out.1)
 obtain ⟨c0,c1,c2,V,T,Z⟩:=zz ((H.out.block (w.heap.size+1) (by omega) (by omega)).trans y.out.2.1)
 have Y:=ze ((H.out.block (w.heap.size+2) (by omega) (by omega)).trans y.out.2.2)
 have cp:=zx w0 r q4 (t++u0) [59,10] w4 ah.out (by simp)
 go_wp2_with fail
 refine cp.mono ?_;clear cp U Y c0 c1 c2 V T Z;rintro e w5 ⟨q5,O,rfl,ak⟩;have I:Hid (zr r q w z q5 w5):=H.out.step O;have ab:Hid (zy w0 r q5 (t++u0++[59,10]) w5):=ak;clear O ak;have U:=ze ((I.out.block (w.heap.size) (Nat.le_refl _) (by omega)).trans y.out.1)
 obtain ⟨c0,c1,c2,V,T,Z⟩:=zz ((I.out.block (w.heap.size+1) (by omega) (by omega)).trans y.out.2.1)
 have Y:=ze ((I.out.block (w.heap.size+2) (by omega) (by omega)).trans y.out.2.2)
 obtain rfl:R=some (u0++([59,10])):=HR.out;have HP:Hid (zo w0 r q t w (some (u0++([59,10]))) (.returned (.tuple #[])) w5):=⟨q5,I.out.unto,rfl,by have:=ab.out;simpa only [List.append_assoc] using this⟩
 clear N aj H ah I ab U Y c0 c1 c2 V T Z am HR y;go_wp2
 exact bodyPost_ret (v:=.tuple #[]) (by simp [results,Tryz.results142,go_sem]) rfl HP.out
theorem zgM (w0:World) (d:Nat) (D:Int) (hD:D-1=(d:Int)) (_hD1:1≤D) (hD2:D≤24) (_hT:ZE w0) (_hX:yN w0 d) (s:List UInt8) (be:Option Addr) (ce:Nat) (bb:Option Addr) (mb cb:Nat) (bl:Option Addr) (ml cl:Nat) (line:Int) (es:List Ez) (hes:Zr (QR w0.heap.size w0) 5 w0.heap.size w0 es be 0 ce) (r:Nat) (q:Option Nat) (t:List UInt8) (w:World) (h:zy w0 r q t w) (hst:Ye 6 s es mb ml=true) :
  Calls Tryz.prog 142 #[.pointer (some ⟨r,0,none⟩),QT 6 s be 0 ce bb mb cb bl ml cl line,.int .i64 D] w (zo w0 r q t w (zc (some [114,101,116,117,114,110]) (some [59,10]))):=by
 have ai:∀(fn:Fn) (first cap:Array Value) (w:World),(Instr.makeFunc fn first cap).run Tryz.prog w=.ok (.func fn first cap) w:=fun _ _ _ _=>rfl
 obtain ⟨R,hR⟩:∃R,R=zc (some [114,101,116,117,114,110]) (some [59,10]):=⟨_,rfl⟩;rw [←hR];obtain ⟨z,O⟩:∃z,z=stW w r 6 s be 0 ce bb mb cb bl ml cl line D:=⟨_,rfl⟩;obtain ⟨H,V,e0,e1,e2⟩:=YR w r 6 s be 0 ce bb mb cb bl ml cl line D;rw [←O] at H V e0 e1 e2;have A:=h.below H;have U:Hid (zr r q w z q z):=zr.start h H;have y:Hid (z.heap[w.heap.size]?=some (.cells #[.pointer (some ⟨r,0,none⟩)] 85 (0,0))∧z.heap[w.heap.size+1]?=some (VK 6 s be 0 ce bb mb cb bl ml cl line)∧z.heap[w.heap.size+2]?=some (.cells #[.int .i64 D] 3 (0,0))):=⟨e0,e1,e2⟩;have ci:=Yx 6 s es be 0 ce bb mb cb bl ml cl line w0.heap.size z (hes.kept A.env fun _ _ h=>Zy.kept h A.env) A.env.size
 rw [hst] at ci;have af:Hid (zy w0 r q t z):=A;have ah:=O.symm;have N:=ze e0;obtain ⟨c0,c1,c2,c3,Y,c5⟩:=zz e1;have b2:=ze e2;have aj:(0:Int)<D:=by omega
 have HR:Hid (R=zc (some [114,101,116,117,114,110]) (some [59,10])):=hR;clear hR A e0 e1 e2 O H h hes hst _hT _hX
 go_enter Tryz.func142,Tryz.ntmps142
 go_wp2_with fail
 refine ci.mono ?_;clear ci N b2 c0 c1 c2 c3 Y c5;rintro e w2 ⟨rfl,L⟩;have G:Hid (zr r q w z q w2):=U.out.step (zT.below L);have aa:Hid (zy w0 r q t w2):=af.out.below L;clear L;have ca:=z6 true w2;have N:=ze ((G.out.block (w.heap.size) (Nat.le_refl _) (by omega)).trans y.out.1)
 obtain ⟨c0,c1,c2,c3,Y,c5⟩:=zz ((G.out.block (w.heap.size+1) (by omega) (by omega)).trans y.out.2.1)
 have b2:=ze ((G.out.block (w.heap.size+2) (by omega) (by omega)).trans y.out.2.2)
 go_wp2_with fail
 refine ca.mono ?_;clear ca;rintro e w3 ⟨rfl,rfl⟩;simp only [xd];have ad:Hid (zr r q w z q w3):=G.out;have ab:Hid (zy w0 r q t w3):=aa.out;clear U af G aa;have Z:=zx w0 r q (t) [114,101,116,117,114,110] w3 ab.out (by simp)
 go_wp2_with fail
 refine Z.mono ?_;clear Z N b2 c0 c1 c2 c3 Y c5;rintro e w4 ⟨Q,J,rfl,T⟩;have o:Hid (zr r q w z Q w4):=ad.out.step J;have W:Hid (zy w0 r Q (t++[114,101,116,117,114,110]) w4):=T;clear J T;have N:=ze ((o.out.block (w.heap.size) (Nat.le_refl _) (by omega)).trans y.out.1)
 obtain ⟨c0,c1,c2,c3,Y,c5⟩:=zz ((o.out.block (w.heap.size+1) (by omega) (by omega)).trans y.out.2.1)
 have b2:=ze ((o.out.block (w.heap.size+2) (by omega) (by omega)).trans y.out.2.2)
 go_wp2_with fail
 go_loopw [54] (fun i wr=>i=.int .i64 0∧zr r q w z Q wr∧zy w0 r Q (t++[114,101,116,117,114,110]) wr) (fun _ _=>0)
 case atStart=>exact ⟨rfl,o.out,W.out⟩
 case round =>
  obtain ⟨rfl,hL,ag⟩:=hrel;clear N b2 c0 c1 c2 c3 Y c5 ad ab o W;have o:Hid (zr r q w z Q wr):=hL;have N:=ze ((hL.block (w.heap.size) (Nat.le_refl _) (by omega)).trans y.out.1)
  have Z:=zx w0 r Q (t++[114,101,116,117,114,110]) [59,10] wr ag (by simp)
  clear hL ag;go_wp2_with fail
  refine Z.mono ?_;clear Z N;rintro e w5 ⟨q5,I,rfl,ae⟩;obtain rfl:R=some ([114,101,116,117,114,110]++[59,10]):=HR.out;have HP:Hid (zo w0 r q t w (some ([114,101,116,117,114,110]++[59,10])) (.returned (.tuple #[])) w5):=⟨q5,(o.out.step I).unto,rfl,by simpa only [List.append_assoc] using ae⟩
  clear I ae o HR y;go_wp2
  exact bodyPost_ret (v:=.tuple #[]) (by simp [results,Tryz.results142,go_sem]) rfl HP.out
theorem zgN (w0:World) (d:Nat) (D:Int) (hD:D-1=(d:Int)) (_hD1:1≤D) (hD2:D≤24) (_hT:ZE w0) (hX:yN w0 d) (s:List UInt8) (ce:Nat) (bb:Option Addr) (mb cb:Nat) (bl:Option Addr) (ml cl:Nat) (line:Int) (b o:Nat) (x:Ez) (g01:Int) (g02:List UInt8) (g03:Int) (g04:Option Addr) (g05 g06:Nat) (g07:Int) (hx0:Zy w0.heap.size w0 x (yz g01 g02 g03 g04 g05 g06 g07)) (hkid0:ZZ w0 b (o+0*5) g01 g02 g03 g04 g05 g06 g07) (es:List Ez) (hes:Zr (QR w0.heap.size w0) 5 w0.heap.size w0 es (some ⟨b,o,none⟩) 1 ce) (r:Nat) (q:Option Nat) (t:List UInt8) (w:World) (h:zy w0 r q t w) (hst:Ye 6 s es mb ml=true) :
  Calls Tryz.prog 142 #[.pointer (some ⟨r,0,none⟩),QT 6 s (some ⟨b,o,none⟩) 1 ce bb mb cb bl ml cl line,.int .i64 D] w (zo w0 r q t w (zc (some [114,101,116,117,114,110]) (zc (some [32]) (zc (prE d x) (some [59,10]))))):=by
 have aH:∀(fn:Fn) (first cap:Array Value) (w:World),(Instr.makeFunc fn first cap).run Tryz.prog w=.ok (.func fn first cap) w:=fun _ _ _ _=>rfl
 obtain ⟨R,hR⟩:∃R,R=zc (some [114,101,116,117,114,110]) (zc (some [32]) (zc (prE d x) (some [59,10]))):=⟨_,rfl⟩;rw [←hR];obtain ⟨z,ag⟩:∃z,z=stW w r 6 s (some ⟨b,o,none⟩) 1 ce bb mb cb bl ml cl line D:=⟨_,rfl⟩;obtain ⟨W,aq,e0,e1,e2⟩:=YR w r 6 s (some ⟨b,o,none⟩) 1 ce bb mb cb bl ml cl line D;rw [←ag] at W aq e0 e1 e2;have N:=h.below W;have aj:Hid (zr r q w z q z):=zr.start h W;have y:Hid (z.heap[w.heap.size]?=some (.cells #[.pointer (some ⟨r,0,none⟩)] 85 (0,0))∧z.heap[w.heap.size+1]?=some (VK 6 s (some ⟨b,o,none⟩) 1 ce bb mb cb bl ml cl line)∧z.heap[w.heap.size+2]?=some (.cells #[.int .i64 D] 3 (0,0))):=⟨e0,e1,e2⟩;have ci:=Yx 6 s es (some ⟨b,o,none⟩) 1 ce bb mb cb bl ml cl line w0.heap.size z (hes.kept N.env fun _ _ h=>Zy.kept h N.env) N.env.size
 rw [hst] at ci;have am:Hid (zy w0 r q t z):=N;have aF:=ag.symm;have Q:=ze e0;obtain ⟨c0,c1,c2,c3,c4,c5⟩:=zz e1;have Y:=ze e2;have aI:(0:Int)<D:=by omega
 have af:Hid (∀(q:Option Nat) (t:List UInt8) (w:World),zy w0 r q t w→Calls Tryz.prog 42 #[.pointer (some ⟨r,0,none⟩),yz g01 g02 g03 g04 g05 g06 g07,.int .i64 (d:Int)] w (zo w0 r q t w (prE d x))):=fun q t w h=>hX _ _ r q t w hx0 h
 have ao:Hid (ZZ w0 b (o+0*5) g01 g02 g03 g04 g05 g06 g07):=hkid0;generalize prE d x=X0 at *;have HR:Hid (R=zc (some [114,101,116,117,114,110]) (zc (some [32]) (zc X0 (some [59,10])))):=hR;clear hR N e0 e1 e2 ag W h hes hst _hT hX hx0 hkid0
 go_enter Tryz.func142,Tryz.ntmps142
 go_wp2_with fail
 refine ci.mono ?_;clear ci Q Y c0 c1 c2 c3 c4 c5;rintro e w2 ⟨rfl,ad⟩;have O:Hid (zr r q w z q w2):=aj.out.step (zT.below ad);have ax:Hid (zy w0 r q t w2):=am.out.below ad;clear ad;have ca:=z6 true w2;have Q:=ze ((O.out.block (w.heap.size) (Nat.le_refl _) (by omega)).trans y.out.1)
 obtain ⟨c0,c1,c2,c3,c4,c5⟩:=zz ((O.out.block (w.heap.size+1) (by omega) (by omega)).trans y.out.2.1)
 have Y:=ze ((O.out.block (w.heap.size+2) (by omega) (by omega)).trans y.out.2.2)
 go_wp2_with fail
 refine ca.mono ?_;clear ca;rintro e w3 ⟨rfl,rfl⟩;simp only [xd];have al:Hid (zr r q w z q w3):=O.out;have ay:Hid (zy w0 r q t w3):=ax.out;clear aj am O ax;have I:=zx w0 r q (t) [114,101,116,117,114,110] w3 ay.out (by simp)
 go_wp2_with fail
 refine I.mono ?_;clear I Q Y c0 c1 c2 c3 c4 c5;rintro e w4 ⟨q4,aa,rfl,ap⟩;have A:Hid (zr r q w z q4 w4):=al.out.step aa;have av:Hid (zy w0 r q4 (t++[114,101,116,117,114,110]) w4):=ap;clear aa ap;have Q:=ze ((A.out.block (w.heap.size) (Nat.le_refl _) (by omega)).trans y.out.1)
 obtain ⟨c0,c1,c2,c3,c4,c5⟩:=zz ((A.out.block (w.heap.size+1) (by omega) (by omega)).trans y.out.2.1)
 have Y:=ze ((A.out.block (w.heap.size+2) (by omega) (by omega)).trans y.out.2.2)
 go_wp2_with fail
 go_loopw [54] (fun i wr=>∃(k:Nat) (q1:Option Nat) (s1:List UInt8),k≤1∧i=.int .i64 k∧zr r q w z q1 wr∧(if k=0 then some [] else zc (some [32]) X0)=some s1∧zy w0 r q1 (t++[114,101,116,117,114,110]++s1) wr) (fun i _=>1-(intOf i).toNat)
 case atStart=>exact ⟨0,q4,[],Nat.zero_le _,rfl,A.out,rfl,by rw [List.append_nil];exact av.out⟩
 case round =>
  obtain ⟨k,q1,s1,hk,rfl,hL,Z,H⟩:=hrel;clear Q Y c0 c1 c2 c3 c4 c5 al ay A av
  by_cases hlt:k<1
  ·obtain rfl:k=0:=by omega
   obtain rfl:s1=[]:=by simpa using Z.symm
   clear Z;rw [List.append_nil] at H;obtain ⟨n0,n1,n2,n3,n4⟩:=ao.out.now H.env;rw [Nat.zero_mul,Nat.add_zero] at n0 n1 n2 n3 n4;obtain ⟨w5,G⟩:∃w5,w5=wr.alloc (YD g01 g02 g03 g04 g05 g06 g07):=⟨_,rfl⟩;have p5:w5.heap[wr.heap.size]?=some (YD g01 g02 g03 g04 g05 g06 g07):=by rw [G];exact World.alloc_heap_new wr _
   have aD:w5.heap.size=wr.heap.size+1:=by rw [G];simp
   have ae:Below wr.heap.size wr w5:=by rw [G];exact (Below.refl _ wr).alloc (Nat.le_refl _) _
   have V:Hid (zr r q w z q1 w5):=hL.step (zT.below ae);have an:Hid (zy w0 r q1 (t++[114,101,116,117,114,110]) w5):=H.below ae;have aw:Hid (w5.heap[wr.heap.size]?=some (YD g01 g02 g03 g04 g05 g06 g07)):=p5;have aE:=H.lt.1;have ak:=H.lt.2;have Q:=ze ((V.out.block (w.heap.size) (Nat.le_refl _) (by omega)).trans y.out.1)
   have Y:=ze ((V.out.block (w.heap.size+2) (by omega) (by omega)).trans y.out.2.2)
   have aB:=ze ((hL.block (w.heap.size) (Nat.le_refl _) (by omega)).trans y.out.1)
   have aC:=ze ((hL.block (w.heap.size+2) (by omega) (by omega)).trans y.out.2.2)
   obtain ⟨d0,d1,d2,d3,d4⟩:=zI p5;have I:=zx w0 r q1 (t++[114,101,116,117,114,110]) [32] w5 an.out (by simp)
   have aG:=G.symm;clear hL H ae G p5;go_wp2_with fail
   refine I.mono ?_;clear I Q Y aB aC d0 d1 d2 d3 d4 n0 n1 n2 n3 n4;rintro e w6 ⟨q6,J,rfl,ah⟩;have L:w6.heap[wr.heap.size]?=w5.heap[wr.heap.size]?:=J.block _ (by omega) (by omega) (fun e=>by have:=ak _ e;omega)
   obtain ⟨d0,d1,d2,d3,d4⟩:=zI (L.trans aw.out);have T:Hid (zr r q w z q6 w6):=V.out.step J;have Q:=ze ((T.out.block (w.heap.size) (Nat.le_refl _) (by omega)).trans y.out.1)
   have Y:=ze ((T.out.block (w.heap.size+2) (by omega) (by omega)).trans y.out.2.2)
   have I:=af.out q6 (t++[114,101,116,117,114,110]++[32]) w6 ah;clear J ah L;go_wp2_with fail
   refine I.mono ?_;clear I Q Y d0 d1 d2 d3 d4;rintro e w7 ⟨q7,U,au⟩;cases X0 with
   | none=>subst au;obtain rfl:R=none:=HR.out;exact ⟨rfl,q7,(T.out.step U).unto,rfl⟩
   | some u0 =>
   obtain ⟨rfl,ai⟩:=au;have ar:Hid (∃(k':Nat) (q':Option Nat) (s':List UInt8),k'=1∧zr r q w z q' w7∧(if k'=0 then some [] else zc (some [32]) (some u0))=some s'∧zy w0 r q' (t++[114,101,116,117,114,110]++s') w7):=⟨1,q7,[32]++u0,rfl,T.out.step U,rfl,by rw [←List.append_assoc];exact ai⟩
   clear U ai V T an aw af;go_wp2
   obtain ⟨k',q',s',rfl,h1,h2,h3⟩:=ar.out;exact ⟨⟨1,q',s',by omega,by go_num,h1,h2,h3⟩,by simp [intOf]⟩
  ·obtain rfl:k=1:=by omega
   have A:Hid (zr r q w z q1 wr):=hL;have Q:=ze ((hL.block (w.heap.size) (Nat.le_refl _) (by omega)).trans y.out.1)
   have I:=zx w0 r q1 (t++[114,101,116,117,114,110]++s1) [59,10] wr H (by simp)
   have az:Hid (zc (some [32]) X0=some s1):=show _=_ by simpa using Z
   clear hL H Z;go_wp2_with fail
   refine I.mono ?_;clear I Q;rintro e w5 ⟨q5,ab,rfl,G⟩
   have aA:R=some ([114,101,116,117,114,110]++(s1++[59,10])):=by
    rw [HR.out,←uF (some [32]),az.out];rfl
   subst aA;have HP:Hid (zo w0 r q t w (some ([114,101,116,117,114,110]++(s1++[59,10]))) (.returned (.tuple #[])) w5):=⟨q5,(A.out.step ab).unto,rfl,by simpa only [List.append_assoc] using G⟩
   clear ab G A HR y az af ao;go_wp2
   exact bodyPost_ret (v:=.tuple #[]) (by simp [results,Tryz.results142,go_sem]) rfl HP.out
theorem zib (w0:World) (d:Nat) (D:Int) (hD:D-1=(d:Int)) (_hD1:1≤D) (hD2:D≤24) (_hT:ZE w0) (_hX:yN w0 d) (s:List UInt8) (be:Option Addr) (me ce:Nat) (bb:Option Addr) (mb cb:Nat) (bl:Option Addr) (ml cl:Nat) (line:Int) (es:List Ez) (hes:Zr (QR w0.heap.size w0) 5 w0.heap.size w0 es be me ce) (r:Nat) (q:Option Nat) (t:List UInt8) (w:World) (h:zy w0 r q t w) (hst:Ye 3 s es mb ml=true) (X:Option (List UInt8)) (hS:Hid (∀(q:Option Nat) (t:List UInt8) (w:World),zy w0 r q t w→Calls Tryz.prog 175 #[.pointer (some ⟨r,0,none⟩),QT 3 s be me ce bb mb cb bl ml cl line,.int .i64 D] w (zo w0 r q t w X))) :
  Calls Tryz.prog 142 #[.pointer (some ⟨r,0,none⟩),QT 3 s be me ce bb mb cb bl ml cl line,.int .i64 D] w (zo w0 r q t w (X)):=by
 have af:∀(fn:Fn) (first cap:Array Value) (w:World),(Instr.makeFunc fn first cap).run Tryz.prog w=.ok (.func fn first cap) w:=fun _ _ _ _=>rfl
 obtain ⟨R,hR⟩:∃R,R=X:=⟨_,rfl⟩;rw [←hR];obtain ⟨y,N⟩:∃y,y=stW w r 3 s be me ce bb mb cb bl ml cl line D:=⟨_,rfl⟩;obtain ⟨I,T,e0,e1,e2⟩:=YR w r 3 s be me ce bb mb cb bl ml cl line D;rw [←N] at I T e0 e1 e2;have z:=h.below I;have Q:Hid (zr r q w y q y):=zr.start h I;have o:Hid (y.heap[w.heap.size]?=some (.cells #[.pointer (some ⟨r,0,none⟩)] 85 (0,0))∧y.heap[w.heap.size+1]?=some (VK 3 s be me ce bb mb cb bl ml cl line)∧y.heap[w.heap.size+2]?=some (.cells #[.int .i64 D] 3 (0,0))):=⟨e0,e1,e2⟩;have ci:=Yx 3 s es be me ce bb mb cb bl ml cl line w0.heap.size y (hes.kept z.env fun _ _ h=>Zy.kept h z.env) z.env.size
 rw [hst] at ci;have ab:Hid (zy w0 r q t y):=z;have ae:=N.symm;have Z:=ze e0;obtain ⟨c0,c1,c2,c3,W,c5⟩:=zz e1;have b2:=ze e2;have ag:(0:Int)<D:=by omega
 have ad:=hS;clear hS;generalize X=X0 at *;have HR:Hid (R=X0):=hR;clear hR z e0 e1 e2 N I h hes hst _hT _hX
 go_enter Tryz.func142,Tryz.ntmps142
 go_wp2_with fail
 refine ci.mono ?_;clear ci Z b2 c0 c1 c2 c3 W c5;rintro e w2 ⟨rfl,J⟩;have A:Hid (zr r q w y q w2):=Q.out.step (zT.below J);have Y:Hid (zy w0 r q t w2):=ab.out.below J;clear J;have ca:=z6 true w2;have Z:=ze ((A.out.block (w.heap.size) (Nat.le_refl _) (by omega)).trans o.out.1)
 obtain ⟨c0,c1,c2,c3,W,c5⟩:=zz ((A.out.block (w.heap.size+1) (by omega) (by omega)).trans o.out.2.1)
 have b2:=ze ((A.out.block (w.heap.size+2) (by omega) (by omega)).trans o.out.2.2)
 go_wp2_with fail
 refine ca.mono ?_;clear ca;rintro e w3 ⟨rfl,rfl⟩;simp only [xd];have L:Hid (zr r q w y q w3):=A.out;have aa:Hid (zy w0 r q t w3):=Y.out;clear Q ab A Y;have cp:=ad.out q (t) w3 aa.out;go_wp2_with fail
 refine cp.mono ?_;clear cp Z b2 c0 c1 c2 c3 W c5;rintro e w4 ⟨q4,H,U⟩;cases X0 with
 | none=>subst U;obtain rfl:R=none:=HR.out;exact ⟨rfl,q4,(L.out.step H).unto,rfl⟩
 | some u0 =>
 obtain ⟨rfl,O⟩:=U;have G:Hid (zr r q w y q4 w4):=L.out.step H;have V:Hid (zy w0 r q4 (t++u0) w4):=O;clear H O;have Z:=ze ((G.out.block (w.heap.size) (Nat.le_refl _) (by omega)).trans o.out.1)
 obtain ⟨c0,c1,c2,c3,W,c5⟩:=zz ((G.out.block (w.heap.size+1) (by omega) (by omega)).trans o.out.2.1)
 have b2:=ze ((G.out.block (w.heap.size+2) (by omega) (by omega)).trans o.out.2.2)
 obtain rfl:R=some (u0):=HR.out;have HP:Hid (zo w0 r q t w (some (u0)) (.returned (.tuple #[])) w4):=⟨q4,G.out.unto,rfl,by have:=V.out;simpa only [List.append_assoc] using this⟩
 clear L aa G V Z b2 c0 c1 c2 c3 W c5 ad HR o;go_wp2
 exact bodyPost_ret (v:=.tuple #[]) (by simp [results,Tryz.results142,go_sem]) rfl HP.out
theorem zic (w0:World) (d:Nat) (D:Int) (hD:D-1=(d:Int)) (_hD1:1≤D) (hD2:D≤24) (_hT:ZE w0) (_hX:yN w0 d) (s:List UInt8) (be:Option Addr) (me ce:Nat) (bb:Option Addr) (mb cb:Nat) (bl:Option Addr) (ml cl:Nat) (line:Int) (es:List Ez) (hes:Zr (QR w0.heap.size w0) 5 w0.heap.size w0 es be me ce) (r:Nat) (q:Option Nat) (t:List UInt8) (w:World) (h:zy w0 r q t w) (hst:Ye 4 s es mb ml=true) (X:Option (List UInt8)) (hS:Hid (∀(q:Option Nat) (t:List UInt8) (w:World),zy w0 r q t w→Calls Tryz.prog 175 #[.pointer (some ⟨r,0,none⟩),QT 4 s be me ce bb mb cb bl ml cl line,.int .i64 D] w (zo w0 r q t w X))) :
  Calls Tryz.prog 142 #[.pointer (some ⟨r,0,none⟩),QT 4 s be me ce bb mb cb bl ml cl line,.int .i64 D] w (zo w0 r q t w (X)):=by
 have af:∀(fn:Fn) (first cap:Array Value) (w:World),(Instr.makeFunc fn first cap).run Tryz.prog w=.ok (.func fn first cap) w:=fun _ _ _ _=>rfl
 obtain ⟨R,hR⟩:∃R,R=X:=⟨_,rfl⟩;rw [←hR];obtain ⟨y,N⟩:∃y,y=stW w r 4 s be me ce bb mb cb bl ml cl line D:=⟨_,rfl⟩;obtain ⟨I,T,e0,e1,e2⟩:=YR w r 4 s be me ce bb mb cb bl ml cl line D;rw [←N] at I T e0 e1 e2;have z:=h.below I;have Q:Hid (zr r q w y q y):=zr.start h I;have o:Hid (y.heap[w.heap.size]?=some (.cells #[.pointer (some ⟨r,0,none⟩)] 85 (0,0))∧y.heap[w.heap.size+1]?=some (VK 4 s be me ce bb mb cb bl ml cl line)∧y.heap[w.heap.size+2]?=some (.cells #[.int .i64 D] 3 (0,0))):=⟨e0,e1,e2⟩;have ci:=Yx 4 s es be me ce bb mb cb bl ml cl line w0.heap.size y (hes.kept z.env fun _ _ h=>Zy.kept h z.env) z.env.size
 rw [hst] at ci;have ab:Hid (zy w0 r q t y):=z;have ae:=N.symm;have Z:=ze e0;obtain ⟨c0,c1,c2,c3,W,c5⟩:=zz e1;have b2:=ze e2;have ag:(0:Int)<D:=by omega
 have ad:=hS;clear hS;generalize X=X0 at *;have HR:Hid (R=X0):=hR;clear hR z e0 e1 e2 N I h hes hst _hT _hX
 go_enter Tryz.func142,Tryz.ntmps142
 go_wp2_with fail
 refine ci.mono ?_;clear ci Z b2 c0 c1 c2 c3 W c5;rintro e w2 ⟨rfl,J⟩;have A:Hid (zr r q w y q w2):=Q.out.step (zT.below J);have Y:Hid (zy w0 r q t w2):=ab.out.below J;clear J;have ca:=z6 true w2;have Z:=ze ((A.out.block (w.heap.size) (Nat.le_refl _) (by omega)).trans o.out.1)
 obtain ⟨c0,c1,c2,c3,W,c5⟩:=zz ((A.out.block (w.heap.size+1) (by omega) (by omega)).trans o.out.2.1)
 have b2:=ze ((A.out.block (w.heap.size+2) (by omega) (by omega)).trans o.out.2.2)
 go_wp2_with fail
 refine ca.mono ?_;clear ca;rintro e w3 ⟨rfl,rfl⟩;simp only [xd];have L:Hid (zr r q w y q w3):=A.out;have aa:Hid (zy w0 r q t w3):=Y.out;clear Q ab A Y;have cp:=ad.out q (t) w3 aa.out;go_wp2_with fail
 refine cp.mono ?_;clear cp Z b2 c0 c1 c2 c3 W c5;rintro e w4 ⟨q4,H,U⟩;cases X0 with
 | none=>subst U;obtain rfl:R=none:=HR.out;exact ⟨rfl,q4,(L.out.step H).unto,rfl⟩
 | some u0 =>
 obtain ⟨rfl,O⟩:=U;have G:Hid (zr r q w y q4 w4):=L.out.step H;have V:Hid (zy w0 r q4 (t++u0) w4):=O;clear H O;have Z:=ze ((G.out.block (w.heap.size) (Nat.le_refl _) (by omega)).trans o.out.1)
 obtain ⟨c0,c1,c2,c3,W,c5⟩:=zz ((G.out.block (w.heap.size+1) (by omega) (by omega)).trans o.out.2.1)
 have b2:=ze ((G.out.block (w.heap.size+2) (by omega) (by omega)).trans o.out.2.2)
 obtain rfl:R=some (u0):=HR.out;have HP:Hid (zo w0 r q t w (some (u0)) (.returned (.tuple #[])) w4):=⟨q4,G.out.unto,rfl,by have:=V.out;simpa only [List.append_assoc] using this⟩
 clear L aa G V Z b2 c0 c1 c2 c3 W c5 ad HR o;go_wp2
 exact bodyPost_ret (v:=.tuple #[]) (by simp [results,Tryz.results142,go_sem]) rfl HP.out
theorem zid (w0:World) (d:Nat) (D:Int) (hD:D-1=(d:Int)) (_hD1:1≤D) (hD2:D≤24) (_hT:ZE w0) (_hX:yN w0 d) (s:List UInt8) (be:Option Addr) (me ce:Nat) (bb:Option Addr) (mb cb:Nat) (bl:Option Addr) (ml cl:Nat) (line:Int) (es:List Ez) (hes:Zr (QR w0.heap.size w0) 5 w0.heap.size w0 es be me ce) (r:Nat) (q:Option Nat) (t:List UInt8) (w:World) (h:zy w0 r q t w) (hst:Ye 5 s es mb ml=true) (X:Option (List UInt8)) (hS:Hid (∀(q:Option Nat) (t:List UInt8) (w:World),zy w0 r q t w→Calls Tryz.prog 175 #[.pointer (some ⟨r,0,none⟩),QT 5 s be me ce bb mb cb bl ml cl line,.int .i64 D] w (zo w0 r q t w X))) :
  Calls Tryz.prog 142 #[.pointer (some ⟨r,0,none⟩),QT 5 s be me ce bb mb cb bl ml cl line,.int .i64 D] w (zo w0 r q t w (X)):=by
 have af:∀(fn:Fn) (first cap:Array Value) (w:World),(Instr.makeFunc fn first cap).run Tryz.prog w=.ok (.func fn first cap) w:=fun _ _ _ _=>rfl
 obtain ⟨R,hR⟩:∃R,R=X:=⟨_,rfl⟩;rw [←hR];obtain ⟨y,N⟩:∃y,y=stW w r 5 s be me ce bb mb cb bl ml cl line D:=⟨_,rfl⟩;obtain ⟨I,T,e0,e1,e2⟩:=YR w r 5 s be me ce bb mb cb bl ml cl line D;rw [←N] at I T e0 e1 e2;have z:=h.below I;have Q:Hid (zr r q w y q y):=zr.start h I;have o:Hid (y.heap[w.heap.size]?=some (.cells #[.pointer (some ⟨r,0,none⟩)] 85 (0,0))∧y.heap[w.heap.size+1]?=some (VK 5 s be me ce bb mb cb bl ml cl line)∧y.heap[w.heap.size+2]?=some (.cells #[.int .i64 D] 3 (0,0))):=⟨e0,e1,e2⟩;have ci:=Yx 5 s es be me ce bb mb cb bl ml cl line w0.heap.size y (hes.kept z.env fun _ _ h=>Zy.kept h z.env) z.env.size
 rw [hst] at ci;have ab:Hid (zy w0 r q t y):=z;have ae:=N.symm;have Z:=ze e0;obtain ⟨c0,c1,c2,c3,W,c5⟩:=zz e1;have b2:=ze e2;have ag:(0:Int)<D:=by omega
 have ad:=hS;clear hS;generalize X=X0 at *;have HR:Hid (R=X0):=hR;clear hR z e0 e1 e2 N I h hes hst _hT _hX
 go_enter Tryz.func142,Tryz.ntmps142
 go_wp2_with fail
 refine ci.mono ?_;clear ci Z b2 c0 c1 c2 c3 W c5;rintro e w2 ⟨rfl,J⟩;have A:Hid (zr r q w y q w2):=Q.out.step (zT.below J);have Y:Hid (zy w0 r q t w2):=ab.out.below J;clear J;have ca:=z6 true w2;have Z:=ze ((A.out.block (w.heap.size) (Nat.le_refl _) (by omega)).trans o.out.1)
 obtain ⟨c0,c1,c2,c3,W,c5⟩:=zz ((A.out.block (w.heap.size+1) (by omega) (by omega)).trans o.out.2.1)
 have b2:=ze ((A.out.block (w.heap.size+2) (by omega) (by omega)).trans o.out.2.2)
 go_wp2_with fail
 refine ca.mono ?_;clear ca;rintro e w3 ⟨rfl,rfl⟩;simp only [xd];have L:Hid (zr r q w y q w3):=A.out;have aa:Hid (zy w0 r q t w3):=Y.out;clear Q ab A Y;have cp:=ad.out q (t) w3 aa.out;go_wp2_with fail
 refine cp.mono ?_;clear cp Z b2 c0 c1 c2 c3 W c5;rintro e w4 ⟨q4,H,U⟩;cases X0 with
 | none=>subst U;obtain rfl:R=none:=HR.out;exact ⟨rfl,q4,(L.out.step H).unto,rfl⟩
 | some u0 =>
 obtain ⟨rfl,O⟩:=U;have G:Hid (zr r q w y q4 w4):=L.out.step H;have V:Hid (zy w0 r q4 (t++u0) w4):=O;clear H O;have Z:=ze ((G.out.block (w.heap.size) (Nat.le_refl _) (by omega)).trans o.out.1)
 obtain ⟨c0,c1,c2,c3,W,c5⟩:=zz ((G.out.block (w.heap.size+1) (by omega) (by omega)).trans o.out.2.1)
 have b2:=ze ((G.out.block (w.heap.size+2) (by omega) (by omega)).trans o.out.2.2)
 obtain rfl:R=some (u0):=HR.out;have HP:Hid (zo w0 r q t w (some (u0)) (.returned (.tuple #[])) w4):=⟨q4,G.out.unto,rfl,by have:=V.out;simpa only [List.append_assoc] using this⟩
 clear L aa G V Z b2 c0 c1 c2 c3 W c5 ad HR o;go_wp2
 exact bodyPost_ret (v:=.tuple #[]) (by simp [results,Tryz.results142,go_sem]) rfl HP.out
theorem zie (w0:World) (d:Nat) (D:Int) (hD:D-1=(d:Int)) (_hD1:1≤D) (hD2:D≤24) (_hT:ZE w0) (_hX:yN w0 d) (s:List UInt8) (be:Option Addr) (me ce:Nat) (bb:Option Addr) (mb cb:Nat) (bl:Option Addr) (ml cl:Nat) (line:Int) (es:List Ez) (hes:Zr (QR w0.heap.size w0) 5 w0.heap.size w0 es be me ce) (r:Nat) (q:Option Nat) (t:List UInt8) (w:World) (h:zy w0 r q t w) (k:Int) (hst:Ye k s es mb ml=false) :
  Calls Tryz.prog 142 #[.pointer (some ⟨r,0,none⟩),QT k s be me ce bb mb cb bl ml cl line,.int .i64 D] w (zo w0 r q t w ((none:Option (List UInt8)))):=by
 have ab:∀(fn:Fn) (first cap:Array Value) (w:World),(Instr.makeFunc fn first cap).run Tryz.prog w=.ok (.func fn first cap) w:=fun _ _ _ _=>rfl
 obtain ⟨R,Q⟩:∃R,R=(none:Option (List UInt8)):=⟨_,rfl⟩;rw [←Q];obtain ⟨y,I⟩:∃y,y=stW w r k s be me ce bb mb cb bl ml cl line D:=⟨_,rfl⟩;obtain ⟨A,J,N,L,O⟩:=YR w r k s be me ce bb mb cb bl ml cl line D;rw [←I] at A J N L O;have o:=h.below A;have T:Hid (zr r q w y q y):=zr.start h A;have H:Hid (y.heap[w.heap.size]?=some (.cells #[.pointer (some ⟨r,0,none⟩)] 85 (0,0))∧y.heap[w.heap.size+1]?=some (VK k s be me ce bb mb cb bl ml cl line)∧y.heap[w.heap.size+2]?=some (.cells #[.int .i64 D] 3 (0,0))):=⟨N,L,O⟩;have U:=Yx k s es be me ce bb mb cb bl ml cl line w0.heap.size y (hes.kept o.env fun _ _ h=>Zy.kept h o.env) o.env.size
 rw [hst] at U;have W:Hid (zy w0 r q t y):=o;have aa:=I.symm;have b0:=ze N;obtain ⟨c0,c1,c2,c3,Z,c5⟩:=zz L;have b2:=ze O;have ae:(0:Int)<D:=by omega
 have HR:Hid (R=none):=Q;clear Q o N L O I A h hes hst _hT _hX
 go_enter Tryz.func142,Tryz.ntmps142
 go_wp2_with fail
 refine U.mono ?_;clear U b0 b2 c0 c1 c2 c3 Z c5;rintro e V ⟨rfl,G⟩;have z:Hid (zr r q w y q V):=T.out.step (zT.below G);have ad:Hid (zy w0 r q t V):=W.out.below G;clear G;have Y:=z6 false V;have b0:=ze ((z.out.block (w.heap.size) (Nat.le_refl _) (by omega)).trans H.out.1)
 obtain ⟨c0,c1,c2,c3,Z,c5⟩:=zz ((z.out.block (w.heap.size+1) (by omega) (by omega)).trans H.out.2.1)
 have b2:=ze ((z.out.block (w.heap.size+2) (by omega) (by omega)).trans H.out.2.2)
 go_wp2_with fail
 refine Y.mono ?_;clear Y;rintro e w3 ⟨rfl,rfl⟩;obtain rfl:=HR.out;exact ⟨rfl,q,z.out.unto,rfl⟩
theorem zfi (w0:World) (k:Int) (s:List UInt8) (be:Option Addr) (me ce:Nat) (bb:Option Addr) (mb cb:Nat) (bl:Option Addr) (ml cl:Nat) (line:Int) (r:Nat) (q:Option Nat) (t:List UInt8) (w:World) (h:zy w0 r q t w) :
  Calls Tryz.prog 142 #[.pointer (some ⟨r,0,none⟩),QT k s be me ce bb mb cb bl ml cl line,.int .i64 0] w (zo w0 r q t w none):=by
 obtain ⟨z,o⟩:∃z,z=stW w r k s be me ce bb mb cb bl ml cl line 0:=⟨_,rfl⟩;obtain ⟨y,A,J,L,D⟩:=YR w r k s be me ce bb mb cb bl ml cl line 0;rw [←o] at y A J L D;have G:Hid (zr r q w z q z):=zr.start h y;have I:=o.symm;have O:=ze D;have H:=z6 false z;clear y J L D o h
 go_enter Tryz.func142,Tryz.ntmps142
 go_wp2_with fail
 refine H.mono ?_;clear H;rintro e N ⟨rfl,rfl⟩;exact ⟨rfl,q,G.out.unto,rfl⟩
end Go.Proofs.YtpejpbbdgblbeaaGreatDoor
