import Derived.Test.YtpejpbbdgblbeaaGreatDoorMC10
namespace Go.Proofs.YtpejpbbdgblbeaaGreatDoor
open Go.RowKit Go.Shelf
set_option maxHeartbeats 16000000
set_option maxRecDepth 100000
theorem uc (w0:World) (d:Nat) (D:Int) (hD:D-1=(d:Int)) (_hD1:1≤D) (hD2:D≤24) (hX:yN w0 d) (x:Ez) (v:Value) (bw bd r:Nat) (q:Option Nat) (t:List UInt8) (w:World) (hx:Zy w0.heap.size w0 x v) (h:zy w0 r q t w) (hcw:w.cell? ⟨bw,0,none⟩=some (.pointer (some ⟨r,0,none⟩))) (hcd:w.cell? ⟨bd,0,none⟩=some (.int .i64 D)) :
  Calls Tryz.prog 79 #[v,.pointer (some ⟨bw,0,none⟩),.pointer (some ⟨bd,0,none⟩)] w (zo w0 r q t w (prE d x)):=by
 have O:=hx;obtain ⟨k,s,n,kids,line,A,R,b,o,us,hs,ab,aa,L,Q,hc,hm,J,I,hk⟩:=hx;obtain ⟨w1,y⟩:∃w1,w1=w.alloc (YD k s n A kids.length R line):=⟨_,rfl⟩;have G:Below w.heap.size w w1:=by rw [y];exact (Below.refl _ w).alloc (Nat.le_refl _) _
 have U:w1.heap[w.heap.size]?=some (YD k s n A kids.length R line):=by rw [y];exact World.alloc_heap_new w _
 have Y:=hX _ _ r q t w1 O (h.below G);have d1:w1.cell? ⟨bw,0,none⟩=some (.pointer (some ⟨r,0,none⟩)):=by rw [y];exact zl hcw _
 have d2:w1.cell? ⟨bd,0,none⟩=some (.int .i64 D):=by rw [y];exact zl hcd _
 have H:Hid (zT r q w q w1):=zT.below G;generalize prE d (.mk k s n kids line)=X at *;generalize kids.length=m at *;obtain ⟨c0,c1,c2,c3,c4⟩:=zI U;have W:=y.symm;clear y U G h O hX L Q hc J I hk hcw hcd
 go_enter Tryz.func79,Tryz.ntmps79
 go_wp2_with fail
 refine Y.mono ?_;clear Y;rintro e w2 ⟨T,z,V⟩;cases X with
 | none=>subst V;exact ⟨rfl,T,H.out.trans z,rfl⟩
 | some u =>
  obtain ⟨rfl,N⟩:=V;have Z:Hid (zo w0 r q t w (some u) (.returned (.tuple #[])) w2):=⟨T,H.out.trans z,rfl,N⟩;clear z N H c0 c1 c2 c3 c4 d1 d2;go_wp2
  exact bodyPost_ret (v:=.tuple #[]) (by simp [results,Tryz.results79,go_sem]) rfl Z.out
abbrev QQ (w:World) (r:Nat) (k:Int) (s:List UInt8) (n:Int) (base:Option Addr) (m cap:Nat) (line D:Int):World:=((w.alloc (.cells #[.pointer (some ⟨r,0,none⟩)] 85)).alloc (YD k s n base m cap line)).alloc (.cells #[.int .i64 D] 3)
theorem yO (w:World) (r:Nat) (k:Int) (s:List UInt8) (n:Int) (base:Option Addr) (m cap:Nat) (line D:Int) :
  Below w.heap.size w (QQ w r k s n base m cap line D)∧(QQ w r k s n base m cap line D).heap.size=w.heap.size+3∧(QQ w r k s n base m cap line D).heap[w.heap.size]?=some (.cells #[.pointer (some ⟨r,0,none⟩)] 85 (0,0))∧(QQ w r k s n base m cap line D).heap[w.heap.size+1]?=some (YD k s n base m cap line)∧(QQ w r k s n base m cap line D).heap[w.heap.size+2]?=some (.cells #[.int .i64 D] 3 (0,0)):=by
 refine ⟨(((Below.refl _ w).alloc (Nat.le_refl _) _).alloc (by simp) _).alloc (by simp <;> omega) _,by simp,?_,?_,?_⟩
 ·rw [Below.heap_alloc _ _ _ (by simp <;> omega),Below.heap_alloc _ _ _ (by simp)];exact World.alloc_heap_new _ _
 ·rw [Below.heap_alloc _ _ _ (by simp)]
  have:=World.alloc_heap_new (w.alloc (.cells #[.pointer (some ⟨r,0,none⟩)] 85)) (YD k s n base m cap line)
  simpa using this
 ·have:=World.alloc_heap_new ((w.alloc (.cells #[.pointer (some ⟨r,0,none⟩)] 85)).alloc (YD k s n base m cap line)) (.cells #[.int .i64 D] 3)
  simpa using this
theorem ze {w:World} {N:Nat} {v:Value} {ty:TypeId} (p:w.heap[N]?=some (.cells #[v] ty (0,0))):w.cell? ⟨N,0,none⟩=some v:=by simp only [World.cell?,p];rfl
theorem ZC.env {w0 w:World} (h:ZC w0) (hb:Below w0.heap.size w0 w):ZC w:=fun j v hj=>by rw [hb.cell (World.block_lt_of_cell? w0 _ (h j v hj))];exact h j v hj
theorem zhU (w0:World) (D:Int) (hD1:1≤D) (hD2:D≤24) (hT:ZE w0) (hl:ZC w0) (s:List UInt8) (n line:Int) (base:Option Addr) (m cap r:Nat) (q:Option Nat) (t:List UInt8) (w:World) (h:zy w0 r q t w) (hex:yQ 1 s n m=true) (hn0:-9223372036854775808≤n) (hn1:n≤9223372036854775807) :
  Calls Tryz.prog 42 #[.pointer (some ⟨r,0,none⟩),yz 1 s n base m cap line,.int .i64 D] w (zo w0 r q t w (tokO 2 n [])):=by
 have ah:∀(fn:Fn) (first cap:Array Value) (w:World),(Instr.makeFunc fn first cap).run Tryz.prog w=.ok (.func fn first cap) w:=fun _ _ _ _=>rfl
 obtain ⟨R,hR⟩:∃R,R=tokO 2 n []:=⟨_,rfl⟩;rw [←hR];obtain ⟨y,J⟩:∃y,y=QQ w r 1 s n base m cap line D:=⟨_,rfl⟩;obtain ⟨H,af,e0,e1,e2⟩:=yO w r 1 s n base m cap line D;rw [←J] at H af e0 e1 e2;have N:=h.below H;have ae:Hid (zr r q w y q y):=zr.start h H;have o:Hid (y.heap[w.heap.size]?=some (.cells #[.pointer (some ⟨r,0,none⟩)] 85 (0,0))∧y.heap[w.heap.size+1]?=some (YD 1 s n base m cap line)∧y.heap[w.heap.size+2]?=some (.cells #[.int .i64 D] 3 (0,0))):=⟨e0,e1,e2⟩;have ab:Hid (∀(q:Option Nat) (t:List UInt8) (w:World),zy w0 r q t w→Calls Tryz.prog 80 #[.pointer (some ⟨r,0,none⟩),.agg #[.int .i64 2,.string (zb []),.int .i64 n,.int .i64 0,.int .i64 0]] w (zo w0 r q t w (tokO 2 n []))):=fun q t w h=>Uz w0 r q t 2 n 0 0 [] w hT h hn0 hn1 (by simp)
 have ci:=ZT 1 s n base m cap line y (hl.env N.env);rw [hex] at ci;have T:Hid (zy w0 r q t y):=N;have ag:=J.symm;have Q:=ze e0;obtain ⟨Z,c1,c2,W,Y⟩:=zI e1;have b2:=ze e2;have ai:(0:Int)<D:=by omega
 generalize tokO 2 n []=X0 at *;have HR:Hid (R=X0):=hR;clear hR N e0 e1 e2 J H h hl hex hT
 go_enter Tryz.func42,Tryz.ntmps42
 go_wp2_with fail
 refine ci.mono ?_;clear ci Q b2 Z c1 c2 W Y;rintro e w2 ⟨rfl,I⟩;have G:Hid (zr r q w y q w2):=ae.out.step (zT.below I);have ad:Hid (zy w0 r q t w2):=T.out.below I;clear I;have ca:=z6 true w2;go_wp2_with fail
 refine ca.mono ?_;clear ca;rintro e w3 ⟨rfl,rfl⟩;simp only [xd];have Q:=ze ((G.out.block (w.heap.size) (Nat.le_refl _) (by omega)).trans o.out.1)
 obtain ⟨Z,c1,c2,W,Y⟩:=zI ((G.out.block (w.heap.size+1) (by omega) (by omega)).trans o.out.2.1)
 have b2:=ze ((G.out.block (w.heap.size+2) (by omega) (by omega)).trans o.out.2.2)
 have L:Hid (zr r q w y q w3):=G.out;have aa:Hid (zy w0 r q t w3):=ad.out;clear ae T G ad;have cp:=ab.out q (t) w3 aa.out;go_wp2_with fail
 refine cp.mono ?_;clear cp Q b2 Z c1 c2 W Y;rintro e w4 ⟨q4,A,U⟩;cases X0 with
 | none=>subst U;obtain rfl:R=none:=HR.out;exact ⟨rfl,q4,(L.out.step A).unto,rfl⟩
 | some u0 =>
 obtain ⟨rfl,O⟩:=U;have z:Hid (zr r q w y q4 w4):=L.out.step A;have V:Hid (zy w0 r q4 (t++u0) w4):=O;clear A O;have Q:=ze ((z.out.block (w.heap.size) (Nat.le_refl _) (by omega)).trans o.out.1)
 obtain ⟨Z,c1,c2,W,Y⟩:=zI ((z.out.block (w.heap.size+1) (by omega) (by omega)).trans o.out.2.1)
 have b2:=ze ((z.out.block (w.heap.size+2) (by omega) (by omega)).trans o.out.2.2)
 obtain rfl:R=some (u0):=HR.out;have HP:Hid (zo w0 r q t w (some (u0)) (.returned (.tuple #[])) w4):=⟨q4,z.out.unto,rfl,by have:=V.out;simpa only [List.append_assoc] using this⟩
 clear L aa z V Q b2 Z c1 c2 W Y HR o ab;go_wp2
 exact bodyPost_ret (v:=.tuple #[]) (by simp [results,Tryz.results42,go_sem]) rfl HP.out
theorem zhV (w0:World) (D:Int) (hD1:1≤D) (hD2:D≤24) (hT:ZE w0) (hl:ZC w0) (s:List UInt8) (n line:Int) (base:Option Addr) (m cap r:Nat) (q:Option Nat) (t:List UInt8) (w:World) (h:zy w0 r q t w) (hex:yQ 3 s n m=true) (hs:s.length≤100000000) :
  Calls Tryz.prog 42 #[.pointer (some ⟨r,0,none⟩),yz 3 s n base m cap line,.int .i64 D] w (zo w0 r q t w (tokO 3 0 s)):=by
 have ah:∀(fn:Fn) (first cap:Array Value) (w:World),(Instr.makeFunc fn first cap).run Tryz.prog w=.ok (.func fn first cap) w:=fun _ _ _ _=>rfl
 obtain ⟨R,hR⟩:∃R,R=tokO 3 0 s:=⟨_,rfl⟩;rw [←hR];obtain ⟨y,J⟩:∃y,y=QQ w r 3 s n base m cap line D:=⟨_,rfl⟩;obtain ⟨H,af,e0,e1,e2⟩:=yO w r 3 s n base m cap line D;rw [←J] at H af e0 e1 e2;have N:=h.below H;have ae:Hid (zr r q w y q y):=zr.start h H;have o:Hid (y.heap[w.heap.size]?=some (.cells #[.pointer (some ⟨r,0,none⟩)] 85 (0,0))∧y.heap[w.heap.size+1]?=some (YD 3 s n base m cap line)∧y.heap[w.heap.size+2]?=some (.cells #[.int .i64 D] 3 (0,0))):=⟨e0,e1,e2⟩;have ab:Hid (∀(q:Option Nat) (t:List UInt8) (w:World),zy w0 r q t w→Calls Tryz.prog 80 #[.pointer (some ⟨r,0,none⟩),.agg #[.int .i64 3,.string (zb s),.int .i64 0,.int .i64 0,.int .i64 0]] w (zo w0 r q t w (tokO 3 0 s))):=fun q t w h=>Uz w0 r q t 3 0 0 0 s w hT h (by omega) (by omega) hs
 have ci:=ZT 3 s n base m cap line y (hl.env N.env);rw [hex] at ci;have T:Hid (zy w0 r q t y):=N;have ag:=J.symm;have Q:=ze e0;obtain ⟨Z,c1,c2,W,Y⟩:=zI e1;have b2:=ze e2;have ai:(0:Int)<D:=by omega
 generalize tokO 3 0 s=X0 at *;have HR:Hid (R=X0):=hR;clear hR N e0 e1 e2 J H h hl hex hT
 go_enter Tryz.func42,Tryz.ntmps42
 go_wp2_with fail
 refine ci.mono ?_;clear ci Q b2 Z c1 c2 W Y;rintro e w2 ⟨rfl,I⟩;have G:Hid (zr r q w y q w2):=ae.out.step (zT.below I);have ad:Hid (zy w0 r q t w2):=T.out.below I;clear I;have ca:=z6 true w2;go_wp2_with fail
 refine ca.mono ?_;clear ca;rintro e w3 ⟨rfl,rfl⟩;simp only [xd];have Q:=ze ((G.out.block (w.heap.size) (Nat.le_refl _) (by omega)).trans o.out.1)
 obtain ⟨Z,c1,c2,W,Y⟩:=zI ((G.out.block (w.heap.size+1) (by omega) (by omega)).trans o.out.2.1)
 have b2:=ze ((G.out.block (w.heap.size+2) (by omega) (by omega)).trans o.out.2.2)
 have L:Hid (zr r q w y q w3):=G.out;have aa:Hid (zy w0 r q t w3):=ad.out;clear ae T G ad;have cp:=ab.out q (t) w3 aa.out;go_wp2_with fail
 refine cp.mono ?_;clear cp Q b2 Z c1 c2 W Y;rintro e w4 ⟨q4,A,U⟩;cases X0 with
 | none=>subst U;obtain rfl:R=none:=HR.out;exact ⟨rfl,q4,(L.out.step A).unto,rfl⟩
 | some u0 =>
 obtain ⟨rfl,O⟩:=U;have z:Hid (zr r q w y q4 w4):=L.out.step A;have V:Hid (zy w0 r q4 (t++u0) w4):=O;clear A O;have Q:=ze ((z.out.block (w.heap.size) (Nat.le_refl _) (by omega)).trans o.out.1)
 obtain ⟨Z,c1,c2,W,Y⟩:=zI ((z.out.block (w.heap.size+1) (by omega) (by omega)).trans o.out.2.1)
 have b2:=ze ((z.out.block (w.heap.size+2) (by omega) (by omega)).trans o.out.2.2)
 obtain rfl:R=some (u0):=HR.out;have HP:Hid (zo w0 r q t w (some (u0)) (.returned (.tuple #[])) w4):=⟨q4,z.out.unto,rfl,by have:=V.out;simpa only [List.append_assoc] using this⟩
 clear L aa z V Q b2 Z c1 c2 W Y HR o ab;go_wp2
 exact bodyPost_ret (v:=.tuple #[]) (by simp [results,Tryz.results42,go_sem]) rfl HP.out
theorem zhW (w0:World) (D:Int) (hD1:1≤D) (hD2:D≤24) (hT:ZE w0) (hl:ZC w0) (s:List UInt8) (n line:Int) (base:Option Addr) (m cap r:Nat) (q:Option Nat) (t:List UInt8) (w:World) (h:zy w0 r q t w) (hex:yQ 4 s n m=true) (hs:s.length≤100000000) :
  Calls Tryz.prog 42 #[.pointer (some ⟨r,0,none⟩),yz 4 s n base m cap line,.int .i64 D] w (zo w0 r q t w (tokO 1 0 s)):=by
 have ah:∀(fn:Fn) (first cap:Array Value) (w:World),(Instr.makeFunc fn first cap).run Tryz.prog w=.ok (.func fn first cap) w:=fun _ _ _ _=>rfl
 obtain ⟨R,hR⟩:∃R,R=tokO 1 0 s:=⟨_,rfl⟩;rw [←hR];obtain ⟨y,J⟩:∃y,y=QQ w r 4 s n base m cap line D:=⟨_,rfl⟩;obtain ⟨H,af,e0,e1,e2⟩:=yO w r 4 s n base m cap line D;rw [←J] at H af e0 e1 e2;have N:=h.below H;have ae:Hid (zr r q w y q y):=zr.start h H;have o:Hid (y.heap[w.heap.size]?=some (.cells #[.pointer (some ⟨r,0,none⟩)] 85 (0,0))∧y.heap[w.heap.size+1]?=some (YD 4 s n base m cap line)∧y.heap[w.heap.size+2]?=some (.cells #[.int .i64 D] 3 (0,0))):=⟨e0,e1,e2⟩;have ab:Hid (∀(q:Option Nat) (t:List UInt8) (w:World),zy w0 r q t w→Calls Tryz.prog 82 #[.pointer (some ⟨r,0,none⟩),.string (zb s)] w (zo w0 r q t w (tokO 1 0 s))):=fun q t w h=>yx w0 r q t s w hT h hs
 have ci:=ZT 4 s n base m cap line y (hl.env N.env);rw [hex] at ci;have T:Hid (zy w0 r q t y):=N;have ag:=J.symm;have Q:=ze e0;obtain ⟨Z,c1,c2,W,Y⟩:=zI e1;have b2:=ze e2;have ai:(0:Int)<D:=by omega
 generalize tokO 1 0 s=X0 at *;have HR:Hid (R=X0):=hR;clear hR N e0 e1 e2 J H h hl hex hT
 go_enter Tryz.func42,Tryz.ntmps42
 go_wp2_with fail
 refine ci.mono ?_;clear ci Q b2 Z c1 c2 W Y;rintro e w2 ⟨rfl,I⟩;have G:Hid (zr r q w y q w2):=ae.out.step (zT.below I);have ad:Hid (zy w0 r q t w2):=T.out.below I;clear I;have ca:=z6 true w2;go_wp2_with fail
 refine ca.mono ?_;clear ca;rintro e w3 ⟨rfl,rfl⟩;simp only [xd];have Q:=ze ((G.out.block (w.heap.size) (Nat.le_refl _) (by omega)).trans o.out.1)
 obtain ⟨Z,c1,c2,W,Y⟩:=zI ((G.out.block (w.heap.size+1) (by omega) (by omega)).trans o.out.2.1)
 have b2:=ze ((G.out.block (w.heap.size+2) (by omega) (by omega)).trans o.out.2.2)
 have L:Hid (zr r q w y q w3):=G.out;have aa:Hid (zy w0 r q t w3):=ad.out;clear ae T G ad;have cp:=ab.out q (t) w3 aa.out;go_wp2_with fail
 refine cp.mono ?_;clear cp Q b2 Z c1 c2 W Y;rintro e w4 ⟨q4,A,U⟩;cases X0 with
 | none=>subst U;obtain rfl:R=none:=HR.out;exact ⟨rfl,q4,(L.out.step A).unto,rfl⟩
 | some u0 =>
 obtain ⟨rfl,O⟩:=U;have z:Hid (zr r q w y q4 w4):=L.out.step A;have V:Hid (zy w0 r q4 (t++u0) w4):=O;clear A O;have Q:=ze ((z.out.block (w.heap.size) (Nat.le_refl _) (by omega)).trans o.out.1)
 obtain ⟨Z,c1,c2,W,Y⟩:=zI ((z.out.block (w.heap.size+1) (by omega) (by omega)).trans o.out.2.1)
 have b2:=ze ((z.out.block (w.heap.size+2) (by omega) (by omega)).trans o.out.2.2)
 obtain rfl:R=some (u0):=HR.out;have HP:Hid (zo w0 r q t w (some (u0)) (.returned (.tuple #[])) w4):=⟨q4,z.out.unto,rfl,by have:=V.out;simpa only [List.append_assoc] using this⟩
 clear L aa z V Q b2 Z c1 c2 W Y HR o ab;go_wp2
 exact bodyPost_ret (v:=.tuple #[]) (by simp [results,Tryz.results42,go_sem]) rfl HP.out
theorem zhX (w0:World) (d:Nat) (D:Int) (hD:D-1=(d:Int)) (hD1:1≤D) (hD2:D≤24) (hX:yN w0 d) (hT:ZE w0) (hl:ZC w0) (s:List UInt8) (n line:Int) (base:Option Addr) (m cap r:Nat) (q:Option Nat) (t:List UInt8) (w:World) (h:zy w0 r q t w) (hex:yQ 5 s n m=true) (hs:s.length≤100000000) (kids:List Ez) (hm3:m=kids.length) (hc2:kids.length≤cap) (hm2:cap≤maxLen) (hrow2:∀i x,kids[i]?=some x→∃b o a1 a2 a3 a4 a5 a6 a7,base=some ⟨b,o,none⟩∧b<w0.heap.size∧b<w0.heap.size∧Zy w0.heap.size w0 x (yz a1 a2 a3 a4 a5 a6 a7)∧w0.cell? ⟨b,o+i*5,none⟩=some (.int .i64 a1)∧w0.cell? ⟨b,o+i*5+1,none⟩=some (.string (zb a2))∧w0.cell? ⟨b,o+i*5+2,none⟩=some (.int .i64 a3)∧w0.cell? ⟨b,o+i*5+3,none⟩=some (.slice a4 a5 a6)∧w0.cell? ⟨b,o+i*5+4,none⟩=some (.int .i64 a7)) :
  Calls Tryz.prog 42 #[.pointer (some ⟨r,0,none⟩),yz 5 s n base m cap line,.int .i64 D] w (zo w0 r q t w (zc (tokO 1 0 s) (zc (some [40]) (zc (rowO (kids.map (prE d)) kids.length) (some [41]))))):=by
 have aB:∀(fn:Fn) (first cap:Array Value) (w:World),(Instr.makeFunc fn first cap).run Tryz.prog w=.ok (.func fn first cap) w:=fun _ _ _ _=>rfl
 obtain ⟨R,hR⟩:∃R,R=zc (tokO 1 0 s) (zc (some [40]) (zc (rowO (kids.map (prE d)) kids.length) (some [41]))):=⟨_,rfl⟩;rw [←hR];obtain ⟨z,ae⟩:∃z,z=QQ w r 5 s n base m cap line D:=⟨_,rfl⟩;obtain ⟨Z,av,e0,e1,e2⟩:=yO w r 5 s n base m cap line D;rw [←ae] at Z av e0 e1 e2;have ag:=h.below Z;have au:Hid (zr r q w z q z):=zr.start h Z;have y:Hid (z.heap[w.heap.size]?=some (.cells #[.pointer (some ⟨r,0,none⟩)] 85 (0,0))∧z.heap[w.heap.size+1]?=some (YD 5 s n base m cap line)∧z.heap[w.heap.size+2]?=some (.cells #[.int .i64 D] 3 (0,0))):=⟨e0,e1,e2⟩;have ao:Hid (∀(q:Option Nat) (t:List UInt8) (w:World),zy w0 r q t w→Calls Tryz.prog 82 #[.pointer (some ⟨r,0,none⟩),.string (zb s)] w (zo w0 r q t w (tokO 1 0 s))):=fun q t w h=>yx w0 r q t s w hT h hs
 have aw:Hid (∀(q2:Option Nat) (t2:List UInt8) (W:World),zy w0 r q2 t2 W→zr r q w z q2 W→Calls Tryz.prog 83 #[.pointer (some ⟨r,0,none⟩),.slice base m cap,.func (.func 79) #[] #[.pointer (some ⟨w.heap.size,0,none⟩),.pointer (some ⟨w.heap.size+2,0,none⟩)]] W (zo w0 r q2 t2 W (rowO (kids.map (prE d)) kids.length))):=fun q2 t2 W h2 hL2=>by rw [hm3];exact Vm w0 (prE d) kids base cap _ _ r q2 t2 W h2 hc2 hm2 hrow2 fun x v q1 t1 W1 _ hx h1 hto=>uc w0 d D hD hD1 hD2 hX x v _ _ r q1 t1 W1 hx h1 (ze (((hL2.step hto).block (w.heap.size) (Nat.le_refl _) (by omega)).trans y.out.1)) (ze (((hL2.step hto).block (w.heap.size+2) (by omega) (by omega)).trans y.out.2.2))
 have ci:=ZT 5 s n base m cap line z (hl.env ag.env);rw [hex] at ci;have ai:Hid (zy w0 r q t z):=ag;have aA:=ae.symm;have H:=ze e0;obtain ⟨N,c1,c2,I,J⟩:=zI e1;have T:=ze e2;have aC:(0:Int)<D:=by omega
 generalize tokO 1 0 s=X0 at *;generalize rowO (kids.map (prE d)) kids.length=X1 at *;have HR:Hid (R=zc X0 (zc (some [40]) (zc X1 (some [41])))):=hR;clear hR ag e0 e1 e2 ae Z h hl hex hX hT hc2 hm2 hrow2 hm3
 go_enter Tryz.func42,Tryz.ntmps42
 go_wp2_with fail
 refine ci.mono ?_;clear ci H T N c1 c2 I J;rintro e w2 ⟨rfl,ad⟩;have V:Hid (zr r q w z q w2):=au.out.step (zT.below ad);have aq:Hid (zy w0 r q t w2):=ai.out.below ad;clear ad;have ca:=z6 true w2;go_wp2_with fail
 refine ca.mono ?_;clear ca;rintro e w3 ⟨rfl,rfl⟩;simp only [xd];have H:=ze ((V.out.block (w.heap.size) (Nat.le_refl _) (by omega)).trans y.out.1)
 obtain ⟨N,c1,c2,I,J⟩:=zI ((V.out.block (w.heap.size+1) (by omega) (by omega)).trans y.out.2.1)
 have T:=ze ((V.out.block (w.heap.size+2) (by omega) (by omega)).trans y.out.2.2)
 have af:Hid (zr r q w z q w3):=V.out;have an:Hid (zy w0 r q t w3):=aq.out;clear au ai V aq;have L:=ao.out q (t) w3 an.out;go_wp2_with fail
 refine L.mono ?_;clear L H T N c1 c2 I J;rintro e w4 ⟨q4,Q,aj⟩;cases X0 with
 | none=>subst aj;obtain rfl:R=none:=HR.out;exact ⟨rfl,q4,(af.out.step Q).unto,rfl⟩
 | some u0 =>
 obtain ⟨rfl,ah⟩:=aj;have G:Hid (zr r q w z q4 w4):=af.out.step Q;have al:Hid (zy w0 r q4 (t++u0) w4):=ah;clear Q ah;have H:=ze ((G.out.block (w.heap.size) (Nat.le_refl _) (by omega)).trans y.out.1)
 obtain ⟨N,c1,c2,I,J⟩:=zI ((G.out.block (w.heap.size+1) (by omega) (by omega)).trans y.out.2.1)
 have T:=ze ((G.out.block (w.heap.size+2) (by omega) (by omega)).trans y.out.2.2)
 have L:=zx w0 r q4 (t++u0) [40] w4 al.out (by simp)
 go_wp2_with fail
 refine L.mono ?_;clear L H T N c1 c2 I J;rintro e w5 ⟨q5,aa,rfl,ax⟩;have A:Hid (zr r q w z q5 w5):=G.out.step aa;have az:Hid (zy w0 r q5 (t++u0++[40]) w5):=ax;clear aa ax;have H:=ze ((A.out.block (w.heap.size) (Nat.le_refl _) (by omega)).trans y.out.1)
 obtain ⟨N,c1,c2,I,J⟩:=zI ((A.out.block (w.heap.size+1) (by omega) (by omega)).trans y.out.2.1)
 have T:=ze ((A.out.block (w.heap.size+2) (by omega) (by omega)).trans y.out.2.2)
 have L:=aw.out q5 (t++u0++[40]) w5 az.out A.out;go_wp2_with fail
 refine L.mono ?_;clear L H T N c1 c2 I J;rintro e w6 ⟨q6,U,ap⟩;cases X1 with
 | none=>subst ap;obtain rfl:R=none:=HR.out;exact ⟨rfl,q6,(A.out.step U).unto,rfl⟩
 | some u1 =>
 obtain ⟨rfl,ar⟩:=ap;have O:Hid (zr r q w z q6 w6):=A.out.step U;have ak:Hid (zy w0 r q6 (t++u0++[40]++u1) w6):=ar;clear U ar;have H:=ze ((O.out.block (w.heap.size) (Nat.le_refl _) (by omega)).trans y.out.1)
 obtain ⟨N,c1,c2,I,J⟩:=zI ((O.out.block (w.heap.size+1) (by omega) (by omega)).trans y.out.2.1)
 have T:=ze ((O.out.block (w.heap.size+2) (by omega) (by omega)).trans y.out.2.2)
 have L:=zx w0 r q6 (t++u0++[40]++u1) [41] w6 ak.out (by simp)
 go_wp2_with fail
 refine L.mono ?_;clear L H T N c1 c2 I J;rintro e w7 ⟨q7,ab,rfl,ay⟩;have Y:Hid (zr r q w z q7 w7):=O.out.step ab;have am:Hid (zy w0 r q7 (t++u0++[40]++u1++[41]) w7):=ay;clear ab ay;have H:=ze ((Y.out.block (w.heap.size) (Nat.le_refl _) (by omega)).trans y.out.1)
 obtain ⟨N,c1,c2,I,J⟩:=zI ((Y.out.block (w.heap.size+1) (by omega) (by omega)).trans y.out.2.1)
 have T:=ze ((Y.out.block (w.heap.size+2) (by omega) (by omega)).trans y.out.2.2)
 obtain rfl:R=some (u0++([40]++(u1++([41])))):=HR.out;have HP:Hid (zo w0 r q t w (some (u0++([40]++(u1++([41]))))) (.returned (.tuple #[])) w7):=⟨q7,Y.out.unto,rfl,by have:=am.out;simpa only [List.append_assoc] using this⟩
 clear af an G al A az O ak Y am H T N c1 c2 I J HR y ao aw;go_wp2
 exact bodyPost_ret (v:=.tuple #[]) (by simp [results,Tryz.results42,go_sem]) rfl HP.out
theorem zgx (w0:World) (d:Nat) (D:Int) (hD:D-1=(d:Int)) (hD1:1≤D) (hD2:D≤24) (hX:yN w0 d) (hT:ZE w0) (hl:ZC w0) (s:List UInt8) (n line:Int) (base:Option Addr) (m cap r:Nat) (q:Option Nat) (t:List UInt8) (w:World) (h:zy w0 r q t w) (hex:yQ 11 s n m=true) (hs:s.length≤100000000) (kids:List Ez) (hm3:m=kids.length) (hc2:kids.length≤cap) (hm2:cap≤maxLen) (hrow2:∀i x,kids[i]?=some x→∃b o a1 a2 a3 a4 a5 a6 a7,base=some ⟨b,o,none⟩∧b<w0.heap.size∧b<w0.heap.size∧Zy w0.heap.size w0 x (yz a1 a2 a3 a4 a5 a6 a7)∧w0.cell? ⟨b,o+i*5,none⟩=some (.int .i64 a1)∧w0.cell? ⟨b,o+i*5+1,none⟩=some (.string (zb a2))∧w0.cell? ⟨b,o+i*5+2,none⟩=some (.int .i64 a3)∧w0.cell? ⟨b,o+i*5+3,none⟩=some (.slice a4 a5 a6)∧w0.cell? ⟨b,o+i*5+4,none⟩=some (.int .i64 a7)) :
  Calls Tryz.prog 42 #[.pointer (some ⟨r,0,none⟩),yz 11 s n base m cap line,.int .i64 D] w (zo w0 r q t w (zc (some [110,101,119,32]) (zc (tokO 1 0 s) (zc (some [40]) (zc (rowO (kids.map (prE d)) kids.length) (some [41])))))):=by
 have aF:∀(fn:Fn) (first cap:Array Value) (w:World),(Instr.makeFunc fn first cap).run Tryz.prog w=.ok (.func fn first cap) w:=fun _ _ _ _=>rfl
 obtain ⟨R,hR⟩:∃R,R=zc (some [110,101,119,32]) (zc (tokO 1 0 s) (zc (some [40]) (zc (rowO (kids.map (prE d)) kids.length) (some [41])))):=⟨_,rfl⟩;rw [←hR];obtain ⟨z,ag⟩:∃z,z=QQ w r 11 s n base m cap line D:=⟨_,rfl⟩;obtain ⟨aa,aw,e0,e1,e2⟩:=yO w r 11 s n base m cap line D;rw [←ag] at aa aw e0 e1 e2;have ah:=h.below aa;have av:Hid (zr r q w z q z):=zr.start h aa;have y:Hid (z.heap[w.heap.size]?=some (.cells #[.pointer (some ⟨r,0,none⟩)] 85 (0,0))∧z.heap[w.heap.size+1]?=some (YD 11 s n base m cap line)∧z.heap[w.heap.size+2]?=some (.cells #[.int .i64 D] 3 (0,0))):=⟨e0,e1,e2⟩;have ap:Hid (∀(q:Option Nat) (t:List UInt8) (w:World),zy w0 r q t w→Calls Tryz.prog 82 #[.pointer (some ⟨r,0,none⟩),.string (zb s)] w (zo w0 r q t w (tokO 1 0 s))):=fun q t w h=>yx w0 r q t s w hT h hs
 have ay:Hid (∀(q2:Option Nat) (t2:List UInt8) (W:World),zy w0 r q2 t2 W→zr r q w z q2 W→Calls Tryz.prog 83 #[.pointer (some ⟨r,0,none⟩),.slice base m cap,.func (.func 79) #[] #[.pointer (some ⟨w.heap.size,0,none⟩),.pointer (some ⟨w.heap.size+2,0,none⟩)]] W (zo w0 r q2 t2 W (rowO (kids.map (prE d)) kids.length))):=fun q2 t2 W h2 hL2=>by rw [hm3];exact Vm w0 (prE d) kids base cap _ _ r q2 t2 W h2 hc2 hm2 hrow2 fun x v q1 t1 W1 _ hx h1 hto=>uc w0 d D hD hD1 hD2 hX x v _ _ r q1 t1 W1 hx h1 (ze (((hL2.step hto).block (w.heap.size) (Nat.le_refl _) (by omega)).trans y.out.1)) (ze (((hL2.step hto).block (w.heap.size+2) (by omega) (by omega)).trans y.out.2.2))
 have ci:=ZT 11 s n base m cap line z (hl.env ah.env);rw [hex] at ci;have aj:Hid (zy w0 r q t z):=ah;have aE:=ag.symm;have I:=ze e0;obtain ⟨N,c1,c2,J,L⟩:=zI e1;have O:=ze e2;have aG:(0:Int)<D:=by omega
 generalize tokO 1 0 s=X0 at *;generalize rowO (kids.map (prE d)) kids.length=X1 at *;have HR:Hid (R=zc (some [110,101,119,32]) (zc X0 (zc (some [40]) (zc X1 (some [41]))))):=hR;clear hR ah e0 e1 e2 ag aa h hl hex hX hT hc2 hm2 hrow2 hm3
 go_enter Tryz.func42,Tryz.ntmps42
 go_wp2_with fail
 refine ci.mono ?_;clear ci I O N c1 c2 J L;rintro e w2 ⟨rfl,af⟩;have T:Hid (zr r q w z q w2):=av.out.step (zT.below af);have ar:Hid (zy w0 r q t w2):=aj.out.below af;clear af;have ca:=z6 true w2;go_wp2_with fail
 refine ca.mono ?_;clear ca;rintro e w3 ⟨rfl,rfl⟩;simp only [xd];have I:=ze ((T.out.block (w.heap.size) (Nat.le_refl _) (by omega)).trans y.out.1)
 obtain ⟨N,c1,c2,J,L⟩:=zI ((T.out.block (w.heap.size+1) (by omega) (by omega)).trans y.out.2.1)
 have O:=ze ((T.out.block (w.heap.size+2) (by omega) (by omega)).trans y.out.2.2)
 have ax:Hid (zr r q w z q w3):=T.out;have ao:Hid (zy w0 r q t w3):=ar.out;clear av aj T ar;have G:=zx w0 r q (t) [110,101,119,32] w3 ao.out (by simp)
 go_wp2_with fail
 refine G.mono ?_;clear G I O N c1 c2 J L;rintro e w4 ⟨q4,ad,rfl,ai⟩;have H:Hid (zr r q w z q4 w4):=ax.out.step ad;have al:Hid (zy w0 r q4 (t++[110,101,119,32]) w4):=ai;clear ad ai;have I:=ze ((H.out.block (w.heap.size) (Nat.le_refl _) (by omega)).trans y.out.1)
 obtain ⟨N,c1,c2,J,L⟩:=zI ((H.out.block (w.heap.size+1) (by omega) (by omega)).trans y.out.2.1)
 have O:=ze ((H.out.block (w.heap.size+2) (by omega) (by omega)).trans y.out.2.2)
 have G:=ap.out q4 (t++[110,101,119,32]) w4 al.out;go_wp2_with fail
 refine G.mono ?_;clear G I O N c1 c2 J L;rintro e w5 ⟨q5,Y,aC⟩;cases X0 with
 | none=>subst aC;obtain rfl:R=none:=HR.out;exact ⟨rfl,q5,(H.out.step Y).unto,rfl⟩
 | some u0 =>
 obtain ⟨rfl,aA⟩:=aC;have Q:Hid (zr r q w z q5 w5):=H.out.step Y;have aD:Hid (zy w0 r q5 (t++[110,101,119,32]++u0) w5):=aA;clear Y aA;have I:=ze ((Q.out.block (w.heap.size) (Nat.le_refl _) (by omega)).trans y.out.1)
 obtain ⟨N,c1,c2,J,L⟩:=zI ((Q.out.block (w.heap.size+1) (by omega) (by omega)).trans y.out.2.1)
 have O:=ze ((Q.out.block (w.heap.size+2) (by omega) (by omega)).trans y.out.2.2)
 have G:=zx w0 r q5 (t++[110,101,119,32]++u0) [40] w5 aD.out (by simp)
 go_wp2_with fail
 refine G.mono ?_;clear G I O N c1 c2 J L;rintro e w6 ⟨q6,ae,rfl,au⟩;have A:Hid (zr r q w z q6 w6):=Q.out.step ae;have ak:Hid (zy w0 r q6 (t++[110,101,119,32]++u0++[40]) w6):=au;clear ae au;have I:=ze ((A.out.block (w.heap.size) (Nat.le_refl _) (by omega)).trans y.out.1)
 obtain ⟨N,c1,c2,J,L⟩:=zI ((A.out.block (w.heap.size+1) (by omega) (by omega)).trans y.out.2.1)
 have O:=ze ((A.out.block (w.heap.size+2) (by omega) (by omega)).trans y.out.2.2)
 have G:=ay.out q6 (t++[110,101,119,32]++u0++[40]) w6 ak.out A.out;go_wp2_with fail
 refine G.mono ?_;clear G I O N c1 c2 J L;rintro e w7 ⟨q7,Z,am⟩;cases X1 with
 | none=>subst am;obtain rfl:R=none:=HR.out;exact ⟨rfl,q7,(A.out.step Z).unto,rfl⟩
 | some u1 =>
 obtain ⟨rfl,aB⟩:=am;have V:Hid (zr r q w z q7 w7):=A.out.step Z;have an:Hid (zy w0 r q7 (t++[110,101,119,32]++u0++[40]++u1) w7):=aB;clear Z aB;have I:=ze ((V.out.block (w.heap.size) (Nat.le_refl _) (by omega)).trans y.out.1)
 obtain ⟨N,c1,c2,J,L⟩:=zI ((V.out.block (w.heap.size+1) (by omega) (by omega)).trans y.out.2.1)
 have O:=ze ((V.out.block (w.heap.size+2) (by omega) (by omega)).trans y.out.2.2)
 have G:=zx w0 r q7 (t++[110,101,119,32]++u0++[40]++u1) [41] w7 an.out (by simp)
 go_wp2_with fail
 refine G.mono ?_;clear G I O N c1 c2 J L;rintro e w8 ⟨q8,ab,rfl,aq⟩;have U:Hid (zr r q w z q8 w8):=V.out.step ab;have az:Hid (zy w0 r q8 (t++[110,101,119,32]++u0++[40]++u1++[41]) w8):=aq;clear ab aq;have I:=ze ((U.out.block (w.heap.size) (Nat.le_refl _) (by omega)).trans y.out.1)
 obtain ⟨N,c1,c2,J,L⟩:=zI ((U.out.block (w.heap.size+1) (by omega) (by omega)).trans y.out.2.1)
 have O:=ze ((U.out.block (w.heap.size+2) (by omega) (by omega)).trans y.out.2.2)
 obtain rfl:R=some ([110,101,119,32]++(u0++([40]++(u1++([41]))))):=HR.out;have HP:Hid (zo w0 r q t w (some ([110,101,119,32]++(u0++([40]++(u1++([41])))))) (.returned (.tuple #[])) w8):=⟨q8,U.out.unto,rfl,by have:=az.out;simpa only [List.append_assoc] using this⟩
 clear ax ao H al Q aD A ak V an U az I O N c1 c2 J L HR y ap ay;go_wp2
 exact bodyPost_ret (v:=.tuple #[]) (by simp [results,Tryz.results42,go_sem]) rfl HP.out
theorem zgy (w0:World) (d:Nat) (D:Int) (hD:D-1=(d:Int)) (hD1:1≤D) (hD2:D≤24) (hX:yN w0 d) (hl:ZC w0) (s:List UInt8) (n line:Int) (base:Option Addr) (m cap r:Nat) (q:Option Nat) (t:List UInt8) (w:World) (h:zy w0 r q t w) (hex:yQ 10 s n m=true) (kids:List Ez) (hm3:m=kids.length) (hc2:kids.length≤cap) (hm2:cap≤maxLen) (hrow2:∀i x,kids[i]?=some x→∃b o a1 a2 a3 a4 a5 a6 a7,base=some ⟨b,o,none⟩∧b<w0.heap.size∧b<w0.heap.size∧Zy w0.heap.size w0 x (yz a1 a2 a3 a4 a5 a6 a7)∧w0.cell? ⟨b,o+i*5,none⟩=some (.int .i64 a1)∧w0.cell? ⟨b,o+i*5+1,none⟩=some (.string (zb a2))∧w0.cell? ⟨b,o+i*5+2,none⟩=some (.int .i64 a3)∧w0.cell? ⟨b,o+i*5+3,none⟩=some (.slice a4 a5 a6)∧w0.cell? ⟨b,o+i*5+4,none⟩=some (.int .i64 a7)) :
  Calls Tryz.prog 42 #[.pointer (some ⟨r,0,none⟩),yz 10 s n base m cap line,.int .i64 D] w (zo w0 r q t w (zc (some [91]) (zc (rowO (kids.map (prE d)) kids.length) (some [93])))):=by
 have av:∀(fn:Fn) (first cap:Array Value) (w:World),(Instr.makeFunc fn first cap).run Tryz.prog w=.ok (.func fn first cap) w:=fun _ _ _ _=>rfl
 obtain ⟨R,hR⟩:∃R,R=zc (some [91]) (zc (rowO (kids.map (prE d)) kids.length) (some [93])):=⟨_,rfl⟩;rw [←hR];obtain ⟨A,ab⟩:∃A,A=QQ w r 10 s n base m cap line D:=⟨_,rfl⟩;obtain ⟨N,an,e0,e1,e2⟩:=yO w r 10 s n base m cap line D;rw [←ab] at N an e0 e1 e2;have ad:=h.below N;have am:Hid (zr r q w A q A):=zr.start h N;have y:Hid (A.heap[w.heap.size]?=some (.cells #[.pointer (some ⟨r,0,none⟩)] 85 (0,0))∧A.heap[w.heap.size+1]?=some (YD 10 s n base m cap line)∧A.heap[w.heap.size+2]?=some (.cells #[.int .i64 D] 3 (0,0))):=⟨e0,e1,e2⟩;have aj:Hid (∀(q2:Option Nat) (t2:List UInt8) (W:World),zy w0 r q2 t2 W→zr r q w A q2 W→Calls Tryz.prog 83 #[.pointer (some ⟨r,0,none⟩),.slice base m cap,.func (.func 79) #[] #[.pointer (some ⟨w.heap.size,0,none⟩),.pointer (some ⟨w.heap.size+2,0,none⟩)]] W (zo w0 r q2 t2 W (rowO (kids.map (prE d)) kids.length))):=fun q2 t2 W h2 hL2=>by rw [hm3];exact Vm w0 (prE d) kids base cap _ _ r q2 t2 W h2 hc2 hm2 hrow2 fun x v q1 t1 W1 _ hx h1 hto=>uc w0 d D hD hD1 hD2 hX x v _ _ r q1 t1 W1 hx h1 (ze (((hL2.step hto).block (w.heap.size) (Nat.le_refl _) (by omega)).trans y.out.1)) (ze (((hL2.step hto).block (w.heap.size+2) (by omega) (by omega)).trans y.out.2.2))
 have ci:=ZT 10 s n base m cap line A (hl.env ad.env);rw [hex] at ci;have af:Hid (zy w0 r q t A):=ad;have au:=ab.symm;have L:=ze e0;obtain ⟨T,c1,c2,O,Q⟩:=zI e1;have U:=ze e2;have aw:(0:Int)<D:=by omega
 generalize rowO (kids.map (prE d)) kids.length=X0 at *;have HR:Hid (R=zc (some [91]) (zc X0 (some [93]))):=hR;clear hR ad e0 e1 e2 ab N h hl hex hX hc2 hm2 hrow2 hm3
 go_enter Tryz.func42,Tryz.ntmps42
 go_wp2_with fail
 refine ci.mono ?_;clear ci L U T c1 c2 O Q;rintro e w2 ⟨rfl,aa⟩;have I:Hid (zr r q w A q w2):=am.out.step (zT.below aa);have ak:Hid (zy w0 r q t w2):=af.out.below aa;clear aa;have ca:=z6 true w2;go_wp2_with fail
 refine ca.mono ?_;clear ca;rintro e w3 ⟨rfl,rfl⟩;simp only [xd];have L:=ze ((I.out.block (w.heap.size) (Nat.le_refl _) (by omega)).trans y.out.1)
 obtain ⟨T,c1,c2,O,Q⟩:=zI ((I.out.block (w.heap.size+1) (by omega) (by omega)).trans y.out.2.1)
 have U:=ze ((I.out.block (w.heap.size+2) (by omega) (by omega)).trans y.out.2.2)
 have ao:Hid (zr r q w A q w3):=I.out;have ai:Hid (zy w0 r q t w3):=ak.out;clear am af I ak;have V:=zx w0 r q (t) [91] w3 ai.out (by simp)
 go_wp2_with fail
 refine V.mono ?_;clear V L U T c1 c2 O Q;rintro e w4 ⟨q4,Y,rfl,ae⟩;have z:Hid (zr r q w A q4 w4):=ao.out.step Y;have ah:Hid (zy w0 r q4 (t++[91]) w4):=ae;clear Y ae;have L:=ze ((z.out.block (w.heap.size) (Nat.le_refl _) (by omega)).trans y.out.1)
 obtain ⟨T,c1,c2,O,Q⟩:=zI ((z.out.block (w.heap.size+1) (by omega) (by omega)).trans y.out.2.1)
 have U:=ze ((z.out.block (w.heap.size+2) (by omega) (by omega)).trans y.out.2.2)
 have V:=aj.out q4 (t++[91]) w4 ah.out z.out;go_wp2_with fail
 refine V.mono ?_;clear V L U T c1 c2 O Q;rintro e w5 ⟨q5,J,aq⟩;cases X0 with
 | none=>subst aq;obtain rfl:R=none:=HR.out;exact ⟨rfl,q5,(z.out.step J).unto,rfl⟩
 | some u0 =>
 obtain ⟨rfl,ap⟩:=aq;have H:Hid (zr r q w A q5 w5):=z.out.step J;have ar:Hid (zy w0 r q5 (t++[91]++u0) w5):=ap;clear J ap;have L:=ze ((H.out.block (w.heap.size) (Nat.le_refl _) (by omega)).trans y.out.1)
 obtain ⟨T,c1,c2,O,Q⟩:=zI ((H.out.block (w.heap.size+1) (by omega) (by omega)).trans y.out.2.1)
 have U:=ze ((H.out.block (w.heap.size+2) (by omega) (by omega)).trans y.out.2.2)
 have V:=zx w0 r q5 (t++[91]++u0) [93] w5 ar.out (by simp)
 go_wp2_with fail
 refine V.mono ?_;clear V L U T c1 c2 O Q;rintro e w6 ⟨q6,Z,rfl,al⟩;have G:Hid (zr r q w A q6 w6):=H.out.step Z;have ag:Hid (zy w0 r q6 (t++[91]++u0++[93]) w6):=al;clear Z al;have L:=ze ((G.out.block (w.heap.size) (Nat.le_refl _) (by omega)).trans y.out.1)
 obtain ⟨T,c1,c2,O,Q⟩:=zI ((G.out.block (w.heap.size+1) (by omega) (by omega)).trans y.out.2.1)
 have U:=ze ((G.out.block (w.heap.size+2) (by omega) (by omega)).trans y.out.2.2)
 obtain rfl:R=some ([91]++(u0++([93]))):=HR.out;have HP:Hid (zo w0 r q t w (some ([91]++(u0++([93])))) (.returned (.tuple #[])) w6):=⟨q6,G.out.unto,rfl,by have:=ag.out;simpa only [List.append_assoc] using this⟩
 clear ao ai z ah H ar G ag L U T c1 c2 O Q HR y aj;go_wp2
 exact bodyPost_ret (v:=.tuple #[]) (by simp [results,Tryz.results42,go_sem]) rfl HP.out
theorem zhY (w0:World) (D:Int) (hD1:1≤D) (hD2:D≤24) (hl:ZC w0) (s:List UInt8) (n line:Int) (base:Option Addr) (m cap r:Nat) (q:Option Nat) (t:List UInt8) (w:World) (h:zy w0 r q t w) (hex:yQ 6 s n m=true) (X:Option (List UInt8)) (hS:Hid (∀(q:Option Nat) (t:List UInt8) (w:World),zy w0 r q t w→Calls Tryz.prog 84 #[.pointer (some ⟨r,0,none⟩),yz 6 s n base m cap line,.int .i64 D] w (zo w0 r q t w X))) :
  Calls Tryz.prog 42 #[.pointer (some ⟨r,0,none⟩),yz 6 s n base m cap line,.int .i64 D] w (zo w0 r q t w (X)):=by
 have ah:∀(fn:Fn) (first cap:Array Value) (w:World),(Instr.makeFunc fn first cap).run Tryz.prog w=.ok (.func fn first cap) w:=fun _ _ _ _=>rfl
 obtain ⟨R,hR⟩:∃R,R=X:=⟨_,rfl⟩;rw [←hR];obtain ⟨y,J⟩:∃y,y=QQ w r 6 s n base m cap line D:=⟨_,rfl⟩;obtain ⟨H,af,e0,e1,e2⟩:=yO w r 6 s n base m cap line D;rw [←J] at H af e0 e1 e2;have N:=h.below H;have ae:Hid (zr r q w y q y):=zr.start h H;have o:Hid (y.heap[w.heap.size]?=some (.cells #[.pointer (some ⟨r,0,none⟩)] 85 (0,0))∧y.heap[w.heap.size+1]?=some (YD 6 s n base m cap line)∧y.heap[w.heap.size+2]?=some (.cells #[.int .i64 D] 3 (0,0))):=⟨e0,e1,e2⟩;have ab:=hS;have ci:=ZT 6 s n base m cap line y (hl.env N.env);rw [hex] at ci;have T:Hid (zy w0 r q t y):=N;have ag:=J.symm;have Q:=ze e0;obtain ⟨Z,c1,c2,W,Y⟩:=zI e1;have b2:=ze e2;have ai:(0:Int)<D:=by omega
 clear hS;generalize X=X0 at *;have HR:Hid (R=X0):=hR;clear hR N e0 e1 e2 J H h hl hex
 go_enter Tryz.func42,Tryz.ntmps42
 go_wp2_with fail
 refine ci.mono ?_;clear ci Q b2 Z c1 c2 W Y;rintro e w2 ⟨rfl,I⟩;have G:Hid (zr r q w y q w2):=ae.out.step (zT.below I);have ad:Hid (zy w0 r q t w2):=T.out.below I;clear I;have ca:=z6 true w2;go_wp2_with fail
 refine ca.mono ?_;clear ca;rintro e w3 ⟨rfl,rfl⟩;simp only [xd];have Q:=ze ((G.out.block (w.heap.size) (Nat.le_refl _) (by omega)).trans o.out.1)
 obtain ⟨Z,c1,c2,W,Y⟩:=zI ((G.out.block (w.heap.size+1) (by omega) (by omega)).trans o.out.2.1)
 have b2:=ze ((G.out.block (w.heap.size+2) (by omega) (by omega)).trans o.out.2.2)
 have L:Hid (zr r q w y q w3):=G.out;have aa:Hid (zy w0 r q t w3):=ad.out;clear ae T G ad;have cp:=ab.out q (t) w3 aa.out;go_wp2_with fail
 refine cp.mono ?_;clear cp Q b2 Z c1 c2 W Y;rintro e w4 ⟨q4,A,U⟩;cases X0 with
 | none=>subst U;obtain rfl:R=none:=HR.out;exact ⟨rfl,q4,(L.out.step A).unto,rfl⟩
 | some u0 =>
 obtain ⟨rfl,O⟩:=U;have z:Hid (zr r q w y q4 w4):=L.out.step A;have V:Hid (zy w0 r q4 (t++u0) w4):=O;clear A O;have Q:=ze ((z.out.block (w.heap.size) (Nat.le_refl _) (by omega)).trans o.out.1)
 obtain ⟨Z,c1,c2,W,Y⟩:=zI ((z.out.block (w.heap.size+1) (by omega) (by omega)).trans o.out.2.1)
 have b2:=ze ((z.out.block (w.heap.size+2) (by omega) (by omega)).trans o.out.2.2)
 obtain rfl:R=some (u0):=HR.out;have HP:Hid (zo w0 r q t w (some (u0)) (.returned (.tuple #[])) w4):=⟨q4,z.out.unto,rfl,by have:=V.out;simpa only [List.append_assoc] using this⟩
 clear L aa z V Q b2 Z c1 c2 W Y HR o ab;go_wp2
 exact bodyPost_ret (v:=.tuple #[]) (by simp [results,Tryz.results42,go_sem]) rfl HP.out
theorem zhZ (w0:World) (D:Int) (hD1:1≤D) (hD2:D≤24) (hl:ZC w0) (s:List UInt8) (n line:Int) (base:Option Addr) (m cap r:Nat) (q:Option Nat) (t:List UInt8) (w:World) (h:zy w0 r q t w) (hex:yQ 7 s n m=true) (X:Option (List UInt8)) (hS:Hid (∀(q:Option Nat) (t:List UInt8) (w:World),zy w0 r q t w→Calls Tryz.prog 84 #[.pointer (some ⟨r,0,none⟩),yz 7 s n base m cap line,.int .i64 D] w (zo w0 r q t w X))) :
  Calls Tryz.prog 42 #[.pointer (some ⟨r,0,none⟩),yz 7 s n base m cap line,.int .i64 D] w (zo w0 r q t w (X)):=by
 have ah:∀(fn:Fn) (first cap:Array Value) (w:World),(Instr.makeFunc fn first cap).run Tryz.prog w=.ok (.func fn first cap) w:=fun _ _ _ _=>rfl
 obtain ⟨R,hR⟩:∃R,R=X:=⟨_,rfl⟩;rw [←hR];obtain ⟨y,J⟩:∃y,y=QQ w r 7 s n base m cap line D:=⟨_,rfl⟩;obtain ⟨H,af,e0,e1,e2⟩:=yO w r 7 s n base m cap line D;rw [←J] at H af e0 e1 e2;have N:=h.below H;have ae:Hid (zr r q w y q y):=zr.start h H;have o:Hid (y.heap[w.heap.size]?=some (.cells #[.pointer (some ⟨r,0,none⟩)] 85 (0,0))∧y.heap[w.heap.size+1]?=some (YD 7 s n base m cap line)∧y.heap[w.heap.size+2]?=some (.cells #[.int .i64 D] 3 (0,0))):=⟨e0,e1,e2⟩;have ab:=hS;have ci:=ZT 7 s n base m cap line y (hl.env N.env);rw [hex] at ci;have T:Hid (zy w0 r q t y):=N;have ag:=J.symm;have Q:=ze e0;obtain ⟨Z,c1,c2,W,Y⟩:=zI e1;have b2:=ze e2;have ai:(0:Int)<D:=by omega
 clear hS;generalize X=X0 at *;have HR:Hid (R=X0):=hR;clear hR N e0 e1 e2 J H h hl hex
 go_enter Tryz.func42,Tryz.ntmps42
 go_wp2_with fail
 refine ci.mono ?_;clear ci Q b2 Z c1 c2 W Y;rintro e w2 ⟨rfl,I⟩;have G:Hid (zr r q w y q w2):=ae.out.step (zT.below I);have ad:Hid (zy w0 r q t w2):=T.out.below I;clear I;have ca:=z6 true w2;go_wp2_with fail
 refine ca.mono ?_;clear ca;rintro e w3 ⟨rfl,rfl⟩;simp only [xd];have Q:=ze ((G.out.block (w.heap.size) (Nat.le_refl _) (by omega)).trans o.out.1)
 obtain ⟨Z,c1,c2,W,Y⟩:=zI ((G.out.block (w.heap.size+1) (by omega) (by omega)).trans o.out.2.1)
 have b2:=ze ((G.out.block (w.heap.size+2) (by omega) (by omega)).trans o.out.2.2)
 have L:Hid (zr r q w y q w3):=G.out;have aa:Hid (zy w0 r q t w3):=ad.out;clear ae T G ad;have cp:=ab.out q (t) w3 aa.out;go_wp2_with fail
 refine cp.mono ?_;clear cp Q b2 Z c1 c2 W Y;rintro e w4 ⟨q4,A,U⟩;cases X0 with
 | none=>subst U;obtain rfl:R=none:=HR.out;exact ⟨rfl,q4,(L.out.step A).unto,rfl⟩
 | some u0 =>
 obtain ⟨rfl,O⟩:=U;have z:Hid (zr r q w y q4 w4):=L.out.step A;have V:Hid (zy w0 r q4 (t++u0) w4):=O;clear A O;have Q:=ze ((z.out.block (w.heap.size) (Nat.le_refl _) (by omega)).trans o.out.1)
 obtain ⟨Z,c1,c2,W,Y⟩:=zI ((z.out.block (w.heap.size+1) (by omega) (by omega)).trans o.out.2.1)
 have b2:=ze ((z.out.block (w.heap.size+2) (by omega) (by omega)).trans o.out.2.2)
 obtain rfl:R=some (u0):=HR.out;have HP:Hid (zo w0 r q t w (some (u0)) (.returned (.tuple #[])) w4):=⟨q4,z.out.unto,rfl,by have:=V.out;simpa only [List.append_assoc] using this⟩
 clear L aa z V Q b2 Z c1 c2 W Y HR o ab;go_wp2
 exact bodyPost_ret (v:=.tuple #[]) (by simp [results,Tryz.results42,go_sem]) rfl HP.out
theorem zh0 (w0:World) (D:Int) (hD1:1≤D) (hD2:D≤24) (hl:ZC w0) (s:List UInt8) (n line:Int) (base:Option Addr) (m cap r:Nat) (q:Option Nat) (t:List UInt8) (w:World) (h:zy w0 r q t w) (hex:yQ 8 s n m=true) (X:Option (List UInt8)) (hS:Hid (∀(q:Option Nat) (t:List UInt8) (w:World),zy w0 r q t w→Calls Tryz.prog 84 #[.pointer (some ⟨r,0,none⟩),yz 8 s n base m cap line,.int .i64 D] w (zo w0 r q t w X))) :
  Calls Tryz.prog 42 #[.pointer (some ⟨r,0,none⟩),yz 8 s n base m cap line,.int .i64 D] w (zo w0 r q t w (X)):=by
 have ah:∀(fn:Fn) (first cap:Array Value) (w:World),(Instr.makeFunc fn first cap).run Tryz.prog w=.ok (.func fn first cap) w:=fun _ _ _ _=>rfl
 obtain ⟨R,hR⟩:∃R,R=X:=⟨_,rfl⟩;rw [←hR];obtain ⟨y,J⟩:∃y,y=QQ w r 8 s n base m cap line D:=⟨_,rfl⟩;obtain ⟨H,af,e0,e1,e2⟩:=yO w r 8 s n base m cap line D;rw [←J] at H af e0 e1 e2;have N:=h.below H;have ae:Hid (zr r q w y q y):=zr.start h H;have o:Hid (y.heap[w.heap.size]?=some (.cells #[.pointer (some ⟨r,0,none⟩)] 85 (0,0))∧y.heap[w.heap.size+1]?=some (YD 8 s n base m cap line)∧y.heap[w.heap.size+2]?=some (.cells #[.int .i64 D] 3 (0,0))):=⟨e0,e1,e2⟩;have ab:=hS;have ci:=ZT 8 s n base m cap line y (hl.env N.env);rw [hex] at ci;have T:Hid (zy w0 r q t y):=N;have ag:=J.symm;have Q:=ze e0;obtain ⟨Z,c1,c2,W,Y⟩:=zI e1;have b2:=ze e2;have ai:(0:Int)<D:=by omega
 clear hS;generalize X=X0 at *;have HR:Hid (R=X0):=hR;clear hR N e0 e1 e2 J H h hl hex
 go_enter Tryz.func42,Tryz.ntmps42
 go_wp2_with fail
 refine ci.mono ?_;clear ci Q b2 Z c1 c2 W Y;rintro e w2 ⟨rfl,I⟩;have G:Hid (zr r q w y q w2):=ae.out.step (zT.below I);have ad:Hid (zy w0 r q t w2):=T.out.below I;clear I;have ca:=z6 true w2;go_wp2_with fail
 refine ca.mono ?_;clear ca;rintro e w3 ⟨rfl,rfl⟩;simp only [xd];have Q:=ze ((G.out.block (w.heap.size) (Nat.le_refl _) (by omega)).trans o.out.1)
 obtain ⟨Z,c1,c2,W,Y⟩:=zI ((G.out.block (w.heap.size+1) (by omega) (by omega)).trans o.out.2.1)
 have b2:=ze ((G.out.block (w.heap.size+2) (by omega) (by omega)).trans o.out.2.2)
 have L:Hid (zr r q w y q w3):=G.out;have aa:Hid (zy w0 r q t w3):=ad.out;clear ae T G ad;have cp:=ab.out q (t) w3 aa.out;go_wp2_with fail
 refine cp.mono ?_;clear cp Q b2 Z c1 c2 W Y;rintro e w4 ⟨q4,A,U⟩;cases X0 with
 | none=>subst U;obtain rfl:R=none:=HR.out;exact ⟨rfl,q4,(L.out.step A).unto,rfl⟩
 | some u0 =>
 obtain ⟨rfl,O⟩:=U;have z:Hid (zr r q w y q4 w4):=L.out.step A;have V:Hid (zy w0 r q4 (t++u0) w4):=O;clear A O;have Q:=ze ((z.out.block (w.heap.size) (Nat.le_refl _) (by omega)).trans o.out.1)
 obtain ⟨Z,c1,c2,W,Y⟩:=zI ((z.out.block (w.heap.size+1) (by omega) (by omega)).trans o.out.2.1)
 have b2:=ze ((z.out.block (w.heap.size+2) (by omega) (by omega)).trans o.out.2.2)
 obtain rfl:R=some (u0):=HR.out;have HP:Hid (zo w0 r q t w (some (u0)) (.returned (.tuple #[])) w4):=⟨q4,z.out.unto,rfl,by have:=V.out;simpa only [List.append_assoc] using this⟩
 clear L aa z V Q b2 Z c1 c2 W Y HR o ab;go_wp2
 exact bodyPost_ret (v:=.tuple #[]) (by simp [results,Tryz.results42,go_sem]) rfl HP.out
theorem zh1 (w0:World) (D:Int) (hD1:1≤D) (hD2:D≤24) (hl:ZC w0) (s:List UInt8) (n line:Int) (base:Option Addr) (m cap r:Nat) (q:Option Nat) (t:List UInt8) (w:World) (h:zy w0 r q t w) (hex:yQ 9 s n m=true) (X:Option (List UInt8)) (hS:Hid (∀(q:Option Nat) (t:List UInt8) (w:World),zy w0 r q t w→Calls Tryz.prog 84 #[.pointer (some ⟨r,0,none⟩),yz 9 s n base m cap line,.int .i64 D] w (zo w0 r q t w X))) :
  Calls Tryz.prog 42 #[.pointer (some ⟨r,0,none⟩),yz 9 s n base m cap line,.int .i64 D] w (zo w0 r q t w (X)):=by
 have ah:∀(fn:Fn) (first cap:Array Value) (w:World),(Instr.makeFunc fn first cap).run Tryz.prog w=.ok (.func fn first cap) w:=fun _ _ _ _=>rfl
 obtain ⟨R,hR⟩:∃R,R=X:=⟨_,rfl⟩;rw [←hR];obtain ⟨y,J⟩:∃y,y=QQ w r 9 s n base m cap line D:=⟨_,rfl⟩;obtain ⟨H,af,e0,e1,e2⟩:=yO w r 9 s n base m cap line D;rw [←J] at H af e0 e1 e2;have N:=h.below H;have ae:Hid (zr r q w y q y):=zr.start h H;have o:Hid (y.heap[w.heap.size]?=some (.cells #[.pointer (some ⟨r,0,none⟩)] 85 (0,0))∧y.heap[w.heap.size+1]?=some (YD 9 s n base m cap line)∧y.heap[w.heap.size+2]?=some (.cells #[.int .i64 D] 3 (0,0))):=⟨e0,e1,e2⟩;have ab:=hS;have ci:=ZT 9 s n base m cap line y (hl.env N.env);rw [hex] at ci;have T:Hid (zy w0 r q t y):=N;have ag:=J.symm;have Q:=ze e0;obtain ⟨Z,c1,c2,W,Y⟩:=zI e1;have b2:=ze e2;have ai:(0:Int)<D:=by omega
 clear hS;generalize X=X0 at *;have HR:Hid (R=X0):=hR;clear hR N e0 e1 e2 J H h hl hex
 go_enter Tryz.func42,Tryz.ntmps42
 go_wp2_with fail
 refine ci.mono ?_;clear ci Q b2 Z c1 c2 W Y;rintro e w2 ⟨rfl,I⟩;have G:Hid (zr r q w y q w2):=ae.out.step (zT.below I);have ad:Hid (zy w0 r q t w2):=T.out.below I;clear I;have ca:=z6 true w2;go_wp2_with fail
 refine ca.mono ?_;clear ca;rintro e w3 ⟨rfl,rfl⟩;simp only [xd];have Q:=ze ((G.out.block (w.heap.size) (Nat.le_refl _) (by omega)).trans o.out.1)
 obtain ⟨Z,c1,c2,W,Y⟩:=zI ((G.out.block (w.heap.size+1) (by omega) (by omega)).trans o.out.2.1)
 have b2:=ze ((G.out.block (w.heap.size+2) (by omega) (by omega)).trans o.out.2.2)
 have L:Hid (zr r q w y q w3):=G.out;have aa:Hid (zy w0 r q t w3):=ad.out;clear ae T G ad;have cp:=ab.out q (t) w3 aa.out;go_wp2_with fail
 refine cp.mono ?_;clear cp Q b2 Z c1 c2 W Y;rintro e w4 ⟨q4,A,U⟩;cases X0 with
 | none=>subst U;obtain rfl:R=none:=HR.out;exact ⟨rfl,q4,(L.out.step A).unto,rfl⟩
 | some u0 =>
 obtain ⟨rfl,O⟩:=U;have z:Hid (zr r q w y q4 w4):=L.out.step A;have V:Hid (zy w0 r q4 (t++u0) w4):=O;clear A O;have Q:=ze ((z.out.block (w.heap.size) (Nat.le_refl _) (by omega)).trans o.out.1)
 obtain ⟨Z,c1,c2,W,Y⟩:=zI ((z.out.block (w.heap.size+1) (by omega) (by omega)).trans o.out.2.1)
 have b2:=ze ((z.out.block (w.heap.size+2) (by omega) (by omega)).trans o.out.2.2)
 obtain rfl:R=some (u0):=HR.out;have HP:Hid (zo w0 r q t w (some (u0)) (.returned (.tuple #[])) w4):=⟨q4,z.out.unto,rfl,by have:=V.out;simpa only [List.append_assoc] using this⟩
 clear L aa z V Q b2 Z c1 c2 W Y HR o ab;go_wp2
 exact bodyPost_ret (v:=.tuple #[]) (by simp [results,Tryz.results42,go_sem]) rfl HP.out
theorem zh2 (w0:World) (D:Int) (hD1:1≤D) (hD2:D≤24) (hl:ZC w0) (s:List UInt8) (n line:Int) (base:Option Addr) (m cap r:Nat) (q:Option Nat) (t:List UInt8) (w:World) (h:zy w0 r q t w) (k:Int) (hex:yQ k s n m=false) :
  Calls Tryz.prog 42 #[.pointer (some ⟨r,0,none⟩),yz k s n base m cap line,.int .i64 D] w (zo w0 r q t w none):=by
 have aa:∀(fn:Fn) (first cap:Array Value) (w:World),(Instr.makeFunc fn first cap).run Tryz.prog w=.ok (.func fn first cap) w:=fun _ _ _ _=>rfl
 obtain ⟨R,U⟩:∃R,R=(none:Option (List UInt8)):=⟨_,rfl⟩;rw [←U];obtain ⟨o,G⟩:∃o,o=QQ w r k s n base m cap line D:=⟨_,rfl⟩;obtain ⟨y,H,I,J,L⟩:=yO w r k s n base m cap line D;rw [←G] at y H I J L;have A:=h.below y;have N:Hid (zr r q w o q o):=zr.start h y;have ad:Hid (o.heap[w.heap.size]?=some (.cells #[.pointer (some ⟨r,0,none⟩)] 85 (0,0))∧o.heap[w.heap.size+1]?=some (YD k s n base m cap line)∧o.heap[w.heap.size+2]?=some (.cells #[.int .i64 D] 3 (0,0))):=⟨I,J,L⟩;have V:=ZT k s n base m cap line o (hl.env A.env);rw [hex] at V;have O:Hid (zy w0 r q t o):=A;have W:=G.symm;have Z:=ze I;obtain ⟨c0,c1,c2,c3,c4⟩:=zI J;have b2:=ze L;have ab:(0:Int)<D:=by omega
 have HR:Hid (R=none):=U;clear U A I J L G y h hl hex
 go_enter Tryz.func42,Tryz.ntmps42
 go_wp2_with fail
 refine V.mono ?_;clear V Z b2 c0 c1 c2 c3 c4;rintro e T ⟨rfl,z⟩;have Q:Hid (zr r q w o q T):=N.out.step (zT.below z);have ae:Hid (zy w0 r q t T):=O.out.below z;clear z;have Y:=z6 false T;go_wp2_with fail
 refine Y.mono ?_;clear Y;rintro e w3 ⟨rfl,rfl⟩;obtain rfl:=HR.out;exact ⟨rfl,q,Q.out.unto,rfl⟩
theorem ze4 (w0:World) (k:Int) (s:List UInt8) (n line:Int) (base:Option Addr) (m cap r:Nat) (q:Option Nat) (t:List UInt8) (w:World) (h:zy w0 r q t w) :
  Calls Tryz.prog 42 #[.pointer (some ⟨r,0,none⟩),yz k s n base m cap line,.int .i64 0] w (zo w0 r q t w none):=by
 obtain ⟨A,o⟩:∃A,A=QQ w r k s n base m cap line 0:=⟨_,rfl⟩;obtain ⟨y,z,L,H,G⟩:=yO w r k s n base m cap line 0;rw [←o] at y z L H G;have D:Hid (zr r q w A q A):=zr.start h y;have I:=o.symm;have O:=ze G;have J:=z6 false A;clear y L H G o h
 go_enter Tryz.func42,Tryz.ntmps42
 go_wp2_with fail
 refine J.mono ?_;clear J;rintro e N ⟨rfl,rfl⟩;exact ⟨rfl,q,D.out.unto,rfl⟩
end Go.Proofs.YtpejpbbdgblbeaaGreatDoor
