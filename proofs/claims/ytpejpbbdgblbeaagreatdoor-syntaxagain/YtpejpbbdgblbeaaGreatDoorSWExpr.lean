import Derived.Test.YtpejpbbdgblbeaaGreatDoorMC10
namespace Go.Proofs.YtpejpbbdgblbeaaGreatDoor
open Go.RowKit Go.Shelf
set_option maxHeartbeats 16000000
set_option maxRecDepth 100000
theorem ua (w0:World) (d:Nat) (D:Int) (hD:D-1=(d:Int)) (_hD1:1≤D) (hD2:D≤24) (hX:yN w0 d) (x:Ez) (v:Value) (bw bd r:Nat) (q:Option Nat) (t:List UInt8) (w:World) (hx:Zy w0.heap.size w0 x v) (h:zy w0 r q t w) (hcw:w.cell? ⟨bw,0,none⟩=some (.pointer (some ⟨r,0,none⟩))) (hcd:w.cell? ⟨bd,0,none⟩=some (.int .i64 D)) :
  Calls Tryz.prog 79 #[v,.pointer (some ⟨bw,0,none⟩),.pointer (some ⟨bd,0,none⟩)] w (zo w0 r q t w (prE d x)):=by
 have Q:=hx;obtain ⟨k,s,n,kids,line,A,O,b,o,us,hs,aa,Z,I,R,hc,hm,H,G,hk⟩:=hx;obtain ⟨w1,y⟩:∃w1,w1=w.alloc (YD k s n A kids.length O line):=⟨_,rfl⟩;have L:Below w.heap.size w w1:=by rw [y];exact (Below.refl _ w).alloc (Nat.le_refl _) _
 have Y:w1.heap[w.heap.size]?=some (YD k s n A kids.length O line):=by rw [y];exact World.alloc_heap_new w _
 have W:=hX _ _ r q t w1 Q (h.below L);have d1:w1.cell? ⟨bw,0,none⟩=some (.pointer (some ⟨r,0,none⟩)):=by rw [y];exact zl hcw _
 have d2:w1.cell? ⟨bd,0,none⟩=some (.int .i64 D):=by rw [y];exact zl hcd _
 have J:Hid (zT r q w q w1):=zT.below L;generalize prE d (.mk k s n kids line)=X at *;generalize kids.length=m at *;obtain ⟨c0,c1,c2,c3,c4⟩:=zI Y;have V:=y.symm;clear y Y L h Q hX I R hc H G hk hcw hcd
 go_enter Tryz.func79,Tryz.ntmps79
 go_wp2_with fail
 refine W.mono ?_;clear W;rintro e w2 ⟨U,z,T⟩;cases X with
 | none=>subst T;exact ⟨rfl,U,J.out.trans z,rfl⟩
 | some u =>
  obtain ⟨rfl,N⟩:=T;have HP:Hid (zo w0 r q t w (some u) (.returned (.tuple #[])) w2):=⟨U,J.out.trans z,rfl,N⟩;clear z N J c0 c1 c2 c3 c4 d1 d2;go_wp2
  exact bodyPost_ret (v:=.tuple #[]) (by simp [results,Tryz.results79,go_sem]) rfl HP.out
abbrev QP (w:World) (r:Nat) (k:Int) (s:List UInt8) (n:Int) (base:Option Addr) (m cap:Nat) (line D:Int):World:=((w.alloc (.cells #[.pointer (some ⟨r,0,none⟩)] 85)).alloc (YD k s n base m cap line)).alloc (.cells #[.int .i64 D] 3)
theorem yO (w:World) (r:Nat) (k:Int) (s:List UInt8) (n:Int) (base:Option Addr) (m cap:Nat) (line D:Int) :
  Below w.heap.size w (QP w r k s n base m cap line D)∧(QP w r k s n base m cap line D).heap.size=w.heap.size+3∧(QP w r k s n base m cap line D).heap[w.heap.size]?=some (.cells #[.pointer (some ⟨r,0,none⟩)] 85 (0,0))∧(QP w r k s n base m cap line D).heap[w.heap.size+1]?=some (YD k s n base m cap line)∧(QP w r k s n base m cap line D).heap[w.heap.size+2]?=some (.cells #[.int .i64 D] 3 (0,0)):=by
 refine ⟨(((Below.refl _ w).alloc (Nat.le_refl _) _).alloc (by simp) _).alloc (by simp <;> omega) _,by simp,?_,?_,?_⟩
 ·rw [Below.heap_alloc _ _ _ (by simp <;> omega),Below.heap_alloc _ _ _ (by simp)];exact World.alloc_heap_new _ _
 ·rw [Below.heap_alloc _ _ _ (by simp)]
  have:=World.alloc_heap_new (w.alloc (.cells #[.pointer (some ⟨r,0,none⟩)] 85)) (YD k s n base m cap line)
  simpa using this
 ·have:=World.alloc_heap_new ((w.alloc (.cells #[.pointer (some ⟨r,0,none⟩)] 85)).alloc (YD k s n base m cap line)) (.cells #[.int .i64 D] 3)
  simpa using this
theorem ze {w:World} {N:Nat} {v:Value} {ty:TypeId} (p:w.heap[N]?=some (.cells #[v] ty (0,0))):w.cell? ⟨N,0,none⟩=some v:=by simp only [World.cell?,p];rfl
theorem ZC.env {w0 w:World} (h:ZC w0) (hb:Below w0.heap.size w0 w):ZC w:=fun j v hj=>by rw [hb.cell (World.block_lt_of_cell? w0 _ (h j v hj))];exact h j v hj
theorem zhU (w0:World) (D:Int) (hD1:1≤D) (hD2:D≤24) (hT:ZE w0) (hl:ZC w0) (s:List UInt8) (n line:Int) (base:Option Addr) (m cap r:Nat) (q:Option Nat) (t:List UInt8) (w:World) (h:zy w0 r q t w) (hex:yQ 1 s n m=true) (hn0:-9223372036854775808≤n) (hn1:n≤9223372036854775807) :
  Calls Tryz.prog 42 #[.pointer (some ⟨r,0,none⟩),yz 1 s n base m cap line,.int .i64 D] w (zo w0 r q t w (tokO 2 n [])):=by
 have af:∀(fn:Fn) (first cap:Array Value) (w:World),(Instr.makeFunc fn first cap).run Tryz.prog w=.ok (.func fn first cap) w:=fun _ _ _ _=>rfl
 obtain ⟨R,hR⟩:∃R,R=tokO 2 n []:=⟨_,rfl⟩;rw [←hR];obtain ⟨y,N⟩:∃y,y=QP w r 1 s n base m cap line D:=⟨_,rfl⟩;obtain ⟨H,T,e0,e1,e2⟩:=yO w r 1 s n base m cap line D;rw [←N] at H T e0 e1 e2;have I:=h.below H;have Q:Hid (zr r q w y q y):=zr.start h H;have o:Hid (y.heap[w.heap.size]?=some (.cells #[.pointer (some ⟨r,0,none⟩)] 85 (0,0))∧y.heap[w.heap.size+1]?=some (YD 1 s n base m cap line)∧y.heap[w.heap.size+2]?=some (.cells #[.int .i64 D] 3 (0,0))):=⟨e0,e1,e2⟩;have ad:Hid (∀(q:Option Nat) (t:List UInt8) (w:World),zy w0 r q t w→Calls Tryz.prog 80 #[.pointer (some ⟨r,0,none⟩),.agg #[.int .i64 2,.string (zb []),.int .i64 n,.int .i64 0,.int .i64 0]] w (zo w0 r q t w (tokO 2 n []))):=fun q t w h=>Uy w0 r q t 2 n 0 0 [] w hT h hn0 hn1 (by simp)
 have ci:=ZT 1 s n base m cap line y (hl.env I.env);rw [hex] at ci;have ab:Hid (zy w0 r q t y):=I;have ae:=N.symm;have Z:=ze e0;obtain ⟨c0,c1,c2,c3,W⟩:=zI e1;have b2:=ze e2;have ag:(0:Int)<D:=by omega
 generalize tokO 2 n []=X0 at *;have HR:Hid (R=X0):=hR;clear hR I e0 e1 e2 N H h hl hex hT
 go_enter Tryz.func42,Tryz.ntmps42
 go_wp2_with fail
 refine ci.mono ?_;clear ci Z b2 c0 c1 c2 c3 W;rintro e w2 ⟨rfl,J⟩;have z:Hid (zr r q w y q w2):=Q.out.step (zT.below J);have Y:Hid (zy w0 r q t w2):=ab.out.below J;clear J;have ca:=z6 true w2;go_wp2_with fail
 refine ca.mono ?_;clear ca;rintro e w3 ⟨rfl,rfl⟩;simp only [xd];have Z:=ze ((z.out.block (w.heap.size) (Nat.le_refl _) (by omega)).trans o.out.1)
 obtain ⟨c0,c1,c2,c3,W⟩:=zI ((z.out.block (w.heap.size+1) (by omega) (by omega)).trans o.out.2.1)
 have b2:=ze ((z.out.block (w.heap.size+2) (by omega) (by omega)).trans o.out.2.2)
 have L:Hid (zr r q w y q w3):=z.out;have aa:Hid (zy w0 r q t w3):=Y.out;clear Q ab z Y;have cp:=ad.out q (t) w3 aa.out;go_wp2_with fail
 refine cp.mono ?_;clear cp Z b2 c0 c1 c2 c3 W;rintro e w4 ⟨q4,G,U⟩;cases X0 with
 | none=>subst U;obtain rfl:R=none:=HR.out;exact ⟨rfl,q4,(L.out.step G).unto,rfl⟩
 | some u0 =>
 obtain ⟨rfl,O⟩:=U;have A:Hid (zr r q w y q4 w4):=L.out.step G;have V:Hid (zy w0 r q4 (t++u0) w4):=O;clear G O;have Z:=ze ((A.out.block (w.heap.size) (Nat.le_refl _) (by omega)).trans o.out.1)
 obtain ⟨c0,c1,c2,c3,W⟩:=zI ((A.out.block (w.heap.size+1) (by omega) (by omega)).trans o.out.2.1)
 have b2:=ze ((A.out.block (w.heap.size+2) (by omega) (by omega)).trans o.out.2.2)
 obtain rfl:R=some (u0):=HR.out;have HP:Hid (zo w0 r q t w (some (u0)) (.returned (.tuple #[])) w4):=⟨q4,A.out.unto,rfl,by have:=V.out;simpa only [List.append_assoc] using this⟩
 clear L aa A V Z b2 c0 c1 c2 c3 W HR o ad;go_wp2
 exact bodyPost_ret (v:=.tuple #[]) (by simp [results,Tryz.results42,go_sem]) rfl HP.out
theorem zhV (w0:World) (D:Int) (hD1:1≤D) (hD2:D≤24) (hT:ZE w0) (hl:ZC w0) (s:List UInt8) (n line:Int) (base:Option Addr) (m cap r:Nat) (q:Option Nat) (t:List UInt8) (w:World) (h:zy w0 r q t w) (hex:yQ 3 s n m=true) (hs:s.length≤100000000) :
  Calls Tryz.prog 42 #[.pointer (some ⟨r,0,none⟩),yz 3 s n base m cap line,.int .i64 D] w (zo w0 r q t w (tokO 3 0 s)):=by
 have af:∀(fn:Fn) (first cap:Array Value) (w:World),(Instr.makeFunc fn first cap).run Tryz.prog w=.ok (.func fn first cap) w:=fun _ _ _ _=>rfl
 obtain ⟨R,hR⟩:∃R,R=tokO 3 0 s:=⟨_,rfl⟩;rw [←hR];obtain ⟨y,N⟩:∃y,y=QP w r 3 s n base m cap line D:=⟨_,rfl⟩;obtain ⟨H,T,e0,e1,e2⟩:=yO w r 3 s n base m cap line D;rw [←N] at H T e0 e1 e2;have I:=h.below H;have Q:Hid (zr r q w y q y):=zr.start h H;have o:Hid (y.heap[w.heap.size]?=some (.cells #[.pointer (some ⟨r,0,none⟩)] 85 (0,0))∧y.heap[w.heap.size+1]?=some (YD 3 s n base m cap line)∧y.heap[w.heap.size+2]?=some (.cells #[.int .i64 D] 3 (0,0))):=⟨e0,e1,e2⟩;have ad:Hid (∀(q:Option Nat) (t:List UInt8) (w:World),zy w0 r q t w→Calls Tryz.prog 80 #[.pointer (some ⟨r,0,none⟩),.agg #[.int .i64 3,.string (zb s),.int .i64 0,.int .i64 0,.int .i64 0]] w (zo w0 r q t w (tokO 3 0 s))):=fun q t w h=>Uy w0 r q t 3 0 0 0 s w hT h (by omega) (by omega) hs
 have ci:=ZT 3 s n base m cap line y (hl.env I.env);rw [hex] at ci;have ab:Hid (zy w0 r q t y):=I;have ae:=N.symm;have Z:=ze e0;obtain ⟨c0,c1,c2,c3,W⟩:=zI e1;have b2:=ze e2;have ag:(0:Int)<D:=by omega
 generalize tokO 3 0 s=X0 at *;have HR:Hid (R=X0):=hR;clear hR I e0 e1 e2 N H h hl hex hT
 go_enter Tryz.func42,Tryz.ntmps42
 go_wp2_with fail
 refine ci.mono ?_;clear ci Z b2 c0 c1 c2 c3 W;rintro e w2 ⟨rfl,J⟩;have z:Hid (zr r q w y q w2):=Q.out.step (zT.below J);have Y:Hid (zy w0 r q t w2):=ab.out.below J;clear J;have ca:=z6 true w2;go_wp2_with fail
 refine ca.mono ?_;clear ca;rintro e w3 ⟨rfl,rfl⟩;simp only [xd];have Z:=ze ((z.out.block (w.heap.size) (Nat.le_refl _) (by omega)).trans o.out.1)
 obtain ⟨c0,c1,c2,c3,W⟩:=zI ((z.out.block (w.heap.size+1) (by omega) (by omega)).trans o.out.2.1)
 have b2:=ze ((z.out.block (w.heap.size+2) (by omega) (by omega)).trans o.out.2.2)
 have L:Hid (zr r q w y q w3):=z.out;have aa:Hid (zy w0 r q t w3):=Y.out;clear Q ab z Y;have cp:=ad.out q (t) w3 aa.out;go_wp2_with fail
 refine cp.mono ?_;clear cp Z b2 c0 c1 c2 c3 W;rintro e w4 ⟨q4,G,U⟩;cases X0 with
 | none=>subst U;obtain rfl:R=none:=HR.out;exact ⟨rfl,q4,(L.out.step G).unto,rfl⟩
 | some u0 =>
 obtain ⟨rfl,O⟩:=U;have A:Hid (zr r q w y q4 w4):=L.out.step G;have V:Hid (zy w0 r q4 (t++u0) w4):=O;clear G O;have Z:=ze ((A.out.block (w.heap.size) (Nat.le_refl _) (by omega)).trans o.out.1)
 obtain ⟨c0,c1,c2,c3,W⟩:=zI ((A.out.block (w.heap.size+1) (by omega) (by omega)).trans o.out.2.1)
 have b2:=ze ((A.out.block (w.heap.size+2) (by omega) (by omega)).trans o.out.2.2)
 obtain rfl:R=some (u0):=HR.out;have HP:Hid (zo w0 r q t w (some (u0)) (.returned (.tuple #[])) w4):=⟨q4,A.out.unto,rfl,by have:=V.out;simpa only [List.append_assoc] using this⟩
 clear L aa A V Z b2 c0 c1 c2 c3 W HR o ad;go_wp2
 exact bodyPost_ret (v:=.tuple #[]) (by simp [results,Tryz.results42,go_sem]) rfl HP.out
theorem zhW (w0:World) (D:Int) (hD1:1≤D) (hD2:D≤24) (hT:ZE w0) (hl:ZC w0) (s:List UInt8) (n line:Int) (base:Option Addr) (m cap r:Nat) (q:Option Nat) (t:List UInt8) (w:World) (h:zy w0 r q t w) (hex:yQ 4 s n m=true) (hs:s.length≤100000000) :
  Calls Tryz.prog 42 #[.pointer (some ⟨r,0,none⟩),yz 4 s n base m cap line,.int .i64 D] w (zo w0 r q t w (tokO 1 0 s)):=by
 have af:∀(fn:Fn) (first cap:Array Value) (w:World),(Instr.makeFunc fn first cap).run Tryz.prog w=.ok (.func fn first cap) w:=fun _ _ _ _=>rfl
 obtain ⟨R,hR⟩:∃R,R=tokO 1 0 s:=⟨_,rfl⟩;rw [←hR];obtain ⟨y,N⟩:∃y,y=QP w r 4 s n base m cap line D:=⟨_,rfl⟩;obtain ⟨H,T,e0,e1,e2⟩:=yO w r 4 s n base m cap line D;rw [←N] at H T e0 e1 e2;have I:=h.below H;have Q:Hid (zr r q w y q y):=zr.start h H;have o:Hid (y.heap[w.heap.size]?=some (.cells #[.pointer (some ⟨r,0,none⟩)] 85 (0,0))∧y.heap[w.heap.size+1]?=some (YD 4 s n base m cap line)∧y.heap[w.heap.size+2]?=some (.cells #[.int .i64 D] 3 (0,0))):=⟨e0,e1,e2⟩;have ad:Hid (∀(q:Option Nat) (t:List UInt8) (w:World),zy w0 r q t w→Calls Tryz.prog 82 #[.pointer (some ⟨r,0,none⟩),.string (zb s)] w (zo w0 r q t w (tokO 1 0 s))):=fun q t w h=>yx w0 r q t s w hT h hs
 have ci:=ZT 4 s n base m cap line y (hl.env I.env);rw [hex] at ci;have ab:Hid (zy w0 r q t y):=I;have ae:=N.symm;have Z:=ze e0;obtain ⟨c0,c1,c2,c3,W⟩:=zI e1;have b2:=ze e2;have ag:(0:Int)<D:=by omega
 generalize tokO 1 0 s=X0 at *;have HR:Hid (R=X0):=hR;clear hR I e0 e1 e2 N H h hl hex hT
 go_enter Tryz.func42,Tryz.ntmps42
 go_wp2_with fail
 refine ci.mono ?_;clear ci Z b2 c0 c1 c2 c3 W;rintro e w2 ⟨rfl,J⟩;have z:Hid (zr r q w y q w2):=Q.out.step (zT.below J);have Y:Hid (zy w0 r q t w2):=ab.out.below J;clear J;have ca:=z6 true w2;go_wp2_with fail
 refine ca.mono ?_;clear ca;rintro e w3 ⟨rfl,rfl⟩;simp only [xd];have Z:=ze ((z.out.block (w.heap.size) (Nat.le_refl _) (by omega)).trans o.out.1)
 obtain ⟨c0,c1,c2,c3,W⟩:=zI ((z.out.block (w.heap.size+1) (by omega) (by omega)).trans o.out.2.1)
 have b2:=ze ((z.out.block (w.heap.size+2) (by omega) (by omega)).trans o.out.2.2)
 have L:Hid (zr r q w y q w3):=z.out;have aa:Hid (zy w0 r q t w3):=Y.out;clear Q ab z Y;have cp:=ad.out q (t) w3 aa.out;go_wp2_with fail
 refine cp.mono ?_;clear cp Z b2 c0 c1 c2 c3 W;rintro e w4 ⟨q4,G,U⟩;cases X0 with
 | none=>subst U;obtain rfl:R=none:=HR.out;exact ⟨rfl,q4,(L.out.step G).unto,rfl⟩
 | some u0 =>
 obtain ⟨rfl,O⟩:=U;have A:Hid (zr r q w y q4 w4):=L.out.step G;have V:Hid (zy w0 r q4 (t++u0) w4):=O;clear G O;have Z:=ze ((A.out.block (w.heap.size) (Nat.le_refl _) (by omega)).trans o.out.1)
 obtain ⟨c0,c1,c2,c3,W⟩:=zI ((A.out.block (w.heap.size+1) (by omega) (by omega)).trans o.out.2.1)
 have b2:=ze ((A.out.block (w.heap.size+2) (by omega) (by omega)).trans o.out.2.2)
 obtain rfl:R=some (u0):=HR.out;have HP:Hid (zo w0 r q t w (some (u0)) (.returned (.tuple #[])) w4):=⟨q4,A.out.unto,rfl,by have:=V.out;simpa only [List.append_assoc] using this⟩
 clear L aa A V Z b2 c0 c1 c2 c3 W HR o ad;go_wp2
 exact bodyPost_ret (v:=.tuple #[]) (by simp [results,Tryz.results42,go_sem]) rfl HP.out
theorem zhX (w0:World) (d:Nat) (D:Int) (hD:D-1=(d:Int)) (hD1:1≤D) (hD2:D≤24) (hX:yN w0 d) (hT:ZE w0) (hl:ZC w0) (s:List UInt8) (n line:Int) (base:Option Addr) (m cap r:Nat) (q:Option Nat) (t:List UInt8) (w:World) (h:zy w0 r q t w) (hex:yQ 5 s n m=true) (hs:s.length≤100000000) (kids:List Ez) (hm3:m=kids.length) (hc2:kids.length≤cap) (hm2:cap≤maxLen) (hrow2:∀i x,kids[i]?=some x→∃b o a1 a2 a3 a4 a5 a6 a7,base=some ⟨b,o,none⟩∧b<w0.heap.size∧b<w0.heap.size∧Zy w0.heap.size w0 x (yz a1 a2 a3 a4 a5 a6 a7)∧w0.cell? ⟨b,o+i*5,none⟩=some (.int .i64 a1)∧w0.cell? ⟨b,o+i*5+1,none⟩=some (.string (zb a2))∧w0.cell? ⟨b,o+i*5+2,none⟩=some (.int .i64 a3)∧w0.cell? ⟨b,o+i*5+3,none⟩=some (.slice a4 a5 a6)∧w0.cell? ⟨b,o+i*5+4,none⟩=some (.int .i64 a7)) :
  Calls Tryz.prog 42 #[.pointer (some ⟨r,0,none⟩),yz 5 s n base m cap line,.int .i64 D] w (zo w0 r q t w (zc (tokO 1 0 s) (zc (some [40]) (zc (rowO (kids.map (prE d)) kids.length) (some [41]))))):=by
 have aB:∀(fn:Fn) (first cap:Array Value) (w:World),(Instr.makeFunc fn first cap).run Tryz.prog w=.ok (.func fn first cap) w:=fun _ _ _ _=>rfl
 obtain ⟨R,hR⟩:∃R,R=zc (tokO 1 0 s) (zc (some [40]) (zc (rowO (kids.map (prE d)) kids.length) (some [41]))):=⟨_,rfl⟩;rw [←hR];obtain ⟨z,ag⟩:∃z,z=QP w r 5 s n base m cap line D:=⟨_,rfl⟩;obtain ⟨Z,ap,e0,e1,e2⟩:=yO w r 5 s n base m cap line D;rw [←ag] at Z ap e0 e1 e2;have ad:=h.below Z;have ao:Hid (zr r q w z q z):=zr.start h Z;have y:Hid (z.heap[w.heap.size]?=some (.cells #[.pointer (some ⟨r,0,none⟩)] 85 (0,0))∧z.heap[w.heap.size+1]?=some (YD 5 s n base m cap line)∧z.heap[w.heap.size+2]?=some (.cells #[.int .i64 D] 3 (0,0))):=⟨e0,e1,e2⟩;have az:Hid (∀(q:Option Nat) (t:List UInt8) (w:World),zy w0 r q t w→Calls Tryz.prog 82 #[.pointer (some ⟨r,0,none⟩),.string (zb s)] w (zo w0 r q t w (tokO 1 0 s))):=fun q t w h=>yx w0 r q t s w hT h hs
 have au:Hid (∀(q2:Option Nat) (t2:List UInt8) (W:World),zy w0 r q2 t2 W→zr r q w z q2 W→Calls Tryz.prog 83 #[.pointer (some ⟨r,0,none⟩),.slice base m cap,.func (.func 79) #[] #[.pointer (some ⟨w.heap.size,0,none⟩),.pointer (some ⟨w.heap.size+2,0,none⟩)]] W (zo w0 r q2 t2 W (rowO (kids.map (prE d)) kids.length))):=fun q2 t2 W h2 hL2=>by rw [hm3];exact Vm w0 (prE d) kids base cap _ _ r q2 t2 W h2 hc2 hm2 hrow2 fun x v q1 t1 W1 _ hx h1 hto=>ua w0 d D hD hD1 hD2 hX x v _ _ r q1 t1 W1 hx h1 (ze (((hL2.step hto).block (w.heap.size) (Nat.le_refl _) (by omega)).trans y.out.1)) (ze (((hL2.step hto).block (w.heap.size+2) (by omega) (by omega)).trans y.out.2.2))
 have ci:=ZT 5 s n base m cap line z (hl.env ad.env);rw [hex] at ci;have ay:Hid (zy w0 r q t z):=ad;have aA:=ag.symm;have L:=ze e0;obtain ⟨Y,c1,c2,T,I⟩:=zI e1;have V:=ze e2;have aC:(0:Int)<D:=by omega
 generalize tokO 1 0 s=X0 at *;generalize rowO (kids.map (prE d)) kids.length=X1 at *;have HR:Hid (R=zc X0 (zc (some [40]) (zc X1 (some [41])))):=hR;clear hR ad e0 e1 e2 ag Z h hl hex hX hT hc2 hm2 hrow2 hm3
 go_enter Tryz.func42,Tryz.ntmps42
 go_wp2_with fail
 refine ci.mono ?_;clear ci L V Y c1 c2 T I;rintro e w2 ⟨rfl,ae⟩;have G:Hid (zr r q w z q w2):=ao.out.step (zT.below ae);have av:Hid (zy w0 r q t w2):=ay.out.below ae;clear ae;have ca:=z6 true w2;go_wp2_with fail
 refine ca.mono ?_;clear ca;rintro e w3 ⟨rfl,rfl⟩;simp only [xd];have L:=ze ((G.out.block (w.heap.size) (Nat.le_refl _) (by omega)).trans y.out.1)
 obtain ⟨Y,c1,c2,T,I⟩:=zI ((G.out.block (w.heap.size+1) (by omega) (by omega)).trans y.out.2.1)
 have V:=ze ((G.out.block (w.heap.size+2) (by omega) (by omega)).trans y.out.2.2)
 have af:Hid (zr r q w z q w3):=G.out;have aw:Hid (zy w0 r q t w3):=av.out;clear ao ay G av;have J:=az.out q (t) w3 aw.out;go_wp2_with fail
 refine J.mono ?_;clear J L V Y c1 c2 T I;rintro e w4 ⟨q4,Q,aq⟩;cases X0 with
 | none=>subst aq;obtain rfl:R=none:=HR.out;exact ⟨rfl,q4,(af.out.step Q).unto,rfl⟩
 | some u0 =>
 obtain ⟨rfl,am⟩:=aq;have H:Hid (zr r q w z q4 w4):=af.out.step Q;have ar:Hid (zy w0 r q4 (t++u0) w4):=am;clear Q am;have L:=ze ((H.out.block (w.heap.size) (Nat.le_refl _) (by omega)).trans y.out.1)
 obtain ⟨Y,c1,c2,T,I⟩:=zI ((H.out.block (w.heap.size+1) (by omega) (by omega)).trans y.out.2.1)
 have V:=ze ((H.out.block (w.heap.size+2) (by omega) (by omega)).trans y.out.2.2)
 have J:=zx w0 r q4 (t++u0) [40] w4 ar.out (by simp)
 go_wp2_with fail
 refine J.mono ?_;clear J L V Y c1 c2 T I;rintro e w5 ⟨q5,aa,rfl,ax⟩;have A:Hid (zr r q w z q5 w5):=H.out.step aa;have ah:Hid (zy w0 r q5 (t++u0++[40]) w5):=ax;clear aa ax;have L:=ze ((A.out.block (w.heap.size) (Nat.le_refl _) (by omega)).trans y.out.1)
 obtain ⟨Y,c1,c2,T,I⟩:=zI ((A.out.block (w.heap.size+1) (by omega) (by omega)).trans y.out.2.1)
 have V:=ze ((A.out.block (w.heap.size+2) (by omega) (by omega)).trans y.out.2.2)
 have J:=au.out q5 (t++u0++[40]) w5 ah.out A.out;go_wp2_with fail
 refine J.mono ?_;clear J L V Y c1 c2 T I;rintro e w6 ⟨q6,O,aj⟩;cases X1 with
 | none=>subst aj;obtain rfl:R=none:=HR.out;exact ⟨rfl,q6,(A.out.step O).unto,rfl⟩
 | some u1 =>
 obtain ⟨rfl,ai⟩:=aj;have N:Hid (zr r q w z q6 w6):=A.out.step O;have al:Hid (zy w0 r q6 (t++u0++[40]++u1) w6):=ai;clear O ai;have L:=ze ((N.out.block (w.heap.size) (Nat.le_refl _) (by omega)).trans y.out.1)
 obtain ⟨Y,c1,c2,T,I⟩:=zI ((N.out.block (w.heap.size+1) (by omega) (by omega)).trans y.out.2.1)
 have V:=ze ((N.out.block (w.heap.size+2) (by omega) (by omega)).trans y.out.2.2)
 have J:=zx w0 r q6 (t++u0++[40]++u1) [41] w6 al.out (by simp)
 go_wp2_with fail
 refine J.mono ?_;clear J L V Y c1 c2 T I;rintro e w7 ⟨q7,ab,rfl,ak⟩;have U:Hid (zr r q w z q7 w7):=N.out.step ab;have an:Hid (zy w0 r q7 (t++u0++[40]++u1++[41]) w7):=ak;clear ab ak;have L:=ze ((U.out.block (w.heap.size) (Nat.le_refl _) (by omega)).trans y.out.1)
 obtain ⟨Y,c1,c2,T,I⟩:=zI ((U.out.block (w.heap.size+1) (by omega) (by omega)).trans y.out.2.1)
 have V:=ze ((U.out.block (w.heap.size+2) (by omega) (by omega)).trans y.out.2.2)
 obtain rfl:R=some (u0++([40]++(u1++([41])))):=HR.out;have HP:Hid (zo w0 r q t w (some (u0++([40]++(u1++([41]))))) (.returned (.tuple #[])) w7):=⟨q7,U.out.unto,rfl,by have:=an.out;simpa only [List.append_assoc] using this⟩
 clear af aw H ar A ah N al U an L V Y c1 c2 T I HR y az au;go_wp2
 exact bodyPost_ret (v:=.tuple #[]) (by simp [results,Tryz.results42,go_sem]) rfl HP.out
theorem zgx (w0:World) (d:Nat) (D:Int) (hD:D-1=(d:Int)) (hD1:1≤D) (hD2:D≤24) (hX:yN w0 d) (hT:ZE w0) (hl:ZC w0) (s:List UInt8) (n line:Int) (base:Option Addr) (m cap r:Nat) (q:Option Nat) (t:List UInt8) (w:World) (h:zy w0 r q t w) (hex:yQ 11 s n m=true) (hs:s.length≤100000000) (kids:List Ez) (hm3:m=kids.length) (hc2:kids.length≤cap) (hm2:cap≤maxLen) (hrow2:∀i x,kids[i]?=some x→∃b o a1 a2 a3 a4 a5 a6 a7,base=some ⟨b,o,none⟩∧b<w0.heap.size∧b<w0.heap.size∧Zy w0.heap.size w0 x (yz a1 a2 a3 a4 a5 a6 a7)∧w0.cell? ⟨b,o+i*5,none⟩=some (.int .i64 a1)∧w0.cell? ⟨b,o+i*5+1,none⟩=some (.string (zb a2))∧w0.cell? ⟨b,o+i*5+2,none⟩=some (.int .i64 a3)∧w0.cell? ⟨b,o+i*5+3,none⟩=some (.slice a4 a5 a6)∧w0.cell? ⟨b,o+i*5+4,none⟩=some (.int .i64 a7)) :
  Calls Tryz.prog 42 #[.pointer (some ⟨r,0,none⟩),yz 11 s n base m cap line,.int .i64 D] w (zo w0 r q t w (zc (some [110,101,119,32]) (zc (tokO 1 0 s) (zc (some [40]) (zc (rowO (kids.map (prE d)) kids.length) (some [41])))))):=by
 have aF:∀(fn:Fn) (first cap:Array Value) (w:World),(Instr.makeFunc fn first cap).run Tryz.prog w=.ok (.func fn first cap) w:=fun _ _ _ _=>rfl
 obtain ⟨R,hR⟩:∃R,R=zc (some [110,101,119,32]) (zc (tokO 1 0 s) (zc (some [40]) (zc (rowO (kids.map (prE d)) kids.length) (some [41])))):=⟨_,rfl⟩;rw [←hR];obtain ⟨z,ah⟩:∃z,z=QP w r 11 s n base m cap line D:=⟨_,rfl⟩;obtain ⟨aa,aq,e0,e1,e2⟩:=yO w r 11 s n base m cap line D;rw [←ah] at aa aq e0 e1 e2;have af:=h.below aa;have ap:Hid (zr r q w z q z):=zr.start h aa;have y:Hid (z.heap[w.heap.size]?=some (.cells #[.pointer (some ⟨r,0,none⟩)] 85 (0,0))∧z.heap[w.heap.size+1]?=some (YD 11 s n base m cap line)∧z.heap[w.heap.size+2]?=some (.cells #[.int .i64 D] 3 (0,0))):=⟨e0,e1,e2⟩;have aD:Hid (∀(q:Option Nat) (t:List UInt8) (w:World),zy w0 r q t w→Calls Tryz.prog 82 #[.pointer (some ⟨r,0,none⟩),.string (zb s)] w (zo w0 r q t w (tokO 1 0 s))):=fun q t w h=>yx w0 r q t s w hT h hs
 have av:Hid (∀(q2:Option Nat) (t2:List UInt8) (W:World),zy w0 r q2 t2 W→zr r q w z q2 W→Calls Tryz.prog 83 #[.pointer (some ⟨r,0,none⟩),.slice base m cap,.func (.func 79) #[] #[.pointer (some ⟨w.heap.size,0,none⟩),.pointer (some ⟨w.heap.size+2,0,none⟩)]] W (zo w0 r q2 t2 W (rowO (kids.map (prE d)) kids.length))):=fun q2 t2 W h2 hL2=>by rw [hm3];exact Vm w0 (prE d) kids base cap _ _ r q2 t2 W h2 hc2 hm2 hrow2 fun x v q1 t1 W1 _ hx h1 hto=>ua w0 d D hD hD1 hD2 hX x v _ _ r q1 t1 W1 hx h1 (ze (((hL2.step hto).block (w.heap.size) (Nat.le_refl _) (by omega)).trans y.out.1)) (ze (((hL2.step hto).block (w.heap.size+2) (by omega) (by omega)).trans y.out.2.2))
 have ci:=ZT 11 s n base m cap line z (hl.env af.env);rw [hex] at ci;have aC:Hid (zy w0 r q t z):=af;have aE:=ah.symm;have J:=ze e0;obtain ⟨O,c1,c2,L,I⟩:=zI e1;have N:=ze e2;have aG:(0:Int)<D:=by omega
 generalize tokO 1 0 s=X0 at *;generalize rowO (kids.map (prE d)) kids.length=X1 at *;have HR:Hid (R=zc (some [110,101,119,32]) (zc X0 (zc (some [40]) (zc X1 (some [41]))))):=hR;clear hR af e0 e1 e2 ah aa h hl hex hX hT hc2 hm2 hrow2 hm3
 go_enter Tryz.func42,Tryz.ntmps42
 go_wp2_with fail
 refine ci.mono ?_;clear ci J N O c1 c2 L I;rintro e w2 ⟨rfl,ag⟩;have T:Hid (zr r q w z q w2):=ap.out.step (zT.below ag);have aw:Hid (zy w0 r q t w2):=aC.out.below ag;clear ag;have ca:=z6 true w2;go_wp2_with fail
 refine ca.mono ?_;clear ca;rintro e w3 ⟨rfl,rfl⟩;simp only [xd];have J:=ze ((T.out.block (w.heap.size) (Nat.le_refl _) (by omega)).trans y.out.1)
 obtain ⟨O,c1,c2,L,I⟩:=zI ((T.out.block (w.heap.size+1) (by omega) (by omega)).trans y.out.2.1)
 have N:=ze ((T.out.block (w.heap.size+2) (by omega) (by omega)).trans y.out.2.2)
 have aA:Hid (zr r q w z q w3):=T.out;have az:Hid (zy w0 r q t w3):=aw.out;clear ap aC T aw;have G:=zx w0 r q (t) [110,101,119,32] w3 az.out (by simp)
 go_wp2_with fail
 refine G.mono ?_;clear G J N O c1 c2 L I;rintro e w4 ⟨q4,ad,rfl,an⟩;have H:Hid (zr r q w z q4 w4):=aA.out.step ad;have au:Hid (zy w0 r q4 (t++[110,101,119,32]) w4):=an;clear ad an;have J:=ze ((H.out.block (w.heap.size) (Nat.le_refl _) (by omega)).trans y.out.1)
 obtain ⟨O,c1,c2,L,I⟩:=zI ((H.out.block (w.heap.size+1) (by omega) (by omega)).trans y.out.2.1)
 have N:=ze ((H.out.block (w.heap.size+2) (by omega) (by omega)).trans y.out.2.2)
 have G:=aD.out q4 (t++[110,101,119,32]) w4 au.out;go_wp2_with fail
 refine G.mono ?_;clear G J N O c1 c2 L I;rintro e w5 ⟨q5,Q,ay⟩;cases X0 with
 | none=>subst ay;obtain rfl:R=none:=HR.out;exact ⟨rfl,q5,(H.out.step Q).unto,rfl⟩
 | some u0 =>
 obtain ⟨rfl,aB⟩:=ay;have U:Hid (zr r q w z q5 w5):=H.out.step Q;have ai:Hid (zy w0 r q5 (t++[110,101,119,32]++u0) w5):=aB;clear Q aB;have J:=ze ((U.out.block (w.heap.size) (Nat.le_refl _) (by omega)).trans y.out.1)
 obtain ⟨O,c1,c2,L,I⟩:=zI ((U.out.block (w.heap.size+1) (by omega) (by omega)).trans y.out.2.1)
 have N:=ze ((U.out.block (w.heap.size+2) (by omega) (by omega)).trans y.out.2.2)
 have G:=zx w0 r q5 (t++[110,101,119,32]++u0) [40] w5 ai.out (by simp)
 go_wp2_with fail
 refine G.mono ?_;clear G J N O c1 c2 L I;rintro e w6 ⟨q6,ae,rfl,aj⟩;have A:Hid (zr r q w z q6 w6):=U.out.step ae;have am:Hid (zy w0 r q6 (t++[110,101,119,32]++u0++[40]) w6):=aj;clear ae aj;have J:=ze ((A.out.block (w.heap.size) (Nat.le_refl _) (by omega)).trans y.out.1)
 obtain ⟨O,c1,c2,L,I⟩:=zI ((A.out.block (w.heap.size+1) (by omega) (by omega)).trans y.out.2.1)
 have N:=ze ((A.out.block (w.heap.size+2) (by omega) (by omega)).trans y.out.2.2)
 have G:=av.out q6 (t++[110,101,119,32]++u0++[40]) w6 am.out A.out;go_wp2_with fail
 refine G.mono ?_;clear G J N O c1 c2 L I;rintro e w7 ⟨q7,Z,ar⟩;cases X1 with
 | none=>subst ar;obtain rfl:R=none:=HR.out;exact ⟨rfl,q7,(A.out.step Z).unto,rfl⟩
 | some u1 =>
 obtain ⟨rfl,ak⟩:=ar;have Y:Hid (zr r q w z q7 w7):=A.out.step Z;have ao:Hid (zy w0 r q7 (t++[110,101,119,32]++u0++[40]++u1) w7):=ak;clear Z ak;have J:=ze ((Y.out.block (w.heap.size) (Nat.le_refl _) (by omega)).trans y.out.1)
 obtain ⟨O,c1,c2,L,I⟩:=zI ((Y.out.block (w.heap.size+1) (by omega) (by omega)).trans y.out.2.1)
 have N:=ze ((Y.out.block (w.heap.size+2) (by omega) (by omega)).trans y.out.2.2)
 have G:=zx w0 r q7 (t++[110,101,119,32]++u0++[40]++u1) [41] w7 ao.out (by simp)
 go_wp2_with fail
 refine G.mono ?_;clear G J N O c1 c2 L I;rintro e w8 ⟨q8,ab,rfl,ax⟩;have V:Hid (zr r q w z q8 w8):=Y.out.step ab;have al:Hid (zy w0 r q8 (t++[110,101,119,32]++u0++[40]++u1++[41]) w8):=ax;clear ab ax;have J:=ze ((V.out.block (w.heap.size) (Nat.le_refl _) (by omega)).trans y.out.1)
 obtain ⟨O,c1,c2,L,I⟩:=zI ((V.out.block (w.heap.size+1) (by omega) (by omega)).trans y.out.2.1)
 have N:=ze ((V.out.block (w.heap.size+2) (by omega) (by omega)).trans y.out.2.2)
 obtain rfl:R=some ([110,101,119,32]++(u0++([40]++(u1++([41]))))):=HR.out;have HP:Hid (zo w0 r q t w (some ([110,101,119,32]++(u0++([40]++(u1++([41])))))) (.returned (.tuple #[])) w8):=⟨q8,V.out.unto,rfl,by have:=al.out;simpa only [List.append_assoc] using this⟩
 clear aA az H au U ai A am Y ao V al J N O c1 c2 L I HR y aD av;go_wp2
 exact bodyPost_ret (v:=.tuple #[]) (by simp [results,Tryz.results42,go_sem]) rfl HP.out
theorem zgy (w0:World) (d:Nat) (D:Int) (hD:D-1=(d:Int)) (hD1:1≤D) (hD2:D≤24) (hX:yN w0 d) (hl:ZC w0) (s:List UInt8) (n line:Int) (base:Option Addr) (m cap r:Nat) (q:Option Nat) (t:List UInt8) (w:World) (h:zy w0 r q t w) (hex:yQ 10 s n m=true) (kids:List Ez) (hm3:m=kids.length) (hc2:kids.length≤cap) (hm2:cap≤maxLen) (hrow2:∀i x,kids[i]?=some x→∃b o a1 a2 a3 a4 a5 a6 a7,base=some ⟨b,o,none⟩∧b<w0.heap.size∧b<w0.heap.size∧Zy w0.heap.size w0 x (yz a1 a2 a3 a4 a5 a6 a7)∧w0.cell? ⟨b,o+i*5,none⟩=some (.int .i64 a1)∧w0.cell? ⟨b,o+i*5+1,none⟩=some (.string (zb a2))∧w0.cell? ⟨b,o+i*5+2,none⟩=some (.int .i64 a3)∧w0.cell? ⟨b,o+i*5+3,none⟩=some (.slice a4 a5 a6)∧w0.cell? ⟨b,o+i*5+4,none⟩=some (.int .i64 a7)) :
  Calls Tryz.prog 42 #[.pointer (some ⟨r,0,none⟩),yz 10 s n base m cap line,.int .i64 D] w (zo w0 r q t w (zc (some [91]) (zc (rowO (kids.map (prE d)) kids.length) (some [93])))):=by
 have av:∀(fn:Fn) (first cap:Array Value) (w:World),(Instr.makeFunc fn first cap).run Tryz.prog w=.ok (.func fn first cap) w:=fun _ _ _ _=>rfl
 obtain ⟨R,hR⟩:∃R,R=zc (some [91]) (zc (rowO (kids.map (prE d)) kids.length) (some [93])):=⟨_,rfl⟩;rw [←hR];obtain ⟨A,ad⟩:∃A,A=QP w r 10 s n base m cap line D:=⟨_,rfl⟩;obtain ⟨O,aj,e0,e1,e2⟩:=yO w r 10 s n base m cap line D;rw [←ad] at O aj e0 e1 e2;have aa:=h.below O;have ai:Hid (zr r q w A q A):=zr.start h O;have y:Hid (A.heap[w.heap.size]?=some (.cells #[.pointer (some ⟨r,0,none⟩)] 85 (0,0))∧A.heap[w.heap.size+1]?=some (YD 10 s n base m cap line)∧A.heap[w.heap.size+2]?=some (.cells #[.int .i64 D] 3 (0,0))):=⟨e0,e1,e2⟩;have ar:Hid (∀(q2:Option Nat) (t2:List UInt8) (W:World),zy w0 r q2 t2 W→zr r q w A q2 W→Calls Tryz.prog 83 #[.pointer (some ⟨r,0,none⟩),.slice base m cap,.func (.func 79) #[] #[.pointer (some ⟨w.heap.size,0,none⟩),.pointer (some ⟨w.heap.size+2,0,none⟩)]] W (zo w0 r q2 t2 W (rowO (kids.map (prE d)) kids.length))):=fun q2 t2 W h2 hL2=>by rw [hm3];exact Vm w0 (prE d) kids base cap _ _ r q2 t2 W h2 hc2 hm2 hrow2 fun x v q1 t1 W1 _ hx h1 hto=>ua w0 d D hD hD1 hD2 hX x v _ _ r q1 t1 W1 hx h1 (ze (((hL2.step hto).block (w.heap.size) (Nat.le_refl _) (by omega)).trans y.out.1)) (ze (((hL2.step hto).block (w.heap.size+2) (by omega) (by omega)).trans y.out.2.2))
 have ci:=ZT 10 s n base m cap line A (hl.env aa.env);rw [hex] at ci;have aq:Hid (zy w0 r q t A):=aa;have au:=ad.symm;have N:=ze e0;obtain ⟨U,c1,c2,Q,L⟩:=zI e1;have T:=ze e2;have aw:(0:Int)<D:=by omega
 generalize rowO (kids.map (prE d)) kids.length=X0 at *;have HR:Hid (R=zc (some [91]) (zc X0 (some [93]))):=hR;clear hR aa e0 e1 e2 ad O h hl hex hX hc2 hm2 hrow2 hm3
 go_enter Tryz.func42,Tryz.ntmps42
 go_wp2_with fail
 refine ci.mono ?_;clear ci N T U c1 c2 Q L;rintro e w2 ⟨rfl,ab⟩;have H:Hid (zr r q w A q w2):=ai.out.step (zT.below ab);have al:Hid (zy w0 r q t w2):=aq.out.below ab;clear ab;have ca:=z6 true w2;go_wp2_with fail
 refine ca.mono ?_;clear ca;rintro e w3 ⟨rfl,rfl⟩;simp only [xd];have N:=ze ((H.out.block (w.heap.size) (Nat.le_refl _) (by omega)).trans y.out.1)
 obtain ⟨U,c1,c2,Q,L⟩:=zI ((H.out.block (w.heap.size+1) (by omega) (by omega)).trans y.out.2.1)
 have T:=ze ((H.out.block (w.heap.size+2) (by omega) (by omega)).trans y.out.2.2)
 have ao:Hid (zr r q w A q w3):=H.out;have an:Hid (zy w0 r q t w3):=al.out;clear ai aq H al;have V:=zx w0 r q (t) [91] w3 an.out (by simp)
 go_wp2_with fail
 refine V.mono ?_;clear V N T U c1 c2 Q L;rintro e w4 ⟨q4,Y,rfl,ah⟩;have z:Hid (zr r q w A q4 w4):=ao.out.step Y;have ak:Hid (zy w0 r q4 (t++[91]) w4):=ah;clear Y ah;have N:=ze ((z.out.block (w.heap.size) (Nat.le_refl _) (by omega)).trans y.out.1)
 obtain ⟨U,c1,c2,Q,L⟩:=zI ((z.out.block (w.heap.size+1) (by omega) (by omega)).trans y.out.2.1)
 have T:=ze ((z.out.block (w.heap.size+2) (by omega) (by omega)).trans y.out.2.2)
 have V:=ar.out q4 (t++[91]) w4 ak.out z.out;go_wp2_with fail
 refine V.mono ?_;clear V N T U c1 c2 Q L;rintro e w5 ⟨q5,G,am⟩;cases X0 with
 | none=>subst am;obtain rfl:R=none:=HR.out;exact ⟨rfl,q5,(z.out.step G).unto,rfl⟩
 | some u0 =>
 obtain ⟨rfl,ap⟩:=am;have I:Hid (zr r q w A q5 w5):=z.out.step G;have ae:Hid (zy w0 r q5 (t++[91]++u0) w5):=ap;clear G ap;have N:=ze ((I.out.block (w.heap.size) (Nat.le_refl _) (by omega)).trans y.out.1)
 obtain ⟨U,c1,c2,Q,L⟩:=zI ((I.out.block (w.heap.size+1) (by omega) (by omega)).trans y.out.2.1)
 have T:=ze ((I.out.block (w.heap.size+2) (by omega) (by omega)).trans y.out.2.2)
 have V:=zx w0 r q5 (t++[91]++u0) [93] w5 ae.out (by simp)
 go_wp2_with fail
 refine V.mono ?_;clear V N T U c1 c2 Q L;rintro e w6 ⟨q6,Z,rfl,af⟩;have J:Hid (zr r q w A q6 w6):=I.out.step Z;have ag:Hid (zy w0 r q6 (t++[91]++u0++[93]) w6):=af;clear Z af;have N:=ze ((J.out.block (w.heap.size) (Nat.le_refl _) (by omega)).trans y.out.1)
 obtain ⟨U,c1,c2,Q,L⟩:=zI ((J.out.block (w.heap.size+1) (by omega) (by omega)).trans y.out.2.1)
 have T:=ze ((J.out.block (w.heap.size+2) (by omega) (by omega)).trans y.out.2.2)
 obtain rfl:R=some ([91]++(u0++([93]))):=HR.out;have HP:Hid (zo w0 r q t w (some ([91]++(u0++([93])))) (.returned (.tuple #[])) w6):=⟨q6,J.out.unto,rfl,by have:=ag.out;simpa only [List.append_assoc] using this⟩
 clear ao an z ak I ae J ag N T U c1 c2 Q L HR y ar;go_wp2
 exact bodyPost_ret (v:=.tuple #[]) (by simp [results,Tryz.results42,go_sem]) rfl HP.out
theorem zhY (w0:World) (D:Int) (hD1:1≤D) (hD2:D≤24) (hl:ZC w0) (s:List UInt8) (n line:Int) (base:Option Addr) (m cap r:Nat) (q:Option Nat) (t:List UInt8) (w:World) (h:zy w0 r q t w) (hex:yQ 6 s n m=true) (X:Option (List UInt8)) (hS:Hid (∀(q:Option Nat) (t:List UInt8) (w:World),zy w0 r q t w→Calls Tryz.prog 84 #[.pointer (some ⟨r,0,none⟩),yz 6 s n base m cap line,.int .i64 D] w (zo w0 r q t w X))) :
  Calls Tryz.prog 42 #[.pointer (some ⟨r,0,none⟩),yz 6 s n base m cap line,.int .i64 D] w (zo w0 r q t w (X)):=by
 have af:∀(fn:Fn) (first cap:Array Value) (w:World),(Instr.makeFunc fn first cap).run Tryz.prog w=.ok (.func fn first cap) w:=fun _ _ _ _=>rfl
 obtain ⟨R,hR⟩:∃R,R=X:=⟨_,rfl⟩;rw [←hR];obtain ⟨y,N⟩:∃y,y=QP w r 6 s n base m cap line D:=⟨_,rfl⟩;obtain ⟨H,T,e0,e1,e2⟩:=yO w r 6 s n base m cap line D;rw [←N] at H T e0 e1 e2;have I:=h.below H;have Q:Hid (zr r q w y q y):=zr.start h H;have o:Hid (y.heap[w.heap.size]?=some (.cells #[.pointer (some ⟨r,0,none⟩)] 85 (0,0))∧y.heap[w.heap.size+1]?=some (YD 6 s n base m cap line)∧y.heap[w.heap.size+2]?=some (.cells #[.int .i64 D] 3 (0,0))):=⟨e0,e1,e2⟩;have ad:=hS;have ci:=ZT 6 s n base m cap line y (hl.env I.env);rw [hex] at ci;have ab:Hid (zy w0 r q t y):=I;have ae:=N.symm;have Z:=ze e0;obtain ⟨c0,c1,c2,c3,W⟩:=zI e1;have b2:=ze e2;have ag:(0:Int)<D:=by omega
 clear hS;generalize X=X0 at *;have HR:Hid (R=X0):=hR;clear hR I e0 e1 e2 N H h hl hex
 go_enter Tryz.func42,Tryz.ntmps42
 go_wp2_with fail
 refine ci.mono ?_;clear ci Z b2 c0 c1 c2 c3 W;rintro e w2 ⟨rfl,J⟩;have z:Hid (zr r q w y q w2):=Q.out.step (zT.below J);have Y:Hid (zy w0 r q t w2):=ab.out.below J;clear J;have ca:=z6 true w2;go_wp2_with fail
 refine ca.mono ?_;clear ca;rintro e w3 ⟨rfl,rfl⟩;simp only [xd];have Z:=ze ((z.out.block (w.heap.size) (Nat.le_refl _) (by omega)).trans o.out.1)
 obtain ⟨c0,c1,c2,c3,W⟩:=zI ((z.out.block (w.heap.size+1) (by omega) (by omega)).trans o.out.2.1)
 have b2:=ze ((z.out.block (w.heap.size+2) (by omega) (by omega)).trans o.out.2.2)
 have L:Hid (zr r q w y q w3):=z.out;have aa:Hid (zy w0 r q t w3):=Y.out;clear Q ab z Y;have cp:=ad.out q (t) w3 aa.out;go_wp2_with fail
 refine cp.mono ?_;clear cp Z b2 c0 c1 c2 c3 W;rintro e w4 ⟨q4,G,U⟩;cases X0 with
 | none=>subst U;obtain rfl:R=none:=HR.out;exact ⟨rfl,q4,(L.out.step G).unto,rfl⟩
 | some u0 =>
 obtain ⟨rfl,O⟩:=U;have A:Hid (zr r q w y q4 w4):=L.out.step G;have V:Hid (zy w0 r q4 (t++u0) w4):=O;clear G O;have Z:=ze ((A.out.block (w.heap.size) (Nat.le_refl _) (by omega)).trans o.out.1)
 obtain ⟨c0,c1,c2,c3,W⟩:=zI ((A.out.block (w.heap.size+1) (by omega) (by omega)).trans o.out.2.1)
 have b2:=ze ((A.out.block (w.heap.size+2) (by omega) (by omega)).trans o.out.2.2)
 obtain rfl:R=some (u0):=HR.out;have HP:Hid (zo w0 r q t w (some (u0)) (.returned (.tuple #[])) w4):=⟨q4,A.out.unto,rfl,by have:=V.out;simpa only [List.append_assoc] using this⟩
 clear L aa A V Z b2 c0 c1 c2 c3 W HR o ad;go_wp2
 exact bodyPost_ret (v:=.tuple #[]) (by simp [results,Tryz.results42,go_sem]) rfl HP.out
theorem zhZ (w0:World) (D:Int) (hD1:1≤D) (hD2:D≤24) (hl:ZC w0) (s:List UInt8) (n line:Int) (base:Option Addr) (m cap r:Nat) (q:Option Nat) (t:List UInt8) (w:World) (h:zy w0 r q t w) (hex:yQ 7 s n m=true) (X:Option (List UInt8)) (hS:Hid (∀(q:Option Nat) (t:List UInt8) (w:World),zy w0 r q t w→Calls Tryz.prog 84 #[.pointer (some ⟨r,0,none⟩),yz 7 s n base m cap line,.int .i64 D] w (zo w0 r q t w X))) :
  Calls Tryz.prog 42 #[.pointer (some ⟨r,0,none⟩),yz 7 s n base m cap line,.int .i64 D] w (zo w0 r q t w (X)):=by
 have af:∀(fn:Fn) (first cap:Array Value) (w:World),(Instr.makeFunc fn first cap).run Tryz.prog w=.ok (.func fn first cap) w:=fun _ _ _ _=>rfl
 obtain ⟨R,hR⟩:∃R,R=X:=⟨_,rfl⟩;rw [←hR];obtain ⟨y,N⟩:∃y,y=QP w r 7 s n base m cap line D:=⟨_,rfl⟩;obtain ⟨H,T,e0,e1,e2⟩:=yO w r 7 s n base m cap line D;rw [←N] at H T e0 e1 e2;have I:=h.below H;have Q:Hid (zr r q w y q y):=zr.start h H;have o:Hid (y.heap[w.heap.size]?=some (.cells #[.pointer (some ⟨r,0,none⟩)] 85 (0,0))∧y.heap[w.heap.size+1]?=some (YD 7 s n base m cap line)∧y.heap[w.heap.size+2]?=some (.cells #[.int .i64 D] 3 (0,0))):=⟨e0,e1,e2⟩;have ad:=hS;have ci:=ZT 7 s n base m cap line y (hl.env I.env);rw [hex] at ci;have ab:Hid (zy w0 r q t y):=I;have ae:=N.symm;have Z:=ze e0;obtain ⟨c0,c1,c2,c3,W⟩:=zI e1;have b2:=ze e2;have ag:(0:Int)<D:=by omega
 clear hS;generalize X=X0 at *;have HR:Hid (R=X0):=hR;clear hR I e0 e1 e2 N H h hl hex
 go_enter Tryz.func42,Tryz.ntmps42
 go_wp2_with fail
 refine ci.mono ?_;clear ci Z b2 c0 c1 c2 c3 W;rintro e w2 ⟨rfl,J⟩;have z:Hid (zr r q w y q w2):=Q.out.step (zT.below J);have Y:Hid (zy w0 r q t w2):=ab.out.below J;clear J;have ca:=z6 true w2;go_wp2_with fail
 refine ca.mono ?_;clear ca;rintro e w3 ⟨rfl,rfl⟩;simp only [xd];have Z:=ze ((z.out.block (w.heap.size) (Nat.le_refl _) (by omega)).trans o.out.1)
 obtain ⟨c0,c1,c2,c3,W⟩:=zI ((z.out.block (w.heap.size+1) (by omega) (by omega)).trans o.out.2.1)
 have b2:=ze ((z.out.block (w.heap.size+2) (by omega) (by omega)).trans o.out.2.2)
 have L:Hid (zr r q w y q w3):=z.out;have aa:Hid (zy w0 r q t w3):=Y.out;clear Q ab z Y;have cp:=ad.out q (t) w3 aa.out;go_wp2_with fail
 refine cp.mono ?_;clear cp Z b2 c0 c1 c2 c3 W;rintro e w4 ⟨q4,G,U⟩;cases X0 with
 | none=>subst U;obtain rfl:R=none:=HR.out;exact ⟨rfl,q4,(L.out.step G).unto,rfl⟩
 | some u0 =>
 obtain ⟨rfl,O⟩:=U;have A:Hid (zr r q w y q4 w4):=L.out.step G;have V:Hid (zy w0 r q4 (t++u0) w4):=O;clear G O;have Z:=ze ((A.out.block (w.heap.size) (Nat.le_refl _) (by omega)).trans o.out.1)
 obtain ⟨c0,c1,c2,c3,W⟩:=zI ((A.out.block (w.heap.size+1) (by omega) (by omega)).trans o.out.2.1)
 have b2:=ze ((A.out.block (w.heap.size+2) (by omega) (by omega)).trans o.out.2.2)
 obtain rfl:R=some (u0):=HR.out;have HP:Hid (zo w0 r q t w (some (u0)) (.returned (.tuple #[])) w4):=⟨q4,A.out.unto,rfl,by have:=V.out;simpa only [List.append_assoc] using this⟩
 clear L aa A V Z b2 c0 c1 c2 c3 W HR o ad;go_wp2
 exact bodyPost_ret (v:=.tuple #[]) (by simp [results,Tryz.results42,go_sem]) rfl HP.out
theorem zh0 (w0:World) (D:Int) (hD1:1≤D) (hD2:D≤24) (hl:ZC w0) (s:List UInt8) (n line:Int) (base:Option Addr) (m cap r:Nat) (q:Option Nat) (t:List UInt8) (w:World) (h:zy w0 r q t w) (hex:yQ 8 s n m=true) (X:Option (List UInt8)) (hS:Hid (∀(q:Option Nat) (t:List UInt8) (w:World),zy w0 r q t w→Calls Tryz.prog 84 #[.pointer (some ⟨r,0,none⟩),yz 8 s n base m cap line,.int .i64 D] w (zo w0 r q t w X))) :
  Calls Tryz.prog 42 #[.pointer (some ⟨r,0,none⟩),yz 8 s n base m cap line,.int .i64 D] w (zo w0 r q t w (X)):=by
 have af:∀(fn:Fn) (first cap:Array Value) (w:World),(Instr.makeFunc fn first cap).run Tryz.prog w=.ok (.func fn first cap) w:=fun _ _ _ _=>rfl
 obtain ⟨R,hR⟩:∃R,R=X:=⟨_,rfl⟩;rw [←hR];obtain ⟨y,N⟩:∃y,y=QP w r 8 s n base m cap line D:=⟨_,rfl⟩;obtain ⟨H,T,e0,e1,e2⟩:=yO w r 8 s n base m cap line D;rw [←N] at H T e0 e1 e2;have I:=h.below H;have Q:Hid (zr r q w y q y):=zr.start h H;have o:Hid (y.heap[w.heap.size]?=some (.cells #[.pointer (some ⟨r,0,none⟩)] 85 (0,0))∧y.heap[w.heap.size+1]?=some (YD 8 s n base m cap line)∧y.heap[w.heap.size+2]?=some (.cells #[.int .i64 D] 3 (0,0))):=⟨e0,e1,e2⟩;have ad:=hS;have ci:=ZT 8 s n base m cap line y (hl.env I.env);rw [hex] at ci;have ab:Hid (zy w0 r q t y):=I;have ae:=N.symm;have Z:=ze e0;obtain ⟨c0,c1,c2,c3,W⟩:=zI e1;have b2:=ze e2;have ag:(0:Int)<D:=by omega
 clear hS;generalize X=X0 at *;have HR:Hid (R=X0):=hR;clear hR I e0 e1 e2 N H h hl hex
 go_enter Tryz.func42,Tryz.ntmps42
 go_wp2_with fail
 refine ci.mono ?_;clear ci Z b2 c0 c1 c2 c3 W;rintro e w2 ⟨rfl,J⟩;have z:Hid (zr r q w y q w2):=Q.out.step (zT.below J);have Y:Hid (zy w0 r q t w2):=ab.out.below J;clear J;have ca:=z6 true w2;go_wp2_with fail
 refine ca.mono ?_;clear ca;rintro e w3 ⟨rfl,rfl⟩;simp only [xd];have Z:=ze ((z.out.block (w.heap.size) (Nat.le_refl _) (by omega)).trans o.out.1)
 obtain ⟨c0,c1,c2,c3,W⟩:=zI ((z.out.block (w.heap.size+1) (by omega) (by omega)).trans o.out.2.1)
 have b2:=ze ((z.out.block (w.heap.size+2) (by omega) (by omega)).trans o.out.2.2)
 have L:Hid (zr r q w y q w3):=z.out;have aa:Hid (zy w0 r q t w3):=Y.out;clear Q ab z Y;have cp:=ad.out q (t) w3 aa.out;go_wp2_with fail
 refine cp.mono ?_;clear cp Z b2 c0 c1 c2 c3 W;rintro e w4 ⟨q4,G,U⟩;cases X0 with
 | none=>subst U;obtain rfl:R=none:=HR.out;exact ⟨rfl,q4,(L.out.step G).unto,rfl⟩
 | some u0 =>
 obtain ⟨rfl,O⟩:=U;have A:Hid (zr r q w y q4 w4):=L.out.step G;have V:Hid (zy w0 r q4 (t++u0) w4):=O;clear G O;have Z:=ze ((A.out.block (w.heap.size) (Nat.le_refl _) (by omega)).trans o.out.1)
 obtain ⟨c0,c1,c2,c3,W⟩:=zI ((A.out.block (w.heap.size+1) (by omega) (by omega)).trans o.out.2.1)
 have b2:=ze ((A.out.block (w.heap.size+2) (by omega) (by omega)).trans o.out.2.2)
 obtain rfl:R=some (u0):=HR.out;have HP:Hid (zo w0 r q t w (some (u0)) (.returned (.tuple #[])) w4):=⟨q4,A.out.unto,rfl,by have:=V.out;simpa only [List.append_assoc] using this⟩
 clear L aa A V Z b2 c0 c1 c2 c3 W HR o ad;go_wp2
 exact bodyPost_ret (v:=.tuple #[]) (by simp [results,Tryz.results42,go_sem]) rfl HP.out
theorem zh1 (w0:World) (D:Int) (hD1:1≤D) (hD2:D≤24) (hl:ZC w0) (s:List UInt8) (n line:Int) (base:Option Addr) (m cap r:Nat) (q:Option Nat) (t:List UInt8) (w:World) (h:zy w0 r q t w) (hex:yQ 9 s n m=true) (X:Option (List UInt8)) (hS:Hid (∀(q:Option Nat) (t:List UInt8) (w:World),zy w0 r q t w→Calls Tryz.prog 84 #[.pointer (some ⟨r,0,none⟩),yz 9 s n base m cap line,.int .i64 D] w (zo w0 r q t w X))) :
  Calls Tryz.prog 42 #[.pointer (some ⟨r,0,none⟩),yz 9 s n base m cap line,.int .i64 D] w (zo w0 r q t w (X)):=by
 have af:∀(fn:Fn) (first cap:Array Value) (w:World),(Instr.makeFunc fn first cap).run Tryz.prog w=.ok (.func fn first cap) w:=fun _ _ _ _=>rfl
 obtain ⟨R,hR⟩:∃R,R=X:=⟨_,rfl⟩;rw [←hR];obtain ⟨y,N⟩:∃y,y=QP w r 9 s n base m cap line D:=⟨_,rfl⟩;obtain ⟨H,T,e0,e1,e2⟩:=yO w r 9 s n base m cap line D;rw [←N] at H T e0 e1 e2;have I:=h.below H;have Q:Hid (zr r q w y q y):=zr.start h H;have o:Hid (y.heap[w.heap.size]?=some (.cells #[.pointer (some ⟨r,0,none⟩)] 85 (0,0))∧y.heap[w.heap.size+1]?=some (YD 9 s n base m cap line)∧y.heap[w.heap.size+2]?=some (.cells #[.int .i64 D] 3 (0,0))):=⟨e0,e1,e2⟩;have ad:=hS;have ci:=ZT 9 s n base m cap line y (hl.env I.env);rw [hex] at ci;have ab:Hid (zy w0 r q t y):=I;have ae:=N.symm;have Z:=ze e0;obtain ⟨c0,c1,c2,c3,W⟩:=zI e1;have b2:=ze e2;have ag:(0:Int)<D:=by omega
 clear hS;generalize X=X0 at *;have HR:Hid (R=X0):=hR;clear hR I e0 e1 e2 N H h hl hex
 go_enter Tryz.func42,Tryz.ntmps42
 go_wp2_with fail
 refine ci.mono ?_;clear ci Z b2 c0 c1 c2 c3 W;rintro e w2 ⟨rfl,J⟩;have z:Hid (zr r q w y q w2):=Q.out.step (zT.below J);have Y:Hid (zy w0 r q t w2):=ab.out.below J;clear J;have ca:=z6 true w2;go_wp2_with fail
 refine ca.mono ?_;clear ca;rintro e w3 ⟨rfl,rfl⟩;simp only [xd];have Z:=ze ((z.out.block (w.heap.size) (Nat.le_refl _) (by omega)).trans o.out.1)
 obtain ⟨c0,c1,c2,c3,W⟩:=zI ((z.out.block (w.heap.size+1) (by omega) (by omega)).trans o.out.2.1)
 have b2:=ze ((z.out.block (w.heap.size+2) (by omega) (by omega)).trans o.out.2.2)
 have L:Hid (zr r q w y q w3):=z.out;have aa:Hid (zy w0 r q t w3):=Y.out;clear Q ab z Y;have cp:=ad.out q (t) w3 aa.out;go_wp2_with fail
 refine cp.mono ?_;clear cp Z b2 c0 c1 c2 c3 W;rintro e w4 ⟨q4,G,U⟩;cases X0 with
 | none=>subst U;obtain rfl:R=none:=HR.out;exact ⟨rfl,q4,(L.out.step G).unto,rfl⟩
 | some u0 =>
 obtain ⟨rfl,O⟩:=U;have A:Hid (zr r q w y q4 w4):=L.out.step G;have V:Hid (zy w0 r q4 (t++u0) w4):=O;clear G O;have Z:=ze ((A.out.block (w.heap.size) (Nat.le_refl _) (by omega)).trans o.out.1)
 obtain ⟨c0,c1,c2,c3,W⟩:=zI ((A.out.block (w.heap.size+1) (by omega) (by omega)).trans o.out.2.1)
 have b2:=ze ((A.out.block (w.heap.size+2) (by omega) (by omega)).trans o.out.2.2)
 obtain rfl:R=some (u0):=HR.out;have HP:Hid (zo w0 r q t w (some (u0)) (.returned (.tuple #[])) w4):=⟨q4,A.out.unto,rfl,by have:=V.out;simpa only [List.append_assoc] using this⟩
 clear L aa A V Z b2 c0 c1 c2 c3 W HR o ad;go_wp2
 exact bodyPost_ret (v:=.tuple #[]) (by simp [results,Tryz.results42,go_sem]) rfl HP.out
theorem zh2 (w0:World) (D:Int) (hD1:1≤D) (hD2:D≤24) (hl:ZC w0) (s:List UInt8) (n line:Int) (base:Option Addr) (m cap r:Nat) (q:Option Nat) (t:List UInt8) (w:World) (h:zy w0 r q t w) (k:Int) (hex:yQ k s n m=false) :
  Calls Tryz.prog 42 #[.pointer (some ⟨r,0,none⟩),yz k s n base m cap line,.int .i64 D] w (zo w0 r q t w none):=by
 have Z:∀(fn:Fn) (first cap:Array Value) (w:World),(Instr.makeFunc fn first cap).run Tryz.prog w=.ok (.func fn first cap) w:=fun _ _ _ _=>rfl
 obtain ⟨R,O⟩:∃R,R=(none:Option (List UInt8)):=⟨_,rfl⟩;rw [←O];obtain ⟨o,G⟩:∃o,o=QP w r k s n base m cap line D:=⟨_,rfl⟩;obtain ⟨y,H,L,I,J⟩:=yO w r k s n base m cap line D;rw [←G] at y H L I J;have z:=h.below y;have Q:Hid (zr r q w o q o):=zr.start h y;have aa:Hid (o.heap[w.heap.size]?=some (.cells #[.pointer (some ⟨r,0,none⟩)] 85 (0,0))∧o.heap[w.heap.size+1]?=some (YD k s n base m cap line)∧o.heap[w.heap.size+2]?=some (.cells #[.int .i64 D] 3 (0,0))):=⟨L,I,J⟩;have N:=ZT k s n base m cap line o (hl.env z.env);rw [hex] at N;have V:Hid (zy w0 r q t o):=z;have Y:=G.symm;have b0:=ze L;obtain ⟨c0,c1,c2,c3,c4⟩:=zI I;have b2:=ze J;have ab:(0:Int)<D:=by omega
 have HR:Hid (R=none):=O;clear O z L I J G y h hl hex
 go_enter Tryz.func42,Tryz.ntmps42
 go_wp2_with fail
 refine N.mono ?_;clear N b0 b2 c0 c1 c2 c3 c4;rintro e U ⟨rfl,A⟩;have T:Hid (zr r q w o q U):=Q.out.step (zT.below A);have ad:Hid (zy w0 r q t U):=V.out.below A;clear A;have W:=z6 false U;go_wp2_with fail
 refine W.mono ?_;clear W;rintro e w3 ⟨rfl,rfl⟩;obtain rfl:=HR.out;exact ⟨rfl,q,T.out.unto,rfl⟩
theorem ze4 (w0:World) (k:Int) (s:List UInt8) (n line:Int) (base:Option Addr) (m cap r:Nat) (q:Option Nat) (t:List UInt8) (w:World) (h:zy w0 r q t w) :
  Calls Tryz.prog 42 #[.pointer (some ⟨r,0,none⟩),yz k s n base m cap line,.int .i64 0] w (zo w0 r q t w none):=by
 obtain ⟨z,o⟩:∃z,z=QP w r k s n base m cap line 0:=⟨_,rfl⟩;obtain ⟨y,A,J,L,D⟩:=yO w r k s n base m cap line 0;rw [←o] at y A J L D;have G:Hid (zr r q w z q z):=zr.start h y;have I:=o.symm;have O:=ze D;have H:=z6 false z;clear y J L D o h
 go_enter Tryz.func42,Tryz.ntmps42
 go_wp2_with fail
 refine H.mono ?_;clear H;rintro e N ⟨rfl,rfl⟩;exact ⟨rfl,q,G.out.unto,rfl⟩
end Go.Proofs.YtpejpbbdgblbeaaGreatDoor
