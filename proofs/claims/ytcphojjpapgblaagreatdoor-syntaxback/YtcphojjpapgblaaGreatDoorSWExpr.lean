import Derived.Test.YtcphojjpapgblaaGreatDoorMC8
namespace Go.Proofs.YtcphojjpapgblaaGreatDoor
open Go.RowKit Go.Shelf
set_option maxHeartbeats 16000000
set_option maxRecDepth 100000
theorem V9 (w0:World) (d:Nat) (D:Int) (hD:D-1=(d:Int)) (_hD1:1≤D) (hD2:D≤24) (hX:yO w0 d) (x:Ez) (v:Value) (bw bd r:Nat) (q:Option Nat) (t:List UInt8) (w:World) (hx:Zl w0.heap.size w0 x v) (h:zy w0 r q t w) (hcw:w.cell? ⟨bw,0,none⟩=some (.pointer (some ⟨r,0,none⟩))) (hcd:w.cell? ⟨bd,0,none⟩=some (.int .i64 D)) :
  Calls Tryz.prog 77 #[v,.pointer (some ⟨bw,0,none⟩),.pointer (some ⟨bd,0,none⟩)] w (zn w0 r q t w (prE d x)):=by
 have L:=hx;obtain ⟨k,s,n,kids,line,base,O,b,o,us,hs,aa,ab,J,N,Y,hm,H,I,hk⟩:=hx;obtain ⟨w1,y⟩:∃w1,w1=w.alloc (yW k s n base kids.length O line):=⟨_,rfl⟩;have A:Below w.heap.size w w1:=by rw [y];exact (Below.refl _ w).alloc (Nat.le_refl _) _
 have W:w1.heap[w.heap.size]?=some (yW k s n base kids.length O line):=by rw [y];exact World.alloc_heap_new w _
 have R:=hX _ _ r q t w1 L (h.below A);have d1:w1.cell? ⟨bw,0,none⟩=some (.pointer (some ⟨r,0,none⟩)):=by rw [y];exact zl hcw _
 have d2:w1.cell? ⟨bd,0,none⟩=some (.int .i64 D):=by rw [y];exact zl hcd _
 have G:Hid (zT r q w q w1):=zT.below A;generalize prE d (.mk k s n kids line)=X at *;generalize kids.length=m at *;obtain ⟨c0,c1,c2,Z,c4⟩:=zF W;have V:=y.symm;clear y W A h L hX J N Y H I hk hcw hcd
 go_enter Tryz.func77,Tryz.ntmps77
 go_wp2_with fail
 refine R.mono ?_;clear R;rintro e w2 ⟨U,z,T⟩;cases X with
 | none=>subst T;exact ⟨rfl,U,G.out.trans z,rfl⟩
 | some u =>
  obtain ⟨rfl,Q⟩:=T;have HP:Hid (zn w0 r q t w (some u) (.returned (.tuple #[])) w2):=⟨U,G.out.trans z,rfl,Q⟩;clear z Q G c0 c1 c2 Z c4 d1 d2;go_wp2
  exact bodyPost_ret (v:=.tuple #[]) (by simp [results,Tryz.results77,go_sem]) rfl HP.out
abbrev Q6 (w:World) (r:Nat) (k:Int) (s:List UInt8) (n:Int) (base:Option Addr) (m cap:Nat) (line D:Int):World:=((w.alloc (.cells #[.pointer (some ⟨r,0,none⟩)] 84)).alloc (yW k s n base m cap line)).alloc (.cells #[.int .i64 D] 3)
theorem yP (w:World) (r:Nat) (k:Int) (s:List UInt8) (n:Int) (base:Option Addr) (m cap:Nat) (line D:Int) :
  Below w.heap.size w (Q6 w r k s n base m cap line D)∧(Q6 w r k s n base m cap line D).heap.size=w.heap.size+3∧(Q6 w r k s n base m cap line D).heap[w.heap.size]?=some (.cells #[.pointer (some ⟨r,0,none⟩)] 84 (0,0))∧(Q6 w r k s n base m cap line D).heap[w.heap.size+1]?=some (yW k s n base m cap line)∧(Q6 w r k s n base m cap line D).heap[w.heap.size+2]?=some (.cells #[.int .i64 D] 3 (0,0)):=by
 refine ⟨(((Below.refl _ w).alloc (Nat.le_refl _) _).alloc (by simp) _).alloc (by simp <;> omega) _,by simp,?_,?_,?_⟩
 ·rw [Below.heap_alloc _ _ _ (by simp <;> omega),Below.heap_alloc _ _ _ (by simp)];exact World.alloc_heap_new _ _
 ·rw [Below.heap_alloc _ _ _ (by simp)]
  have:=World.alloc_heap_new (w.alloc (.cells #[.pointer (some ⟨r,0,none⟩)] 84)) (yW k s n base m cap line)
  simpa using this
 ·have:=World.alloc_heap_new ((w.alloc (.cells #[.pointer (some ⟨r,0,none⟩)] 84)).alloc (yW k s n base m cap line)) (.cells #[.int .i64 D] 3)
  simpa using this
theorem ze {w:World} {N:Nat} {v:Value} {ty:TypeId} (p:w.heap[N]?=some (.cells #[v] ty (0,0))):w.cell? ⟨N,0,none⟩=some v:=by simp only [World.cell?,p];rfl
theorem ZA.env {w0 w:World} (h:ZA w0) (hb:Below w0.heap.size w0 w):ZA w:=fun j v hj=>by rw [hb.cell (World.block_lt_of_cell? w0 _ (h j v hj))];exact h j v hj
theorem zh6 (w0:World) (D:Int) (hD1:1≤D) (hD2:D≤24) (hT:ZC w0) (hl:ZA w0) (s:List UInt8) (n line:Int) (base:Option Addr) (m cap r:Nat) (q:Option Nat) (t:List UInt8) (w:World) (h:zy w0 r q t w) (hex:YC 1 s n m=true) (hn0:-9223372036854775808≤n) (hn1:n≤9223372036854775807) :
  Calls Tryz.prog 40 #[.pointer (some ⟨r,0,none⟩),yp 1 s n base m cap line,.int .i64 D] w (zn w0 r q t w (tokO 2 n [])):=by
 have ai:∀(fn:Fn) (first cap:Array Value) (w:World),(Instr.makeFunc fn first cap).run Tryz.prog w=.ok (.func fn first cap) w:=fun _ _ _ _=>rfl
 obtain ⟨R,hR⟩:∃R,R=tokO 2 n []:=⟨_,rfl⟩;rw [←hR];obtain ⟨y,N⟩:∃y,y=Q6 w r 1 s n base m cap line D:=⟨_,rfl⟩;obtain ⟨H,ab,e0,e1,e2⟩:=yP w r 1 s n base m cap line D;rw [←N] at H ab e0 e1 e2;have I:=h.below H;have ae:Hid (zp r q w y q y):=zp.start h H;have o:Hid (y.heap[w.heap.size]?=some (.cells #[.pointer (some ⟨r,0,none⟩)] 84 (0,0))∧y.heap[w.heap.size+1]?=some (yW 1 s n base m cap line)∧y.heap[w.heap.size+2]?=some (.cells #[.int .i64 D] 3 (0,0))):=⟨e0,e1,e2⟩;have V:Hid (∀(q:Option Nat) (t:List UInt8) (w:World),zy w0 r q t w→Calls Tryz.prog 78 #[.pointer (some ⟨r,0,none⟩),.agg #[.int .i64 2,.string (zb []),.int .i64 n,.int .i64 0,.int .i64 0]] w (zn w0 r q t w (tokO 2 n []))):=fun q t w h=>UB w0 r q t 2 n 0 0 [] w hT h hn0 hn1 (by simp)
 have ci:=ZQ 1 s n base m cap line y (hl.env I.env);rw [hex] at ci;have af:Hid (zy w0 r q t y):=I;have ag:=N.symm;have U:=ze e0;obtain ⟨Y,c1,c2,X,Z⟩:=zF e1;have Q:=ze e2;have ah:(0:Int)<D:=by omega
 generalize tokO 2 n []=X0 at *;have HR:Hid (R=X0):=hR;clear hR I e0 e1 e2 N H h hl hex hT
 go_enter Tryz.func40,Tryz.ntmps40
 go_wp2_with fail
 refine ci.mono ?_;clear ci U Q Y c1 c2 X Z;rintro e w2 ⟨rfl,J⟩;have A:Hid (zp r q w y q w2):=ae.out.step (zT.below J);have T:Hid (zy w0 r q t w2):=af.out.below J;clear J;have ca:=z6 true w2;go_wp2_with fail
 refine ca.mono ?_;clear ca;rintro e w3 ⟨rfl,rfl⟩;simp only [Y8];have U:=ze ((A.out.block (w.heap.size) (Nat.le_refl _) (by omega)).trans o.out.1)
 obtain ⟨Y,c1,c2,X,Z⟩:=zF ((A.out.block (w.heap.size+1) (by omega) (by omega)).trans o.out.2.1)
 have Q:=ze ((A.out.block (w.heap.size+2) (by omega) (by omega)).trans o.out.2.2)
 have L:Hid (zp r q w y q w3):=A.out;have O:Hid (zy w0 r q t w3):=T.out;clear ae af A T;have cp:=V.out q (t) w3 O.out;go_wp2_with fail
 refine cp.mono ?_;clear cp U Q Y c1 c2 X Z;rintro e w4 ⟨q4,z,ad⟩;cases X0 with
 | none=>subst ad;obtain rfl:R=none:=HR.out;exact ⟨rfl,q4,(L.out.step z).unto,rfl⟩
 | some u0 =>
 obtain ⟨rfl,aa⟩:=ad;have G:Hid (zp r q w y q4 w4):=L.out.step z;have W:Hid (zy w0 r q4 (t++u0) w4):=aa;clear z aa;have U:=ze ((G.out.block (w.heap.size) (Nat.le_refl _) (by omega)).trans o.out.1)
 obtain ⟨Y,c1,c2,X,Z⟩:=zF ((G.out.block (w.heap.size+1) (by omega) (by omega)).trans o.out.2.1)
 have Q:=ze ((G.out.block (w.heap.size+2) (by omega) (by omega)).trans o.out.2.2)
 obtain rfl:R=some (u0):=HR.out;have HP:Hid (zn w0 r q t w (some (u0)) (.returned (.tuple #[])) w4):=⟨q4,G.out.unto,rfl,by have:=W.out;simpa only [List.append_assoc] using this⟩
 clear L O G W U Q Y c1 c2 X Z HR o V;go_wp2
 exact bodyPost_ret (v:=.tuple #[]) (by simp [results,Tryz.results40,go_sem]) rfl HP.out
theorem zh7 (w0:World) (D:Int) (hD1:1≤D) (hD2:D≤24) (hT:ZC w0) (hl:ZA w0) (s:List UInt8) (n line:Int) (base:Option Addr) (m cap r:Nat) (q:Option Nat) (t:List UInt8) (w:World) (h:zy w0 r q t w) (hex:YC 3 s n m=true) (hs:s.length≤100000000) :
  Calls Tryz.prog 40 #[.pointer (some ⟨r,0,none⟩),yp 3 s n base m cap line,.int .i64 D] w (zn w0 r q t w (tokO 3 0 s)):=by
 have ai:∀(fn:Fn) (first cap:Array Value) (w:World),(Instr.makeFunc fn first cap).run Tryz.prog w=.ok (.func fn first cap) w:=fun _ _ _ _=>rfl
 obtain ⟨R,hR⟩:∃R,R=tokO 3 0 s:=⟨_,rfl⟩;rw [←hR];obtain ⟨y,N⟩:∃y,y=Q6 w r 3 s n base m cap line D:=⟨_,rfl⟩;obtain ⟨H,ab,e0,e1,e2⟩:=yP w r 3 s n base m cap line D;rw [←N] at H ab e0 e1 e2;have I:=h.below H;have ae:Hid (zp r q w y q y):=zp.start h H;have o:Hid (y.heap[w.heap.size]?=some (.cells #[.pointer (some ⟨r,0,none⟩)] 84 (0,0))∧y.heap[w.heap.size+1]?=some (yW 3 s n base m cap line)∧y.heap[w.heap.size+2]?=some (.cells #[.int .i64 D] 3 (0,0))):=⟨e0,e1,e2⟩;have V:Hid (∀(q:Option Nat) (t:List UInt8) (w:World),zy w0 r q t w→Calls Tryz.prog 78 #[.pointer (some ⟨r,0,none⟩),.agg #[.int .i64 3,.string (zb s),.int .i64 0,.int .i64 0,.int .i64 0]] w (zn w0 r q t w (tokO 3 0 s))):=fun q t w h=>UB w0 r q t 3 0 0 0 s w hT h (by omega) (by omega) hs
 have ci:=ZQ 3 s n base m cap line y (hl.env I.env);rw [hex] at ci;have af:Hid (zy w0 r q t y):=I;have ag:=N.symm;have U:=ze e0;obtain ⟨Y,c1,c2,X,Z⟩:=zF e1;have Q:=ze e2;have ah:(0:Int)<D:=by omega
 generalize tokO 3 0 s=X0 at *;have HR:Hid (R=X0):=hR;clear hR I e0 e1 e2 N H h hl hex hT
 go_enter Tryz.func40,Tryz.ntmps40
 go_wp2_with fail
 refine ci.mono ?_;clear ci U Q Y c1 c2 X Z;rintro e w2 ⟨rfl,J⟩;have A:Hid (zp r q w y q w2):=ae.out.step (zT.below J);have T:Hid (zy w0 r q t w2):=af.out.below J;clear J;have ca:=z6 true w2;go_wp2_with fail
 refine ca.mono ?_;clear ca;rintro e w3 ⟨rfl,rfl⟩;simp only [Y8];have U:=ze ((A.out.block (w.heap.size) (Nat.le_refl _) (by omega)).trans o.out.1)
 obtain ⟨Y,c1,c2,X,Z⟩:=zF ((A.out.block (w.heap.size+1) (by omega) (by omega)).trans o.out.2.1)
 have Q:=ze ((A.out.block (w.heap.size+2) (by omega) (by omega)).trans o.out.2.2)
 have L:Hid (zp r q w y q w3):=A.out;have O:Hid (zy w0 r q t w3):=T.out;clear ae af A T;have cp:=V.out q (t) w3 O.out;go_wp2_with fail
 refine cp.mono ?_;clear cp U Q Y c1 c2 X Z;rintro e w4 ⟨q4,z,ad⟩;cases X0 with
 | none=>subst ad;obtain rfl:R=none:=HR.out;exact ⟨rfl,q4,(L.out.step z).unto,rfl⟩
 | some u0 =>
 obtain ⟨rfl,aa⟩:=ad;have G:Hid (zp r q w y q4 w4):=L.out.step z;have W:Hid (zy w0 r q4 (t++u0) w4):=aa;clear z aa;have U:=ze ((G.out.block (w.heap.size) (Nat.le_refl _) (by omega)).trans o.out.1)
 obtain ⟨Y,c1,c2,X,Z⟩:=zF ((G.out.block (w.heap.size+1) (by omega) (by omega)).trans o.out.2.1)
 have Q:=ze ((G.out.block (w.heap.size+2) (by omega) (by omega)).trans o.out.2.2)
 obtain rfl:R=some (u0):=HR.out;have HP:Hid (zn w0 r q t w (some (u0)) (.returned (.tuple #[])) w4):=⟨q4,G.out.unto,rfl,by have:=W.out;simpa only [List.append_assoc] using this⟩
 clear L O G W U Q Y c1 c2 X Z HR o V;go_wp2
 exact bodyPost_ret (v:=.tuple #[]) (by simp [results,Tryz.results40,go_sem]) rfl HP.out
theorem zh8 (w0:World) (D:Int) (hD1:1≤D) (hD2:D≤24) (hT:ZC w0) (hl:ZA w0) (s:List UInt8) (n line:Int) (base:Option Addr) (m cap r:Nat) (q:Option Nat) (t:List UInt8) (w:World) (h:zy w0 r q t w) (hex:YC 4 s n m=true) (hs:s.length≤100000000) :
  Calls Tryz.prog 40 #[.pointer (some ⟨r,0,none⟩),yp 4 s n base m cap line,.int .i64 D] w (zn w0 r q t w (tokO 1 0 s)):=by
 have ai:∀(fn:Fn) (first cap:Array Value) (w:World),(Instr.makeFunc fn first cap).run Tryz.prog w=.ok (.func fn first cap) w:=fun _ _ _ _=>rfl
 obtain ⟨R,hR⟩:∃R,R=tokO 1 0 s:=⟨_,rfl⟩;rw [←hR];obtain ⟨y,N⟩:∃y,y=Q6 w r 4 s n base m cap line D:=⟨_,rfl⟩;obtain ⟨H,ab,e0,e1,e2⟩:=yP w r 4 s n base m cap line D;rw [←N] at H ab e0 e1 e2;have I:=h.below H;have ae:Hid (zp r q w y q y):=zp.start h H;have o:Hid (y.heap[w.heap.size]?=some (.cells #[.pointer (some ⟨r,0,none⟩)] 84 (0,0))∧y.heap[w.heap.size+1]?=some (yW 4 s n base m cap line)∧y.heap[w.heap.size+2]?=some (.cells #[.int .i64 D] 3 (0,0))):=⟨e0,e1,e2⟩;have V:Hid (∀(q:Option Nat) (t:List UInt8) (w:World),zy w0 r q t w→Calls Tryz.prog 80 #[.pointer (some ⟨r,0,none⟩),.string (zb s)] w (zn w0 r q t w (tokO 1 0 s))):=fun q t w h=>yu w0 r q t s w hT h hs
 have ci:=ZQ 4 s n base m cap line y (hl.env I.env);rw [hex] at ci;have af:Hid (zy w0 r q t y):=I;have ag:=N.symm;have U:=ze e0;obtain ⟨Y,c1,c2,X,Z⟩:=zF e1;have Q:=ze e2;have ah:(0:Int)<D:=by omega
 generalize tokO 1 0 s=X0 at *;have HR:Hid (R=X0):=hR;clear hR I e0 e1 e2 N H h hl hex hT
 go_enter Tryz.func40,Tryz.ntmps40
 go_wp2_with fail
 refine ci.mono ?_;clear ci U Q Y c1 c2 X Z;rintro e w2 ⟨rfl,J⟩;have A:Hid (zp r q w y q w2):=ae.out.step (zT.below J);have T:Hid (zy w0 r q t w2):=af.out.below J;clear J;have ca:=z6 true w2;go_wp2_with fail
 refine ca.mono ?_;clear ca;rintro e w3 ⟨rfl,rfl⟩;simp only [Y8];have U:=ze ((A.out.block (w.heap.size) (Nat.le_refl _) (by omega)).trans o.out.1)
 obtain ⟨Y,c1,c2,X,Z⟩:=zF ((A.out.block (w.heap.size+1) (by omega) (by omega)).trans o.out.2.1)
 have Q:=ze ((A.out.block (w.heap.size+2) (by omega) (by omega)).trans o.out.2.2)
 have L:Hid (zp r q w y q w3):=A.out;have O:Hid (zy w0 r q t w3):=T.out;clear ae af A T;have cp:=V.out q (t) w3 O.out;go_wp2_with fail
 refine cp.mono ?_;clear cp U Q Y c1 c2 X Z;rintro e w4 ⟨q4,z,ad⟩;cases X0 with
 | none=>subst ad;obtain rfl:R=none:=HR.out;exact ⟨rfl,q4,(L.out.step z).unto,rfl⟩
 | some u0 =>
 obtain ⟨rfl,aa⟩:=ad;have G:Hid (zp r q w y q4 w4):=L.out.step z;have W:Hid (zy w0 r q4 (t++u0) w4):=aa;clear z aa;have U:=ze ((G.out.block (w.heap.size) (Nat.le_refl _) (by omega)).trans o.out.1)
 obtain ⟨Y,c1,c2,X,Z⟩:=zF ((G.out.block (w.heap.size+1) (by omega) (by omega)).trans o.out.2.1)
 have Q:=ze ((G.out.block (w.heap.size+2) (by omega) (by omega)).trans o.out.2.2)
 obtain rfl:R=some (u0):=HR.out;have HP:Hid (zn w0 r q t w (some (u0)) (.returned (.tuple #[])) w4):=⟨q4,G.out.unto,rfl,by have:=W.out;simpa only [List.append_assoc] using this⟩
 clear L O G W U Q Y c1 c2 X Z HR o V;go_wp2
 exact bodyPost_ret (v:=.tuple #[]) (by simp [results,Tryz.results40,go_sem]) rfl HP.out
theorem zh9 (w0:World) (d:Nat) (D:Int) (hD:D-1=(d:Int)) (hD1:1≤D) (hD2:D≤24) (hX:yO w0 d) (hT:ZC w0) (hl:ZA w0) (s:List UInt8) (n line:Int) (base:Option Addr) (m cap r:Nat) (q:Option Nat) (t:List UInt8) (w:World) (h:zy w0 r q t w) (hex:YC 5 s n m=true) (hs:s.length≤100000000) (kids:List Ez) (hm3:m=kids.length) (hc2:kids.length≤cap) (hm2:cap≤maxLen) (hrow2:∀i x,kids[i]?=some x→∃b o a1 a2 a3 a4 a5 a6 a7,base=some ⟨b,o,none⟩∧b<w0.heap.size∧b<w0.heap.size∧Zl w0.heap.size w0 x (yp a1 a2 a3 a4 a5 a6 a7)∧w0.cell? ⟨b,o+i*5,none⟩=some (.int .i64 a1)∧w0.cell? ⟨b,o+i*5+1,none⟩=some (.string (zb a2))∧w0.cell? ⟨b,o+i*5+2,none⟩=some (.int .i64 a3)∧w0.cell? ⟨b,o+i*5+3,none⟩=some (.slice a4 a5 a6)∧w0.cell? ⟨b,o+i*5+4,none⟩=some (.int .i64 a7)) :
  Calls Tryz.prog 40 #[.pointer (some ⟨r,0,none⟩),yp 5 s n base m cap line,.int .i64 D] w (zn w0 r q t w (zd (tokO 1 0 s) (zd (some [40]) (zd (rowO (kids.map (prE d)) kids.length) (some [41]))))):=by
 have aB:∀(fn:Fn) (first cap:Array Value) (w:World),(Instr.makeFunc fn first cap).run Tryz.prog w=.ok (.func fn first cap) w:=fun _ _ _ _=>rfl
 obtain ⟨R,hR⟩:∃R,R=zd (tokO 1 0 s) (zd (some [40]) (zd (rowO (kids.map (prE d)) kids.length) (some [41]))):=⟨_,rfl⟩;rw [←hR];obtain ⟨z,af⟩:∃z,z=Q6 w r 5 s n base m cap line D:=⟨_,rfl⟩;obtain ⟨Y,ao,e0,e1,e2⟩:=yP w r 5 s n base m cap line D;rw [←af] at Y ao e0 e1 e2;have ab:=h.below Y;have aw:Hid (zp r q w z q z):=zp.start h Y;have y:Hid (z.heap[w.heap.size]?=some (.cells #[.pointer (some ⟨r,0,none⟩)] 84 (0,0))∧z.heap[w.heap.size+1]?=some (yW 5 s n base m cap line)∧z.heap[w.heap.size+2]?=some (.cells #[.int .i64 D] 3 (0,0))):=⟨e0,e1,e2⟩;have al:Hid (∀(q:Option Nat) (t:List UInt8) (w:World),zy w0 r q t w→Calls Tryz.prog 80 #[.pointer (some ⟨r,0,none⟩),.string (zb s)] w (zn w0 r q t w (tokO 1 0 s))):=fun q t w h=>yu w0 r q t s w hT h hs
 have ah:Hid (∀(q2:Option Nat) (t2:List UInt8) (W:World),zy w0 r q2 t2 W→zp r q w z q2 W→Calls Tryz.prog 81 #[.pointer (some ⟨r,0,none⟩),.slice base m cap,.func (.func 77) #[] #[.pointer (some ⟨w.heap.size,0,none⟩),.pointer (some ⟨w.heap.size+2,0,none⟩)]] W (zn w0 r q2 t2 W (rowO (kids.map (prE d)) kids.length))):=fun q2 t2 W h2 hL2=>by rw [hm3];exact Vl w0 (prE d) kids base cap _ _ r q2 t2 W h2 hc2 hm2 hrow2 fun x v q1 t1 W1 _ hx h1 hto=>V9 w0 d D hD hD1 hD2 hX x v _ _ r q1 t1 W1 hx h1 (ze (((hL2.step hto).block (w.heap.size) (Nat.le_refl _) (by omega)).trans y.out.1)) (ze (((hL2.step hto).block (w.heap.size+2) (by omega) (by omega)).trans y.out.2.2))
 have ci:=ZQ 5 s n base m cap line z (hl.env ab.env);rw [hex] at ci;have ax:Hid (zy w0 r q t z):=ab;have az:=af.symm;have J:=ze e0;obtain ⟨O,c1,c2,N,Q⟩:=zF e1;have G:=ze e2;have aA:(0:Int)<D:=by omega
 generalize tokO 1 0 s=X0 at *;generalize rowO (kids.map (prE d)) kids.length=X1 at *;have HR:Hid (R=zd X0 (zd (some [40]) (zd X1 (some [41])))):=hR;clear hR ab e0 e1 e2 af Y h hl hex hX hT hc2 hm2 hrow2 hm3
 go_enter Tryz.func40,Tryz.ntmps40
 go_wp2_with fail
 refine ci.mono ?_;clear ci J G O c1 c2 N Q;rintro e w2 ⟨rfl,ad⟩;have T:Hid (zp r q w z q w2):=aw.out.step (zT.below ad);have aj:Hid (zy w0 r q t w2):=ax.out.below ad;clear ad;have ca:=z6 true w2;go_wp2_with fail
 refine ca.mono ?_;clear ca;rintro e w3 ⟨rfl,rfl⟩;simp only [Y8];have J:=ze ((T.out.block (w.heap.size) (Nat.le_refl _) (by omega)).trans y.out.1)
 obtain ⟨O,c1,c2,N,Q⟩:=zF ((T.out.block (w.heap.size+1) (by omega) (by omega)).trans y.out.2.1)
 have G:=ze ((T.out.block (w.heap.size+2) (by omega) (by omega)).trans y.out.2.2)
 have ae:Hid (zp r q w z q w3):=T.out;have ag:Hid (zy w0 r q t w3):=aj.out;clear aw ax T aj;have I:=al.out q (t) w3 ag.out;go_wp2_with fail
 refine I.mono ?_;clear I J G O c1 c2 N Q;rintro e w4 ⟨q4,H,ap⟩;cases X0 with
 | none=>subst ap;obtain rfl:R=none:=HR.out;exact ⟨rfl,q4,(ae.out.step H).unto,rfl⟩
 | some u0 =>
 obtain ⟨rfl,an⟩:=ap;have V:Hid (zp r q w z q4 w4):=ae.out.step H;have am:Hid (zy w0 r q4 (t++u0) w4):=an;clear H an;have J:=ze ((V.out.block (w.heap.size) (Nat.le_refl _) (by omega)).trans y.out.1)
 obtain ⟨O,c1,c2,N,Q⟩:=zF ((V.out.block (w.heap.size+1) (by omega) (by omega)).trans y.out.2.1)
 have G:=ze ((V.out.block (w.heap.size+2) (by omega) (by omega)).trans y.out.2.2)
 have I:=zw w0 r q4 (t++u0) [40] w4 am.out (by simp)
 go_wp2_with fail
 refine I.mono ?_;clear I J G O c1 c2 N Q;rintro e w5 ⟨q5,Z,rfl,au⟩;have A:Hid (zp r q w z q5 w5):=V.out.step Z;have aq:Hid (zy w0 r q5 (t++u0++[40]) w5):=au;clear Z au;have J:=ze ((A.out.block (w.heap.size) (Nat.le_refl _) (by omega)).trans y.out.1)
 obtain ⟨O,c1,c2,N,Q⟩:=zF ((A.out.block (w.heap.size+1) (by omega) (by omega)).trans y.out.2.1)
 have G:=ze ((A.out.block (w.heap.size+2) (by omega) (by omega)).trans y.out.2.2)
 have I:=ah.out q5 (t++u0++[40]) w5 aq.out A.out;go_wp2_with fail
 refine I.mono ?_;clear I J G O c1 c2 N Q;rintro e w6 ⟨q6,X,av⟩;cases X1 with
 | none=>subst av;obtain rfl:R=none:=HR.out;exact ⟨rfl,q6,(A.out.step X).unto,rfl⟩
 | some u1 =>
 obtain ⟨rfl,ar⟩:=av;have U:Hid (zp r q w z q6 w6):=A.out.step X;have ay:Hid (zy w0 r q6 (t++u0++[40]++u1) w6):=ar;clear X ar;have J:=ze ((U.out.block (w.heap.size) (Nat.le_refl _) (by omega)).trans y.out.1)
 obtain ⟨O,c1,c2,N,Q⟩:=zF ((U.out.block (w.heap.size+1) (by omega) (by omega)).trans y.out.2.1)
 have G:=ze ((U.out.block (w.heap.size+2) (by omega) (by omega)).trans y.out.2.2)
 have I:=zw w0 r q6 (t++u0++[40]++u1) [41] w6 ay.out (by simp)
 go_wp2_with fail
 refine I.mono ?_;clear I J G O c1 c2 N Q;rintro e w7 ⟨q7,aa,rfl,ai⟩;have L:Hid (zp r q w z q7 w7):=U.out.step aa;have ak:Hid (zy w0 r q7 (t++u0++[40]++u1++[41]) w7):=ai;clear aa ai;have J:=ze ((L.out.block (w.heap.size) (Nat.le_refl _) (by omega)).trans y.out.1)
 obtain ⟨O,c1,c2,N,Q⟩:=zF ((L.out.block (w.heap.size+1) (by omega) (by omega)).trans y.out.2.1)
 have G:=ze ((L.out.block (w.heap.size+2) (by omega) (by omega)).trans y.out.2.2)
 obtain rfl:R=some (u0++([40]++(u1++([41])))):=HR.out;have HP:Hid (zn w0 r q t w (some (u0++([40]++(u1++([41]))))) (.returned (.tuple #[])) w7):=⟨q7,L.out.unto,rfl,by have:=ak.out;simpa only [List.append_assoc] using this⟩
 clear ae ag V am A aq U ay L ak J G O c1 c2 N Q HR y al ah;go_wp2
 exact bodyPost_ret (v:=.tuple #[]) (by simp [results,Tryz.results40,go_sem]) rfl HP.out
theorem zgR (w0:World) (d:Nat) (D:Int) (hD:D-1=(d:Int)) (hD1:1≤D) (hD2:D≤24) (hX:yO w0 d) (hT:ZC w0) (hl:ZA w0) (s:List UInt8) (n line:Int) (base:Option Addr) (m cap r:Nat) (q:Option Nat) (t:List UInt8) (w:World) (h:zy w0 r q t w) (hex:YC 11 s n m=true) (hs:s.length≤100000000) (kids:List Ez) (hm3:m=kids.length) (hc2:kids.length≤cap) (hm2:cap≤maxLen) (hrow2:∀i x,kids[i]?=some x→∃b o a1 a2 a3 a4 a5 a6 a7,base=some ⟨b,o,none⟩∧b<w0.heap.size∧b<w0.heap.size∧Zl w0.heap.size w0 x (yp a1 a2 a3 a4 a5 a6 a7)∧w0.cell? ⟨b,o+i*5,none⟩=some (.int .i64 a1)∧w0.cell? ⟨b,o+i*5+1,none⟩=some (.string (zb a2))∧w0.cell? ⟨b,o+i*5+2,none⟩=some (.int .i64 a3)∧w0.cell? ⟨b,o+i*5+3,none⟩=some (.slice a4 a5 a6)∧w0.cell? ⟨b,o+i*5+4,none⟩=some (.int .i64 a7)) :
  Calls Tryz.prog 40 #[.pointer (some ⟨r,0,none⟩),yp 11 s n base m cap line,.int .i64 D] w (zn w0 r q t w (zd (some [110,101,119,32]) (zd (tokO 1 0 s) (zd (some [40]) (zd (rowO (kids.map (prE d)) kids.length) (some [41])))))):=by
 have aF:∀(fn:Fn) (first cap:Array Value) (w:World),(Instr.makeFunc fn first cap).run Tryz.prog w=.ok (.func fn first cap) w:=fun _ _ _ _=>rfl
 obtain ⟨R,hR⟩:∃R,R=zd (some [110,101,119,32]) (zd (tokO 1 0 s) (zd (some [40]) (zd (rowO (kids.map (prE d)) kids.length) (some [41])))):=⟨_,rfl⟩;rw [←hR];obtain ⟨z,ag⟩:∃z,z=Q6 w r 11 s n base m cap line D:=⟨_,rfl⟩;obtain ⟨Z,av,e0,e1,e2⟩:=yP w r 11 s n base m cap line D;rw [←ag] at Z av e0 e1 e2;have ae:=h.below Z;have aA:Hid (zp r q w z q z):=zp.start h Z;have y:Hid (z.heap[w.heap.size]?=some (.cells #[.pointer (some ⟨r,0,none⟩)] 84 (0,0))∧z.heap[w.heap.size+1]?=some (yW 11 s n base m cap line)∧z.heap[w.heap.size+2]?=some (.cells #[.int .i64 D] 3 (0,0))):=⟨e0,e1,e2⟩;have ap:Hid (∀(q:Option Nat) (t:List UInt8) (w:World),zy w0 r q t w→Calls Tryz.prog 80 #[.pointer (some ⟨r,0,none⟩),.string (zb s)] w (zn w0 r q t w (tokO 1 0 s))):=fun q t w h=>yu w0 r q t s w hT h hs
 have ai:Hid (∀(q2:Option Nat) (t2:List UInt8) (W:World),zy w0 r q2 t2 W→zp r q w z q2 W→Calls Tryz.prog 81 #[.pointer (some ⟨r,0,none⟩),.slice base m cap,.func (.func 77) #[] #[.pointer (some ⟨w.heap.size,0,none⟩),.pointer (some ⟨w.heap.size+2,0,none⟩)]] W (zn w0 r q2 t2 W (rowO (kids.map (prE d)) kids.length))):=fun q2 t2 W h2 hL2=>by rw [hm3];exact Vl w0 (prE d) kids base cap _ _ r q2 t2 W h2 hc2 hm2 hrow2 fun x v q1 t1 W1 _ hx h1 hto=>V9 w0 d D hD hD1 hD2 hX x v _ _ r q1 t1 W1 hx h1 (ze (((hL2.step hto).block (w.heap.size) (Nat.le_refl _) (by omega)).trans y.out.1)) (ze (((hL2.step hto).block (w.heap.size+2) (by omega) (by omega)).trans y.out.2.2))
 have ci:=ZQ 11 s n base m cap line z (hl.env ae.env);rw [hex] at ci;have aB:Hid (zy w0 r q t z):=ae;have aD:=ag.symm;have I:=ze e0;obtain ⟨L,c1,c2,J,N⟩:=zF e1;have H:=ze e2;have aE:(0:Int)<D:=by omega
 generalize tokO 1 0 s=X0 at *;generalize rowO (kids.map (prE d)) kids.length=X1 at *;have HR:Hid (R=zd (some [110,101,119,32]) (zd X0 (zd (some [40]) (zd X1 (some [41]))))):=hR;clear hR ae e0 e1 e2 ag Z h hl hex hX hT hc2 hm2 hrow2 hm3
 go_enter Tryz.func40,Tryz.ntmps40
 go_wp2_with fail
 refine ci.mono ?_;clear ci I H L c1 c2 J N;rintro e w2 ⟨rfl,af⟩;have U:Hid (zp r q w z q w2):=aA.out.step (zT.below af);have ak:Hid (zy w0 r q t w2):=aB.out.below af;clear af;have ca:=z6 true w2;go_wp2_with fail
 refine ca.mono ?_;clear ca;rintro e w3 ⟨rfl,rfl⟩;simp only [Y8];have I:=ze ((U.out.block (w.heap.size) (Nat.le_refl _) (by omega)).trans y.out.1)
 obtain ⟨L,c1,c2,J,N⟩:=zF ((U.out.block (w.heap.size+1) (by omega) (by omega)).trans y.out.2.1)
 have H:=ze ((U.out.block (w.heap.size+2) (by omega) (by omega)).trans y.out.2.2)
 have ao:Hid (zp r q w z q w3):=U.out;have ah:Hid (zy w0 r q t w3):=ak.out;clear aA aB U ak;have G:=zw w0 r q (t) [110,101,119,32] w3 ah.out (by simp)
 go_wp2_with fail
 refine G.mono ?_;clear G I H L c1 c2 J N;rintro e w4 ⟨q4,ab,rfl,au⟩;have O:Hid (zp r q w z q4 w4):=ao.out.step ab;have aq:Hid (zy w0 r q4 (t++[110,101,119,32]) w4):=au;clear ab au;have I:=ze ((O.out.block (w.heap.size) (Nat.le_refl _) (by omega)).trans y.out.1)
 obtain ⟨L,c1,c2,J,N⟩:=zF ((O.out.block (w.heap.size+1) (by omega) (by omega)).trans y.out.2.1)
 have H:=ze ((O.out.block (w.heap.size+2) (by omega) (by omega)).trans y.out.2.2)
 have G:=ap.out q4 (t++[110,101,119,32]) w4 aq.out;go_wp2_with fail
 refine G.mono ?_;clear G I H L c1 c2 J N;rintro e w5 ⟨q5,Q,al⟩;cases X0 with
 | none=>subst al;obtain rfl:R=none:=HR.out;exact ⟨rfl,q5,(O.out.step Q).unto,rfl⟩
 | some u0 =>
 obtain ⟨rfl,az⟩:=al;have Y:Hid (zp r q w z q5 w5):=O.out.step Q;have aw:Hid (zy w0 r q5 (t++[110,101,119,32]++u0) w5):=az;clear Q az;have I:=ze ((Y.out.block (w.heap.size) (Nat.le_refl _) (by omega)).trans y.out.1)
 obtain ⟨L,c1,c2,J,N⟩:=zF ((Y.out.block (w.heap.size+1) (by omega) (by omega)).trans y.out.2.1)
 have H:=ze ((Y.out.block (w.heap.size+2) (by omega) (by omega)).trans y.out.2.2)
 have G:=zw w0 r q5 (t++[110,101,119,32]++u0) [40] w5 aw.out (by simp)
 go_wp2_with fail
 refine G.mono ?_;clear G I H L c1 c2 J N;rintro e w6 ⟨q6,ad,rfl,ax⟩;have A:Hid (zp r q w z q6 w6):=Y.out.step ad;have aC:Hid (zy w0 r q6 (t++[110,101,119,32]++u0++[40]) w6):=ax;clear ad ax;have I:=ze ((A.out.block (w.heap.size) (Nat.le_refl _) (by omega)).trans y.out.1)
 obtain ⟨L,c1,c2,J,N⟩:=zF ((A.out.block (w.heap.size+1) (by omega) (by omega)).trans y.out.2.1)
 have H:=ze ((A.out.block (w.heap.size+2) (by omega) (by omega)).trans y.out.2.2)
 have G:=ai.out q6 (t++[110,101,119,32]++u0++[40]) w6 aC.out A.out;go_wp2_with fail
 refine G.mono ?_;clear G I H L c1 c2 J N;rintro e w7 ⟨q7,X,ar⟩;cases X1 with
 | none=>subst ar;obtain rfl:R=none:=HR.out;exact ⟨rfl,q7,(A.out.step X).unto,rfl⟩
 | some u1 =>
 obtain ⟨rfl,aj⟩:=ar;have T:Hid (zp r q w z q7 w7):=A.out.step X;have am:Hid (zy w0 r q7 (t++[110,101,119,32]++u0++[40]++u1) w7):=aj;clear X aj;have I:=ze ((T.out.block (w.heap.size) (Nat.le_refl _) (by omega)).trans y.out.1)
 obtain ⟨L,c1,c2,J,N⟩:=zF ((T.out.block (w.heap.size+1) (by omega) (by omega)).trans y.out.2.1)
 have H:=ze ((T.out.block (w.heap.size+2) (by omega) (by omega)).trans y.out.2.2)
 have G:=zw w0 r q7 (t++[110,101,119,32]++u0++[40]++u1) [41] w7 am.out (by simp)
 go_wp2_with fail
 refine G.mono ?_;clear G I H L c1 c2 J N;rintro e w8 ⟨q8,aa,rfl,ay⟩;have V:Hid (zp r q w z q8 w8):=T.out.step aa;have an:Hid (zy w0 r q8 (t++[110,101,119,32]++u0++[40]++u1++[41]) w8):=ay;clear aa ay;have I:=ze ((V.out.block (w.heap.size) (Nat.le_refl _) (by omega)).trans y.out.1)
 obtain ⟨L,c1,c2,J,N⟩:=zF ((V.out.block (w.heap.size+1) (by omega) (by omega)).trans y.out.2.1)
 have H:=ze ((V.out.block (w.heap.size+2) (by omega) (by omega)).trans y.out.2.2)
 obtain rfl:R=some ([110,101,119,32]++(u0++([40]++(u1++([41]))))):=HR.out;have HP:Hid (zn w0 r q t w (some ([110,101,119,32]++(u0++([40]++(u1++([41])))))) (.returned (.tuple #[])) w8):=⟨q8,V.out.unto,rfl,by have:=an.out;simpa only [List.append_assoc] using this⟩
 clear ao ah O aq Y aw A aC T am V an I H L c1 c2 J N HR y ap ai;go_wp2
 exact bodyPost_ret (v:=.tuple #[]) (by simp [results,Tryz.results40,go_sem]) rfl HP.out
theorem zgS (w0:World) (d:Nat) (D:Int) (hD:D-1=(d:Int)) (hD1:1≤D) (hD2:D≤24) (hX:yO w0 d) (hl:ZA w0) (s:List UInt8) (n line:Int) (base:Option Addr) (m cap r:Nat) (q:Option Nat) (t:List UInt8) (w:World) (h:zy w0 r q t w) (hex:YC 10 s n m=true) (kids:List Ez) (hm3:m=kids.length) (hc2:kids.length≤cap) (hm2:cap≤maxLen) (hrow2:∀i x,kids[i]?=some x→∃b o a1 a2 a3 a4 a5 a6 a7,base=some ⟨b,o,none⟩∧b<w0.heap.size∧b<w0.heap.size∧Zl w0.heap.size w0 x (yp a1 a2 a3 a4 a5 a6 a7)∧w0.cell? ⟨b,o+i*5,none⟩=some (.int .i64 a1)∧w0.cell? ⟨b,o+i*5+1,none⟩=some (.string (zb a2))∧w0.cell? ⟨b,o+i*5+2,none⟩=some (.int .i64 a3)∧w0.cell? ⟨b,o+i*5+3,none⟩=some (.slice a4 a5 a6)∧w0.cell? ⟨b,o+i*5+4,none⟩=some (.int .i64 a7)) :
  Calls Tryz.prog 40 #[.pointer (some ⟨r,0,none⟩),yp 10 s n base m cap line,.int .i64 D] w (zn w0 r q t w (zd (some [91]) (zd (rowO (kids.map (prE d)) kids.length) (some [93])))):=by
 have av:∀(fn:Fn) (first cap:Array Value) (w:World),(Instr.makeFunc fn first cap).run Tryz.prog w=.ok (.func fn first cap) w:=fun _ _ _ _=>rfl
 obtain ⟨R,hR⟩:∃R,R=zd (some [91]) (zd (rowO (kids.map (prE d)) kids.length) (some [93])):=⟨_,rfl⟩;rw [←hR];obtain ⟨z,ab⟩:∃z,z=Q6 w r 10 s n base m cap line D:=⟨_,rfl⟩;obtain ⟨N,ak,e0,e1,e2⟩:=yP w r 10 s n base m cap line D;rw [←ab] at N ak e0 e1 e2;have Z:=h.below N;have ao:Hid (zp r q w z q z):=zp.start h N;have y:Hid (z.heap[w.heap.size]?=some (.cells #[.pointer (some ⟨r,0,none⟩)] 84 (0,0))∧z.heap[w.heap.size+1]?=some (yW 10 s n base m cap line)∧z.heap[w.heap.size+2]?=some (.cells #[.int .i64 D] 3 (0,0))):=⟨e0,e1,e2⟩;have ah:Hid (∀(q2:Option Nat) (t2:List UInt8) (W:World),zy w0 r q2 t2 W→zp r q w z q2 W→Calls Tryz.prog 81 #[.pointer (some ⟨r,0,none⟩),.slice base m cap,.func (.func 77) #[] #[.pointer (some ⟨w.heap.size,0,none⟩),.pointer (some ⟨w.heap.size+2,0,none⟩)]] W (zn w0 r q2 t2 W (rowO (kids.map (prE d)) kids.length))):=fun q2 t2 W h2 hL2=>by rw [hm3];exact Vl w0 (prE d) kids base cap _ _ r q2 t2 W h2 hc2 hm2 hrow2 fun x v q1 t1 W1 _ hx h1 hto=>V9 w0 d D hD hD1 hD2 hX x v _ _ r q1 t1 W1 hx h1 (ze (((hL2.step hto).block (w.heap.size) (Nat.le_refl _) (by omega)).trans y.out.1)) (ze (((hL2.step hto).block (w.heap.size+2) (by omega) (by omega)).trans y.out.2.2))
 have ci:=ZQ 10 s n base m cap line z (hl.env Z.env);rw [hex] at ci;have ap:Hid (zy w0 r q t z):=Z;have ar:=ab.symm;have O:=ze e0;obtain ⟨T,c1,c2,Q,U⟩:=zF e1;have L:=ze e2;have au:(0:Int)<D:=by omega
 generalize rowO (kids.map (prE d)) kids.length=X0 at *;have HR:Hid (R=zd (some [91]) (zd X0 (some [93]))):=hR;clear hR Z e0 e1 e2 ab N h hl hex hX hc2 hm2 hrow2 hm3
 go_enter Tryz.func40,Tryz.ntmps40
 go_wp2_with fail
 refine ci.mono ?_;clear ci O L T c1 c2 Q U;rintro e w2 ⟨rfl,aa⟩;have H:Hid (zp r q w z q w2):=ao.out.step (zT.below aa);have ae:Hid (zy w0 r q t w2):=ap.out.below aa;clear aa;have ca:=z6 true w2;go_wp2_with fail
 refine ca.mono ?_;clear ca;rintro e w3 ⟨rfl,rfl⟩;simp only [Y8];have O:=ze ((H.out.block (w.heap.size) (Nat.le_refl _) (by omega)).trans y.out.1)
 obtain ⟨T,c1,c2,Q,U⟩:=zF ((H.out.block (w.heap.size+1) (by omega) (by omega)).trans y.out.2.1)
 have L:=ze ((H.out.block (w.heap.size+2) (by omega) (by omega)).trans y.out.2.2)
 have ag:Hid (zp r q w z q w3):=H.out;have ad:Hid (zy w0 r q t w3):=ae.out;clear ao ap H ae;have X:=zw w0 r q (t) [91] w3 ad.out (by simp)
 go_wp2_with fail
 refine X.mono ?_;clear X O L T c1 c2 Q U;rintro e w4 ⟨q4,V,rfl,aj⟩;have A:Hid (zp r q w z q4 w4):=ag.out.step V;have ai:Hid (zy w0 r q4 (t++[91]) w4):=aj;clear V aj;have O:=ze ((A.out.block (w.heap.size) (Nat.le_refl _) (by omega)).trans y.out.1)
 obtain ⟨T,c1,c2,Q,U⟩:=zF ((A.out.block (w.heap.size+1) (by omega) (by omega)).trans y.out.2.1)
 have L:=ze ((A.out.block (w.heap.size+2) (by omega) (by omega)).trans y.out.2.2)
 have X:=ah.out q4 (t++[91]) w4 ai.out A.out;go_wp2_with fail
 refine X.mono ?_;clear X O L T c1 c2 Q U;rintro e w5 ⟨q5,G,af⟩;cases X0 with
 | none=>subst af;obtain rfl:R=none:=HR.out;exact ⟨rfl,q5,(A.out.step G).unto,rfl⟩
 | some u0 =>
 obtain ⟨rfl,an⟩:=af;have J:Hid (zp r q w z q5 w5):=A.out.step G;have al:Hid (zy w0 r q5 (t++[91]++u0) w5):=an;clear G an;have O:=ze ((J.out.block (w.heap.size) (Nat.le_refl _) (by omega)).trans y.out.1)
 obtain ⟨T,c1,c2,Q,U⟩:=zF ((J.out.block (w.heap.size+1) (by omega) (by omega)).trans y.out.2.1)
 have L:=ze ((J.out.block (w.heap.size+2) (by omega) (by omega)).trans y.out.2.2)
 have X:=zw w0 r q5 (t++[91]++u0) [93] w5 al.out (by simp)
 go_wp2_with fail
 refine X.mono ?_;clear X O L T c1 c2 Q U;rintro e w6 ⟨q6,Y,rfl,am⟩;have I:Hid (zp r q w z q6 w6):=J.out.step Y;have aq:Hid (zy w0 r q6 (t++[91]++u0++[93]) w6):=am;clear Y am;have O:=ze ((I.out.block (w.heap.size) (Nat.le_refl _) (by omega)).trans y.out.1)
 obtain ⟨T,c1,c2,Q,U⟩:=zF ((I.out.block (w.heap.size+1) (by omega) (by omega)).trans y.out.2.1)
 have L:=ze ((I.out.block (w.heap.size+2) (by omega) (by omega)).trans y.out.2.2)
 obtain rfl:R=some ([91]++(u0++([93]))):=HR.out;have HP:Hid (zn w0 r q t w (some ([91]++(u0++([93])))) (.returned (.tuple #[])) w6):=⟨q6,I.out.unto,rfl,by have:=aq.out;simpa only [List.append_assoc] using this⟩
 clear ag ad A ai J al I aq O L T c1 c2 Q U HR y ah;go_wp2
 exact bodyPost_ret (v:=.tuple #[]) (by simp [results,Tryz.results40,go_sem]) rfl HP.out
theorem zia (w0:World) (D:Int) (hD1:1≤D) (hD2:D≤24) (hl:ZA w0) (s:List UInt8) (n line:Int) (base:Option Addr) (m cap r:Nat) (q:Option Nat) (t:List UInt8) (w:World) (h:zy w0 r q t w) (hex:YC 6 s n m=true) (X:Option (List UInt8)) (hS:Hid (∀(q:Option Nat) (t:List UInt8) (w:World),zy w0 r q t w→Calls Tryz.prog 82 #[.pointer (some ⟨r,0,none⟩),yp 6 s n base m cap line,.int .i64 D] w (zn w0 r q t w X))) :
  Calls Tryz.prog 40 #[.pointer (some ⟨r,0,none⟩),yp 6 s n base m cap line,.int .i64 D] w (zn w0 r q t w (X)):=by
 have ai:∀(fn:Fn) (first cap:Array Value) (w:World),(Instr.makeFunc fn first cap).run Tryz.prog w=.ok (.func fn first cap) w:=fun _ _ _ _=>rfl
 obtain ⟨R,hR⟩:∃R,R=X:=⟨_,rfl⟩;rw [←hR];obtain ⟨y,N⟩:∃y,y=Q6 w r 6 s n base m cap line D:=⟨_,rfl⟩;obtain ⟨H,ab,e0,e1,e2⟩:=yP w r 6 s n base m cap line D;rw [←N] at H ab e0 e1 e2;have I:=h.below H;have ae:Hid (zp r q w y q y):=zp.start h H;have o:Hid (y.heap[w.heap.size]?=some (.cells #[.pointer (some ⟨r,0,none⟩)] 84 (0,0))∧y.heap[w.heap.size+1]?=some (yW 6 s n base m cap line)∧y.heap[w.heap.size+2]?=some (.cells #[.int .i64 D] 3 (0,0))):=⟨e0,e1,e2⟩;have V:=hS;have ci:=ZQ 6 s n base m cap line y (hl.env I.env);rw [hex] at ci;have af:Hid (zy w0 r q t y):=I;have ag:=N.symm;have U:=ze e0;obtain ⟨Z,c1,c2,Y,c4⟩:=zF e1;have Q:=ze e2;have ah:(0:Int)<D:=by omega
 clear hS;generalize X=X0 at *;have HR:Hid (R=X0):=hR;clear hR I e0 e1 e2 N H h hl hex
 go_enter Tryz.func40,Tryz.ntmps40
 go_wp2_with fail
 refine ci.mono ?_;clear ci U Q Z c1 c2 Y c4;rintro e w2 ⟨rfl,J⟩;have A:Hid (zp r q w y q w2):=ae.out.step (zT.below J);have T:Hid (zy w0 r q t w2):=af.out.below J;clear J;have ca:=z6 true w2;go_wp2_with fail
 refine ca.mono ?_;clear ca;rintro e w3 ⟨rfl,rfl⟩;simp only [Y8];have U:=ze ((A.out.block (w.heap.size) (Nat.le_refl _) (by omega)).trans o.out.1)
 obtain ⟨Z,c1,c2,Y,c4⟩:=zF ((A.out.block (w.heap.size+1) (by omega) (by omega)).trans o.out.2.1)
 have Q:=ze ((A.out.block (w.heap.size+2) (by omega) (by omega)).trans o.out.2.2)
 have L:Hid (zp r q w y q w3):=A.out;have O:Hid (zy w0 r q t w3):=T.out;clear ae af A T;have cp:=V.out q (t) w3 O.out;go_wp2_with fail
 refine cp.mono ?_;clear cp U Q Z c1 c2 Y c4;rintro e w4 ⟨q4,z,ad⟩;cases X0 with
 | none=>subst ad;obtain rfl:R=none:=HR.out;exact ⟨rfl,q4,(L.out.step z).unto,rfl⟩
 | some u0 =>
 obtain ⟨rfl,aa⟩:=ad;have G:Hid (zp r q w y q4 w4):=L.out.step z;have W:Hid (zy w0 r q4 (t++u0) w4):=aa;clear z aa;have U:=ze ((G.out.block (w.heap.size) (Nat.le_refl _) (by omega)).trans o.out.1)
 obtain ⟨Z,c1,c2,Y,c4⟩:=zF ((G.out.block (w.heap.size+1) (by omega) (by omega)).trans o.out.2.1)
 have Q:=ze ((G.out.block (w.heap.size+2) (by omega) (by omega)).trans o.out.2.2)
 obtain rfl:R=some (u0):=HR.out;have HP:Hid (zn w0 r q t w (some (u0)) (.returned (.tuple #[])) w4):=⟨q4,G.out.unto,rfl,by have:=W.out;simpa only [List.append_assoc] using this⟩
 clear L O G W U Q Z c1 c2 Y c4 HR o V;go_wp2
 exact bodyPost_ret (v:=.tuple #[]) (by simp [results,Tryz.results40,go_sem]) rfl HP.out
theorem zib (w0:World) (D:Int) (hD1:1≤D) (hD2:D≤24) (hl:ZA w0) (s:List UInt8) (n line:Int) (base:Option Addr) (m cap r:Nat) (q:Option Nat) (t:List UInt8) (w:World) (h:zy w0 r q t w) (hex:YC 7 s n m=true) (X:Option (List UInt8)) (hS:Hid (∀(q:Option Nat) (t:List UInt8) (w:World),zy w0 r q t w→Calls Tryz.prog 82 #[.pointer (some ⟨r,0,none⟩),yp 7 s n base m cap line,.int .i64 D] w (zn w0 r q t w X))) :
  Calls Tryz.prog 40 #[.pointer (some ⟨r,0,none⟩),yp 7 s n base m cap line,.int .i64 D] w (zn w0 r q t w (X)):=by
 have ai:∀(fn:Fn) (first cap:Array Value) (w:World),(Instr.makeFunc fn first cap).run Tryz.prog w=.ok (.func fn first cap) w:=fun _ _ _ _=>rfl
 obtain ⟨R,hR⟩:∃R,R=X:=⟨_,rfl⟩;rw [←hR];obtain ⟨y,N⟩:∃y,y=Q6 w r 7 s n base m cap line D:=⟨_,rfl⟩;obtain ⟨H,ab,e0,e1,e2⟩:=yP w r 7 s n base m cap line D;rw [←N] at H ab e0 e1 e2;have I:=h.below H;have ae:Hid (zp r q w y q y):=zp.start h H;have o:Hid (y.heap[w.heap.size]?=some (.cells #[.pointer (some ⟨r,0,none⟩)] 84 (0,0))∧y.heap[w.heap.size+1]?=some (yW 7 s n base m cap line)∧y.heap[w.heap.size+2]?=some (.cells #[.int .i64 D] 3 (0,0))):=⟨e0,e1,e2⟩;have V:=hS;have ci:=ZQ 7 s n base m cap line y (hl.env I.env);rw [hex] at ci;have af:Hid (zy w0 r q t y):=I;have ag:=N.symm;have U:=ze e0;obtain ⟨Z,c1,c2,Y,c4⟩:=zF e1;have Q:=ze e2;have ah:(0:Int)<D:=by omega
 clear hS;generalize X=X0 at *;have HR:Hid (R=X0):=hR;clear hR I e0 e1 e2 N H h hl hex
 go_enter Tryz.func40,Tryz.ntmps40
 go_wp2_with fail
 refine ci.mono ?_;clear ci U Q Z c1 c2 Y c4;rintro e w2 ⟨rfl,J⟩;have A:Hid (zp r q w y q w2):=ae.out.step (zT.below J);have T:Hid (zy w0 r q t w2):=af.out.below J;clear J;have ca:=z6 true w2;go_wp2_with fail
 refine ca.mono ?_;clear ca;rintro e w3 ⟨rfl,rfl⟩;simp only [Y8];have U:=ze ((A.out.block (w.heap.size) (Nat.le_refl _) (by omega)).trans o.out.1)
 obtain ⟨Z,c1,c2,Y,c4⟩:=zF ((A.out.block (w.heap.size+1) (by omega) (by omega)).trans o.out.2.1)
 have Q:=ze ((A.out.block (w.heap.size+2) (by omega) (by omega)).trans o.out.2.2)
 have L:Hid (zp r q w y q w3):=A.out;have O:Hid (zy w0 r q t w3):=T.out;clear ae af A T;have cp:=V.out q (t) w3 O.out;go_wp2_with fail
 refine cp.mono ?_;clear cp U Q Z c1 c2 Y c4;rintro e w4 ⟨q4,z,ad⟩;cases X0 with
 | none=>subst ad;obtain rfl:R=none:=HR.out;exact ⟨rfl,q4,(L.out.step z).unto,rfl⟩
 | some u0 =>
 obtain ⟨rfl,aa⟩:=ad;have G:Hid (zp r q w y q4 w4):=L.out.step z;have W:Hid (zy w0 r q4 (t++u0) w4):=aa;clear z aa;have U:=ze ((G.out.block (w.heap.size) (Nat.le_refl _) (by omega)).trans o.out.1)
 obtain ⟨Z,c1,c2,Y,c4⟩:=zF ((G.out.block (w.heap.size+1) (by omega) (by omega)).trans o.out.2.1)
 have Q:=ze ((G.out.block (w.heap.size+2) (by omega) (by omega)).trans o.out.2.2)
 obtain rfl:R=some (u0):=HR.out;have HP:Hid (zn w0 r q t w (some (u0)) (.returned (.tuple #[])) w4):=⟨q4,G.out.unto,rfl,by have:=W.out;simpa only [List.append_assoc] using this⟩
 clear L O G W U Q Z c1 c2 Y c4 HR o V;go_wp2
 exact bodyPost_ret (v:=.tuple #[]) (by simp [results,Tryz.results40,go_sem]) rfl HP.out
theorem zic (w0:World) (D:Int) (hD1:1≤D) (hD2:D≤24) (hl:ZA w0) (s:List UInt8) (n line:Int) (base:Option Addr) (m cap r:Nat) (q:Option Nat) (t:List UInt8) (w:World) (h:zy w0 r q t w) (hex:YC 8 s n m=true) (X:Option (List UInt8)) (hS:Hid (∀(q:Option Nat) (t:List UInt8) (w:World),zy w0 r q t w→Calls Tryz.prog 82 #[.pointer (some ⟨r,0,none⟩),yp 8 s n base m cap line,.int .i64 D] w (zn w0 r q t w X))) :
  Calls Tryz.prog 40 #[.pointer (some ⟨r,0,none⟩),yp 8 s n base m cap line,.int .i64 D] w (zn w0 r q t w (X)):=by
 have ai:∀(fn:Fn) (first cap:Array Value) (w:World),(Instr.makeFunc fn first cap).run Tryz.prog w=.ok (.func fn first cap) w:=fun _ _ _ _=>rfl
 obtain ⟨R,hR⟩:∃R,R=X:=⟨_,rfl⟩;rw [←hR];obtain ⟨y,N⟩:∃y,y=Q6 w r 8 s n base m cap line D:=⟨_,rfl⟩;obtain ⟨H,ab,e0,e1,e2⟩:=yP w r 8 s n base m cap line D;rw [←N] at H ab e0 e1 e2;have I:=h.below H;have ae:Hid (zp r q w y q y):=zp.start h H;have o:Hid (y.heap[w.heap.size]?=some (.cells #[.pointer (some ⟨r,0,none⟩)] 84 (0,0))∧y.heap[w.heap.size+1]?=some (yW 8 s n base m cap line)∧y.heap[w.heap.size+2]?=some (.cells #[.int .i64 D] 3 (0,0))):=⟨e0,e1,e2⟩;have V:=hS;have ci:=ZQ 8 s n base m cap line y (hl.env I.env);rw [hex] at ci;have af:Hid (zy w0 r q t y):=I;have ag:=N.symm;have U:=ze e0;obtain ⟨Z,c1,c2,Y,c4⟩:=zF e1;have Q:=ze e2;have ah:(0:Int)<D:=by omega
 clear hS;generalize X=X0 at *;have HR:Hid (R=X0):=hR;clear hR I e0 e1 e2 N H h hl hex
 go_enter Tryz.func40,Tryz.ntmps40
 go_wp2_with fail
 refine ci.mono ?_;clear ci U Q Z c1 c2 Y c4;rintro e w2 ⟨rfl,J⟩;have A:Hid (zp r q w y q w2):=ae.out.step (zT.below J);have T:Hid (zy w0 r q t w2):=af.out.below J;clear J;have ca:=z6 true w2;go_wp2_with fail
 refine ca.mono ?_;clear ca;rintro e w3 ⟨rfl,rfl⟩;simp only [Y8];have U:=ze ((A.out.block (w.heap.size) (Nat.le_refl _) (by omega)).trans o.out.1)
 obtain ⟨Z,c1,c2,Y,c4⟩:=zF ((A.out.block (w.heap.size+1) (by omega) (by omega)).trans o.out.2.1)
 have Q:=ze ((A.out.block (w.heap.size+2) (by omega) (by omega)).trans o.out.2.2)
 have L:Hid (zp r q w y q w3):=A.out;have O:Hid (zy w0 r q t w3):=T.out;clear ae af A T;have cp:=V.out q (t) w3 O.out;go_wp2_with fail
 refine cp.mono ?_;clear cp U Q Z c1 c2 Y c4;rintro e w4 ⟨q4,z,ad⟩;cases X0 with
 | none=>subst ad;obtain rfl:R=none:=HR.out;exact ⟨rfl,q4,(L.out.step z).unto,rfl⟩
 | some u0 =>
 obtain ⟨rfl,aa⟩:=ad;have G:Hid (zp r q w y q4 w4):=L.out.step z;have W:Hid (zy w0 r q4 (t++u0) w4):=aa;clear z aa;have U:=ze ((G.out.block (w.heap.size) (Nat.le_refl _) (by omega)).trans o.out.1)
 obtain ⟨Z,c1,c2,Y,c4⟩:=zF ((G.out.block (w.heap.size+1) (by omega) (by omega)).trans o.out.2.1)
 have Q:=ze ((G.out.block (w.heap.size+2) (by omega) (by omega)).trans o.out.2.2)
 obtain rfl:R=some (u0):=HR.out;have HP:Hid (zn w0 r q t w (some (u0)) (.returned (.tuple #[])) w4):=⟨q4,G.out.unto,rfl,by have:=W.out;simpa only [List.append_assoc] using this⟩
 clear L O G W U Q Z c1 c2 Y c4 HR o V;go_wp2
 exact bodyPost_ret (v:=.tuple #[]) (by simp [results,Tryz.results40,go_sem]) rfl HP.out
theorem zid (w0:World) (D:Int) (hD1:1≤D) (hD2:D≤24) (hl:ZA w0) (s:List UInt8) (n line:Int) (base:Option Addr) (m cap r:Nat) (q:Option Nat) (t:List UInt8) (w:World) (h:zy w0 r q t w) (hex:YC 9 s n m=true) (X:Option (List UInt8)) (hS:Hid (∀(q:Option Nat) (t:List UInt8) (w:World),zy w0 r q t w→Calls Tryz.prog 82 #[.pointer (some ⟨r,0,none⟩),yp 9 s n base m cap line,.int .i64 D] w (zn w0 r q t w X))) :
  Calls Tryz.prog 40 #[.pointer (some ⟨r,0,none⟩),yp 9 s n base m cap line,.int .i64 D] w (zn w0 r q t w (X)):=by
 have ai:∀(fn:Fn) (first cap:Array Value) (w:World),(Instr.makeFunc fn first cap).run Tryz.prog w=.ok (.func fn first cap) w:=fun _ _ _ _=>rfl
 obtain ⟨R,hR⟩:∃R,R=X:=⟨_,rfl⟩;rw [←hR];obtain ⟨y,N⟩:∃y,y=Q6 w r 9 s n base m cap line D:=⟨_,rfl⟩;obtain ⟨H,ab,e0,e1,e2⟩:=yP w r 9 s n base m cap line D;rw [←N] at H ab e0 e1 e2;have I:=h.below H;have ae:Hid (zp r q w y q y):=zp.start h H;have o:Hid (y.heap[w.heap.size]?=some (.cells #[.pointer (some ⟨r,0,none⟩)] 84 (0,0))∧y.heap[w.heap.size+1]?=some (yW 9 s n base m cap line)∧y.heap[w.heap.size+2]?=some (.cells #[.int .i64 D] 3 (0,0))):=⟨e0,e1,e2⟩;have V:=hS;have ci:=ZQ 9 s n base m cap line y (hl.env I.env);rw [hex] at ci;have af:Hid (zy w0 r q t y):=I;have ag:=N.symm;have U:=ze e0;obtain ⟨Z,c1,c2,Y,c4⟩:=zF e1;have Q:=ze e2;have ah:(0:Int)<D:=by omega
 clear hS;generalize X=X0 at *;have HR:Hid (R=X0):=hR;clear hR I e0 e1 e2 N H h hl hex
 go_enter Tryz.func40,Tryz.ntmps40
 go_wp2_with fail
 refine ci.mono ?_;clear ci U Q Z c1 c2 Y c4;rintro e w2 ⟨rfl,J⟩;have A:Hid (zp r q w y q w2):=ae.out.step (zT.below J);have T:Hid (zy w0 r q t w2):=af.out.below J;clear J;have ca:=z6 true w2;go_wp2_with fail
 refine ca.mono ?_;clear ca;rintro e w3 ⟨rfl,rfl⟩;simp only [Y8];have U:=ze ((A.out.block (w.heap.size) (Nat.le_refl _) (by omega)).trans o.out.1)
 obtain ⟨Z,c1,c2,Y,c4⟩:=zF ((A.out.block (w.heap.size+1) (by omega) (by omega)).trans o.out.2.1)
 have Q:=ze ((A.out.block (w.heap.size+2) (by omega) (by omega)).trans o.out.2.2)
 have L:Hid (zp r q w y q w3):=A.out;have O:Hid (zy w0 r q t w3):=T.out;clear ae af A T;have cp:=V.out q (t) w3 O.out;go_wp2_with fail
 refine cp.mono ?_;clear cp U Q Z c1 c2 Y c4;rintro e w4 ⟨q4,z,ad⟩;cases X0 with
 | none=>subst ad;obtain rfl:R=none:=HR.out;exact ⟨rfl,q4,(L.out.step z).unto,rfl⟩
 | some u0 =>
 obtain ⟨rfl,aa⟩:=ad;have G:Hid (zp r q w y q4 w4):=L.out.step z;have W:Hid (zy w0 r q4 (t++u0) w4):=aa;clear z aa;have U:=ze ((G.out.block (w.heap.size) (Nat.le_refl _) (by omega)).trans o.out.1)
 obtain ⟨Z,c1,c2,Y,c4⟩:=zF ((G.out.block (w.heap.size+1) (by omega) (by omega)).trans o.out.2.1)
 have Q:=ze ((G.out.block (w.heap.size+2) (by omega) (by omega)).trans o.out.2.2)
 obtain rfl:R=some (u0):=HR.out;have HP:Hid (zn w0 r q t w (some (u0)) (.returned (.tuple #[])) w4):=⟨q4,G.out.unto,rfl,by have:=W.out;simpa only [List.append_assoc] using this⟩
 clear L O G W U Q Z c1 c2 Y c4 HR o V;go_wp2
 exact bodyPost_ret (v:=.tuple #[]) (by simp [results,Tryz.results40,go_sem]) rfl HP.out
theorem zie (w0:World) (D:Int) (hD1:1≤D) (hD2:D≤24) (hl:ZA w0) (s:List UInt8) (n line:Int) (base:Option Addr) (m cap r:Nat) (q:Option Nat) (t:List UInt8) (w:World) (h:zy w0 r q t w) (k:Int) (hex:YC k s n m=false) :
  Calls Tryz.prog 40 #[.pointer (some ⟨r,0,none⟩),yp k s n base m cap line,.int .i64 D] w (zn w0 r q t w none):=by
 have ab:∀(fn:Fn) (first cap:Array Value) (w:World),(Instr.makeFunc fn first cap).run Tryz.prog w=.ok (.func fn first cap) w:=fun _ _ _ _=>rfl
 obtain ⟨R,Q⟩:∃R,R=(none:Option (List UInt8)):=⟨_,rfl⟩;rw [←Q];obtain ⟨o,G⟩:∃o,o=Q6 w r k s n base m cap line D:=⟨_,rfl⟩;obtain ⟨y,H,L,I,J⟩:=yP w r k s n base m cap line D;rw [←G] at y H L I J;have z:=h.below y;have T:Hid (zp r q w o q o):=zp.start h y;have Z:Hid (o.heap[w.heap.size]?=some (.cells #[.pointer (some ⟨r,0,none⟩)] 84 (0,0))∧o.heap[w.heap.size+1]?=some (yW k s n base m cap line)∧o.heap[w.heap.size+2]?=some (.cells #[.int .i64 D] 3 (0,0))):=⟨L,I,J⟩;have O:=ZQ k s n base m cap line o (hl.env z.env);rw [hex] at O;have U:Hid (zy w0 r q t o):=z;have X:=G.symm;have b0:=ze L;obtain ⟨c0,c1,c2,c3,c4⟩:=zF I;have Y:=ze J;have aa:(0:Int)<D:=by omega
 have HR:Hid (R=none):=Q;clear Q z L I J G y h hl hex
 go_enter Tryz.func40,Tryz.ntmps40
 go_wp2_with fail
 refine O.mono ?_;clear O b0 Y c0 c1 c2 c3 c4;rintro e V ⟨rfl,A⟩;have N:Hid (zp r q w o q V):=T.out.step (zT.below A);have ad:Hid (zy w0 r q t V):=U.out.below A;clear A;have W:=z6 false V;go_wp2_with fail
 refine W.mono ?_;clear W;rintro e w3 ⟨rfl,rfl⟩;obtain rfl:=HR.out;exact ⟨rfl,q,N.out.unto,rfl⟩
theorem zfi (w0:World) (k:Int) (s:List UInt8) (n line:Int) (base:Option Addr) (m cap r:Nat) (q:Option Nat) (t:List UInt8) (w:World) (h:zy w0 r q t w) :
  Calls Tryz.prog 40 #[.pointer (some ⟨r,0,none⟩),yp k s n base m cap line,.int .i64 0] w (zn w0 r q t w none):=by
 obtain ⟨A,y⟩:∃A,A=Q6 w r k s n base m cap line 0:=⟨_,rfl⟩;obtain ⟨o,z,L,H,D⟩:=yP w r k s n base m cap line 0;rw [←y] at o z L H D;have G:Hid (zp r q w A q A):=zp.start h o;have I:=y.symm;have N:=ze D;have J:=z6 false A;clear o L H D y h
 go_enter Tryz.func40,Tryz.ntmps40
 go_wp2_with fail
 refine J.mono ?_;clear J;rintro e O ⟨rfl,rfl⟩;exact ⟨rfl,q,G.out.unto,rfl⟩
end Go.Proofs.YtcphojjpapgblaaGreatDoor
