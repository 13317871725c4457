import Derived.Test.YtpejpbbdgblbeaaGreatDoorMC10
namespace Go.Proofs.YtpejpbbdgblbeaaGreatDoor
open Go.RowKit Go.Shelf
set_option maxHeartbeats 16000000
set_option maxRecDepth 100000
theorem uX (w0:World) (d:Nat) (D:Int) (hD:D-1=(d:Int)) (_hD1:1≤D) (hD2:D≤24) (hX:Yx w0 d) (x:Ez) (v:Value) (bw bd r:Nat) (q:Option Nat) (t:List UInt8) (w:World) (hx:ZJ w0.heap.size w0 x v) (h:zH w0 r q t w) (hcw:w.cell? ⟨bw,0,none⟩=some (.pointer (some ⟨r,0,none⟩))) (hcd:w.cell? ⟨bd,0,none⟩=some (.int .i64 D)) :
  Calls Tryz.prog 79 #[v,.pointer (some ⟨bw,0,none⟩),.pointer (some ⟨bd,0,none⟩)] w (zr w0 r q t w (prE d x)):=by
 have hx0:=hx;obtain ⟨k,s,n,kids,line,base,cap,b,o,us,hs,hn0,hn1,hbase,hlen,hc,hm,hcell,hfive,hk⟩:=hx;obtain ⟨w1,hw1⟩:∃w1,w1=w.alloc (Y3 k s n base kids.length cap line):=⟨_,rfl⟩;have hb1:Below w.heap.size w w1:=by rw [hw1];exact (Below.refl _ w).alloc (Nat.le_refl _) _
 have p1:w1.heap[w.heap.size]?=some (Y3 k s n base kids.length cap line):=by rw [hw1];exact World.alloc_heap_new w _
 have cx:=hX _ _ r q t w1 hx0 (h.below hb1);have d1:w1.cell? ⟨bw,0,none⟩=some (.pointer (some ⟨r,0,none⟩)):=by rw [hw1];exact ze hcw _
 have d2:w1.cell? ⟨bd,0,none⟩=some (.int .i64 D):=by rw [hw1];exact ze hcd _
 have HT1:Hid (zX r q w q w1):=zX.below hb1;generalize prE d (.mk k s n kids line)=X at *;generalize kids.length=m at *;obtain ⟨c0,c1,c2,c3,c4⟩:=zK p1;have hw1':=hw1.symm;clear hw1 p1 hb1 h hx0 hX hbase hlen hc hcell hfive hk hcw hcd
 go_enter Tryz.func79,Tryz.ntmps79
 go_wp2_with fail
 refine cx.mono ?_;clear cx;rintro e w2 ⟨q2,hto2,hp⟩;cases X with
 | none=>subst hp;exact ⟨rfl,q2,HT1.out.trans hto2,rfl⟩
 | some u =>
  obtain ⟨rfl,hw2⟩:=hp;have HP:Hid (zr w0 r q t w (some u) (.returned (.tuple #[])) w2):=⟨q2,HT1.out.trans hto2,rfl,hw2⟩;clear hto2 hw2 HT1 c0 c1 c2 c3 c4 d1 d2;go_wp2
  exact bodyPost_ret (v:=.tuple #[]) (by simp [results,Tryz.results79,go_sem]) rfl HP.out
abbrev exW (w:World) (r:Nat) (k:Int) (s:List UInt8) (n:Int) (base:Option Addr) (m cap:Nat) (line D:Int):World:=((w.alloc (.cells #[.pointer (some ⟨r,0,none⟩)] 85)).alloc (Y3 k s n base m cap line)).alloc (.cells #[.int .i64 D] 3)
theorem Yy (w:World) (r:Nat) (k:Int) (s:List UInt8) (n:Int) (base:Option Addr) (m cap:Nat) (line D:Int) :
  Below w.heap.size w (exW w r k s n base m cap line D)∧(exW w r k s n base m cap line D).heap.size=w.heap.size+3∧(exW w r k s n base m cap line D).heap[w.heap.size]?=some (.cells #[.pointer (some ⟨r,0,none⟩)] 85 (0,0))∧(exW w r k s n base m cap line D).heap[w.heap.size+1]?=some (Y3 k s n base m cap line)∧(exW w r k s n base m cap line D).heap[w.heap.size+2]?=some (.cells #[.int .i64 D] 3 (0,0)):=by
 refine ⟨(((Below.refl _ w).alloc (Nat.le_refl _) _).alloc (by simp) _).alloc (by simp <;> omega) _,by simp,?_,?_,?_⟩
 ·rw [Below.heap_alloc _ _ _ (by simp <;> omega),Below.heap_alloc _ _ _ (by simp)];exact World.alloc_heap_new _ _
 ·rw [Below.heap_alloc _ _ _ (by simp)]
  have:=World.alloc_heap_new (w.alloc (.cells #[.pointer (some ⟨r,0,none⟩)] 85)) (Y3 k s n base m cap line)
  simpa using this
 ·have:=World.alloc_heap_new ((w.alloc (.cells #[.pointer (some ⟨r,0,none⟩)] 85)).alloc (Y3 k s n base m cap line)) (.cells #[.int .i64 D] 3)
  simpa using this
theorem zg {w:World} {N:Nat} {v:Value} {ty:TypeId} (p:w.heap[N]?=some (.cells #[v] ty (0,0))):w.cell? ⟨N,0,none⟩=some v:=by simp only [World.cell?,p];rfl
theorem ZS.env {w0 w:World} (h:ZS w0) (hb:Below w0.heap.size w0 w):ZS w:=fun j v hj=>by rw [hb.cell (World.block_lt_of_cell? w0 _ (h j v hj))];exact h j v hj
theorem zhI (w0:World) (D:Int) (hD1:1≤D) (hD2:D≤24) (hT:ZV w0) (hl:ZS w0) (s:List UInt8) (n line:Int) (base:Option Addr) (m cap r:Nat) (q:Option Nat) (t:List UInt8) (w:World) (h:zH w0 r q t w) (hex:xR 1 s n m=true) (hn0:-9223372036854775808≤n) (hn1:n≤9223372036854775807) :
  Calls Tryz.prog 42 #[.pointer (some ⟨r,0,none⟩),Ye 1 s n base m cap line,.int .i64 D] w (zr w0 r q t w (tokO 2 n [])):=by
 have hmf:∀(fn:Fn) (first cap:Array Value) (w:World),(Instr.makeFunc fn first cap).run Tryz.prog w=.ok (.func fn first cap) w:=fun _ _ _ _=>rfl
 obtain ⟨R,hR⟩:∃R,R=tokO 2 n []:=⟨_,rfl⟩;rw [←hR];obtain ⟨w1,hw1⟩:∃w1,w1=exW w r 1 s n base m cap line D:=⟨_,rfl⟩;obtain ⟨hb1,hsz1,e0,e1,e2⟩:=Yy w r 1 s n base m cap line D;rw [←hw1] at hb1 hsz1 e0 e1 e2;have hW1:=h.below hb1;have HL1:Hid (zu r q w w1 q w1):=zu.start h hb1;have HP1:Hid (w1.heap[w.heap.size]?=some (.cells #[.pointer (some ⟨r,0,none⟩)] 85 (0,0))∧w1.heap[w.heap.size+1]?=some (Y3 1 s n base m cap line)∧w1.heap[w.heap.size+2]?=some (.cells #[.int .i64 D] 3 (0,0))):=⟨e0,e1,e2⟩;have HK0:Hid (∀(q:Option Nat) (t:List UInt8) (w:World),zH w0 r q t w→Calls Tryz.prog 80 #[.pointer (some ⟨r,0,none⟩),.agg #[.int .i64 2,.string (za []),.int .i64 n,.int .i64 0,.int .i64 0]] w (zr w0 r q t w (tokO 2 n []))):=fun q t w h=>U7 w0 r q t 2 n 0 0 [] w hT h hn0 hn1 (by simp)
 have ci:=yw 1 s n base m cap line w1 (hl.env hW1.env);rw [hex] at ci;have HW1:Hid (zH w0 r q t w1):=hW1;have hw1':=hw1.symm;have b0:=zg e0;obtain ⟨c0,c1,c2,c3,c4⟩:=zK e1;have b2:=zg e2;have hD0:(0:Int)<D:=by omega
 generalize tokO 2 n []=X0 at *;have HR:Hid (R=X0):=hR;clear hR hW1 e0 e1 e2 hw1 hb1 h hl hex hT
 go_enter Tryz.func42,Tryz.ntmps42
 go_wp2_with fail
 refine ci.mono ?_;clear ci b0 b2 c0 c1 c2 c3 c4;rintro e w2 ⟨rfl,hb2⟩;have HL2:Hid (zu r q w w1 q w2):=HL1.out.step (zX.below hb2);have HW2:Hid (zH w0 r q t w2):=HW1.out.below hb2;clear hb2;have ca:=Zi true w2;go_wp2_with fail
 refine ca.mono ?_;clear ca;rintro e w3 ⟨rfl,rfl⟩;simp only [xY];have b0:=zg ((HL2.out.block (w.heap.size) (Nat.le_refl _) (by omega)).trans HP1.out.1)
 obtain ⟨c0,c1,c2,c3,c4⟩:=zK ((HL2.out.block (w.heap.size+1) (by omega) (by omega)).trans HP1.out.2.1)
 have b2:=zg ((HL2.out.block (w.heap.size+2) (by omega) (by omega)).trans HP1.out.2.2)
 have HL3:Hid (zu r q w w1 q w3):=HL2.out;have HW3:Hid (zH w0 r q t w3):=HW2.out;clear HL1 HW1 HL2 HW2;have cp:=HK0.out q (t) w3 HW3.out;go_wp2_with fail
 refine cp.mono ?_;clear cp b0 b2 c0 c1 c2 c3 c4;rintro e w4 ⟨q4,hto4,hp4⟩;cases X0 with
 | none=>subst hp4;obtain rfl:R=none:=HR.out;exact ⟨rfl,q4,(HL3.out.step hto4).unto,rfl⟩
 | some u0 =>
 obtain ⟨rfl,hw4⟩:=hp4;have HL4:Hid (zu r q w w1 q4 w4):=HL3.out.step hto4;have HW4:Hid (zH w0 r q4 (t++u0) w4):=hw4;clear hto4 hw4;have b0:=zg ((HL4.out.block (w.heap.size) (Nat.le_refl _) (by omega)).trans HP1.out.1)
 obtain ⟨c0,c1,c2,c3,c4⟩:=zK ((HL4.out.block (w.heap.size+1) (by omega) (by omega)).trans HP1.out.2.1)
 have b2:=zg ((HL4.out.block (w.heap.size+2) (by omega) (by omega)).trans HP1.out.2.2)
 obtain rfl:R=some (u0):=HR.out;have HP:Hid (zr w0 r q t w (some (u0)) (.returned (.tuple #[])) w4):=⟨q4,HL4.out.unto,rfl,by have:=HW4.out;simpa only [List.append_assoc] using this⟩
 clear HL3 HW3 HL4 HW4 b0 b2 c0 c1 c2 c3 c4 HR HP1 HK0;go_wp2
 exact bodyPost_ret (v:=.tuple #[]) (by simp [results,Tryz.results42,go_sem]) rfl HP.out
theorem zhJ (w0:World) (D:Int) (hD1:1≤D) (hD2:D≤24) (hT:ZV w0) (hl:ZS w0) (s:List UInt8) (n line:Int) (base:Option Addr) (m cap r:Nat) (q:Option Nat) (t:List UInt8) (w:World) (h:zH w0 r q t w) (hex:xR 3 s n m=true) (hs:s.length≤100000000) :
  Calls Tryz.prog 42 #[.pointer (some ⟨r,0,none⟩),Ye 3 s n base m cap line,.int .i64 D] w (zr w0 r q t w (tokO 3 0 s)):=by
 have hmf:∀(fn:Fn) (first cap:Array Value) (w:World),(Instr.makeFunc fn first cap).run Tryz.prog w=.ok (.func fn first cap) w:=fun _ _ _ _=>rfl
 obtain ⟨R,hR⟩:∃R,R=tokO 3 0 s:=⟨_,rfl⟩;rw [←hR];obtain ⟨w1,hw1⟩:∃w1,w1=exW w r 3 s n base m cap line D:=⟨_,rfl⟩;obtain ⟨hb1,hsz1,e0,e1,e2⟩:=Yy w r 3 s n base m cap line D;rw [←hw1] at hb1 hsz1 e0 e1 e2;have hW1:=h.below hb1;have HL1:Hid (zu r q w w1 q w1):=zu.start h hb1;have HP1:Hid (w1.heap[w.heap.size]?=some (.cells #[.pointer (some ⟨r,0,none⟩)] 85 (0,0))∧w1.heap[w.heap.size+1]?=some (Y3 3 s n base m cap line)∧w1.heap[w.heap.size+2]?=some (.cells #[.int .i64 D] 3 (0,0))):=⟨e0,e1,e2⟩;have HK0:Hid (∀(q:Option Nat) (t:List UInt8) (w:World),zH w0 r q t w→Calls Tryz.prog 80 #[.pointer (some ⟨r,0,none⟩),.agg #[.int .i64 3,.string (za s),.int .i64 0,.int .i64 0,.int .i64 0]] w (zr w0 r q t w (tokO 3 0 s))):=fun q t w h=>U7 w0 r q t 3 0 0 0 s w hT h (by omega) (by omega) hs
 have ci:=yw 3 s n base m cap line w1 (hl.env hW1.env);rw [hex] at ci;have HW1:Hid (zH w0 r q t w1):=hW1;have hw1':=hw1.symm;have b0:=zg e0;obtain ⟨c0,c1,c2,c3,c4⟩:=zK e1;have b2:=zg e2;have hD0:(0:Int)<D:=by omega
 generalize tokO 3 0 s=X0 at *;have HR:Hid (R=X0):=hR;clear hR hW1 e0 e1 e2 hw1 hb1 h hl hex hT
 go_enter Tryz.func42,Tryz.ntmps42
 go_wp2_with fail
 refine ci.mono ?_;clear ci b0 b2 c0 c1 c2 c3 c4;rintro e w2 ⟨rfl,hb2⟩;have HL2:Hid (zu r q w w1 q w2):=HL1.out.step (zX.below hb2);have HW2:Hid (zH w0 r q t w2):=HW1.out.below hb2;clear hb2;have ca:=Zi true w2;go_wp2_with fail
 refine ca.mono ?_;clear ca;rintro e w3 ⟨rfl,rfl⟩;simp only [xY];have b0:=zg ((HL2.out.block (w.heap.size) (Nat.le_refl _) (by omega)).trans HP1.out.1)
 obtain ⟨c0,c1,c2,c3,c4⟩:=zK ((HL2.out.block (w.heap.size+1) (by omega) (by omega)).trans HP1.out.2.1)
 have b2:=zg ((HL2.out.block (w.heap.size+2) (by omega) (by omega)).trans HP1.out.2.2)
 have HL3:Hid (zu r q w w1 q w3):=HL2.out;have HW3:Hid (zH w0 r q t w3):=HW2.out;clear HL1 HW1 HL2 HW2;have cp:=HK0.out q (t) w3 HW3.out;go_wp2_with fail
 refine cp.mono ?_;clear cp b0 b2 c0 c1 c2 c3 c4;rintro e w4 ⟨q4,hto4,hp4⟩;cases X0 with
 | none=>subst hp4;obtain rfl:R=none:=HR.out;exact ⟨rfl,q4,(HL3.out.step hto4).unto,rfl⟩
 | some u0 =>
 obtain ⟨rfl,hw4⟩:=hp4;have HL4:Hid (zu r q w w1 q4 w4):=HL3.out.step hto4;have HW4:Hid (zH w0 r q4 (t++u0) w4):=hw4;clear hto4 hw4;have b0:=zg ((HL4.out.block (w.heap.size) (Nat.le_refl _) (by omega)).trans HP1.out.1)
 obtain ⟨c0,c1,c2,c3,c4⟩:=zK ((HL4.out.block (w.heap.size+1) (by omega) (by omega)).trans HP1.out.2.1)
 have b2:=zg ((HL4.out.block (w.heap.size+2) (by omega) (by omega)).trans HP1.out.2.2)
 obtain rfl:R=some (u0):=HR.out;have HP:Hid (zr w0 r q t w (some (u0)) (.returned (.tuple #[])) w4):=⟨q4,HL4.out.unto,rfl,by have:=HW4.out;simpa only [List.append_assoc] using this⟩
 clear HL3 HW3 HL4 HW4 b0 b2 c0 c1 c2 c3 c4 HR HP1 HK0;go_wp2
 exact bodyPost_ret (v:=.tuple #[]) (by simp [results,Tryz.results42,go_sem]) rfl HP.out
theorem zhK (w0:World) (D:Int) (hD1:1≤D) (hD2:D≤24) (hT:ZV w0) (hl:ZS w0) (s:List UInt8) (n line:Int) (base:Option Addr) (m cap r:Nat) (q:Option Nat) (t:List UInt8) (w:World) (h:zH w0 r q t w) (hex:xR 4 s n m=true) (hs:s.length≤100000000) :
  Calls Tryz.prog 42 #[.pointer (some ⟨r,0,none⟩),Ye 4 s n base m cap line,.int .i64 D] w (zr w0 r q t w (tokO 1 0 s)):=by
 have hmf:∀(fn:Fn) (first cap:Array Value) (w:World),(Instr.makeFunc fn first cap).run Tryz.prog w=.ok (.func fn first cap) w:=fun _ _ _ _=>rfl
 obtain ⟨R,hR⟩:∃R,R=tokO 1 0 s:=⟨_,rfl⟩;rw [←hR];obtain ⟨w1,hw1⟩:∃w1,w1=exW w r 4 s n base m cap line D:=⟨_,rfl⟩;obtain ⟨hb1,hsz1,e0,e1,e2⟩:=Yy w r 4 s n base m cap line D;rw [←hw1] at hb1 hsz1 e0 e1 e2;have hW1:=h.below hb1;have HL1:Hid (zu r q w w1 q w1):=zu.start h hb1;have HP1:Hid (w1.heap[w.heap.size]?=some (.cells #[.pointer (some ⟨r,0,none⟩)] 85 (0,0))∧w1.heap[w.heap.size+1]?=some (Y3 4 s n base m cap line)∧w1.heap[w.heap.size+2]?=some (.cells #[.int .i64 D] 3 (0,0))):=⟨e0,e1,e2⟩;have HK0:Hid (∀(q:Option Nat) (t:List UInt8) (w:World),zH w0 r q t w→Calls Tryz.prog 82 #[.pointer (some ⟨r,0,none⟩),.string (za s)] w (zr w0 r q t w (tokO 1 0 s))):=fun q t w h=>Yb w0 r q t s w hT h hs
 have ci:=yw 4 s n base m cap line w1 (hl.env hW1.env);rw [hex] at ci;have HW1:Hid (zH w0 r q t w1):=hW1;have hw1':=hw1.symm;have b0:=zg e0;obtain ⟨c0,c1,c2,c3,c4⟩:=zK e1;have b2:=zg e2;have hD0:(0:Int)<D:=by omega
 generalize tokO 1 0 s=X0 at *;have HR:Hid (R=X0):=hR;clear hR hW1 e0 e1 e2 hw1 hb1 h hl hex hT
 go_enter Tryz.func42,Tryz.ntmps42
 go_wp2_with fail
 refine ci.mono ?_;clear ci b0 b2 c0 c1 c2 c3 c4;rintro e w2 ⟨rfl,hb2⟩;have HL2:Hid (zu r q w w1 q w2):=HL1.out.step (zX.below hb2);have HW2:Hid (zH w0 r q t w2):=HW1.out.below hb2;clear hb2;have ca:=Zi true w2;go_wp2_with fail
 refine ca.mono ?_;clear ca;rintro e w3 ⟨rfl,rfl⟩;simp only [xY];have b0:=zg ((HL2.out.block (w.heap.size) (Nat.le_refl _) (by omega)).trans HP1.out.1)
 obtain ⟨c0,c1,c2,c3,c4⟩:=zK ((HL2.out.block (w.heap.size+1) (by omega) (by omega)).trans HP1.out.2.1)
 have b2:=zg ((HL2.out.block (w.heap.size+2) (by omega) (by omega)).trans HP1.out.2.2)
 have HL3:Hid (zu r q w w1 q w3):=HL2.out;have HW3:Hid (zH w0 r q t w3):=HW2.out;clear HL1 HW1 HL2 HW2;have cp:=HK0.out q (t) w3 HW3.out;go_wp2_with fail
 refine cp.mono ?_;clear cp b0 b2 c0 c1 c2 c3 c4;rintro e w4 ⟨q4,hto4,hp4⟩;cases X0 with
 | none=>subst hp4;obtain rfl:R=none:=HR.out;exact ⟨rfl,q4,(HL3.out.step hto4).unto,rfl⟩
 | some u0 =>
 obtain ⟨rfl,hw4⟩:=hp4;have HL4:Hid (zu r q w w1 q4 w4):=HL3.out.step hto4;have HW4:Hid (zH w0 r q4 (t++u0) w4):=hw4;clear hto4 hw4;have b0:=zg ((HL4.out.block (w.heap.size) (Nat.le_refl _) (by omega)).trans HP1.out.1)
 obtain ⟨c0,c1,c2,c3,c4⟩:=zK ((HL4.out.block (w.heap.size+1) (by omega) (by omega)).trans HP1.out.2.1)
 have b2:=zg ((HL4.out.block (w.heap.size+2) (by omega) (by omega)).trans HP1.out.2.2)
 obtain rfl:R=some (u0):=HR.out;have HP:Hid (zr w0 r q t w (some (u0)) (.returned (.tuple #[])) w4):=⟨q4,HL4.out.unto,rfl,by have:=HW4.out;simpa only [List.append_assoc] using this⟩
 clear HL3 HW3 HL4 HW4 b0 b2 c0 c1 c2 c3 c4 HR HP1 HK0;go_wp2
 exact bodyPost_ret (v:=.tuple #[]) (by simp [results,Tryz.results42,go_sem]) rfl HP.out
theorem zhL (w0:World) (d:Nat) (D:Int) (hD:D-1=(d:Int)) (hD1:1≤D) (hD2:D≤24) (hX:Yx w0 d) (hT:ZV w0) (hl:ZS w0) (s:List UInt8) (n line:Int) (base:Option Addr) (m cap r:Nat) (q:Option Nat) (t:List UInt8) (w:World) (h:zH w0 r q t w) (hex:xR 5 s n m=true) (hs:s.length≤100000000) (kids:List Ez) (hm3:m=kids.length) (hc2:kids.length≤cap) (hm2:cap≤maxLen) (hrow2:∀i x,kids[i]?=some x→∃b o a1 a2 a3 a4 a5 a6 a7,base=some ⟨b,o,none⟩∧b<w0.heap.size∧b<w0.heap.size∧ZJ w0.heap.size w0 x (Ye a1 a2 a3 a4 a5 a6 a7)∧w0.cell? ⟨b,o+i*5,none⟩=some (.int .i64 a1)∧w0.cell? ⟨b,o+i*5+1,none⟩=some (.string (za a2))∧w0.cell? ⟨b,o+i*5+2,none⟩=some (.int .i64 a3)∧w0.cell? ⟨b,o+i*5+3,none⟩=some (.slice a4 a5 a6)∧w0.cell? ⟨b,o+i*5+4,none⟩=some (.int .i64 a7)) :
  Calls Tryz.prog 42 #[.pointer (some ⟨r,0,none⟩),Ye 5 s n base m cap line,.int .i64 D] w (zr w0 r q t w (zd (tokO 1 0 s) (zd (some [40]) (zd (rowO (kids.map (prE d)) kids.length) (some [41]))))):=by
 have hmf:∀(fn:Fn) (first cap:Array Value) (w:World),(Instr.makeFunc fn first cap).run Tryz.prog w=.ok (.func fn first cap) w:=fun _ _ _ _=>rfl
 obtain ⟨R,hR⟩:∃R,R=zd (tokO 1 0 s) (zd (some [40]) (zd (rowO (kids.map (prE d)) kids.length) (some [41]))):=⟨_,rfl⟩;rw [←hR];obtain ⟨w1,hw1⟩:∃w1,w1=exW w r 5 s n base m cap line D:=⟨_,rfl⟩;obtain ⟨hb1,hsz1,e0,e1,e2⟩:=Yy w r 5 s n base m cap line D;rw [←hw1] at hb1 hsz1 e0 e1 e2;have hW1:=h.below hb1;have HL1:Hid (zu r q w w1 q w1):=zu.start h hb1;have HP1:Hid (w1.heap[w.heap.size]?=some (.cells #[.pointer (some ⟨r,0,none⟩)] 85 (0,0))∧w1.heap[w.heap.size+1]?=some (Y3 5 s n base m cap line)∧w1.heap[w.heap.size+2]?=some (.cells #[.int .i64 D] 3 (0,0))):=⟨e0,e1,e2⟩;have HK0:Hid (∀(q:Option Nat) (t:List UInt8) (w:World),zH w0 r q t w→Calls Tryz.prog 82 #[.pointer (some ⟨r,0,none⟩),.string (za s)] w (zr w0 r q t w (tokO 1 0 s))):=fun q t w h=>Yb w0 r q t s w hT h hs
 have HK1:Hid (∀(q2:Option Nat) (t2:List UInt8) (W:World),zH w0 r q2 t2 W→zu r q w w1 q2 W→Calls Tryz.prog 83 #[.pointer (some ⟨r,0,none⟩),.slice base m cap,.func (.func 79) #[] #[.pointer (some ⟨w.heap.size,0,none⟩),.pointer (some ⟨w.heap.size+2,0,none⟩)]] W (zr w0 r q2 t2 W (rowO (kids.map (prE d)) kids.length))):=fun q2 t2 W h2 hL2=>by rw [hm3];exact VX w0 (prE d) kids base cap _ _ r q2 t2 W h2 hc2 hm2 hrow2 fun x v q1 t1 W1 _ hx h1 hto=>uX w0 d D hD hD1 hD2 hX x v _ _ r q1 t1 W1 hx h1 (zg (((hL2.step hto).block (w.heap.size) (Nat.le_refl _) (by omega)).trans HP1.out.1)) (zg (((hL2.step hto).block (w.heap.size+2) (by omega) (by omega)).trans HP1.out.2.2))
 have ci:=yw 5 s n base m cap line w1 (hl.env hW1.env);rw [hex] at ci;have HW1:Hid (zH w0 r q t w1):=hW1;have hw1':=hw1.symm;have b0:=zg e0;obtain ⟨c0,c1,c2,c3,c4⟩:=zK e1;have b2:=zg e2;have hD0:(0:Int)<D:=by omega
 generalize tokO 1 0 s=X0 at *;generalize rowO (kids.map (prE d)) kids.length=X1 at *;have HR:Hid (R=zd X0 (zd (some [40]) (zd X1 (some [41])))):=hR;clear hR hW1 e0 e1 e2 hw1 hb1 h hl hex hX hT hc2 hm2 hrow2 hm3
 go_enter Tryz.func42,Tryz.ntmps42
 go_wp2_with fail
 refine ci.mono ?_;clear ci b0 b2 c0 c1 c2 c3 c4;rintro e w2 ⟨rfl,hb2⟩;have HL2:Hid (zu r q w w1 q w2):=HL1.out.step (zX.below hb2);have HW2:Hid (zH w0 r q t w2):=HW1.out.below hb2;clear hb2;have ca:=Zi true w2;go_wp2_with fail
 refine ca.mono ?_;clear ca;rintro e w3 ⟨rfl,rfl⟩;simp only [xY];have b0:=zg ((HL2.out.block (w.heap.size) (Nat.le_refl _) (by omega)).trans HP1.out.1)
 obtain ⟨c0,c1,c2,c3,c4⟩:=zK ((HL2.out.block (w.heap.size+1) (by omega) (by omega)).trans HP1.out.2.1)
 have b2:=zg ((HL2.out.block (w.heap.size+2) (by omega) (by omega)).trans HP1.out.2.2)
 have HL3:Hid (zu r q w w1 q w3):=HL2.out;have HW3:Hid (zH w0 r q t w3):=HW2.out;clear HL1 HW1 HL2 HW2;have cp:=HK0.out q (t) w3 HW3.out;go_wp2_with fail
 refine cp.mono ?_;clear cp b0 b2 c0 c1 c2 c3 c4;rintro e w4 ⟨q4,hto4,hp4⟩;cases X0 with
 | none=>subst hp4;obtain rfl:R=none:=HR.out;exact ⟨rfl,q4,(HL3.out.step hto4).unto,rfl⟩
 | some u0 =>
 obtain ⟨rfl,hw4⟩:=hp4;have HL4:Hid (zu r q w w1 q4 w4):=HL3.out.step hto4;have HW4:Hid (zH w0 r q4 (t++u0) w4):=hw4;clear hto4 hw4;have b0:=zg ((HL4.out.block (w.heap.size) (Nat.le_refl _) (by omega)).trans HP1.out.1)
 obtain ⟨c0,c1,c2,c3,c4⟩:=zK ((HL4.out.block (w.heap.size+1) (by omega) (by omega)).trans HP1.out.2.1)
 have b2:=zg ((HL4.out.block (w.heap.size+2) (by omega) (by omega)).trans HP1.out.2.2)
 have cp:=zE w0 r q4 (t++u0) [40] w4 HW4.out (by simp)
 go_wp2_with fail
 refine cp.mono ?_;clear cp b0 b2 c0 c1 c2 c3 c4;rintro e w5 ⟨q5,hto5,rfl,hw5⟩;have HL5:Hid (zu r q w w1 q5 w5):=HL4.out.step hto5;have HW5:Hid (zH w0 r q5 (t++u0++[40]) w5):=hw5;clear hto5 hw5;have b0:=zg ((HL5.out.block (w.heap.size) (Nat.le_refl _) (by omega)).trans HP1.out.1)
 obtain ⟨c0,c1,c2,c3,c4⟩:=zK ((HL5.out.block (w.heap.size+1) (by omega) (by omega)).trans HP1.out.2.1)
 have b2:=zg ((HL5.out.block (w.heap.size+2) (by omega) (by omega)).trans HP1.out.2.2)
 have cp:=HK1.out q5 (t++u0++[40]) w5 HW5.out HL5.out;go_wp2_with fail
 refine cp.mono ?_;clear cp b0 b2 c0 c1 c2 c3 c4;rintro e w6 ⟨q6,hto6,hp6⟩;cases X1 with
 | none=>subst hp6;obtain rfl:R=none:=HR.out;exact ⟨rfl,q6,(HL5.out.step hto6).unto,rfl⟩
 | some u1 =>
 obtain ⟨rfl,hw6⟩:=hp6;have HL6:Hid (zu r q w w1 q6 w6):=HL5.out.step hto6;have HW6:Hid (zH w0 r q6 (t++u0++[40]++u1) w6):=hw6;clear hto6 hw6;have b0:=zg ((HL6.out.block (w.heap.size) (Nat.le_refl _) (by omega)).trans HP1.out.1)
 obtain ⟨c0,c1,c2,c3,c4⟩:=zK ((HL6.out.block (w.heap.size+1) (by omega) (by omega)).trans HP1.out.2.1)
 have b2:=zg ((HL6.out.block (w.heap.size+2) (by omega) (by omega)).trans HP1.out.2.2)
 have cp:=zE w0 r q6 (t++u0++[40]++u1) [41] w6 HW6.out (by simp)
 go_wp2_with fail
 refine cp.mono ?_;clear cp b0 b2 c0 c1 c2 c3 c4;rintro e w7 ⟨q7,hto7,rfl,hw7⟩;have HL7:Hid (zu r q w w1 q7 w7):=HL6.out.step hto7;have HW7:Hid (zH w0 r q7 (t++u0++[40]++u1++[41]) w7):=hw7;clear hto7 hw7;have b0:=zg ((HL7.out.block (w.heap.size) (Nat.le_refl _) (by omega)).trans HP1.out.1)
 obtain ⟨c0,c1,c2,c3,c4⟩:=zK ((HL7.out.block (w.heap.size+1) (by omega) (by omega)).trans HP1.out.2.1)
 have b2:=zg ((HL7.out.block (w.heap.size+2) (by omega) (by omega)).trans HP1.out.2.2)
 obtain rfl:R=some (u0++([40]++(u1++([41])))):=HR.out;have HP:Hid (zr w0 r q t w (some (u0++([40]++(u1++([41]))))) (.returned (.tuple #[])) w7):=⟨q7,HL7.out.unto,rfl,by have:=HW7.out;simpa only [List.append_assoc] using this⟩
 clear HL3 HW3 HL4 HW4 HL5 HW5 HL6 HW6 HL7 HW7 b0 b2 c0 c1 c2 c3 c4 HR HP1 HK0 HK1;go_wp2
 exact bodyPost_ret (v:=.tuple #[]) (by simp [results,Tryz.results42,go_sem]) rfl HP.out
theorem zgL (w0:World) (d:Nat) (D:Int) (hD:D-1=(d:Int)) (hD1:1≤D) (hD2:D≤24) (hX:Yx w0 d) (hT:ZV w0) (hl:ZS w0) (s:List UInt8) (n line:Int) (base:Option Addr) (m cap r:Nat) (q:Option Nat) (t:List UInt8) (w:World) (h:zH w0 r q t w) (hex:xR 11 s n m=true) (hs:s.length≤100000000) (kids:List Ez) (hm3:m=kids.length) (hc2:kids.length≤cap) (hm2:cap≤maxLen) (hrow2:∀i x,kids[i]?=some x→∃b o a1 a2 a3 a4 a5 a6 a7,base=some ⟨b,o,none⟩∧b<w0.heap.size∧b<w0.heap.size∧ZJ w0.heap.size w0 x (Ye a1 a2 a3 a4 a5 a6 a7)∧w0.cell? ⟨b,o+i*5,none⟩=some (.int .i64 a1)∧w0.cell? ⟨b,o+i*5+1,none⟩=some (.string (za a2))∧w0.cell? ⟨b,o+i*5+2,none⟩=some (.int .i64 a3)∧w0.cell? ⟨b,o+i*5+3,none⟩=some (.slice a4 a5 a6)∧w0.cell? ⟨b,o+i*5+4,none⟩=some (.int .i64 a7)) :
  Calls Tryz.prog 42 #[.pointer (some ⟨r,0,none⟩),Ye 11 s n base m cap line,.int .i64 D] w (zr w0 r q t w (zd (some [110,101,119,32]) (zd (tokO 1 0 s) (zd (some [40]) (zd (rowO (kids.map (prE d)) kids.length) (some [41])))))):=by
 have hmf:∀(fn:Fn) (first cap:Array Value) (w:World),(Instr.makeFunc fn first cap).run Tryz.prog w=.ok (.func fn first cap) w:=fun _ _ _ _=>rfl
 obtain ⟨R,hR⟩:∃R,R=zd (some [110,101,119,32]) (zd (tokO 1 0 s) (zd (some [40]) (zd (rowO (kids.map (prE d)) kids.length) (some [41])))):=⟨_,rfl⟩;rw [←hR];obtain ⟨w1,hw1⟩:∃w1,w1=exW w r 11 s n base m cap line D:=⟨_,rfl⟩;obtain ⟨hb1,hsz1,e0,e1,e2⟩:=Yy w r 11 s n base m cap line D;rw [←hw1] at hb1 hsz1 e0 e1 e2;have hW1:=h.below hb1;have HL1:Hid (zu r q w w1 q w1):=zu.start h hb1;have HP1:Hid (w1.heap[w.heap.size]?=some (.cells #[.pointer (some ⟨r,0,none⟩)] 85 (0,0))∧w1.heap[w.heap.size+1]?=some (Y3 11 s n base m cap line)∧w1.heap[w.heap.size+2]?=some (.cells #[.int .i64 D] 3 (0,0))):=⟨e0,e1,e2⟩;have HK0:Hid (∀(q:Option Nat) (t:List UInt8) (w:World),zH w0 r q t w→Calls Tryz.prog 82 #[.pointer (some ⟨r,0,none⟩),.string (za s)] w (zr w0 r q t w (tokO 1 0 s))):=fun q t w h=>Yb w0 r q t s w hT h hs
 have HK1:Hid (∀(q2:Option Nat) (t2:List UInt8) (W:World),zH w0 r q2 t2 W→zu r q w w1 q2 W→Calls Tryz.prog 83 #[.pointer (some ⟨r,0,none⟩),.slice base m cap,.func (.func 79) #[] #[.pointer (some ⟨w.heap.size,0,none⟩),.pointer (some ⟨w.heap.size+2,0,none⟩)]] W (zr w0 r q2 t2 W (rowO (kids.map (prE d)) kids.length))):=fun q2 t2 W h2 hL2=>by rw [hm3];exact VX w0 (prE d) kids base cap _ _ r q2 t2 W h2 hc2 hm2 hrow2 fun x v q1 t1 W1 _ hx h1 hto=>uX w0 d D hD hD1 hD2 hX x v _ _ r q1 t1 W1 hx h1 (zg (((hL2.step hto).block (w.heap.size) (Nat.le_refl _) (by omega)).trans HP1.out.1)) (zg (((hL2.step hto).block (w.heap.size+2) (by omega) (by omega)).trans HP1.out.2.2))
 have ci:=yw 11 s n base m cap line w1 (hl.env hW1.env);rw [hex] at ci;have HW1:Hid (zH w0 r q t w1):=hW1;have hw1':=hw1.symm;have b0:=zg e0;obtain ⟨c0,c1,c2,c3,c4⟩:=zK e1;have b2:=zg e2;have hD0:(0:Int)<D:=by omega
 generalize tokO 1 0 s=X0 at *;generalize rowO (kids.map (prE d)) kids.length=X1 at *;have HR:Hid (R=zd (some [110,101,119,32]) (zd X0 (zd (some [40]) (zd X1 (some [41]))))):=hR;clear hR hW1 e0 e1 e2 hw1 hb1 h hl hex hX hT hc2 hm2 hrow2 hm3
 go_enter Tryz.func42,Tryz.ntmps42
 go_wp2_with fail
 refine ci.mono ?_;clear ci b0 b2 c0 c1 c2 c3 c4;rintro e w2 ⟨rfl,hb2⟩;have HL2:Hid (zu r q w w1 q w2):=HL1.out.step (zX.below hb2);have HW2:Hid (zH w0 r q t w2):=HW1.out.below hb2;clear hb2;have ca:=Zi true w2;go_wp2_with fail
 refine ca.mono ?_;clear ca;rintro e w3 ⟨rfl,rfl⟩;simp only [xY];have b0:=zg ((HL2.out.block (w.heap.size) (Nat.le_refl _) (by omega)).trans HP1.out.1)
 obtain ⟨c0,c1,c2,c3,c4⟩:=zK ((HL2.out.block (w.heap.size+1) (by omega) (by omega)).trans HP1.out.2.1)
 have b2:=zg ((HL2.out.block (w.heap.size+2) (by omega) (by omega)).trans HP1.out.2.2)
 have HL3:Hid (zu r q w w1 q w3):=HL2.out;have HW3:Hid (zH w0 r q t w3):=HW2.out;clear HL1 HW1 HL2 HW2;have cp:=zE w0 r q (t) [110,101,119,32] w3 HW3.out (by simp)
 go_wp2_with fail
 refine cp.mono ?_;clear cp b0 b2 c0 c1 c2 c3 c4;rintro e w4 ⟨q4,hto4,rfl,hw4⟩;have HL4:Hid (zu r q w w1 q4 w4):=HL3.out.step hto4;have HW4:Hid (zH w0 r q4 (t++[110,101,119,32]) w4):=hw4;clear hto4 hw4;have b0:=zg ((HL4.out.block (w.heap.size) (Nat.le_refl _) (by omega)).trans HP1.out.1)
 obtain ⟨c0,c1,c2,c3,c4⟩:=zK ((HL4.out.block (w.heap.size+1) (by omega) (by omega)).trans HP1.out.2.1)
 have b2:=zg ((HL4.out.block (w.heap.size+2) (by omega) (by omega)).trans HP1.out.2.2)
 have cp:=HK0.out q4 (t++[110,101,119,32]) w4 HW4.out;go_wp2_with fail
 refine cp.mono ?_;clear cp b0 b2 c0 c1 c2 c3 c4;rintro e w5 ⟨q5,hto5,hp5⟩;cases X0 with
 | none=>subst hp5;obtain rfl:R=none:=HR.out;exact ⟨rfl,q5,(HL4.out.step hto5).unto,rfl⟩
 | some u0 =>
 obtain ⟨rfl,hw5⟩:=hp5;have HL5:Hid (zu r q w w1 q5 w5):=HL4.out.step hto5;have HW5:Hid (zH w0 r q5 (t++[110,101,119,32]++u0) w5):=hw5;clear hto5 hw5;have b0:=zg ((HL5.out.block (w.heap.size) (Nat.le_refl _) (by omega)).trans HP1.out.1)
 obtain ⟨c0,c1,c2,c3,c4⟩:=zK ((HL5.out.block (w.heap.size+1) (by omega) (by omega)).trans HP1.out.2.1)
 have b2:=zg ((HL5.out.block (w.heap.size+2) (by omega) (by omega)).trans HP1.out.2.2)
 have cp:=zE w0 r q5 (t++[110,101,119,32]++u0) [40] w5 HW5.out (by simp)
 go_wp2_with fail
 refine cp.mono ?_;clear cp b0 b2 c0 c1 c2 c3 c4;rintro e w6 ⟨q6,hto6,rfl,hw6⟩;have HL6:Hid (zu r q w w1 q6 w6):=HL5.out.step hto6;have HW6:Hid (zH w0 r q6 (t++[110,101,119,32]++u0++[40]) w6):=hw6;clear hto6 hw6;have b0:=zg ((HL6.out.block (w.heap.size) (Nat.le_refl _) (by omega)).trans HP1.out.1)
 obtain ⟨c0,c1,c2,c3,c4⟩:=zK ((HL6.out.block (w.heap.size+1) (by omega) (by omega)).trans HP1.out.2.1)
 have b2:=zg ((HL6.out.block (w.heap.size+2) (by omega) (by omega)).trans HP1.out.2.2)
 have cp:=HK1.out q6 (t++[110,101,119,32]++u0++[40]) w6 HW6.out HL6.out;go_wp2_with fail
 refine cp.mono ?_;clear cp b0 b2 c0 c1 c2 c3 c4;rintro e w7 ⟨q7,hto7,hp7⟩;cases X1 with
 | none=>subst hp7;obtain rfl:R=none:=HR.out;exact ⟨rfl,q7,(HL6.out.step hto7).unto,rfl⟩
 | some u1 =>
 obtain ⟨rfl,hw7⟩:=hp7;have HL7:Hid (zu r q w w1 q7 w7):=HL6.out.step hto7;have HW7:Hid (zH w0 r q7 (t++[110,101,119,32]++u0++[40]++u1) w7):=hw7;clear hto7 hw7;have b0:=zg ((HL7.out.block (w.heap.size) (Nat.le_refl _) (by omega)).trans HP1.out.1)
 obtain ⟨c0,c1,c2,c3,c4⟩:=zK ((HL7.out.block (w.heap.size+1) (by omega) (by omega)).trans HP1.out.2.1)
 have b2:=zg ((HL7.out.block (w.heap.size+2) (by omega) (by omega)).trans HP1.out.2.2)
 have cp:=zE w0 r q7 (t++[110,101,119,32]++u0++[40]++u1) [41] w7 HW7.out (by simp)
 go_wp2_with fail
 refine cp.mono ?_;clear cp b0 b2 c0 c1 c2 c3 c4;rintro e w8 ⟨q8,hto8,rfl,hw8⟩;have HL8:Hid (zu r q w w1 q8 w8):=HL7.out.step hto8;have HW8:Hid (zH w0 r q8 (t++[110,101,119,32]++u0++[40]++u1++[41]) w8):=hw8;clear hto8 hw8;have b0:=zg ((HL8.out.block (w.heap.size) (Nat.le_refl _) (by omega)).trans HP1.out.1)
 obtain ⟨c0,c1,c2,c3,c4⟩:=zK ((HL8.out.block (w.heap.size+1) (by omega) (by omega)).trans HP1.out.2.1)
 have b2:=zg ((HL8.out.block (w.heap.size+2) (by omega) (by omega)).trans HP1.out.2.2)
 obtain rfl:R=some ([110,101,119,32]++(u0++([40]++(u1++([41]))))):=HR.out;have HP:Hid (zr w0 r q t w (some ([110,101,119,32]++(u0++([40]++(u1++([41])))))) (.returned (.tuple #[])) w8):=⟨q8,HL8.out.unto,rfl,by have:=HW8.out;simpa only [List.append_assoc] using this⟩
 clear HL3 HW3 HL4 HW4 HL5 HW5 HL6 HW6 HL7 HW7 HL8 HW8 b0 b2 c0 c1 c2 c3 c4 HR HP1 HK0 HK1;go_wp2
 exact bodyPost_ret (v:=.tuple #[]) (by simp [results,Tryz.results42,go_sem]) rfl HP.out
theorem zgM (w0:World) (d:Nat) (D:Int) (hD:D-1=(d:Int)) (hD1:1≤D) (hD2:D≤24) (hX:Yx w0 d) (hl:ZS w0) (s:List UInt8) (n line:Int) (base:Option Addr) (m cap r:Nat) (q:Option Nat) (t:List UInt8) (w:World) (h:zH w0 r q t w) (hex:xR 10 s n m=true) (kids:List Ez) (hm3:m=kids.length) (hc2:kids.length≤cap) (hm2:cap≤maxLen) (hrow2:∀i x,kids[i]?=some x→∃b o a1 a2 a3 a4 a5 a6 a7,base=some ⟨b,o,none⟩∧b<w0.heap.size∧b<w0.heap.size∧ZJ w0.heap.size w0 x (Ye a1 a2 a3 a4 a5 a6 a7)∧w0.cell? ⟨b,o+i*5,none⟩=some (.int .i64 a1)∧w0.cell? ⟨b,o+i*5+1,none⟩=some (.string (za a2))∧w0.cell? ⟨b,o+i*5+2,none⟩=some (.int .i64 a3)∧w0.cell? ⟨b,o+i*5+3,none⟩=some (.slice a4 a5 a6)∧w0.cell? ⟨b,o+i*5+4,none⟩=some (.int .i64 a7)) :
  Calls Tryz.prog 42 #[.pointer (some ⟨r,0,none⟩),Ye 10 s n base m cap line,.int .i64 D] w (zr w0 r q t w (zd (some [91]) (zd (rowO (kids.map (prE d)) kids.length) (some [93])))):=by
 have hmf:∀(fn:Fn) (first cap:Array Value) (w:World),(Instr.makeFunc fn first cap).run Tryz.prog w=.ok (.func fn first cap) w:=fun _ _ _ _=>rfl
 obtain ⟨R,hR⟩:∃R,R=zd (some [91]) (zd (rowO (kids.map (prE d)) kids.length) (some [93])):=⟨_,rfl⟩;rw [←hR];obtain ⟨w1,hw1⟩:∃w1,w1=exW w r 10 s n base m cap line D:=⟨_,rfl⟩;obtain ⟨hb1,hsz1,e0,e1,e2⟩:=Yy w r 10 s n base m cap line D;rw [←hw1] at hb1 hsz1 e0 e1 e2;have hW1:=h.below hb1;have HL1:Hid (zu r q w w1 q w1):=zu.start h hb1;have HP1:Hid (w1.heap[w.heap.size]?=some (.cells #[.pointer (some ⟨r,0,none⟩)] 85 (0,0))∧w1.heap[w.heap.size+1]?=some (Y3 10 s n base m cap line)∧w1.heap[w.heap.size+2]?=some (.cells #[.int .i64 D] 3 (0,0))):=⟨e0,e1,e2⟩;have HK0:Hid (∀(q2:Option Nat) (t2:List UInt8) (W:World),zH w0 r q2 t2 W→zu r q w w1 q2 W→Calls Tryz.prog 83 #[.pointer (some ⟨r,0,none⟩),.slice base m cap,.func (.func 79) #[] #[.pointer (some ⟨w.heap.size,0,none⟩),.pointer (some ⟨w.heap.size+2,0,none⟩)]] W (zr w0 r q2 t2 W (rowO (kids.map (prE d)) kids.length))):=fun q2 t2 W h2 hL2=>by rw [hm3];exact VX w0 (prE d) kids base cap _ _ r q2 t2 W h2 hc2 hm2 hrow2 fun x v q1 t1 W1 _ hx h1 hto=>uX w0 d D hD hD1 hD2 hX x v _ _ r q1 t1 W1 hx h1 (zg (((hL2.step hto).block (w.heap.size) (Nat.le_refl _) (by omega)).trans HP1.out.1)) (zg (((hL2.step hto).block (w.heap.size+2) (by omega) (by omega)).trans HP1.out.2.2))
 have ci:=yw 10 s n base m cap line w1 (hl.env hW1.env);rw [hex] at ci;have HW1:Hid (zH w0 r q t w1):=hW1;have hw1':=hw1.symm;have b0:=zg e0;obtain ⟨c0,c1,c2,c3,c4⟩:=zK e1;have b2:=zg e2;have hD0:(0:Int)<D:=by omega
 generalize rowO (kids.map (prE d)) kids.length=X0 at *;have HR:Hid (R=zd (some [91]) (zd X0 (some [93]))):=hR;clear hR hW1 e0 e1 e2 hw1 hb1 h hl hex hX hc2 hm2 hrow2 hm3
 go_enter Tryz.func42,Tryz.ntmps42
 go_wp2_with fail
 refine ci.mono ?_;clear ci b0 b2 c0 c1 c2 c3 c4;rintro e w2 ⟨rfl,hb2⟩;have HL2:Hid (zu r q w w1 q w2):=HL1.out.step (zX.below hb2);have HW2:Hid (zH w0 r q t w2):=HW1.out.below hb2;clear hb2;have ca:=Zi true w2;go_wp2_with fail
 refine ca.mono ?_;clear ca;rintro e w3 ⟨rfl,rfl⟩;simp only [xY];have b0:=zg ((HL2.out.block (w.heap.size) (Nat.le_refl _) (by omega)).trans HP1.out.1)
 obtain ⟨c0,c1,c2,c3,c4⟩:=zK ((HL2.out.block (w.heap.size+1) (by omega) (by omega)).trans HP1.out.2.1)
 have b2:=zg ((HL2.out.block (w.heap.size+2) (by omega) (by omega)).trans HP1.out.2.2)
 have HL3:Hid (zu r q w w1 q w3):=HL2.out;have HW3:Hid (zH w0 r q t w3):=HW2.out;clear HL1 HW1 HL2 HW2;have cp:=zE w0 r q (t) [91] w3 HW3.out (by simp)
 go_wp2_with fail
 refine cp.mono ?_;clear cp b0 b2 c0 c1 c2 c3 c4;rintro e w4 ⟨q4,hto4,rfl,hw4⟩;have HL4:Hid (zu r q w w1 q4 w4):=HL3.out.step hto4;have HW4:Hid (zH w0 r q4 (t++[91]) w4):=hw4;clear hto4 hw4;have b0:=zg ((HL4.out.block (w.heap.size) (Nat.le_refl _) (by omega)).trans HP1.out.1)
 obtain ⟨c0,c1,c2,c3,c4⟩:=zK ((HL4.out.block (w.heap.size+1) (by omega) (by omega)).trans HP1.out.2.1)
 have b2:=zg ((HL4.out.block (w.heap.size+2) (by omega) (by omega)).trans HP1.out.2.2)
 have cp:=HK0.out q4 (t++[91]) w4 HW4.out HL4.out;go_wp2_with fail
 refine cp.mono ?_;clear cp b0 b2 c0 c1 c2 c3 c4;rintro e w5 ⟨q5,hto5,hp5⟩;cases X0 with
 | none=>subst hp5;obtain rfl:R=none:=HR.out;exact ⟨rfl,q5,(HL4.out.step hto5).unto,rfl⟩
 | some u0 =>
 obtain ⟨rfl,hw5⟩:=hp5;have HL5:Hid (zu r q w w1 q5 w5):=HL4.out.step hto5;have HW5:Hid (zH w0 r q5 (t++[91]++u0) w5):=hw5;clear hto5 hw5;have b0:=zg ((HL5.out.block (w.heap.size) (Nat.le_refl _) (by omega)).trans HP1.out.1)
 obtain ⟨c0,c1,c2,c3,c4⟩:=zK ((HL5.out.block (w.heap.size+1) (by omega) (by omega)).trans HP1.out.2.1)
 have b2:=zg ((HL5.out.block (w.heap.size+2) (by omega) (by omega)).trans HP1.out.2.2)
 have cp:=zE w0 r q5 (t++[91]++u0) [93] w5 HW5.out (by simp)
 go_wp2_with fail
 refine cp.mono ?_;clear cp b0 b2 c0 c1 c2 c3 c4;rintro e w6 ⟨q6,hto6,rfl,hw6⟩;have HL6:Hid (zu r q w w1 q6 w6):=HL5.out.step hto6;have HW6:Hid (zH w0 r q6 (t++[91]++u0++[93]) w6):=hw6;clear hto6 hw6;have b0:=zg ((HL6.out.block (w.heap.size) (Nat.le_refl _) (by omega)).trans HP1.out.1)
 obtain ⟨c0,c1,c2,c3,c4⟩:=zK ((HL6.out.block (w.heap.size+1) (by omega) (by omega)).trans HP1.out.2.1)
 have b2:=zg ((HL6.out.block (w.heap.size+2) (by omega) (by omega)).trans HP1.out.2.2)
 obtain rfl:R=some ([91]++(u0++([93]))):=HR.out;have HP:Hid (zr w0 r q t w (some ([91]++(u0++([93])))) (.returned (.tuple #[])) w6):=⟨q6,HL6.out.unto,rfl,by have:=HW6.out;simpa only [List.append_assoc] using this⟩
 clear HL3 HW3 HL4 HW4 HL5 HW5 HL6 HW6 b0 b2 c0 c1 c2 c3 c4 HR HP1 HK0;go_wp2
 exact bodyPost_ret (v:=.tuple #[]) (by simp [results,Tryz.results42,go_sem]) rfl HP.out
theorem zhM (w0:World) (D:Int) (hD1:1≤D) (hD2:D≤24) (hl:ZS w0) (s:List UInt8) (n line:Int) (base:Option Addr) (m cap r:Nat) (q:Option Nat) (t:List UInt8) (w:World) (h:zH w0 r q t w) (hex:xR 6 s n m=true) (X:Option (List UInt8)) (hS:Hid (∀(q:Option Nat) (t:List UInt8) (w:World),zH w0 r q t w→Calls Tryz.prog 84 #[.pointer (some ⟨r,0,none⟩),Ye 6 s n base m cap line,.int .i64 D] w (zr w0 r q t w X))) :
  Calls Tryz.prog 42 #[.pointer (some ⟨r,0,none⟩),Ye 6 s n base m cap line,.int .i64 D] w (zr w0 r q t w (X)):=by
 have hmf:∀(fn:Fn) (first cap:Array Value) (w:World),(Instr.makeFunc fn first cap).run Tryz.prog w=.ok (.func fn first cap) w:=fun _ _ _ _=>rfl
 obtain ⟨R,hR⟩:∃R,R=X:=⟨_,rfl⟩;rw [←hR];obtain ⟨w1,hw1⟩:∃w1,w1=exW w r 6 s n base m cap line D:=⟨_,rfl⟩;obtain ⟨hb1,hsz1,e0,e1,e2⟩:=Yy w r 6 s n base m cap line D;rw [←hw1] at hb1 hsz1 e0 e1 e2;have hW1:=h.below hb1;have HL1:Hid (zu r q w w1 q w1):=zu.start h hb1;have HP1:Hid (w1.heap[w.heap.size]?=some (.cells #[.pointer (some ⟨r,0,none⟩)] 85 (0,0))∧w1.heap[w.heap.size+1]?=some (Y3 6 s n base m cap line)∧w1.heap[w.heap.size+2]?=some (.cells #[.int .i64 D] 3 (0,0))):=⟨e0,e1,e2⟩;have HK0:=hS;have ci:=yw 6 s n base m cap line w1 (hl.env hW1.env);rw [hex] at ci;have HW1:Hid (zH w0 r q t w1):=hW1;have hw1':=hw1.symm;have b0:=zg e0;obtain ⟨c0,c1,c2,c3,c4⟩:=zK e1;have b2:=zg e2;have hD0:(0:Int)<D:=by omega
 clear hS;generalize X=X0 at *;have HR:Hid (R=X0):=hR;clear hR hW1 e0 e1 e2 hw1 hb1 h hl hex
 go_enter Tryz.func42,Tryz.ntmps42
 go_wp2_with fail
 refine ci.mono ?_;clear ci b0 b2 c0 c1 c2 c3 c4;rintro e w2 ⟨rfl,hb2⟩;have HL2:Hid (zu r q w w1 q w2):=HL1.out.step (zX.below hb2);have HW2:Hid (zH w0 r q t w2):=HW1.out.below hb2;clear hb2;have ca:=Zi true w2;go_wp2_with fail
 refine ca.mono ?_;clear ca;rintro e w3 ⟨rfl,rfl⟩;simp only [xY];have b0:=zg ((HL2.out.block (w.heap.size) (Nat.le_refl _) (by omega)).trans HP1.out.1)
 obtain ⟨c0,c1,c2,c3,c4⟩:=zK ((HL2.out.block (w.heap.size+1) (by omega) (by omega)).trans HP1.out.2.1)
 have b2:=zg ((HL2.out.block (w.heap.size+2) (by omega) (by omega)).trans HP1.out.2.2)
 have HL3:Hid (zu r q w w1 q w3):=HL2.out;have HW3:Hid (zH w0 r q t w3):=HW2.out;clear HL1 HW1 HL2 HW2;have cp:=HK0.out q (t) w3 HW3.out;go_wp2_with fail
 refine cp.mono ?_;clear cp b0 b2 c0 c1 c2 c3 c4;rintro e w4 ⟨q4,hto4,hp4⟩;cases X0 with
 | none=>subst hp4;obtain rfl:R=none:=HR.out;exact ⟨rfl,q4,(HL3.out.step hto4).unto,rfl⟩
 | some u0 =>
 obtain ⟨rfl,hw4⟩:=hp4;have HL4:Hid (zu r q w w1 q4 w4):=HL3.out.step hto4;have HW4:Hid (zH w0 r q4 (t++u0) w4):=hw4;clear hto4 hw4;have b0:=zg ((HL4.out.block (w.heap.size) (Nat.le_refl _) (by omega)).trans HP1.out.1)
 obtain ⟨c0,c1,c2,c3,c4⟩:=zK ((HL4.out.block (w.heap.size+1) (by omega) (by omega)).trans HP1.out.2.1)
 have b2:=zg ((HL4.out.block (w.heap.size+2) (by omega) (by omega)).trans HP1.out.2.2)
 obtain rfl:R=some (u0):=HR.out;have HP:Hid (zr w0 r q t w (some (u0)) (.returned (.tuple #[])) w4):=⟨q4,HL4.out.unto,rfl,by have:=HW4.out;simpa only [List.append_assoc] using this⟩
 clear HL3 HW3 HL4 HW4 b0 b2 c0 c1 c2 c3 c4 HR HP1 HK0;go_wp2
 exact bodyPost_ret (v:=.tuple #[]) (by simp [results,Tryz.results42,go_sem]) rfl HP.out
theorem zhN (w0:World) (D:Int) (hD1:1≤D) (hD2:D≤24) (hl:ZS w0) (s:List UInt8) (n line:Int) (base:Option Addr) (m cap r:Nat) (q:Option Nat) (t:List UInt8) (w:World) (h:zH w0 r q t w) (hex:xR 7 s n m=true) (X:Option (List UInt8)) (hS:Hid (∀(q:Option Nat) (t:List UInt8) (w:World),zH w0 r q t w→Calls Tryz.prog 84 #[.pointer (some ⟨r,0,none⟩),Ye 7 s n base m cap line,.int .i64 D] w (zr w0 r q t w X))) :
  Calls Tryz.prog 42 #[.pointer (some ⟨r,0,none⟩),Ye 7 s n base m cap line,.int .i64 D] w (zr w0 r q t w (X)):=by
 have hmf:∀(fn:Fn) (first cap:Array Value) (w:World),(Instr.makeFunc fn first cap).run Tryz.prog w=.ok (.func fn first cap) w:=fun _ _ _ _=>rfl
 obtain ⟨R,hR⟩:∃R,R=X:=⟨_,rfl⟩;rw [←hR];obtain ⟨w1,hw1⟩:∃w1,w1=exW w r 7 s n base m cap line D:=⟨_,rfl⟩;obtain ⟨hb1,hsz1,e0,e1,e2⟩:=Yy w r 7 s n base m cap line D;rw [←hw1] at hb1 hsz1 e0 e1 e2;have hW1:=h.below hb1;have HL1:Hid (zu r q w w1 q w1):=zu.start h hb1;have HP1:Hid (w1.heap[w.heap.size]?=some (.cells #[.pointer (some ⟨r,0,none⟩)] 85 (0,0))∧w1.heap[w.heap.size+1]?=some (Y3 7 s n base m cap line)∧w1.heap[w.heap.size+2]?=some (.cells #[.int .i64 D] 3 (0,0))):=⟨e0,e1,e2⟩;have HK0:=hS;have ci:=yw 7 s n base m cap line w1 (hl.env hW1.env);rw [hex] at ci;have HW1:Hid (zH w0 r q t w1):=hW1;have hw1':=hw1.symm;have b0:=zg e0;obtain ⟨c0,c1,c2,c3,c4⟩:=zK e1;have b2:=zg e2;have hD0:(0:Int)<D:=by omega
 clear hS;generalize X=X0 at *;have HR:Hid (R=X0):=hR;clear hR hW1 e0 e1 e2 hw1 hb1 h hl hex
 go_enter Tryz.func42,Tryz.ntmps42
 go_wp2_with fail
 refine ci.mono ?_;clear ci b0 b2 c0 c1 c2 c3 c4;rintro e w2 ⟨rfl,hb2⟩;have HL2:Hid (zu r q w w1 q w2):=HL1.out.step (zX.below hb2);have HW2:Hid (zH w0 r q t w2):=HW1.out.below hb2;clear hb2;have ca:=Zi true w2;go_wp2_with fail
 refine ca.mono ?_;clear ca;rintro e w3 ⟨rfl,rfl⟩;simp only [xY];have b0:=zg ((HL2.out.block (w.heap.size) (Nat.le_refl _) (by omega)).trans HP1.out.1)
 obtain ⟨c0,c1,c2,c3,c4⟩:=zK ((HL2.out.block (w.heap.size+1) (by omega) (by omega)).trans HP1.out.2.1)
 have b2:=zg ((HL2.out.block (w.heap.size+2) (by omega) (by omega)).trans HP1.out.2.2)
 have HL3:Hid (zu r q w w1 q w3):=HL2.out;have HW3:Hid (zH w0 r q t w3):=HW2.out;clear HL1 HW1 HL2 HW2;have cp:=HK0.out q (t) w3 HW3.out;go_wp2_with fail
 refine cp.mono ?_;clear cp b0 b2 c0 c1 c2 c3 c4;rintro e w4 ⟨q4,hto4,hp4⟩;cases X0 with
 | none=>subst hp4;obtain rfl:R=none:=HR.out;exact ⟨rfl,q4,(HL3.out.step hto4).unto,rfl⟩
 | some u0 =>
 obtain ⟨rfl,hw4⟩:=hp4;have HL4:Hid (zu r q w w1 q4 w4):=HL3.out.step hto4;have HW4:Hid (zH w0 r q4 (t++u0) w4):=hw4;clear hto4 hw4;have b0:=zg ((HL4.out.block (w.heap.size) (Nat.le_refl _) (by omega)).trans HP1.out.1)
 obtain ⟨c0,c1,c2,c3,c4⟩:=zK ((HL4.out.block (w.heap.size+1) (by omega) (by omega)).trans HP1.out.2.1)
 have b2:=zg ((HL4.out.block (w.heap.size+2) (by omega) (by omega)).trans HP1.out.2.2)
 obtain rfl:R=some (u0):=HR.out;have HP:Hid (zr w0 r q t w (some (u0)) (.returned (.tuple #[])) w4):=⟨q4,HL4.out.unto,rfl,by have:=HW4.out;simpa only [List.append_assoc] using this⟩
 clear HL3 HW3 HL4 HW4 b0 b2 c0 c1 c2 c3 c4 HR HP1 HK0;go_wp2
 exact bodyPost_ret (v:=.tuple #[]) (by simp [results,Tryz.results42,go_sem]) rfl HP.out
theorem zhO (w0:World) (D:Int) (hD1:1≤D) (hD2:D≤24) (hl:ZS w0) (s:List UInt8) (n line:Int) (base:Option Addr) (m cap r:Nat) (q:Option Nat) (t:List UInt8) (w:World) (h:zH w0 r q t w) (hex:xR 8 s n m=true) (X:Option (List UInt8)) (hS:Hid (∀(q:Option Nat) (t:List UInt8) (w:World),zH w0 r q t w→Calls Tryz.prog 84 #[.pointer (some ⟨r,0,none⟩),Ye 8 s n base m cap line,.int .i64 D] w (zr w0 r q t w X))) :
  Calls Tryz.prog 42 #[.pointer (some ⟨r,0,none⟩),Ye 8 s n base m cap line,.int .i64 D] w (zr w0 r q t w (X)):=by
 have hmf:∀(fn:Fn) (first cap:Array Value) (w:World),(Instr.makeFunc fn first cap).run Tryz.prog w=.ok (.func fn first cap) w:=fun _ _ _ _=>rfl
 obtain ⟨R,hR⟩:∃R,R=X:=⟨_,rfl⟩;rw [←hR];obtain ⟨w1,hw1⟩:∃w1,w1=exW w r 8 s n base m cap line D:=⟨_,rfl⟩;obtain ⟨hb1,hsz1,e0,e1,e2⟩:=Yy w r 8 s n base m cap line D;rw [←hw1] at hb1 hsz1 e0 e1 e2;have hW1:=h.below hb1;have HL1:Hid (zu r q w w1 q w1):=zu.start h hb1;have HP1:Hid (w1.heap[w.heap.size]?=some (.cells #[.pointer (some ⟨r,0,none⟩)] 85 (0,0))∧w1.heap[w.heap.size+1]?=some (Y3 8 s n base m cap line)∧w1.heap[w.heap.size+2]?=some (.cells #[.int .i64 D] 3 (0,0))):=⟨e0,e1,e2⟩;have HK0:=hS;have ci:=yw 8 s n base m cap line w1 (hl.env hW1.env);rw [hex] at ci;have HW1:Hid (zH w0 r q t w1):=hW1;have hw1':=hw1.symm;have b0:=zg e0;obtain ⟨c0,c1,c2,c3,c4⟩:=zK e1;have b2:=zg e2;have hD0:(0:Int)<D:=by omega
 clear hS;generalize X=X0 at *;have HR:Hid (R=X0):=hR;clear hR hW1 e0 e1 e2 hw1 hb1 h hl hex
 go_enter Tryz.func42,Tryz.ntmps42
 go_wp2_with fail
 refine ci.mono ?_;clear ci b0 b2 c0 c1 c2 c3 c4;rintro e w2 ⟨rfl,hb2⟩;have HL2:Hid (zu r q w w1 q w2):=HL1.out.step (zX.below hb2);have HW2:Hid (zH w0 r q t w2):=HW1.out.below hb2;clear hb2;have ca:=Zi true w2;go_wp2_with fail
 refine ca.mono ?_;clear ca;rintro e w3 ⟨rfl,rfl⟩;simp only [xY];have b0:=zg ((HL2.out.block (w.heap.size) (Nat.le_refl _) (by omega)).trans HP1.out.1)
 obtain ⟨c0,c1,c2,c3,c4⟩:=zK ((HL2.out.block (w.heap.size+1) (by omega) (by omega)).trans HP1.out.2.1)
 have b2:=zg ((HL2.out.block (w.heap.size+2) (by omega) (by omega)).trans HP1.out.2.2)
 have HL3:Hid (zu r q w w1 q w3):=HL2.out;have HW3:Hid (zH w0 r q t w3):=HW2.out;clear HL1 HW1 HL2 HW2;have cp:=HK0.out q (t) w3 HW3.out;go_wp2_with fail
 refine cp.mono ?_;clear cp b0 b2 c0 c1 c2 c3 c4;rintro e w4 ⟨q4,hto4,hp4⟩;cases X0 with
 | none=>subst hp4;obtain rfl:R=none:=HR.out;exact ⟨rfl,q4,(HL3.out.step hto4).unto,rfl⟩
 | some u0 =>
 obtain ⟨rfl,hw4⟩:=hp4;have HL4:Hid (zu r q w w1 q4 w4):=HL3.out.step hto4;have HW4:Hid (zH w0 r q4 (t++u0) w4):=hw4;clear hto4 hw4;have b0:=zg ((HL4.out.block (w.heap.size) (Nat.le_refl _) (by omega)).trans HP1.out.1)
 obtain ⟨c0,c1,c2,c3,c4⟩:=zK ((HL4.out.block (w.heap.size+1) (by omega) (by omega)).trans HP1.out.2.1)
 have b2:=zg ((HL4.out.block (w.heap.size+2) (by omega) (by omega)).trans HP1.out.2.2)
 obtain rfl:R=some (u0):=HR.out;have HP:Hid (zr w0 r q t w (some (u0)) (.returned (.tuple #[])) w4):=⟨q4,HL4.out.unto,rfl,by have:=HW4.out;simpa only [List.append_assoc] using this⟩
 clear HL3 HW3 HL4 HW4 b0 b2 c0 c1 c2 c3 c4 HR HP1 HK0;go_wp2
 exact bodyPost_ret (v:=.tuple #[]) (by simp [results,Tryz.results42,go_sem]) rfl HP.out
theorem zhP (w0:World) (D:Int) (hD1:1≤D) (hD2:D≤24) (hl:ZS w0) (s:List UInt8) (n line:Int) (base:Option Addr) (m cap r:Nat) (q:Option Nat) (t:List UInt8) (w:World) (h:zH w0 r q t w) (hex:xR 9 s n m=true) (X:Option (List UInt8)) (hS:Hid (∀(q:Option Nat) (t:List UInt8) (w:World),zH w0 r q t w→Calls Tryz.prog 84 #[.pointer (some ⟨r,0,none⟩),Ye 9 s n base m cap line,.int .i64 D] w (zr w0 r q t w X))) :
  Calls Tryz.prog 42 #[.pointer (some ⟨r,0,none⟩),Ye 9 s n base m cap line,.int .i64 D] w (zr w0 r q t w (X)):=by
 have hmf:∀(fn:Fn) (first cap:Array Value) (w:World),(Instr.makeFunc fn first cap).run Tryz.prog w=.ok (.func fn first cap) w:=fun _ _ _ _=>rfl
 obtain ⟨R,hR⟩:∃R,R=X:=⟨_,rfl⟩;rw [←hR];obtain ⟨w1,hw1⟩:∃w1,w1=exW w r 9 s n base m cap line D:=⟨_,rfl⟩;obtain ⟨hb1,hsz1,e0,e1,e2⟩:=Yy w r 9 s n base m cap line D;rw [←hw1] at hb1 hsz1 e0 e1 e2;have hW1:=h.below hb1;have HL1:Hid (zu r q w w1 q w1):=zu.start h hb1;have HP1:Hid (w1.heap[w.heap.size]?=some (.cells #[.pointer (some ⟨r,0,none⟩)] 85 (0,0))∧w1.heap[w.heap.size+1]?=some (Y3 9 s n base m cap line)∧w1.heap[w.heap.size+2]?=some (.cells #[.int .i64 D] 3 (0,0))):=⟨e0,e1,e2⟩;have HK0:=hS;have ci:=yw 9 s n base m cap line w1 (hl.env hW1.env);rw [hex] at ci;have HW1:Hid (zH w0 r q t w1):=hW1;have hw1':=hw1.symm;have b0:=zg e0;obtain ⟨c0,c1,c2,c3,c4⟩:=zK e1;have b2:=zg e2;have hD0:(0:Int)<D:=by omega
 clear hS;generalize X=X0 at *;have HR:Hid (R=X0):=hR;clear hR hW1 e0 e1 e2 hw1 hb1 h hl hex
 go_enter Tryz.func42,Tryz.ntmps42
 go_wp2_with fail
 refine ci.mono ?_;clear ci b0 b2 c0 c1 c2 c3 c4;rintro e w2 ⟨rfl,hb2⟩;have HL2:Hid (zu r q w w1 q w2):=HL1.out.step (zX.below hb2);have HW2:Hid (zH w0 r q t w2):=HW1.out.below hb2;clear hb2;have ca:=Zi true w2;go_wp2_with fail
 refine ca.mono ?_;clear ca;rintro e w3 ⟨rfl,rfl⟩;simp only [xY];have b0:=zg ((HL2.out.block (w.heap.size) (Nat.le_refl _) (by omega)).trans HP1.out.1)
 obtain ⟨c0,c1,c2,c3,c4⟩:=zK ((HL2.out.block (w.heap.size+1) (by omega) (by omega)).trans HP1.out.2.1)
 have b2:=zg ((HL2.out.block (w.heap.size+2) (by omega) (by omega)).trans HP1.out.2.2)
 have HL3:Hid (zu r q w w1 q w3):=HL2.out;have HW3:Hid (zH w0 r q t w3):=HW2.out;clear HL1 HW1 HL2 HW2;have cp:=HK0.out q (t) w3 HW3.out;go_wp2_with fail
 refine cp.mono ?_;clear cp b0 b2 c0 c1 c2 c3 c4;rintro e w4 ⟨q4,hto4,hp4⟩;cases X0 with
 | none=>subst hp4;obtain rfl:R=none:=HR.out;exact ⟨rfl,q4,(HL3.out.step hto4).unto,rfl⟩
 | some u0 =>
 obtain ⟨rfl,hw4⟩:=hp4;have HL4:Hid (zu r q w w1 q4 w4):=HL3.out.step hto4;have HW4:Hid (zH w0 r q4 (t++u0) w4):=hw4;clear hto4 hw4;have b0:=zg ((HL4.out.block (w.heap.size) (Nat.le_refl _) (by omega)).trans HP1.out.1)
 obtain ⟨c0,c1,c2,c3,c4⟩:=zK ((HL4.out.block (w.heap.size+1) (by omega) (by omega)).trans HP1.out.2.1)
 have b2:=zg ((HL4.out.block (w.heap.size+2) (by omega) (by omega)).trans HP1.out.2.2)
 obtain rfl:R=some (u0):=HR.out;have HP:Hid (zr w0 r q t w (some (u0)) (.returned (.tuple #[])) w4):=⟨q4,HL4.out.unto,rfl,by have:=HW4.out;simpa only [List.append_assoc] using this⟩
 clear HL3 HW3 HL4 HW4 b0 b2 c0 c1 c2 c3 c4 HR HP1 HK0;go_wp2
 exact bodyPost_ret (v:=.tuple #[]) (by simp [results,Tryz.results42,go_sem]) rfl HP.out
theorem zhQ (w0:World) (D:Int) (hD1:1≤D) (hD2:D≤24) (hl:ZS w0) (s:List UInt8) (n line:Int) (base:Option Addr) (m cap r:Nat) (q:Option Nat) (t:List UInt8) (w:World) (h:zH w0 r q t w) (k:Int) (hex:xR k s n m=false) :
  Calls Tryz.prog 42 #[.pointer (some ⟨r,0,none⟩),Ye k s n base m cap line,.int .i64 D] w (zr w0 r q t w none):=by
 have hmf:∀(fn:Fn) (first cap:Array Value) (w:World),(Instr.makeFunc fn first cap).run Tryz.prog w=.ok (.func fn first cap) w:=fun _ _ _ _=>rfl
 obtain ⟨R,hR⟩:∃R,R=(none:Option (List UInt8)):=⟨_,rfl⟩;rw [←hR];obtain ⟨w1,hw1⟩:∃w1,w1=exW w r k s n base m cap line D:=⟨_,rfl⟩;obtain ⟨hb1,hsz1,e0,e1,e2⟩:=Yy w r k s n base m cap line D;rw [←hw1] at hb1 hsz1 e0 e1 e2;have hW1:=h.below hb1;have HL1:Hid (zu r q w w1 q w1):=zu.start h hb1;have HP1:Hid (w1.heap[w.heap.size]?=some (.cells #[.pointer (some ⟨r,0,none⟩)] 85 (0,0))∧w1.heap[w.heap.size+1]?=some (Y3 k s n base m cap line)∧w1.heap[w.heap.size+2]?=some (.cells #[.int .i64 D] 3 (0,0))):=⟨e0,e1,e2⟩;have ci:=yw k s n base m cap line w1 (hl.env hW1.env);rw [hex] at ci;have HW1:Hid (zH w0 r q t w1):=hW1;have hw1':=hw1.symm;have b0:=zg e0;obtain ⟨c0,c1,c2,c3,c4⟩:=zK e1;have b2:=zg e2;have hD0:(0:Int)<D:=by omega
 have HR:Hid (R=none):=hR;clear hR hW1 e0 e1 e2 hw1 hb1 h hl hex
 go_enter Tryz.func42,Tryz.ntmps42
 go_wp2_with fail
 refine ci.mono ?_;clear ci b0 b2 c0 c1 c2 c3 c4;rintro e w2 ⟨rfl,hb2⟩;have HL2:Hid (zu r q w w1 q w2):=HL1.out.step (zX.below hb2);have HW2:Hid (zH w0 r q t w2):=HW1.out.below hb2;clear hb2;have ca:=Zi false w2;go_wp2_with fail
 refine ca.mono ?_;clear ca;rintro e w3 ⟨rfl,rfl⟩;obtain rfl:=HR.out;exact ⟨rfl,q,HL2.out.unto,rfl⟩
theorem zfD (w0:World) (k:Int) (s:List UInt8) (n line:Int) (base:Option Addr) (m cap r:Nat) (q:Option Nat) (t:List UInt8) (w:World) (h:zH w0 r q t w) :
  Calls Tryz.prog 42 #[.pointer (some ⟨r,0,none⟩),Ye k s n base m cap line,.int .i64 0] w (zr w0 r q t w none):=by
 obtain ⟨w1,hw1⟩:∃w1,w1=exW w r k s n base m cap line 0:=⟨_,rfl⟩;obtain ⟨hb1,hsz1,e0,e1,e2⟩:=Yy w r k s n base m cap line 0;rw [←hw1] at hb1 hsz1 e0 e1 e2;have HL1:Hid (zu r q w w1 q w1):=zu.start h hb1;have hw1':=hw1.symm;have b2:=zg e2;have ca:=Zi false w1;clear hb1 e0 e1 e2 hw1 h
 go_enter Tryz.func42,Tryz.ntmps42
 go_wp2_with fail
 refine ca.mono ?_;clear ca;rintro e w3 ⟨rfl,rfl⟩;exact ⟨rfl,q,HL1.out.unto,rfl⟩
end Go.Proofs.YtpejpbbdgblbeaaGreatDoor
