import Derived.Test.YtdgpapchkpnijaaGreatDoorMC11
namespace Go.Proofs.YtdgpapchkpnijaaGreatDoor
open Go.RowKit Go.Shelf
set_option maxHeartbeats 16000000
set_option maxRecDepth 100000
theorem Vt (w0:World) (d:Nat) (D:Int) (hD:D-1=(d:Int)) (_hD1:1≤D) (hD2:D≤24) (hX:yI w0 d) (x:Ez) (v:Value) (bw bd r:Nat) (q:Option Nat) (t:List UInt8) (w:World) (hx:Zs w0.heap.size w0 x v) (h:zx w0 r q t w) (hcw:w.cell? ⟨bw,0,none⟩=some (.pointer (some ⟨r,0,none⟩))) (hcd:w.cell? ⟨bd,0,none⟩=some (.int .i64 D)) :
  Calls Tryz.prog 89 #[v,.pointer (some ⟨bw,0,none⟩),.pointer (some ⟨bd,0,none⟩)] w (zm w0 r q t w (prE d x)):=by
 have hx0:=hx;obtain ⟨k,s,n,kids,line,base,cap,b,o,us,hs,hn0,hn1,hbase,hlen,hc,hm,hcell,hfive,hk⟩:=hx;obtain ⟨w1,hw1⟩:∃w1,w1=w.alloc (yV k s n base kids.length cap line):=⟨_,rfl⟩;have hb1:Below w.heap.size w w1:=by rw [hw1];exact (Below.refl _ w).alloc (Nat.le_refl _) _
 have p1:w1.heap[w.heap.size]?=some (yV k s n base kids.length cap line):=by rw [hw1];exact World.alloc_heap_new w _
 have cx:=hX _ _ r q t w1 hx0 (h.below hb1);have d1:w1.cell? ⟨bw,0,none⟩=some (.pointer (some ⟨r,0,none⟩)):=by rw [hw1];exact zj hcw _
 have d2:w1.cell? ⟨bd,0,none⟩=some (.int .i64 D):=by rw [hw1];exact zj hcd _
 have HT1:Hid (zN r q w q w1):=zN.below hb1;generalize prE d (.mk k s n kids line)=X at *;generalize kids.length=m at *;obtain ⟨c0,c1,c2,c3,c4⟩:=zE p1;have hw1':=hw1.symm;clear hw1 p1 hb1 h hx0 hX hbase hlen hc hcell hfive hk hcw hcd
 go_enter Tryz.func89,Tryz.ntmps89
 go_wp2_with fail
 refine cx.mono ?_;clear cx;rintro e w2 ⟨q2,hto2,hp⟩;cases X with
 | none=>subst hp;exact ⟨rfl,q2,HT1.out.trans hto2,rfl⟩
 | some u =>
  obtain ⟨rfl,hw2⟩:=hp;have HP:Hid (zm w0 r q t w (some u) (.returned (.tuple #[])) w2):=⟨q2,HT1.out.trans hto2,rfl,hw2⟩;clear hto2 hw2 HT1 c0 c1 c2 c3 c4 d1 d2;go_wp2
  exact bodyPost_ret (v:=.tuple #[]) (by simp [results,Tryz.results89,go_sem]) rfl HP.out
abbrev qo (w:World) (r:Nat) (k:Int) (s:List UInt8) (n:Int) (base:Option Addr) (m cap:Nat) (line D:Int):World:=((w.alloc (.cells #[.pointer (some ⟨r,0,none⟩)] 94)).alloc (yV k s n base m cap line)).alloc (.cells #[.int .i64 D] 3)
theorem yJ (w:World) (r:Nat) (k:Int) (s:List UInt8) (n:Int) (base:Option Addr) (m cap:Nat) (line D:Int) :
  Below w.heap.size w (qo w r k s n base m cap line D)∧(qo w r k s n base m cap line D).heap.size=w.heap.size+3∧(qo w r k s n base m cap line D).heap[w.heap.size]?=some (.cells #[.pointer (some ⟨r,0,none⟩)] 94 (0,0))∧(qo w r k s n base m cap line D).heap[w.heap.size+1]?=some (yV k s n base m cap line)∧(qo w r k s n base m cap line D).heap[w.heap.size+2]?=some (.cells #[.int .i64 D] 3 (0,0)):=by
 refine ⟨(((Below.refl _ w).alloc (Nat.le_refl _) _).alloc (by simp) _).alloc (by simp <;> omega) _,by simp,?_,?_,?_⟩
 ·rw [Below.heap_alloc _ _ _ (by simp <;> omega),Below.heap_alloc _ _ _ (by simp)];exact World.alloc_heap_new _ _
 ·rw [Below.heap_alloc _ _ _ (by simp)]
  have:=World.alloc_heap_new (w.alloc (.cells #[.pointer (some ⟨r,0,none⟩)] 94)) (yV k s n base m cap line)
  simpa using this
 ·have:=World.alloc_heap_new ((w.alloc (.cells #[.pointer (some ⟨r,0,none⟩)] 94)).alloc (yV k s n base m cap line)) (.cells #[.int .i64 D] 3)
  simpa using this
theorem ze {w:World} {N:Nat} {v:Value} {ty:TypeId} (p:w.heap[N]?=some (.cells #[v] ty (0,0))):w.cell? ⟨N,0,none⟩=some v:=by simp only [World.cell?,p];rfl
theorem Zy.env {w0 w:World} (h:Zy w0) (hb:Below w0.heap.size w0 w):Zy w:=fun j v hj=>by rw [hb.cell (World.block_lt_of_cell? w0 _ (h j v hj))];exact h j v hj
theorem zeJ (w0:World) (D:Int) (hD1:1≤D) (hD2:D≤24) (hT:ZA w0) (hl:Zy w0) (s:List UInt8) (n line:Int) (base:Option Addr) (m cap r:Nat) (q:Option Nat) (t:List UInt8) (w:World) (h:zx w0 r q t w) (hex:YP 1 s n m=true) (hn0:-9223372036854775808≤n) (hn1:n≤9223372036854775807) :
  Calls Tryz.prog 52 #[.pointer (some ⟨r,0,none⟩),yv 1 s n base m cap line,.int .i64 D] w (zm w0 r q t w (tokO 2 n [])):=by
 have hmf:∀(fn:Fn) (first cap:Array Value) (w:World),(Instr.makeFunc fn first cap).run Tryz.prog w=.ok (.func fn first cap) w:=fun _ _ _ _=>rfl
 obtain ⟨R,hR⟩:∃R,R=tokO 2 n []:=⟨_,rfl⟩;rw [←hR];obtain ⟨w1,hw1⟩:∃w1,w1=qo w r 1 s n base m cap line D:=⟨_,rfl⟩;obtain ⟨hb1,hsz1,e0,e1,e2⟩:=yJ w r 1 s n base m cap line D;rw [←hw1] at hb1 hsz1 e0 e1 e2;have hW1:=h.below hb1;have HL1:Hid (zq r q w w1 q w1):=zq.start h hb1;have HP1:Hid (w1.heap[w.heap.size]?=some (.cells #[.pointer (some ⟨r,0,none⟩)] 94 (0,0))∧w1.heap[w.heap.size+1]?=some (yV 1 s n base m cap line)∧w1.heap[w.heap.size+2]?=some (.cells #[.int .i64 D] 3 (0,0))):=⟨e0,e1,e2⟩;have HK0:Hid (∀(q:Option Nat) (t:List UInt8) (w:World),zx w0 r q t w→Calls Tryz.prog 90 #[.pointer (some ⟨r,0,none⟩),.agg #[.int .i64 2,.string (za []),.int .i64 n,.int .i64 0,.int .i64 0]] w (zm w0 r q t w (tokO 2 n []))):=fun q t w h=>uq w0 r q t 2 n 0 0 [] w hT h hn0 hn1 (by simp)
 have ci:=ZV 1 s n base m cap line w1 (hl.env hW1.env);rw [hex] at ci;have HW1:Hid (zx w0 r q t w1):=hW1;have hw1':=hw1.symm;have b0:=ze e0;obtain ⟨c0,c1,c2,c3,c4⟩:=zE e1;have b2:=ze e2;have hD0:(0:Int)<D:=by omega
 generalize tokO 2 n []=X0 at *;have HR:Hid (R=X0):=hR;clear hR hW1 e0 e1 e2 hw1 hb1 h hl hex hT
 go_enter Tryz.func52,Tryz.ntmps52
 go_wp2_with fail
 refine ci.mono ?_;clear ci b0 b2 c0 c1 c2 c3 c4;rintro e w2 ⟨rfl,hb2⟩;have HL2:Hid (zq r q w w1 q w2):=HL1.out.step (zN.below hb2);have HW2:Hid (zx w0 r q t w2):=HW1.out.below hb2;clear hb2;have ca:=zW true w2;go_wp2_with fail
 refine ca.mono ?_;clear ca;rintro e w3 ⟨rfl,rfl⟩;simp only [YW];have b0:=ze ((HL2.out.block (w.heap.size) (Nat.le_refl _) (by omega)).trans HP1.out.1)
 obtain ⟨c0,c1,c2,c3,c4⟩:=zE ((HL2.out.block (w.heap.size+1) (by omega) (by omega)).trans HP1.out.2.1)
 have b2:=ze ((HL2.out.block (w.heap.size+2) (by omega) (by omega)).trans HP1.out.2.2)
 have HL3:Hid (zq r q w w1 q w3):=HL2.out;have HW3:Hid (zx w0 r q t w3):=HW2.out;clear HL1 HW1 HL2 HW2;have cp:=HK0.out q (t) w3 HW3.out;go_wp2_with fail
 refine cp.mono ?_;clear cp b0 b2 c0 c1 c2 c3 c4;rintro e w4 ⟨q4,hto4,hp4⟩;cases X0 with
 | none=>subst hp4;obtain rfl:R=none:=HR.out;exact ⟨rfl,q4,(HL3.out.step hto4).unto,rfl⟩
 | some u0 =>
 obtain ⟨rfl,hw4⟩:=hp4;have HL4:Hid (zq r q w w1 q4 w4):=HL3.out.step hto4;have HW4:Hid (zx w0 r q4 (t++u0) w4):=hw4;clear hto4 hw4;have b0:=ze ((HL4.out.block (w.heap.size) (Nat.le_refl _) (by omega)).trans HP1.out.1)
 obtain ⟨c0,c1,c2,c3,c4⟩:=zE ((HL4.out.block (w.heap.size+1) (by omega) (by omega)).trans HP1.out.2.1)
 have b2:=ze ((HL4.out.block (w.heap.size+2) (by omega) (by omega)).trans HP1.out.2.2)
 obtain rfl:R=some (u0):=HR.out;have HP:Hid (zm w0 r q t w (some (u0)) (.returned (.tuple #[])) w4):=⟨q4,HL4.out.unto,rfl,by have:=HW4.out;simpa only [List.append_assoc] using this⟩
 clear HL3 HW3 HL4 HW4 b0 b2 c0 c1 c2 c3 c4 HR HP1 HK0;go_wp2
 exact bodyPost_ret (v:=.tuple #[]) (by simp [results,Tryz.results52,go_sem]) rfl HP.out
theorem zeK (w0:World) (D:Int) (hD1:1≤D) (hD2:D≤24) (hT:ZA w0) (hl:Zy w0) (s:List UInt8) (n line:Int) (base:Option Addr) (m cap r:Nat) (q:Option Nat) (t:List UInt8) (w:World) (h:zx w0 r q t w) (hex:YP 3 s n m=true) (hs:s.length≤100000000) :
  Calls Tryz.prog 52 #[.pointer (some ⟨r,0,none⟩),yv 3 s n base m cap line,.int .i64 D] w (zm w0 r q t w (tokO 3 0 s)):=by
 have hmf:∀(fn:Fn) (first cap:Array Value) (w:World),(Instr.makeFunc fn first cap).run Tryz.prog w=.ok (.func fn first cap) w:=fun _ _ _ _=>rfl
 obtain ⟨R,hR⟩:∃R,R=tokO 3 0 s:=⟨_,rfl⟩;rw [←hR];obtain ⟨w1,hw1⟩:∃w1,w1=qo w r 3 s n base m cap line D:=⟨_,rfl⟩;obtain ⟨hb1,hsz1,e0,e1,e2⟩:=yJ w r 3 s n base m cap line D;rw [←hw1] at hb1 hsz1 e0 e1 e2;have hW1:=h.below hb1;have HL1:Hid (zq r q w w1 q w1):=zq.start h hb1;have HP1:Hid (w1.heap[w.heap.size]?=some (.cells #[.pointer (some ⟨r,0,none⟩)] 94 (0,0))∧w1.heap[w.heap.size+1]?=some (yV 3 s n base m cap line)∧w1.heap[w.heap.size+2]?=some (.cells #[.int .i64 D] 3 (0,0))):=⟨e0,e1,e2⟩;have HK0:Hid (∀(q:Option Nat) (t:List UInt8) (w:World),zx w0 r q t w→Calls Tryz.prog 90 #[.pointer (some ⟨r,0,none⟩),.agg #[.int .i64 3,.string (za s),.int .i64 0,.int .i64 0,.int .i64 0]] w (zm w0 r q t w (tokO 3 0 s))):=fun q t w h=>uq w0 r q t 3 0 0 0 s w hT h (by omega) (by omega) hs
 have ci:=ZV 3 s n base m cap line w1 (hl.env hW1.env);rw [hex] at ci;have HW1:Hid (zx w0 r q t w1):=hW1;have hw1':=hw1.symm;have b0:=ze e0;obtain ⟨c0,c1,c2,c3,c4⟩:=zE e1;have b2:=ze e2;have hD0:(0:Int)<D:=by omega
 generalize tokO 3 0 s=X0 at *;have HR:Hid (R=X0):=hR;clear hR hW1 e0 e1 e2 hw1 hb1 h hl hex hT
 go_enter Tryz.func52,Tryz.ntmps52
 go_wp2_with fail
 refine ci.mono ?_;clear ci b0 b2 c0 c1 c2 c3 c4;rintro e w2 ⟨rfl,hb2⟩;have HL2:Hid (zq r q w w1 q w2):=HL1.out.step (zN.below hb2);have HW2:Hid (zx w0 r q t w2):=HW1.out.below hb2;clear hb2;have ca:=zW true w2;go_wp2_with fail
 refine ca.mono ?_;clear ca;rintro e w3 ⟨rfl,rfl⟩;simp only [YW];have b0:=ze ((HL2.out.block (w.heap.size) (Nat.le_refl _) (by omega)).trans HP1.out.1)
 obtain ⟨c0,c1,c2,c3,c4⟩:=zE ((HL2.out.block (w.heap.size+1) (by omega) (by omega)).trans HP1.out.2.1)
 have b2:=ze ((HL2.out.block (w.heap.size+2) (by omega) (by omega)).trans HP1.out.2.2)
 have HL3:Hid (zq r q w w1 q w3):=HL2.out;have HW3:Hid (zx w0 r q t w3):=HW2.out;clear HL1 HW1 HL2 HW2;have cp:=HK0.out q (t) w3 HW3.out;go_wp2_with fail
 refine cp.mono ?_;clear cp b0 b2 c0 c1 c2 c3 c4;rintro e w4 ⟨q4,hto4,hp4⟩;cases X0 with
 | none=>subst hp4;obtain rfl:R=none:=HR.out;exact ⟨rfl,q4,(HL3.out.step hto4).unto,rfl⟩
 | some u0 =>
 obtain ⟨rfl,hw4⟩:=hp4;have HL4:Hid (zq r q w w1 q4 w4):=HL3.out.step hto4;have HW4:Hid (zx w0 r q4 (t++u0) w4):=hw4;clear hto4 hw4;have b0:=ze ((HL4.out.block (w.heap.size) (Nat.le_refl _) (by omega)).trans HP1.out.1)
 obtain ⟨c0,c1,c2,c3,c4⟩:=zE ((HL4.out.block (w.heap.size+1) (by omega) (by omega)).trans HP1.out.2.1)
 have b2:=ze ((HL4.out.block (w.heap.size+2) (by omega) (by omega)).trans HP1.out.2.2)
 obtain rfl:R=some (u0):=HR.out;have HP:Hid (zm w0 r q t w (some (u0)) (.returned (.tuple #[])) w4):=⟨q4,HL4.out.unto,rfl,by have:=HW4.out;simpa only [List.append_assoc] using this⟩
 clear HL3 HW3 HL4 HW4 b0 b2 c0 c1 c2 c3 c4 HR HP1 HK0;go_wp2
 exact bodyPost_ret (v:=.tuple #[]) (by simp [results,Tryz.results52,go_sem]) rfl HP.out
theorem zeL (w0:World) (D:Int) (hD1:1≤D) (hD2:D≤24) (hT:ZA w0) (hl:Zy w0) (s:List UInt8) (n line:Int) (base:Option Addr) (m cap r:Nat) (q:Option Nat) (t:List UInt8) (w:World) (h:zx w0 r q t w) (hex:YP 4 s n m=true) (hs:s.length≤100000000) :
  Calls Tryz.prog 52 #[.pointer (some ⟨r,0,none⟩),yv 4 s n base m cap line,.int .i64 D] w (zm w0 r q t w (tokO 1 0 s)):=by
 have hmf:∀(fn:Fn) (first cap:Array Value) (w:World),(Instr.makeFunc fn first cap).run Tryz.prog w=.ok (.func fn first cap) w:=fun _ _ _ _=>rfl
 obtain ⟨R,hR⟩:∃R,R=tokO 1 0 s:=⟨_,rfl⟩;rw [←hR];obtain ⟨w1,hw1⟩:∃w1,w1=qo w r 4 s n base m cap line D:=⟨_,rfl⟩;obtain ⟨hb1,hsz1,e0,e1,e2⟩:=yJ w r 4 s n base m cap line D;rw [←hw1] at hb1 hsz1 e0 e1 e2;have hW1:=h.below hb1;have HL1:Hid (zq r q w w1 q w1):=zq.start h hb1;have HP1:Hid (w1.heap[w.heap.size]?=some (.cells #[.pointer (some ⟨r,0,none⟩)] 94 (0,0))∧w1.heap[w.heap.size+1]?=some (yV 4 s n base m cap line)∧w1.heap[w.heap.size+2]?=some (.cells #[.int .i64 D] 3 (0,0))):=⟨e0,e1,e2⟩;have HK0:Hid (∀(q:Option Nat) (t:List UInt8) (w:World),zx w0 r q t w→Calls Tryz.prog 92 #[.pointer (some ⟨r,0,none⟩),.string (za s)] w (zm w0 r q t w (tokO 1 0 s))):=fun q t w h=>yr w0 r q t s w hT h hs
 have ci:=ZV 4 s n base m cap line w1 (hl.env hW1.env);rw [hex] at ci;have HW1:Hid (zx w0 r q t w1):=hW1;have hw1':=hw1.symm;have b0:=ze e0;obtain ⟨c0,c1,c2,c3,c4⟩:=zE e1;have b2:=ze e2;have hD0:(0:Int)<D:=by omega
 generalize tokO 1 0 s=X0 at *;have HR:Hid (R=X0):=hR;clear hR hW1 e0 e1 e2 hw1 hb1 h hl hex hT
 go_enter Tryz.func52,Tryz.ntmps52
 go_wp2_with fail
 refine ci.mono ?_;clear ci b0 b2 c0 c1 c2 c3 c4;rintro e w2 ⟨rfl,hb2⟩;have HL2:Hid (zq r q w w1 q w2):=HL1.out.step (zN.below hb2);have HW2:Hid (zx w0 r q t w2):=HW1.out.below hb2;clear hb2;have ca:=zW true w2;go_wp2_with fail
 refine ca.mono ?_;clear ca;rintro e w3 ⟨rfl,rfl⟩;simp only [YW];have b0:=ze ((HL2.out.block (w.heap.size) (Nat.le_refl _) (by omega)).trans HP1.out.1)
 obtain ⟨c0,c1,c2,c3,c4⟩:=zE ((HL2.out.block (w.heap.size+1) (by omega) (by omega)).trans HP1.out.2.1)
 have b2:=ze ((HL2.out.block (w.heap.size+2) (by omega) (by omega)).trans HP1.out.2.2)
 have HL3:Hid (zq r q w w1 q w3):=HL2.out;have HW3:Hid (zx w0 r q t w3):=HW2.out;clear HL1 HW1 HL2 HW2;have cp:=HK0.out q (t) w3 HW3.out;go_wp2_with fail
 refine cp.mono ?_;clear cp b0 b2 c0 c1 c2 c3 c4;rintro e w4 ⟨q4,hto4,hp4⟩;cases X0 with
 | none=>subst hp4;obtain rfl:R=none:=HR.out;exact ⟨rfl,q4,(HL3.out.step hto4).unto,rfl⟩
 | some u0 =>
 obtain ⟨rfl,hw4⟩:=hp4;have HL4:Hid (zq r q w w1 q4 w4):=HL3.out.step hto4;have HW4:Hid (zx w0 r q4 (t++u0) w4):=hw4;clear hto4 hw4;have b0:=ze ((HL4.out.block (w.heap.size) (Nat.le_refl _) (by omega)).trans HP1.out.1)
 obtain ⟨c0,c1,c2,c3,c4⟩:=zE ((HL4.out.block (w.heap.size+1) (by omega) (by omega)).trans HP1.out.2.1)
 have b2:=ze ((HL4.out.block (w.heap.size+2) (by omega) (by omega)).trans HP1.out.2.2)
 obtain rfl:R=some (u0):=HR.out;have HP:Hid (zm w0 r q t w (some (u0)) (.returned (.tuple #[])) w4):=⟨q4,HL4.out.unto,rfl,by have:=HW4.out;simpa only [List.append_assoc] using this⟩
 clear HL3 HW3 HL4 HW4 b0 b2 c0 c1 c2 c3 c4 HR HP1 HK0;go_wp2
 exact bodyPost_ret (v:=.tuple #[]) (by simp [results,Tryz.results52,go_sem]) rfl HP.out
theorem zeM (w0:World) (d:Nat) (D:Int) (hD:D-1=(d:Int)) (hD1:1≤D) (hD2:D≤24) (hX:yI w0 d) (hT:ZA w0) (hl:Zy w0) (s:List UInt8) (n line:Int) (base:Option Addr) (m cap r:Nat) (q:Option Nat) (t:List UInt8) (w:World) (h:zx w0 r q t w) (hex:YP 5 s n m=true) (hs:s.length≤100000000) (kids:List Ez) (hm3:m=kids.length) (hc2:kids.length≤cap) (hm2:cap≤maxLen) (hrow2:∀i x,kids[i]?=some x→∃b o a1 a2 a3 a4 a5 a6 a7,base=some ⟨b,o,none⟩∧b<w0.heap.size∧b<w0.heap.size∧Zs w0.heap.size w0 x (yv a1 a2 a3 a4 a5 a6 a7)∧w0.cell? ⟨b,o+i*5,none⟩=some (.int .i64 a1)∧w0.cell? ⟨b,o+i*5+1,none⟩=some (.string (za a2))∧w0.cell? ⟨b,o+i*5+2,none⟩=some (.int .i64 a3)∧w0.cell? ⟨b,o+i*5+3,none⟩=some (.slice a4 a5 a6)∧w0.cell? ⟨b,o+i*5+4,none⟩=some (.int .i64 a7)) :
  Calls Tryz.prog 52 #[.pointer (some ⟨r,0,none⟩),yv 5 s n base m cap line,.int .i64 D] w (zm w0 r q t w (zc (tokO 1 0 s) (zc (some [40]) (zc (rowO (kids.map (prE d)) kids.length) (some [41]))))):=by
 have hmf:∀(fn:Fn) (first cap:Array Value) (w:World),(Instr.makeFunc fn first cap).run Tryz.prog w=.ok (.func fn first cap) w:=fun _ _ _ _=>rfl
 obtain ⟨R,hR⟩:∃R,R=zc (tokO 1 0 s) (zc (some [40]) (zc (rowO (kids.map (prE d)) kids.length) (some [41]))):=⟨_,rfl⟩;rw [←hR];obtain ⟨w1,hw1⟩:∃w1,w1=qo w r 5 s n base m cap line D:=⟨_,rfl⟩;obtain ⟨hb1,hsz1,e0,e1,e2⟩:=yJ w r 5 s n base m cap line D;rw [←hw1] at hb1 hsz1 e0 e1 e2;have hW1:=h.below hb1;have HL1:Hid (zq r q w w1 q w1):=zq.start h hb1;have HP1:Hid (w1.heap[w.heap.size]?=some (.cells #[.pointer (some ⟨r,0,none⟩)] 94 (0,0))∧w1.heap[w.heap.size+1]?=some (yV 5 s n base m cap line)∧w1.heap[w.heap.size+2]?=some (.cells #[.int .i64 D] 3 (0,0))):=⟨e0,e1,e2⟩;have HK0:Hid (∀(q:Option Nat) (t:List UInt8) (w:World),zx w0 r q t w→Calls Tryz.prog 92 #[.pointer (some ⟨r,0,none⟩),.string (za s)] w (zm w0 r q t w (tokO 1 0 s))):=fun q t w h=>yr w0 r q t s w hT h hs
 have HK1:Hid (∀(q2:Option Nat) (t2:List UInt8) (W:World),zx w0 r q2 t2 W→zq r q w w1 q2 W→Calls Tryz.prog 93 #[.pointer (some ⟨r,0,none⟩),.slice base m cap,.func (.func 89) #[] #[.pointer (some ⟨w.heap.size,0,none⟩),.pointer (some ⟨w.heap.size+2,0,none⟩)]] W (zm w0 r q2 t2 W (rowO (kids.map (prE d)) kids.length))):=fun q2 t2 W h2 hL2=>by rw [hm3];exact vB w0 (prE d) kids base cap _ _ r q2 t2 W h2 hc2 hm2 hrow2 fun x v q1 t1 W1 _ hx h1 hto=>Vt w0 d D hD hD1 hD2 hX x v _ _ r q1 t1 W1 hx h1 (ze (((hL2.step hto).block (w.heap.size) (Nat.le_refl _) (by omega)).trans HP1.out.1)) (ze (((hL2.step hto).block (w.heap.size+2) (by omega) (by omega)).trans HP1.out.2.2))
 have ci:=ZV 5 s n base m cap line w1 (hl.env hW1.env);rw [hex] at ci;have HW1:Hid (zx w0 r q t w1):=hW1;have hw1':=hw1.symm;have b0:=ze e0;obtain ⟨c0,c1,c2,c3,c4⟩:=zE e1;have b2:=ze e2;have hD0:(0:Int)<D:=by omega
 generalize tokO 1 0 s=X0 at *;generalize rowO (kids.map (prE d)) kids.length=X1 at *;have HR:Hid (R=zc X0 (zc (some [40]) (zc X1 (some [41])))):=hR;clear hR hW1 e0 e1 e2 hw1 hb1 h hl hex hX hT hc2 hm2 hrow2 hm3
 go_enter Tryz.func52,Tryz.ntmps52
 go_wp2_with fail
 refine ci.mono ?_;clear ci b0 b2 c0 c1 c2 c3 c4;rintro e w2 ⟨rfl,hb2⟩;have HL2:Hid (zq r q w w1 q w2):=HL1.out.step (zN.below hb2);have HW2:Hid (zx w0 r q t w2):=HW1.out.below hb2;clear hb2;have ca:=zW true w2;go_wp2_with fail
 refine ca.mono ?_;clear ca;rintro e w3 ⟨rfl,rfl⟩;simp only [YW];have b0:=ze ((HL2.out.block (w.heap.size) (Nat.le_refl _) (by omega)).trans HP1.out.1)
 obtain ⟨c0,c1,c2,c3,c4⟩:=zE ((HL2.out.block (w.heap.size+1) (by omega) (by omega)).trans HP1.out.2.1)
 have b2:=ze ((HL2.out.block (w.heap.size+2) (by omega) (by omega)).trans HP1.out.2.2)
 have HL3:Hid (zq r q w w1 q w3):=HL2.out;have HW3:Hid (zx w0 r q t w3):=HW2.out;clear HL1 HW1 HL2 HW2;have cp:=HK0.out q (t) w3 HW3.out;go_wp2_with fail
 refine cp.mono ?_;clear cp b0 b2 c0 c1 c2 c3 c4;rintro e w4 ⟨q4,hto4,hp4⟩;cases X0 with
 | none=>subst hp4;obtain rfl:R=none:=HR.out;exact ⟨rfl,q4,(HL3.out.step hto4).unto,rfl⟩
 | some u0 =>
 obtain ⟨rfl,hw4⟩:=hp4;have HL4:Hid (zq r q w w1 q4 w4):=HL3.out.step hto4;have HW4:Hid (zx w0 r q4 (t++u0) w4):=hw4;clear hto4 hw4;have b0:=ze ((HL4.out.block (w.heap.size) (Nat.le_refl _) (by omega)).trans HP1.out.1)
 obtain ⟨c0,c1,c2,c3,c4⟩:=zE ((HL4.out.block (w.heap.size+1) (by omega) (by omega)).trans HP1.out.2.1)
 have b2:=ze ((HL4.out.block (w.heap.size+2) (by omega) (by omega)).trans HP1.out.2.2)
 have cp:=zw w0 r q4 (t++u0) [40] w4 HW4.out (by simp)
 go_wp2_with fail
 refine cp.mono ?_;clear cp b0 b2 c0 c1 c2 c3 c4;rintro e w5 ⟨q5,hto5,rfl,hw5⟩;have HL5:Hid (zq r q w w1 q5 w5):=HL4.out.step hto5;have HW5:Hid (zx w0 r q5 (t++u0++[40]) w5):=hw5;clear hto5 hw5;have b0:=ze ((HL5.out.block (w.heap.size) (Nat.le_refl _) (by omega)).trans HP1.out.1)
 obtain ⟨c0,c1,c2,c3,c4⟩:=zE ((HL5.out.block (w.heap.size+1) (by omega) (by omega)).trans HP1.out.2.1)
 have b2:=ze ((HL5.out.block (w.heap.size+2) (by omega) (by omega)).trans HP1.out.2.2)
 have cp:=HK1.out q5 (t++u0++[40]) w5 HW5.out HL5.out;go_wp2_with fail
 refine cp.mono ?_;clear cp b0 b2 c0 c1 c2 c3 c4;rintro e w6 ⟨q6,hto6,hp6⟩;cases X1 with
 | none=>subst hp6;obtain rfl:R=none:=HR.out;exact ⟨rfl,q6,(HL5.out.step hto6).unto,rfl⟩
 | some u1 =>
 obtain ⟨rfl,hw6⟩:=hp6;have HL6:Hid (zq r q w w1 q6 w6):=HL5.out.step hto6;have HW6:Hid (zx w0 r q6 (t++u0++[40]++u1) w6):=hw6;clear hto6 hw6;have b0:=ze ((HL6.out.block (w.heap.size) (Nat.le_refl _) (by omega)).trans HP1.out.1)
 obtain ⟨c0,c1,c2,c3,c4⟩:=zE ((HL6.out.block (w.heap.size+1) (by omega) (by omega)).trans HP1.out.2.1)
 have b2:=ze ((HL6.out.block (w.heap.size+2) (by omega) (by omega)).trans HP1.out.2.2)
 have cp:=zw w0 r q6 (t++u0++[40]++u1) [41] w6 HW6.out (by simp)
 go_wp2_with fail
 refine cp.mono ?_;clear cp b0 b2 c0 c1 c2 c3 c4;rintro e w7 ⟨q7,hto7,rfl,hw7⟩;have HL7:Hid (zq r q w w1 q7 w7):=HL6.out.step hto7;have HW7:Hid (zx w0 r q7 (t++u0++[40]++u1++[41]) w7):=hw7;clear hto7 hw7;have b0:=ze ((HL7.out.block (w.heap.size) (Nat.le_refl _) (by omega)).trans HP1.out.1)
 obtain ⟨c0,c1,c2,c3,c4⟩:=zE ((HL7.out.block (w.heap.size+1) (by omega) (by omega)).trans HP1.out.2.1)
 have b2:=ze ((HL7.out.block (w.heap.size+2) (by omega) (by omega)).trans HP1.out.2.2)
 obtain rfl:R=some (u0++([40]++(u1++([41])))):=HR.out;have HP:Hid (zm w0 r q t w (some (u0++([40]++(u1++([41]))))) (.returned (.tuple #[])) w7):=⟨q7,HL7.out.unto,rfl,by have:=HW7.out;simpa only [List.append_assoc] using this⟩
 clear HL3 HW3 HL4 HW4 HL5 HW5 HL6 HW6 HL7 HW7 b0 b2 c0 c1 c2 c3 c4 HR HP1 HK0 HK1;go_wp2
 exact bodyPost_ret (v:=.tuple #[]) (by simp [results,Tryz.results52,go_sem]) rfl HP.out
theorem zdX (w0:World) (d:Nat) (D:Int) (hD:D-1=(d:Int)) (hD1:1≤D) (hD2:D≤24) (hX:yI w0 d) (hT:ZA w0) (hl:Zy w0) (s:List UInt8) (n line:Int) (base:Option Addr) (m cap r:Nat) (q:Option Nat) (t:List UInt8) (w:World) (h:zx w0 r q t w) (hex:YP 11 s n m=true) (hs:s.length≤100000000) (kids:List Ez) (hm3:m=kids.length) (hc2:kids.length≤cap) (hm2:cap≤maxLen) (hrow2:∀i x,kids[i]?=some x→∃b o a1 a2 a3 a4 a5 a6 a7,base=some ⟨b,o,none⟩∧b<w0.heap.size∧b<w0.heap.size∧Zs w0.heap.size w0 x (yv a1 a2 a3 a4 a5 a6 a7)∧w0.cell? ⟨b,o+i*5,none⟩=some (.int .i64 a1)∧w0.cell? ⟨b,o+i*5+1,none⟩=some (.string (za a2))∧w0.cell? ⟨b,o+i*5+2,none⟩=some (.int .i64 a3)∧w0.cell? ⟨b,o+i*5+3,none⟩=some (.slice a4 a5 a6)∧w0.cell? ⟨b,o+i*5+4,none⟩=some (.int .i64 a7)) :
  Calls Tryz.prog 52 #[.pointer (some ⟨r,0,none⟩),yv 11 s n base m cap line,.int .i64 D] w (zm w0 r q t w (zc (some [110,101,119,32]) (zc (tokO 1 0 s) (zc (some [40]) (zc (rowO (kids.map (prE d)) kids.length) (some [41])))))):=by
 have hmf:∀(fn:Fn) (first cap:Array Value) (w:World),(Instr.makeFunc fn first cap).run Tryz.prog w=.ok (.func fn first cap) w:=fun _ _ _ _=>rfl
 obtain ⟨R,hR⟩:∃R,R=zc (some [110,101,119,32]) (zc (tokO 1 0 s) (zc (some [40]) (zc (rowO (kids.map (prE d)) kids.length) (some [41])))):=⟨_,rfl⟩;rw [←hR];obtain ⟨w1,hw1⟩:∃w1,w1=qo w r 11 s n base m cap line D:=⟨_,rfl⟩;obtain ⟨hb1,hsz1,e0,e1,e2⟩:=yJ w r 11 s n base m cap line D;rw [←hw1] at hb1 hsz1 e0 e1 e2;have hW1:=h.below hb1;have HL1:Hid (zq r q w w1 q w1):=zq.start h hb1;have HP1:Hid (w1.heap[w.heap.size]?=some (.cells #[.pointer (some ⟨r,0,none⟩)] 94 (0,0))∧w1.heap[w.heap.size+1]?=some (yV 11 s n base m cap line)∧w1.heap[w.heap.size+2]?=some (.cells #[.int .i64 D] 3 (0,0))):=⟨e0,e1,e2⟩;have HK0:Hid (∀(q:Option Nat) (t:List UInt8) (w:World),zx w0 r q t w→Calls Tryz.prog 92 #[.pointer (some ⟨r,0,none⟩),.string (za s)] w (zm w0 r q t w (tokO 1 0 s))):=fun q t w h=>yr w0 r q t s w hT h hs
 have HK1:Hid (∀(q2:Option Nat) (t2:List UInt8) (W:World),zx w0 r q2 t2 W→zq r q w w1 q2 W→Calls Tryz.prog 93 #[.pointer (some ⟨r,0,none⟩),.slice base m cap,.func (.func 89) #[] #[.pointer (some ⟨w.heap.size,0,none⟩),.pointer (some ⟨w.heap.size+2,0,none⟩)]] W (zm w0 r q2 t2 W (rowO (kids.map (prE d)) kids.length))):=fun q2 t2 W h2 hL2=>by rw [hm3];exact vB w0 (prE d) kids base cap _ _ r q2 t2 W h2 hc2 hm2 hrow2 fun x v q1 t1 W1 _ hx h1 hto=>Vt w0 d D hD hD1 hD2 hX x v _ _ r q1 t1 W1 hx h1 (ze (((hL2.step hto).block (w.heap.size) (Nat.le_refl _) (by omega)).trans HP1.out.1)) (ze (((hL2.step hto).block (w.heap.size+2) (by omega) (by omega)).trans HP1.out.2.2))
 have ci:=ZV 11 s n base m cap line w1 (hl.env hW1.env);rw [hex] at ci;have HW1:Hid (zx w0 r q t w1):=hW1;have hw1':=hw1.symm;have b0:=ze e0;obtain ⟨c0,c1,c2,c3,c4⟩:=zE e1;have b2:=ze e2;have hD0:(0:Int)<D:=by omega
 generalize tokO 1 0 s=X0 at *;generalize rowO (kids.map (prE d)) kids.length=X1 at *;have HR:Hid (R=zc (some [110,101,119,32]) (zc X0 (zc (some [40]) (zc X1 (some [41]))))):=hR;clear hR hW1 e0 e1 e2 hw1 hb1 h hl hex hX hT hc2 hm2 hrow2 hm3
 go_enter Tryz.func52,Tryz.ntmps52
 go_wp2_with fail
 refine ci.mono ?_;clear ci b0 b2 c0 c1 c2 c3 c4;rintro e w2 ⟨rfl,hb2⟩;have HL2:Hid (zq r q w w1 q w2):=HL1.out.step (zN.below hb2);have HW2:Hid (zx w0 r q t w2):=HW1.out.below hb2;clear hb2;have ca:=zW true w2;go_wp2_with fail
 refine ca.mono ?_;clear ca;rintro e w3 ⟨rfl,rfl⟩;simp only [YW];have b0:=ze ((HL2.out.block (w.heap.size) (Nat.le_refl _) (by omega)).trans HP1.out.1)
 obtain ⟨c0,c1,c2,c3,c4⟩:=zE ((HL2.out.block (w.heap.size+1) (by omega) (by omega)).trans HP1.out.2.1)
 have b2:=ze ((HL2.out.block (w.heap.size+2) (by omega) (by omega)).trans HP1.out.2.2)
 have HL3:Hid (zq r q w w1 q w3):=HL2.out;have HW3:Hid (zx w0 r q t w3):=HW2.out;clear HL1 HW1 HL2 HW2;have cp:=zw w0 r q (t) [110,101,119,32] w3 HW3.out (by simp)
 go_wp2_with fail
 refine cp.mono ?_;clear cp b0 b2 c0 c1 c2 c3 c4;rintro e w4 ⟨q4,hto4,rfl,hw4⟩;have HL4:Hid (zq r q w w1 q4 w4):=HL3.out.step hto4;have HW4:Hid (zx w0 r q4 (t++[110,101,119,32]) w4):=hw4;clear hto4 hw4;have b0:=ze ((HL4.out.block (w.heap.size) (Nat.le_refl _) (by omega)).trans HP1.out.1)
 obtain ⟨c0,c1,c2,c3,c4⟩:=zE ((HL4.out.block (w.heap.size+1) (by omega) (by omega)).trans HP1.out.2.1)
 have b2:=ze ((HL4.out.block (w.heap.size+2) (by omega) (by omega)).trans HP1.out.2.2)
 have cp:=HK0.out q4 (t++[110,101,119,32]) w4 HW4.out;go_wp2_with fail
 refine cp.mono ?_;clear cp b0 b2 c0 c1 c2 c3 c4;rintro e w5 ⟨q5,hto5,hp5⟩;cases X0 with
 | none=>subst hp5;obtain rfl:R=none:=HR.out;exact ⟨rfl,q5,(HL4.out.step hto5).unto,rfl⟩
 | some u0 =>
 obtain ⟨rfl,hw5⟩:=hp5;have HL5:Hid (zq r q w w1 q5 w5):=HL4.out.step hto5;have HW5:Hid (zx w0 r q5 (t++[110,101,119,32]++u0) w5):=hw5;clear hto5 hw5;have b0:=ze ((HL5.out.block (w.heap.size) (Nat.le_refl _) (by omega)).trans HP1.out.1)
 obtain ⟨c0,c1,c2,c3,c4⟩:=zE ((HL5.out.block (w.heap.size+1) (by omega) (by omega)).trans HP1.out.2.1)
 have b2:=ze ((HL5.out.block (w.heap.size+2) (by omega) (by omega)).trans HP1.out.2.2)
 have cp:=zw w0 r q5 (t++[110,101,119,32]++u0) [40] w5 HW5.out (by simp)
 go_wp2_with fail
 refine cp.mono ?_;clear cp b0 b2 c0 c1 c2 c3 c4;rintro e w6 ⟨q6,hto6,rfl,hw6⟩;have HL6:Hid (zq r q w w1 q6 w6):=HL5.out.step hto6;have HW6:Hid (zx w0 r q6 (t++[110,101,119,32]++u0++[40]) w6):=hw6;clear hto6 hw6;have b0:=ze ((HL6.out.block (w.heap.size) (Nat.le_refl _) (by omega)).trans HP1.out.1)
 obtain ⟨c0,c1,c2,c3,c4⟩:=zE ((HL6.out.block (w.heap.size+1) (by omega) (by omega)).trans HP1.out.2.1)
 have b2:=ze ((HL6.out.block (w.heap.size+2) (by omega) (by omega)).trans HP1.out.2.2)
 have cp:=HK1.out q6 (t++[110,101,119,32]++u0++[40]) w6 HW6.out HL6.out;go_wp2_with fail
 refine cp.mono ?_;clear cp b0 b2 c0 c1 c2 c3 c4;rintro e w7 ⟨q7,hto7,hp7⟩;cases X1 with
 | none=>subst hp7;obtain rfl:R=none:=HR.out;exact ⟨rfl,q7,(HL6.out.step hto7).unto,rfl⟩
 | some u1 =>
 obtain ⟨rfl,hw7⟩:=hp7;have HL7:Hid (zq r q w w1 q7 w7):=HL6.out.step hto7;have HW7:Hid (zx w0 r q7 (t++[110,101,119,32]++u0++[40]++u1) w7):=hw7;clear hto7 hw7;have b0:=ze ((HL7.out.block (w.heap.size) (Nat.le_refl _) (by omega)).trans HP1.out.1)
 obtain ⟨c0,c1,c2,c3,c4⟩:=zE ((HL7.out.block (w.heap.size+1) (by omega) (by omega)).trans HP1.out.2.1)
 have b2:=ze ((HL7.out.block (w.heap.size+2) (by omega) (by omega)).trans HP1.out.2.2)
 have cp:=zw w0 r q7 (t++[110,101,119,32]++u0++[40]++u1) [41] w7 HW7.out (by simp)
 go_wp2_with fail
 refine cp.mono ?_;clear cp b0 b2 c0 c1 c2 c3 c4;rintro e w8 ⟨q8,hto8,rfl,hw8⟩;have HL8:Hid (zq r q w w1 q8 w8):=HL7.out.step hto8;have HW8:Hid (zx w0 r q8 (t++[110,101,119,32]++u0++[40]++u1++[41]) w8):=hw8;clear hto8 hw8;have b0:=ze ((HL8.out.block (w.heap.size) (Nat.le_refl _) (by omega)).trans HP1.out.1)
 obtain ⟨c0,c1,c2,c3,c4⟩:=zE ((HL8.out.block (w.heap.size+1) (by omega) (by omega)).trans HP1.out.2.1)
 have b2:=ze ((HL8.out.block (w.heap.size+2) (by omega) (by omega)).trans HP1.out.2.2)
 obtain rfl:R=some ([110,101,119,32]++(u0++([40]++(u1++([41]))))):=HR.out;have HP:Hid (zm w0 r q t w (some ([110,101,119,32]++(u0++([40]++(u1++([41])))))) (.returned (.tuple #[])) w8):=⟨q8,HL8.out.unto,rfl,by have:=HW8.out;simpa only [List.append_assoc] using this⟩
 clear HL3 HW3 HL4 HW4 HL5 HW5 HL6 HW6 HL7 HW7 HL8 HW8 b0 b2 c0 c1 c2 c3 c4 HR HP1 HK0 HK1;go_wp2
 exact bodyPost_ret (v:=.tuple #[]) (by simp [results,Tryz.results52,go_sem]) rfl HP.out
theorem zdY (w0:World) (d:Nat) (D:Int) (hD:D-1=(d:Int)) (hD1:1≤D) (hD2:D≤24) (hX:yI w0 d) (hl:Zy w0) (s:List UInt8) (n line:Int) (base:Option Addr) (m cap r:Nat) (q:Option Nat) (t:List UInt8) (w:World) (h:zx w0 r q t w) (hex:YP 10 s n m=true) (kids:List Ez) (hm3:m=kids.length) (hc2:kids.length≤cap) (hm2:cap≤maxLen) (hrow2:∀i x,kids[i]?=some x→∃b o a1 a2 a3 a4 a5 a6 a7,base=some ⟨b,o,none⟩∧b<w0.heap.size∧b<w0.heap.size∧Zs w0.heap.size w0 x (yv a1 a2 a3 a4 a5 a6 a7)∧w0.cell? ⟨b,o+i*5,none⟩=some (.int .i64 a1)∧w0.cell? ⟨b,o+i*5+1,none⟩=some (.string (za a2))∧w0.cell? ⟨b,o+i*5+2,none⟩=some (.int .i64 a3)∧w0.cell? ⟨b,o+i*5+3,none⟩=some (.slice a4 a5 a6)∧w0.cell? ⟨b,o+i*5+4,none⟩=some (.int .i64 a7)) :
  Calls Tryz.prog 52 #[.pointer (some ⟨r,0,none⟩),yv 10 s n base m cap line,.int .i64 D] w (zm w0 r q t w (zc (some [91]) (zc (rowO (kids.map (prE d)) kids.length) (some [93])))):=by
 have hmf:∀(fn:Fn) (first cap:Array Value) (w:World),(Instr.makeFunc fn first cap).run Tryz.prog w=.ok (.func fn first cap) w:=fun _ _ _ _=>rfl
 obtain ⟨R,hR⟩:∃R,R=zc (some [91]) (zc (rowO (kids.map (prE d)) kids.length) (some [93])):=⟨_,rfl⟩;rw [←hR];obtain ⟨w1,hw1⟩:∃w1,w1=qo w r 10 s n base m cap line D:=⟨_,rfl⟩;obtain ⟨hb1,hsz1,e0,e1,e2⟩:=yJ w r 10 s n base m cap line D;rw [←hw1] at hb1 hsz1 e0 e1 e2;have hW1:=h.below hb1;have HL1:Hid (zq r q w w1 q w1):=zq.start h hb1;have HP1:Hid (w1.heap[w.heap.size]?=some (.cells #[.pointer (some ⟨r,0,none⟩)] 94 (0,0))∧w1.heap[w.heap.size+1]?=some (yV 10 s n base m cap line)∧w1.heap[w.heap.size+2]?=some (.cells #[.int .i64 D] 3 (0,0))):=⟨e0,e1,e2⟩;have HK0:Hid (∀(q2:Option Nat) (t2:List UInt8) (W:World),zx w0 r q2 t2 W→zq r q w w1 q2 W→Calls Tryz.prog 93 #[.pointer (some ⟨r,0,none⟩),.slice base m cap,.func (.func 89) #[] #[.pointer (some ⟨w.heap.size,0,none⟩),.pointer (some ⟨w.heap.size+2,0,none⟩)]] W (zm w0 r q2 t2 W (rowO (kids.map (prE d)) kids.length))):=fun q2 t2 W h2 hL2=>by rw [hm3];exact vB w0 (prE d) kids base cap _ _ r q2 t2 W h2 hc2 hm2 hrow2 fun x v q1 t1 W1 _ hx h1 hto=>Vt w0 d D hD hD1 hD2 hX x v _ _ r q1 t1 W1 hx h1 (ze (((hL2.step hto).block (w.heap.size) (Nat.le_refl _) (by omega)).trans HP1.out.1)) (ze (((hL2.step hto).block (w.heap.size+2) (by omega) (by omega)).trans HP1.out.2.2))
 have ci:=ZV 10 s n base m cap line w1 (hl.env hW1.env);rw [hex] at ci;have HW1:Hid (zx w0 r q t w1):=hW1;have hw1':=hw1.symm;have b0:=ze e0;obtain ⟨c0,c1,c2,c3,c4⟩:=zE e1;have b2:=ze e2;have hD0:(0:Int)<D:=by omega
 generalize rowO (kids.map (prE d)) kids.length=X0 at *;have HR:Hid (R=zc (some [91]) (zc X0 (some [93]))):=hR;clear hR hW1 e0 e1 e2 hw1 hb1 h hl hex hX hc2 hm2 hrow2 hm3
 go_enter Tryz.func52,Tryz.ntmps52
 go_wp2_with fail
 refine ci.mono ?_;clear ci b0 b2 c0 c1 c2 c3 c4;rintro e w2 ⟨rfl,hb2⟩;have HL2:Hid (zq r q w w1 q w2):=HL1.out.step (zN.below hb2);have HW2:Hid (zx w0 r q t w2):=HW1.out.below hb2;clear hb2;have ca:=zW true w2;go_wp2_with fail
 refine ca.mono ?_;clear ca;rintro e w3 ⟨rfl,rfl⟩;simp only [YW];have b0:=ze ((HL2.out.block (w.heap.size) (Nat.le_refl _) (by omega)).trans HP1.out.1)
 obtain ⟨c0,c1,c2,c3,c4⟩:=zE ((HL2.out.block (w.heap.size+1) (by omega) (by omega)).trans HP1.out.2.1)
 have b2:=ze ((HL2.out.block (w.heap.size+2) (by omega) (by omega)).trans HP1.out.2.2)
 have HL3:Hid (zq r q w w1 q w3):=HL2.out;have HW3:Hid (zx w0 r q t w3):=HW2.out;clear HL1 HW1 HL2 HW2;have cp:=zw w0 r q (t) [91] w3 HW3.out (by simp)
 go_wp2_with fail
 refine cp.mono ?_;clear cp b0 b2 c0 c1 c2 c3 c4;rintro e w4 ⟨q4,hto4,rfl,hw4⟩;have HL4:Hid (zq r q w w1 q4 w4):=HL3.out.step hto4;have HW4:Hid (zx w0 r q4 (t++[91]) w4):=hw4;clear hto4 hw4;have b0:=ze ((HL4.out.block (w.heap.size) (Nat.le_refl _) (by omega)).trans HP1.out.1)
 obtain ⟨c0,c1,c2,c3,c4⟩:=zE ((HL4.out.block (w.heap.size+1) (by omega) (by omega)).trans HP1.out.2.1)
 have b2:=ze ((HL4.out.block (w.heap.size+2) (by omega) (by omega)).trans HP1.out.2.2)
 have cp:=HK0.out q4 (t++[91]) w4 HW4.out HL4.out;go_wp2_with fail
 refine cp.mono ?_;clear cp b0 b2 c0 c1 c2 c3 c4;rintro e w5 ⟨q5,hto5,hp5⟩;cases X0 with
 | none=>subst hp5;obtain rfl:R=none:=HR.out;exact ⟨rfl,q5,(HL4.out.step hto5).unto,rfl⟩
 | some u0 =>
 obtain ⟨rfl,hw5⟩:=hp5;have HL5:Hid (zq r q w w1 q5 w5):=HL4.out.step hto5;have HW5:Hid (zx w0 r q5 (t++[91]++u0) w5):=hw5;clear hto5 hw5;have b0:=ze ((HL5.out.block (w.heap.size) (Nat.le_refl _) (by omega)).trans HP1.out.1)
 obtain ⟨c0,c1,c2,c3,c4⟩:=zE ((HL5.out.block (w.heap.size+1) (by omega) (by omega)).trans HP1.out.2.1)
 have b2:=ze ((HL5.out.block (w.heap.size+2) (by omega) (by omega)).trans HP1.out.2.2)
 have cp:=zw w0 r q5 (t++[91]++u0) [93] w5 HW5.out (by simp)
 go_wp2_with fail
 refine cp.mono ?_;clear cp b0 b2 c0 c1 c2 c3 c4;rintro e w6 ⟨q6,hto6,rfl,hw6⟩;have HL6:Hid (zq r q w w1 q6 w6):=HL5.out.step hto6;have HW6:Hid (zx w0 r q6 (t++[91]++u0++[93]) w6):=hw6;clear hto6 hw6;have b0:=ze ((HL6.out.block (w.heap.size) (Nat.le_refl _) (by omega)).trans HP1.out.1)
 obtain ⟨c0,c1,c2,c3,c4⟩:=zE ((HL6.out.block (w.heap.size+1) (by omega) (by omega)).trans HP1.out.2.1)
 have b2:=ze ((HL6.out.block (w.heap.size+2) (by omega) (by omega)).trans HP1.out.2.2)
 obtain rfl:R=some ([91]++(u0++([93]))):=HR.out;have HP:Hid (zm w0 r q t w (some ([91]++(u0++([93])))) (.returned (.tuple #[])) w6):=⟨q6,HL6.out.unto,rfl,by have:=HW6.out;simpa only [List.append_assoc] using this⟩
 clear HL3 HW3 HL4 HW4 HL5 HW5 HL6 HW6 b0 b2 c0 c1 c2 c3 c4 HR HP1 HK0;go_wp2
 exact bodyPost_ret (v:=.tuple #[]) (by simp [results,Tryz.results52,go_sem]) rfl HP.out
theorem zeN (w0:World) (D:Int) (hD1:1≤D) (hD2:D≤24) (hl:Zy w0) (s:List UInt8) (n line:Int) (base:Option Addr) (m cap r:Nat) (q:Option Nat) (t:List UInt8) (w:World) (h:zx w0 r q t w) (hex:YP 6 s n m=true) (X:Option (List UInt8)) (hS:Hid (∀(q:Option Nat) (t:List UInt8) (w:World),zx w0 r q t w→Calls Tryz.prog 94 #[.pointer (some ⟨r,0,none⟩),yv 6 s n base m cap line,.int .i64 D] w (zm w0 r q t w X))) :
  Calls Tryz.prog 52 #[.pointer (some ⟨r,0,none⟩),yv 6 s n base m cap line,.int .i64 D] w (zm w0 r q t w (X)):=by
 have hmf:∀(fn:Fn) (first cap:Array Value) (w:World),(Instr.makeFunc fn first cap).run Tryz.prog w=.ok (.func fn first cap) w:=fun _ _ _ _=>rfl
 obtain ⟨R,hR⟩:∃R,R=X:=⟨_,rfl⟩;rw [←hR];obtain ⟨w1,hw1⟩:∃w1,w1=qo w r 6 s n base m cap line D:=⟨_,rfl⟩;obtain ⟨hb1,hsz1,e0,e1,e2⟩:=yJ w r 6 s n base m cap line D;rw [←hw1] at hb1 hsz1 e0 e1 e2;have hW1:=h.below hb1;have HL1:Hid (zq r q w w1 q w1):=zq.start h hb1;have HP1:Hid (w1.heap[w.heap.size]?=some (.cells #[.pointer (some ⟨r,0,none⟩)] 94 (0,0))∧w1.heap[w.heap.size+1]?=some (yV 6 s n base m cap line)∧w1.heap[w.heap.size+2]?=some (.cells #[.int .i64 D] 3 (0,0))):=⟨e0,e1,e2⟩;have HK0:=hS;have ci:=ZV 6 s n base m cap line w1 (hl.env hW1.env);rw [hex] at ci;have HW1:Hid (zx w0 r q t w1):=hW1;have hw1':=hw1.symm;have b0:=ze e0;obtain ⟨c0,c1,c2,c3,c4⟩:=zE e1;have b2:=ze e2;have hD0:(0:Int)<D:=by omega
 clear hS;generalize X=X0 at *;have HR:Hid (R=X0):=hR;clear hR hW1 e0 e1 e2 hw1 hb1 h hl hex
 go_enter Tryz.func52,Tryz.ntmps52
 go_wp2_with fail
 refine ci.mono ?_;clear ci b0 b2 c0 c1 c2 c3 c4;rintro e w2 ⟨rfl,hb2⟩;have HL2:Hid (zq r q w w1 q w2):=HL1.out.step (zN.below hb2);have HW2:Hid (zx w0 r q t w2):=HW1.out.below hb2;clear hb2;have ca:=zW true w2;go_wp2_with fail
 refine ca.mono ?_;clear ca;rintro e w3 ⟨rfl,rfl⟩;simp only [YW];have b0:=ze ((HL2.out.block (w.heap.size) (Nat.le_refl _) (by omega)).trans HP1.out.1)
 obtain ⟨c0,c1,c2,c3,c4⟩:=zE ((HL2.out.block (w.heap.size+1) (by omega) (by omega)).trans HP1.out.2.1)
 have b2:=ze ((HL2.out.block (w.heap.size+2) (by omega) (by omega)).trans HP1.out.2.2)
 have HL3:Hid (zq r q w w1 q w3):=HL2.out;have HW3:Hid (zx w0 r q t w3):=HW2.out;clear HL1 HW1 HL2 HW2;have cp:=HK0.out q (t) w3 HW3.out;go_wp2_with fail
 refine cp.mono ?_;clear cp b0 b2 c0 c1 c2 c3 c4;rintro e w4 ⟨q4,hto4,hp4⟩;cases X0 with
 | none=>subst hp4;obtain rfl:R=none:=HR.out;exact ⟨rfl,q4,(HL3.out.step hto4).unto,rfl⟩
 | some u0 =>
 obtain ⟨rfl,hw4⟩:=hp4;have HL4:Hid (zq r q w w1 q4 w4):=HL3.out.step hto4;have HW4:Hid (zx w0 r q4 (t++u0) w4):=hw4;clear hto4 hw4;have b0:=ze ((HL4.out.block (w.heap.size) (Nat.le_refl _) (by omega)).trans HP1.out.1)
 obtain ⟨c0,c1,c2,c3,c4⟩:=zE ((HL4.out.block (w.heap.size+1) (by omega) (by omega)).trans HP1.out.2.1)
 have b2:=ze ((HL4.out.block (w.heap.size+2) (by omega) (by omega)).trans HP1.out.2.2)
 obtain rfl:R=some (u0):=HR.out;have HP:Hid (zm w0 r q t w (some (u0)) (.returned (.tuple #[])) w4):=⟨q4,HL4.out.unto,rfl,by have:=HW4.out;simpa only [List.append_assoc] using this⟩
 clear HL3 HW3 HL4 HW4 b0 b2 c0 c1 c2 c3 c4 HR HP1 HK0;go_wp2
 exact bodyPost_ret (v:=.tuple #[]) (by simp [results,Tryz.results52,go_sem]) rfl HP.out
theorem zeO (w0:World) (D:Int) (hD1:1≤D) (hD2:D≤24) (hl:Zy w0) (s:List UInt8) (n line:Int) (base:Option Addr) (m cap r:Nat) (q:Option Nat) (t:List UInt8) (w:World) (h:zx w0 r q t w) (hex:YP 7 s n m=true) (X:Option (List UInt8)) (hS:Hid (∀(q:Option Nat) (t:List UInt8) (w:World),zx w0 r q t w→Calls Tryz.prog 94 #[.pointer (some ⟨r,0,none⟩),yv 7 s n base m cap line,.int .i64 D] w (zm w0 r q t w X))) :
  Calls Tryz.prog 52 #[.pointer (some ⟨r,0,none⟩),yv 7 s n base m cap line,.int .i64 D] w (zm w0 r q t w (X)):=by
 have hmf:∀(fn:Fn) (first cap:Array Value) (w:World),(Instr.makeFunc fn first cap).run Tryz.prog w=.ok (.func fn first cap) w:=fun _ _ _ _=>rfl
 obtain ⟨R,hR⟩:∃R,R=X:=⟨_,rfl⟩;rw [←hR];obtain ⟨w1,hw1⟩:∃w1,w1=qo w r 7 s n base m cap line D:=⟨_,rfl⟩;obtain ⟨hb1,hsz1,e0,e1,e2⟩:=yJ w r 7 s n base m cap line D;rw [←hw1] at hb1 hsz1 e0 e1 e2;have hW1:=h.below hb1;have HL1:Hid (zq r q w w1 q w1):=zq.start h hb1;have HP1:Hid (w1.heap[w.heap.size]?=some (.cells #[.pointer (some ⟨r,0,none⟩)] 94 (0,0))∧w1.heap[w.heap.size+1]?=some (yV 7 s n base m cap line)∧w1.heap[w.heap.size+2]?=some (.cells #[.int .i64 D] 3 (0,0))):=⟨e0,e1,e2⟩;have HK0:=hS;have ci:=ZV 7 s n base m cap line w1 (hl.env hW1.env);rw [hex] at ci;have HW1:Hid (zx w0 r q t w1):=hW1;have hw1':=hw1.symm;have b0:=ze e0;obtain ⟨c0,c1,c2,c3,c4⟩:=zE e1;have b2:=ze e2;have hD0:(0:Int)<D:=by omega
 clear hS;generalize X=X0 at *;have HR:Hid (R=X0):=hR;clear hR hW1 e0 e1 e2 hw1 hb1 h hl hex
 go_enter Tryz.func52,Tryz.ntmps52
 go_wp2_with fail
 refine ci.mono ?_;clear ci b0 b2 c0 c1 c2 c3 c4;rintro e w2 ⟨rfl,hb2⟩;have HL2:Hid (zq r q w w1 q w2):=HL1.out.step (zN.below hb2);have HW2:Hid (zx w0 r q t w2):=HW1.out.below hb2;clear hb2;have ca:=zW true w2;go_wp2_with fail
 refine ca.mono ?_;clear ca;rintro e w3 ⟨rfl,rfl⟩;simp only [YW];have b0:=ze ((HL2.out.block (w.heap.size) (Nat.le_refl _) (by omega)).trans HP1.out.1)
 obtain ⟨c0,c1,c2,c3,c4⟩:=zE ((HL2.out.block (w.heap.size+1) (by omega) (by omega)).trans HP1.out.2.1)
 have b2:=ze ((HL2.out.block (w.heap.size+2) (by omega) (by omega)).trans HP1.out.2.2)
 have HL3:Hid (zq r q w w1 q w3):=HL2.out;have HW3:Hid (zx w0 r q t w3):=HW2.out;clear HL1 HW1 HL2 HW2;have cp:=HK0.out q (t) w3 HW3.out;go_wp2_with fail
 refine cp.mono ?_;clear cp b0 b2 c0 c1 c2 c3 c4;rintro e w4 ⟨q4,hto4,hp4⟩;cases X0 with
 | none=>subst hp4;obtain rfl:R=none:=HR.out;exact ⟨rfl,q4,(HL3.out.step hto4).unto,rfl⟩
 | some u0 =>
 obtain ⟨rfl,hw4⟩:=hp4;have HL4:Hid (zq r q w w1 q4 w4):=HL3.out.step hto4;have HW4:Hid (zx w0 r q4 (t++u0) w4):=hw4;clear hto4 hw4;have b0:=ze ((HL4.out.block (w.heap.size) (Nat.le_refl _) (by omega)).trans HP1.out.1)
 obtain ⟨c0,c1,c2,c3,c4⟩:=zE ((HL4.out.block (w.heap.size+1) (by omega) (by omega)).trans HP1.out.2.1)
 have b2:=ze ((HL4.out.block (w.heap.size+2) (by omega) (by omega)).trans HP1.out.2.2)
 obtain rfl:R=some (u0):=HR.out;have HP:Hid (zm w0 r q t w (some (u0)) (.returned (.tuple #[])) w4):=⟨q4,HL4.out.unto,rfl,by have:=HW4.out;simpa only [List.append_assoc] using this⟩
 clear HL3 HW3 HL4 HW4 b0 b2 c0 c1 c2 c3 c4 HR HP1 HK0;go_wp2
 exact bodyPost_ret (v:=.tuple #[]) (by simp [results,Tryz.results52,go_sem]) rfl HP.out
theorem zeP (w0:World) (D:Int) (hD1:1≤D) (hD2:D≤24) (hl:Zy w0) (s:List UInt8) (n line:Int) (base:Option Addr) (m cap r:Nat) (q:Option Nat) (t:List UInt8) (w:World) (h:zx w0 r q t w) (hex:YP 8 s n m=true) (X:Option (List UInt8)) (hS:Hid (∀(q:Option Nat) (t:List UInt8) (w:World),zx w0 r q t w→Calls Tryz.prog 94 #[.pointer (some ⟨r,0,none⟩),yv 8 s n base m cap line,.int .i64 D] w (zm w0 r q t w X))) :
  Calls Tryz.prog 52 #[.pointer (some ⟨r,0,none⟩),yv 8 s n base m cap line,.int .i64 D] w (zm w0 r q t w (X)):=by
 have hmf:∀(fn:Fn) (first cap:Array Value) (w:World),(Instr.makeFunc fn first cap).run Tryz.prog w=.ok (.func fn first cap) w:=fun _ _ _ _=>rfl
 obtain ⟨R,hR⟩:∃R,R=X:=⟨_,rfl⟩;rw [←hR];obtain ⟨w1,hw1⟩:∃w1,w1=qo w r 8 s n base m cap line D:=⟨_,rfl⟩;obtain ⟨hb1,hsz1,e0,e1,e2⟩:=yJ w r 8 s n base m cap line D;rw [←hw1] at hb1 hsz1 e0 e1 e2;have hW1:=h.below hb1;have HL1:Hid (zq r q w w1 q w1):=zq.start h hb1;have HP1:Hid (w1.heap[w.heap.size]?=some (.cells #[.pointer (some ⟨r,0,none⟩)] 94 (0,0))∧w1.heap[w.heap.size+1]?=some (yV 8 s n base m cap line)∧w1.heap[w.heap.size+2]?=some (.cells #[.int .i64 D] 3 (0,0))):=⟨e0,e1,e2⟩;have HK0:=hS;have ci:=ZV 8 s n base m cap line w1 (hl.env hW1.env);rw [hex] at ci;have HW1:Hid (zx w0 r q t w1):=hW1;have hw1':=hw1.symm;have b0:=ze e0;obtain ⟨c0,c1,c2,c3,c4⟩:=zE e1;have b2:=ze e2;have hD0:(0:Int)<D:=by omega
 clear hS;generalize X=X0 at *;have HR:Hid (R=X0):=hR;clear hR hW1 e0 e1 e2 hw1 hb1 h hl hex
 go_enter Tryz.func52,Tryz.ntmps52
 go_wp2_with fail
 refine ci.mono ?_;clear ci b0 b2 c0 c1 c2 c3 c4;rintro e w2 ⟨rfl,hb2⟩;have HL2:Hid (zq r q w w1 q w2):=HL1.out.step (zN.below hb2);have HW2:Hid (zx w0 r q t w2):=HW1.out.below hb2;clear hb2;have ca:=zW true w2;go_wp2_with fail
 refine ca.mono ?_;clear ca;rintro e w3 ⟨rfl,rfl⟩;simp only [YW];have b0:=ze ((HL2.out.block (w.heap.size) (Nat.le_refl _) (by omega)).trans HP1.out.1)
 obtain ⟨c0,c1,c2,c3,c4⟩:=zE ((HL2.out.block (w.heap.size+1) (by omega) (by omega)).trans HP1.out.2.1)
 have b2:=ze ((HL2.out.block (w.heap.size+2) (by omega) (by omega)).trans HP1.out.2.2)
 have HL3:Hid (zq r q w w1 q w3):=HL2.out;have HW3:Hid (zx w0 r q t w3):=HW2.out;clear HL1 HW1 HL2 HW2;have cp:=HK0.out q (t) w3 HW3.out;go_wp2_with fail
 refine cp.mono ?_;clear cp b0 b2 c0 c1 c2 c3 c4;rintro e w4 ⟨q4,hto4,hp4⟩;cases X0 with
 | none=>subst hp4;obtain rfl:R=none:=HR.out;exact ⟨rfl,q4,(HL3.out.step hto4).unto,rfl⟩
 | some u0 =>
 obtain ⟨rfl,hw4⟩:=hp4;have HL4:Hid (zq r q w w1 q4 w4):=HL3.out.step hto4;have HW4:Hid (zx w0 r q4 (t++u0) w4):=hw4;clear hto4 hw4;have b0:=ze ((HL4.out.block (w.heap.size) (Nat.le_refl _) (by omega)).trans HP1.out.1)
 obtain ⟨c0,c1,c2,c3,c4⟩:=zE ((HL4.out.block (w.heap.size+1) (by omega) (by omega)).trans HP1.out.2.1)
 have b2:=ze ((HL4.out.block (w.heap.size+2) (by omega) (by omega)).trans HP1.out.2.2)
 obtain rfl:R=some (u0):=HR.out;have HP:Hid (zm w0 r q t w (some (u0)) (.returned (.tuple #[])) w4):=⟨q4,HL4.out.unto,rfl,by have:=HW4.out;simpa only [List.append_assoc] using this⟩
 clear HL3 HW3 HL4 HW4 b0 b2 c0 c1 c2 c3 c4 HR HP1 HK0;go_wp2
 exact bodyPost_ret (v:=.tuple #[]) (by simp [results,Tryz.results52,go_sem]) rfl HP.out
theorem zeQ (w0:World) (D:Int) (hD1:1≤D) (hD2:D≤24) (hl:Zy w0) (s:List UInt8) (n line:Int) (base:Option Addr) (m cap r:Nat) (q:Option Nat) (t:List UInt8) (w:World) (h:zx w0 r q t w) (hex:YP 9 s n m=true) (X:Option (List UInt8)) (hS:Hid (∀(q:Option Nat) (t:List UInt8) (w:World),zx w0 r q t w→Calls Tryz.prog 94 #[.pointer (some ⟨r,0,none⟩),yv 9 s n base m cap line,.int .i64 D] w (zm w0 r q t w X))) :
  Calls Tryz.prog 52 #[.pointer (some ⟨r,0,none⟩),yv 9 s n base m cap line,.int .i64 D] w (zm w0 r q t w (X)):=by
 have hmf:∀(fn:Fn) (first cap:Array Value) (w:World),(Instr.makeFunc fn first cap).run Tryz.prog w=.ok (.func fn first cap) w:=fun _ _ _ _=>rfl
 obtain ⟨R,hR⟩:∃R,R=X:=⟨_,rfl⟩;rw [←hR];obtain ⟨w1,hw1⟩:∃w1,w1=qo w r 9 s n base m cap line D:=⟨_,rfl⟩;obtain ⟨hb1,hsz1,e0,e1,e2⟩:=yJ w r 9 s n base m cap line D;rw [←hw1] at hb1 hsz1 e0 e1 e2;have hW1:=h.below hb1;have HL1:Hid (zq r q w w1 q w1):=zq.start h hb1;have HP1:Hid (w1.heap[w.heap.size]?=some (.cells #[.pointer (some ⟨r,0,none⟩)] 94 (0,0))∧w1.heap[w.heap.size+1]?=some (yV 9 s n base m cap line)∧w1.heap[w.heap.size+2]?=some (.cells #[.int .i64 D] 3 (0,0))):=⟨e0,e1,e2⟩;have HK0:=hS;have ci:=ZV 9 s n base m cap line w1 (hl.env hW1.env);rw [hex] at ci;have HW1:Hid (zx w0 r q t w1):=hW1;have hw1':=hw1.symm;have b0:=ze e0;obtain ⟨c0,c1,c2,c3,c4⟩:=zE e1;have b2:=ze e2;have hD0:(0:Int)<D:=by omega
 clear hS;generalize X=X0 at *;have HR:Hid (R=X0):=hR;clear hR hW1 e0 e1 e2 hw1 hb1 h hl hex
 go_enter Tryz.func52,Tryz.ntmps52
 go_wp2_with fail
 refine ci.mono ?_;clear ci b0 b2 c0 c1 c2 c3 c4;rintro e w2 ⟨rfl,hb2⟩;have HL2:Hid (zq r q w w1 q w2):=HL1.out.step (zN.below hb2);have HW2:Hid (zx w0 r q t w2):=HW1.out.below hb2;clear hb2;have ca:=zW true w2;go_wp2_with fail
 refine ca.mono ?_;clear ca;rintro e w3 ⟨rfl,rfl⟩;simp only [YW];have b0:=ze ((HL2.out.block (w.heap.size) (Nat.le_refl _) (by omega)).trans HP1.out.1)
 obtain ⟨c0,c1,c2,c3,c4⟩:=zE ((HL2.out.block (w.heap.size+1) (by omega) (by omega)).trans HP1.out.2.1)
 have b2:=ze ((HL2.out.block (w.heap.size+2) (by omega) (by omega)).trans HP1.out.2.2)
 have HL3:Hid (zq r q w w1 q w3):=HL2.out;have HW3:Hid (zx w0 r q t w3):=HW2.out;clear HL1 HW1 HL2 HW2;have cp:=HK0.out q (t) w3 HW3.out;go_wp2_with fail
 refine cp.mono ?_;clear cp b0 b2 c0 c1 c2 c3 c4;rintro e w4 ⟨q4,hto4,hp4⟩;cases X0 with
 | none=>subst hp4;obtain rfl:R=none:=HR.out;exact ⟨rfl,q4,(HL3.out.step hto4).unto,rfl⟩
 | some u0 =>
 obtain ⟨rfl,hw4⟩:=hp4;have HL4:Hid (zq r q w w1 q4 w4):=HL3.out.step hto4;have HW4:Hid (zx w0 r q4 (t++u0) w4):=hw4;clear hto4 hw4;have b0:=ze ((HL4.out.block (w.heap.size) (Nat.le_refl _) (by omega)).trans HP1.out.1)
 obtain ⟨c0,c1,c2,c3,c4⟩:=zE ((HL4.out.block (w.heap.size+1) (by omega) (by omega)).trans HP1.out.2.1)
 have b2:=ze ((HL4.out.block (w.heap.size+2) (by omega) (by omega)).trans HP1.out.2.2)
 obtain rfl:R=some (u0):=HR.out;have HP:Hid (zm w0 r q t w (some (u0)) (.returned (.tuple #[])) w4):=⟨q4,HL4.out.unto,rfl,by have:=HW4.out;simpa only [List.append_assoc] using this⟩
 clear HL3 HW3 HL4 HW4 b0 b2 c0 c1 c2 c3 c4 HR HP1 HK0;go_wp2
 exact bodyPost_ret (v:=.tuple #[]) (by simp [results,Tryz.results52,go_sem]) rfl HP.out
theorem zeR (w0:World) (D:Int) (hD1:1≤D) (hD2:D≤24) (hl:Zy w0) (s:List UInt8) (n line:Int) (base:Option Addr) (m cap r:Nat) (q:Option Nat) (t:List UInt8) (w:World) (h:zx w0 r q t w) (k:Int) (hex:YP k s n m=false) :
  Calls Tryz.prog 52 #[.pointer (some ⟨r,0,none⟩),yv k s n base m cap line,.int .i64 D] w (zm w0 r q t w none):=by
 have hmf:∀(fn:Fn) (first cap:Array Value) (w:World),(Instr.makeFunc fn first cap).run Tryz.prog w=.ok (.func fn first cap) w:=fun _ _ _ _=>rfl
 obtain ⟨R,hR⟩:∃R,R=(none:Option (List UInt8)):=⟨_,rfl⟩;rw [←hR];obtain ⟨w1,hw1⟩:∃w1,w1=qo w r k s n base m cap line D:=⟨_,rfl⟩;obtain ⟨hb1,hsz1,e0,e1,e2⟩:=yJ w r k s n base m cap line D;rw [←hw1] at hb1 hsz1 e0 e1 e2;have hW1:=h.below hb1;have HL1:Hid (zq r q w w1 q w1):=zq.start h hb1;have HP1:Hid (w1.heap[w.heap.size]?=some (.cells #[.pointer (some ⟨r,0,none⟩)] 94 (0,0))∧w1.heap[w.heap.size+1]?=some (yV k s n base m cap line)∧w1.heap[w.heap.size+2]?=some (.cells #[.int .i64 D] 3 (0,0))):=⟨e0,e1,e2⟩;have ci:=ZV k s n base m cap line w1 (hl.env hW1.env);rw [hex] at ci;have HW1:Hid (zx w0 r q t w1):=hW1;have hw1':=hw1.symm;have b0:=ze e0;obtain ⟨c0,c1,c2,c3,c4⟩:=zE e1;have b2:=ze e2;have hD0:(0:Int)<D:=by omega
 have HR:Hid (R=none):=hR;clear hR hW1 e0 e1 e2 hw1 hb1 h hl hex
 go_enter Tryz.func52,Tryz.ntmps52
 go_wp2_with fail
 refine ci.mono ?_;clear ci b0 b2 c0 c1 c2 c3 c4;rintro e w2 ⟨rfl,hb2⟩;have HL2:Hid (zq r q w w1 q w2):=HL1.out.step (zN.below hb2);have HW2:Hid (zx w0 r q t w2):=HW1.out.below hb2;clear hb2;have ca:=zW false w2;go_wp2_with fail
 refine ca.mono ?_;clear ca;rintro e w3 ⟨rfl,rfl⟩;obtain rfl:=HR.out;exact ⟨rfl,q,HL2.out.unto,rfl⟩
theorem zcU (w0:World) (k:Int) (s:List UInt8) (n line:Int) (base:Option Addr) (m cap r:Nat) (q:Option Nat) (t:List UInt8) (w:World) (h:zx w0 r q t w) :
  Calls Tryz.prog 52 #[.pointer (some ⟨r,0,none⟩),yv k s n base m cap line,.int .i64 0] w (zm w0 r q t w none):=by
 obtain ⟨w1,hw1⟩:∃w1,w1=qo w r k s n base m cap line 0:=⟨_,rfl⟩;obtain ⟨hb1,hsz1,e0,e1,e2⟩:=yJ w r k s n base m cap line 0;rw [←hw1] at hb1 hsz1 e0 e1 e2;have HL1:Hid (zq r q w w1 q w1):=zq.start h hb1;have hw1':=hw1.symm;have b2:=ze e2;have ca:=zW false w1;clear hb1 e0 e1 e2 hw1 h
 go_enter Tryz.func52,Tryz.ntmps52
 go_wp2_with fail
 refine ca.mono ?_;clear ca;rintro e w3 ⟨rfl,rfl⟩;exact ⟨rfl,q,HL1.out.unto,rfl⟩
end Go.Proofs.YtdgpapchkpnijaaGreatDoor
