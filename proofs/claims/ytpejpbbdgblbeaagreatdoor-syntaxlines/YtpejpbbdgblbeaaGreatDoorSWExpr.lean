import Derived.Test.YtpejpbbdgblbeaaGreatDoorMC10
namespace Go.Proofs.YtpejpbbdgblbeaaGreatDoor
open Go.RowKit Go.Shelf
set_option maxHeartbeats 16000000
set_option maxRecDepth 100000
theorem Vy (w0:World) (d:Nat) (D:Int) (hD:D-1=(d:Int)) (_hD1:1≤D) (hD2:D≤24) (hX:yD w0 d) (x:Ez) (v:Value) (bw bd r:Nat) (q:Option Nat) (t:List UInt8) (w:World) (hx:Zs w0.heap.size w0 x v) (h:zu w0 r q t w) (hcw:w.cell? ⟨bw,0,none⟩=some (.pointer (some ⟨r,0,none⟩))) (hcd:w.cell? ⟨bd,0,none⟩=some (.int .i64 D)) :
  Calls Tryz.prog 79 #[v,.pointer (some ⟨bw,0,none⟩),.pointer (some ⟨bd,0,none⟩)] w (zk w0 r q t w (prE d x)):=by
 have O:=hx;obtain ⟨k,s,n,kids,line,A,N,b,o,us,hs,aa,ab,G,Q,hc,hm,I,J,Z⟩:=hx;obtain ⟨w1,y⟩:∃w1,w1=w.alloc (Yi k s n A kids.length N line):=⟨_,rfl⟩;have H:Below w.heap.size w w1:=by rw [y];exact (Below.refl _ w).alloc (Nat.le_refl _) _
 have U:w1.heap[w.heap.size]?=some (Yi k s n A kids.length N line):=by rw [y];exact World.alloc_heap_new w _
 have T:=hX _ _ r q t w1 O (h.below H);have Y:w1.cell? ⟨bw,0,none⟩=some (.pointer (some ⟨r,0,none⟩)):=by rw [y];exact zj hcw _
 have d2:w1.cell? ⟨bd,0,none⟩=some (.int .i64 D):=by rw [y];exact zj hcd _
 have K:Hid (zP r q w q w1):=zP.below H;generalize prE d (.mk k s n kids line)=X at *;generalize kids.length=m at *;obtain ⟨c0,c1,c2,c3,c4⟩:=zF U;have V:=y.symm;clear y U H h O hX G Q hc I J Z hcw hcd
 go_enter Tryz.func79,Tryz.ntmps79
 go_wp2_with fail
 refine T.mono ?_;clear T;rintro e w2 ⟨W,z,R⟩;cases X with
 | none=>subst R;exact ⟨rfl,W,K.out.trans z,rfl⟩
 | some u =>
  obtain ⟨rfl,L⟩:=R;have HP:Hid (zk w0 r q t w (some u) (.returned (.tuple #[])) w2):=⟨W,K.out.trans z,rfl,L⟩;clear z L K c0 c1 c2 c3 c4 Y d2;go_wp2
  exact bodyPost_ret (v:=.tuple #[]) (by simp [results,Tryz.results79,go_sem]) rfl HP.out
abbrev qH (w:World) (r:Nat) (k:Int) (s:List UInt8) (n:Int) (base:Option Addr) (m cap:Nat) (line D:Int):World:=((w.alloc (.cells #[.pointer (some ⟨r,0,none⟩)] 85)).alloc (Yi k s n base m cap line)).alloc (.cells #[.int .i64 D] 3)
theorem yE (w:World) (r:Nat) (k:Int) (s:List UInt8) (n:Int) (base:Option Addr) (m cap:Nat) (line D:Int) :
  Below w.heap.size w (qH w r k s n base m cap line D)∧(qH w r k s n base m cap line D).heap.size=w.heap.size+3∧(qH w r k s n base m cap line D).heap[w.heap.size]?=some (.cells #[.pointer (some ⟨r,0,none⟩)] 85 (0,0))∧(qH w r k s n base m cap line D).heap[w.heap.size+1]?=some (Yi k s n base m cap line)∧(qH w r k s n base m cap line D).heap[w.heap.size+2]?=some (.cells #[.int .i64 D] 3 (0,0)):=by
 refine ⟨(((Below.refl _ w).alloc (Nat.le_refl _) _).alloc (by simp) _).alloc (by simp <;> omega) _,by simp,?_,?_,?_⟩
 ·rw [Below.heap_alloc _ _ _ (by simp <;> omega),Below.heap_alloc _ _ _ (by simp)];exact World.alloc_heap_new _ _
 ·rw [Below.heap_alloc _ _ _ (by simp)]
  have:=World.alloc_heap_new (w.alloc (.cells #[.pointer (some ⟨r,0,none⟩)] 85)) (Yi k s n base m cap line)
  simpa using this
 ·have:=World.alloc_heap_new ((w.alloc (.cells #[.pointer (some ⟨r,0,none⟩)] 85)).alloc (Yi k s n base m cap line)) (.cells #[.int .i64 D] 3)
  simpa using this
theorem ze {w:World} {N:Nat} {v:Value} {ty:TypeId} (p:w.heap[N]?=some (.cells #[v] ty (0,0))):w.cell? ⟨N,0,none⟩=some v:=by simp only [World.cell?,p];rfl
theorem Zz.env {w0 w:World} (h:Zz w0) (hb:Below w0.heap.size w0 w):Zz w:=fun j v hj=>by rw [hb.cell (World.block_lt_of_cell? w0 _ (h j v hj))];exact h j v hj
theorem zfP (w0:World) (D:Int) (hD1:1≤D) (hD2:D≤24) (hT:ZC w0) (hl:Zz w0) (s:List UInt8) (n line:Int) (base:Option Addr) (m cap r:Nat) (q:Option Nat) (t:List UInt8) (w:World) (h:zu w0 r q t w) (hex:YN 1 s n m=true) (hn0:-9223372036854775808≤n) (hn1:n≤9223372036854775807) :
  Calls Tryz.prog 42 #[.pointer (some ⟨r,0,none⟩),yu 1 s n base m cap line,.int .i64 D] w (zk w0 r q t w (tokO 2 n [])):=by
 have ag:∀(fn:Fn) (first cap:Array Value) (w:World),(Instr.makeFunc fn first cap).run Tryz.prog w=.ok (.func fn first cap) w:=fun _ _ _ _=>rfl
 obtain ⟨R,hR⟩:∃R,R=tokO 2 n []:=⟨_,rfl⟩;rw [←hR];obtain ⟨y,J⟩:∃y,y=qH w r 1 s n base m cap line D:=⟨_,rfl⟩;obtain ⟨H,Y,e0,e1,e2⟩:=yE w r 1 s n base m cap line D;rw [←J] at H Y e0 e1 e2;have K:=h.below H;have Q:Hid (zp r q w y q y):=zp.start h H;have o:Hid (y.heap[w.heap.size]?=some (.cells #[.pointer (some ⟨r,0,none⟩)] 85 (0,0))∧y.heap[w.heap.size+1]?=some (Yi 1 s n base m cap line)∧y.heap[w.heap.size+2]?=some (.cells #[.int .i64 D] 3 (0,0))):=⟨e0,e1,e2⟩;have ae:Hid (∀(q:Option Nat) (t:List UInt8) (w:World),zu w0 r q t w→Calls Tryz.prog 80 #[.pointer (some ⟨r,0,none⟩),.agg #[.int .i64 2,.string (zb []),.int .i64 n,.int .i64 0,.int .i64 0]] w (zk w0 r q t w (tokO 2 n []))):=fun q t w h=>uG w0 r q t 2 n 0 0 [] w hT h hn0 hn1 (by simp)
 have ci:=ZS 1 s n base m cap line y (hl.env K.env);rw [hex] at ci;have ad:Hid (zu w0 r q t y):=K;have af:=J.symm;have b0:=ze e0;obtain ⟨V,c1,c2,Z,U⟩:=zF e1;have T:=ze e2;have ah:(0:Int)<D:=by omega
 generalize tokO 2 n []=X0 at *;have HR:Hid (R=X0):=hR;clear hR K e0 e1 e2 J H h hl hex hT
 go_enter Tryz.func42,Tryz.ntmps42
 go_wp2_with fail
 refine ci.mono ?_;clear ci b0 T V c1 c2 Z U;rintro e w2 ⟨rfl,L⟩;have G:Hid (zp r q w y q w2):=Q.out.step (zP.below L);have N:Hid (zu w0 r q t w2):=ad.out.below L;clear L;have ca:=zX true w2;go_wp2_with fail
 refine ca.mono ?_;clear ca;rintro e w3 ⟨rfl,rfl⟩;simp only [YW];have b0:=ze ((G.out.block (w.heap.size) (Nat.le_refl _) (by omega)).trans o.out.1)
 obtain ⟨V,c1,c2,Z,U⟩:=zF ((G.out.block (w.heap.size+1) (by omega) (by omega)).trans o.out.2.1)
 have T:=ze ((G.out.block (w.heap.size+2) (by omega) (by omega)).trans o.out.2.2)
 have I:Hid (zp r q w y q w3):=G.out;have O:Hid (zu w0 r q t w3):=N.out;clear Q ad G N;have cp:=ae.out q (t) w3 O.out;go_wp2_with fail
 refine cp.mono ?_;clear cp b0 T V c1 c2 Z U;rintro e w4 ⟨q4,A,W⟩;cases X0 with
 | none=>subst W;obtain rfl:R=none:=HR.out;exact ⟨rfl,q4,(I.out.step A).unto,rfl⟩
 | some u0 =>
 obtain ⟨rfl,ab⟩:=W;have z:Hid (zp r q w y q4 w4):=I.out.step A;have aa:Hid (zu w0 r q4 (t++u0) w4):=ab;clear A ab;have b0:=ze ((z.out.block (w.heap.size) (Nat.le_refl _) (by omega)).trans o.out.1)
 obtain ⟨V,c1,c2,Z,U⟩:=zF ((z.out.block (w.heap.size+1) (by omega) (by omega)).trans o.out.2.1)
 have T:=ze ((z.out.block (w.heap.size+2) (by omega) (by omega)).trans o.out.2.2)
 obtain rfl:R=some (u0):=HR.out;have HP:Hid (zk w0 r q t w (some (u0)) (.returned (.tuple #[])) w4):=⟨q4,z.out.unto,rfl,by have:=aa.out;simpa only [List.append_assoc] using this⟩
 clear I O z aa b0 T V c1 c2 Z U HR o ae;go_wp2
 exact bodyPost_ret (v:=.tuple #[]) (by simp [results,Tryz.results42,go_sem]) rfl HP.out
theorem zfQ (w0:World) (D:Int) (hD1:1≤D) (hD2:D≤24) (hT:ZC w0) (hl:Zz w0) (s:List UInt8) (n line:Int) (base:Option Addr) (m cap r:Nat) (q:Option Nat) (t:List UInt8) (w:World) (h:zu w0 r q t w) (hex:YN 3 s n m=true) (hs:s.length≤100000000) :
  Calls Tryz.prog 42 #[.pointer (some ⟨r,0,none⟩),yu 3 s n base m cap line,.int .i64 D] w (zk w0 r q t w (tokO 3 0 s)):=by
 have ag:∀(fn:Fn) (first cap:Array Value) (w:World),(Instr.makeFunc fn first cap).run Tryz.prog w=.ok (.func fn first cap) w:=fun _ _ _ _=>rfl
 obtain ⟨R,hR⟩:∃R,R=tokO 3 0 s:=⟨_,rfl⟩;rw [←hR];obtain ⟨y,J⟩:∃y,y=qH w r 3 s n base m cap line D:=⟨_,rfl⟩;obtain ⟨H,Y,e0,e1,e2⟩:=yE w r 3 s n base m cap line D;rw [←J] at H Y e0 e1 e2;have K:=h.below H;have Q:Hid (zp r q w y q y):=zp.start h H;have o:Hid (y.heap[w.heap.size]?=some (.cells #[.pointer (some ⟨r,0,none⟩)] 85 (0,0))∧y.heap[w.heap.size+1]?=some (Yi 3 s n base m cap line)∧y.heap[w.heap.size+2]?=some (.cells #[.int .i64 D] 3 (0,0))):=⟨e0,e1,e2⟩;have ae:Hid (∀(q:Option Nat) (t:List UInt8) (w:World),zu w0 r q t w→Calls Tryz.prog 80 #[.pointer (some ⟨r,0,none⟩),.agg #[.int .i64 3,.string (zb s),.int .i64 0,.int .i64 0,.int .i64 0]] w (zk w0 r q t w (tokO 3 0 s))):=fun q t w h=>uG w0 r q t 3 0 0 0 s w hT h (by omega) (by omega) hs
 have ci:=ZS 3 s n base m cap line y (hl.env K.env);rw [hex] at ci;have ad:Hid (zu w0 r q t y):=K;have af:=J.symm;have b0:=ze e0;obtain ⟨V,c1,c2,Z,U⟩:=zF e1;have T:=ze e2;have ah:(0:Int)<D:=by omega
 generalize tokO 3 0 s=X0 at *;have HR:Hid (R=X0):=hR;clear hR K e0 e1 e2 J H h hl hex hT
 go_enter Tryz.func42,Tryz.ntmps42
 go_wp2_with fail
 refine ci.mono ?_;clear ci b0 T V c1 c2 Z U;rintro e w2 ⟨rfl,L⟩;have G:Hid (zp r q w y q w2):=Q.out.step (zP.below L);have N:Hid (zu w0 r q t w2):=ad.out.below L;clear L;have ca:=zX true w2;go_wp2_with fail
 refine ca.mono ?_;clear ca;rintro e w3 ⟨rfl,rfl⟩;simp only [YW];have b0:=ze ((G.out.block (w.heap.size) (Nat.le_refl _) (by omega)).trans o.out.1)
 obtain ⟨V,c1,c2,Z,U⟩:=zF ((G.out.block (w.heap.size+1) (by omega) (by omega)).trans o.out.2.1)
 have T:=ze ((G.out.block (w.heap.size+2) (by omega) (by omega)).trans o.out.2.2)
 have I:Hid (zp r q w y q w3):=G.out;have O:Hid (zu w0 r q t w3):=N.out;clear Q ad G N;have cp:=ae.out q (t) w3 O.out;go_wp2_with fail
 refine cp.mono ?_;clear cp b0 T V c1 c2 Z U;rintro e w4 ⟨q4,A,W⟩;cases X0 with
 | none=>subst W;obtain rfl:R=none:=HR.out;exact ⟨rfl,q4,(I.out.step A).unto,rfl⟩
 | some u0 =>
 obtain ⟨rfl,ab⟩:=W;have z:Hid (zp r q w y q4 w4):=I.out.step A;have aa:Hid (zu w0 r q4 (t++u0) w4):=ab;clear A ab;have b0:=ze ((z.out.block (w.heap.size) (Nat.le_refl _) (by omega)).trans o.out.1)
 obtain ⟨V,c1,c2,Z,U⟩:=zF ((z.out.block (w.heap.size+1) (by omega) (by omega)).trans o.out.2.1)
 have T:=ze ((z.out.block (w.heap.size+2) (by omega) (by omega)).trans o.out.2.2)
 obtain rfl:R=some (u0):=HR.out;have HP:Hid (zk w0 r q t w (some (u0)) (.returned (.tuple #[])) w4):=⟨q4,z.out.unto,rfl,by have:=aa.out;simpa only [List.append_assoc] using this⟩
 clear I O z aa b0 T V c1 c2 Z U HR o ae;go_wp2
 exact bodyPost_ret (v:=.tuple #[]) (by simp [results,Tryz.results42,go_sem]) rfl HP.out
theorem zfR (w0:World) (D:Int) (hD1:1≤D) (hD2:D≤24) (hT:ZC w0) (hl:Zz w0) (s:List UInt8) (n line:Int) (base:Option Addr) (m cap r:Nat) (q:Option Nat) (t:List UInt8) (w:World) (h:zu w0 r q t w) (hex:YN 4 s n m=true) (hs:s.length≤100000000) :
  Calls Tryz.prog 42 #[.pointer (some ⟨r,0,none⟩),yu 4 s n base m cap line,.int .i64 D] w (zk w0 r q t w (tokO 1 0 s)):=by
 have ag:∀(fn:Fn) (first cap:Array Value) (w:World),(Instr.makeFunc fn first cap).run Tryz.prog w=.ok (.func fn first cap) w:=fun _ _ _ _=>rfl
 obtain ⟨R,hR⟩:∃R,R=tokO 1 0 s:=⟨_,rfl⟩;rw [←hR];obtain ⟨y,J⟩:∃y,y=qH w r 4 s n base m cap line D:=⟨_,rfl⟩;obtain ⟨H,Y,e0,e1,e2⟩:=yE w r 4 s n base m cap line D;rw [←J] at H Y e0 e1 e2;have K:=h.below H;have Q:Hid (zp r q w y q y):=zp.start h H;have o:Hid (y.heap[w.heap.size]?=some (.cells #[.pointer (some ⟨r,0,none⟩)] 85 (0,0))∧y.heap[w.heap.size+1]?=some (Yi 4 s n base m cap line)∧y.heap[w.heap.size+2]?=some (.cells #[.int .i64 D] 3 (0,0))):=⟨e0,e1,e2⟩;have ae:Hid (∀(q:Option Nat) (t:List UInt8) (w:World),zu w0 r q t w→Calls Tryz.prog 82 #[.pointer (some ⟨r,0,none⟩),.string (zb s)] w (zk w0 r q t w (tokO 1 0 s))):=fun q t w h=>ym w0 r q t s w hT h hs
 have ci:=ZS 4 s n base m cap line y (hl.env K.env);rw [hex] at ci;have ad:Hid (zu w0 r q t y):=K;have af:=J.symm;have b0:=ze e0;obtain ⟨V,c1,c2,Z,U⟩:=zF e1;have T:=ze e2;have ah:(0:Int)<D:=by omega
 generalize tokO 1 0 s=X0 at *;have HR:Hid (R=X0):=hR;clear hR K e0 e1 e2 J H h hl hex hT
 go_enter Tryz.func42,Tryz.ntmps42
 go_wp2_with fail
 refine ci.mono ?_;clear ci b0 T V c1 c2 Z U;rintro e w2 ⟨rfl,L⟩;have G:Hid (zp r q w y q w2):=Q.out.step (zP.below L);have N:Hid (zu w0 r q t w2):=ad.out.below L;clear L;have ca:=zX true w2;go_wp2_with fail
 refine ca.mono ?_;clear ca;rintro e w3 ⟨rfl,rfl⟩;simp only [YW];have b0:=ze ((G.out.block (w.heap.size) (Nat.le_refl _) (by omega)).trans o.out.1)
 obtain ⟨V,c1,c2,Z,U⟩:=zF ((G.out.block (w.heap.size+1) (by omega) (by omega)).trans o.out.2.1)
 have T:=ze ((G.out.block (w.heap.size+2) (by omega) (by omega)).trans o.out.2.2)
 have I:Hid (zp r q w y q w3):=G.out;have O:Hid (zu w0 r q t w3):=N.out;clear Q ad G N;have cp:=ae.out q (t) w3 O.out;go_wp2_with fail
 refine cp.mono ?_;clear cp b0 T V c1 c2 Z U;rintro e w4 ⟨q4,A,W⟩;cases X0 with
 | none=>subst W;obtain rfl:R=none:=HR.out;exact ⟨rfl,q4,(I.out.step A).unto,rfl⟩
 | some u0 =>
 obtain ⟨rfl,ab⟩:=W;have z:Hid (zp r q w y q4 w4):=I.out.step A;have aa:Hid (zu w0 r q4 (t++u0) w4):=ab;clear A ab;have b0:=ze ((z.out.block (w.heap.size) (Nat.le_refl _) (by omega)).trans o.out.1)
 obtain ⟨V,c1,c2,Z,U⟩:=zF ((z.out.block (w.heap.size+1) (by omega) (by omega)).trans o.out.2.1)
 have T:=ze ((z.out.block (w.heap.size+2) (by omega) (by omega)).trans o.out.2.2)
 obtain rfl:R=some (u0):=HR.out;have HP:Hid (zk w0 r q t w (some (u0)) (.returned (.tuple #[])) w4):=⟨q4,z.out.unto,rfl,by have:=aa.out;simpa only [List.append_assoc] using this⟩
 clear I O z aa b0 T V c1 c2 Z U HR o ae;go_wp2
 exact bodyPost_ret (v:=.tuple #[]) (by simp [results,Tryz.results42,go_sem]) rfl HP.out
theorem zfS (w0:World) (d:Nat) (D:Int) (hD:D-1=(d:Int)) (hD1:1≤D) (hD2:D≤24) (hX:yD w0 d) (hT:ZC w0) (hl:Zz w0) (s:List UInt8) (n line:Int) (base:Option Addr) (m cap r:Nat) (q:Option Nat) (t:List UInt8) (w:World) (h:zu w0 r q t w) (hex:YN 5 s n m=true) (hs:s.length≤100000000) (kids:List Ez) (hm3:m=kids.length) (hc2:kids.length≤cap) (hm2:cap≤maxLen) (hrow2:∀i x,kids[i]?=some x→∃b o a1 a2 a3 a4 a5 a6 a7,base=some ⟨b,o,none⟩∧b<w0.heap.size∧b<w0.heap.size∧Zs w0.heap.size w0 x (yu a1 a2 a3 a4 a5 a6 a7)∧w0.cell? ⟨b,o+i*5,none⟩=some (.int .i64 a1)∧w0.cell? ⟨b,o+i*5+1,none⟩=some (.string (zb a2))∧w0.cell? ⟨b,o+i*5+2,none⟩=some (.int .i64 a3)∧w0.cell? ⟨b,o+i*5+3,none⟩=some (.slice a4 a5 a6)∧w0.cell? ⟨b,o+i*5+4,none⟩=some (.int .i64 a7)) :
  Calls Tryz.prog 42 #[.pointer (some ⟨r,0,none⟩),yu 5 s n base m cap line,.int .i64 D] w (zk w0 r q t w (zc (tokO 1 0 s) (zc (some [40]) (zc (rowO (kids.map (prE d)) kids.length) (some [41]))))):=by
 have aA:∀(fn:Fn) (first cap:Array Value) (w:World),(Instr.makeFunc fn first cap).run Tryz.prog w=.ok (.func fn first cap) w:=fun _ _ _ _=>rfl
 obtain ⟨R,hR⟩:∃R,R=zc (tokO 1 0 s) (zc (some [40]) (zc (rowO (kids.map (prE d)) kids.length) (some [41]))):=⟨_,rfl⟩;rw [←hR];obtain ⟨z,ad⟩:∃z,z=qH w r 5 s n base m cap line D:=⟨_,rfl⟩;obtain ⟨Y,aq,e0,e1,e2⟩:=yE w r 5 s n base m cap line D;rw [←ad] at Y aq e0 e1 e2;have ae:=h.below Y;have am:Hid (zp r q w z q z):=zp.start h Y;have y:Hid (z.heap[w.heap.size]?=some (.cells #[.pointer (some ⟨r,0,none⟩)] 85 (0,0))∧z.heap[w.heap.size+1]?=some (Yi 5 s n base m cap line)∧z.heap[w.heap.size+2]?=some (.cells #[.int .i64 D] 3 (0,0))):=⟨e0,e1,e2⟩;have ay:Hid (∀(q:Option Nat) (t:List UInt8) (w:World),zu w0 r q t w→Calls Tryz.prog 82 #[.pointer (some ⟨r,0,none⟩),.string (zb s)] w (zk w0 r q t w (tokO 1 0 s))):=fun q t w h=>ym w0 r q t s w hT h hs
 have an:Hid (∀(q2:Option Nat) (t2:List UInt8) (W:World),zu w0 r q2 t2 W→zp r q w z q2 W→Calls Tryz.prog 83 #[.pointer (some ⟨r,0,none⟩),.slice base m cap,.func (.func 79) #[] #[.pointer (some ⟨w.heap.size,0,none⟩),.pointer (some ⟨w.heap.size+2,0,none⟩)]] W (zk w0 r q2 t2 W (rowO (kids.map (prE d)) kids.length))):=fun q2 t2 W h2 hL2=>by rw [hm3];exact vI w0 (prE d) kids base cap _ _ r q2 t2 W h2 hc2 hm2 hrow2 fun x v q1 t1 W1 _ hx h1 hto=>Vy w0 d D hD hD1 hD2 hX x v _ _ r q1 t1 W1 hx h1 (ze (((hL2.step hto).block (w.heap.size) (Nat.le_refl _) (by omega)).trans y.out.1)) (ze (((hL2.step hto).block (w.heap.size+2) (by omega) (by omega)).trans y.out.2.2))
 have ci:=ZS 5 s n base m cap line z (hl.env ae.env);rw [hex] at ci;have av:Hid (zu w0 r q t z):=ae;have az:=ad.symm;have U:=ze e0;obtain ⟨Q,c1,c2,T,O⟩:=zF e1;have L:=ze e2;have aB:(0:Int)<D:=by omega
 generalize tokO 1 0 s=X0 at *;generalize rowO (kids.map (prE d)) kids.length=X1 at *;have HR:Hid (R=zc X0 (zc (some [40]) (zc X1 (some [41])))):=hR;clear hR ae e0 e1 e2 ad Y h hl hex hX hT hc2 hm2 hrow2 hm3
 go_enter Tryz.func42,Tryz.ntmps42
 go_wp2_with fail
 refine ci.mono ?_;clear ci U L Q c1 c2 T O;rintro e w2 ⟨rfl,af⟩;have V:Hid (zp r q w z q w2):=am.out.step (zP.below af);have ag:Hid (zu w0 r q t w2):=av.out.below af;clear af;have ca:=zX true w2;go_wp2_with fail
 refine ca.mono ?_;clear ca;rintro e w3 ⟨rfl,rfl⟩;simp only [YW];have U:=ze ((V.out.block (w.heap.size) (Nat.le_refl _) (by omega)).trans y.out.1)
 obtain ⟨Q,c1,c2,T,O⟩:=zF ((V.out.block (w.heap.size+1) (by omega) (by omega)).trans y.out.2.1)
 have L:=ze ((V.out.block (w.heap.size+2) (by omega) (by omega)).trans y.out.2.2)
 have ab:Hid (zp r q w z q w3):=V.out;have ai:Hid (zu w0 r q t w3):=ag.out;clear am av V ag;have J:=ay.out q (t) w3 ai.out;go_wp2_with fail
 refine J.mono ?_;clear J U L Q c1 c2 T O;rintro e w4 ⟨q4,N,ap⟩;cases X0 with
 | none=>subst ap;obtain rfl:R=none:=HR.out;exact ⟨rfl,q4,(ab.out.step N).unto,rfl⟩
 | some u0 =>
 obtain ⟨rfl,au⟩:=ap;have G:Hid (zp r q w z q4 w4):=ab.out.step N;have ar:Hid (zu w0 r q4 (t++u0) w4):=au;clear N au;have U:=ze ((G.out.block (w.heap.size) (Nat.le_refl _) (by omega)).trans y.out.1)
 obtain ⟨Q,c1,c2,T,O⟩:=zF ((G.out.block (w.heap.size+1) (by omega) (by omega)).trans y.out.2.1)
 have L:=ze ((G.out.block (w.heap.size+2) (by omega) (by omega)).trans y.out.2.2)
 have J:=zt w0 r q4 (t++u0) [40] w4 ar.out (by simp)
 go_wp2_with fail
 refine J.mono ?_;clear J U L Q c1 c2 T O;rintro e w5 ⟨q5,aa,rfl,ak⟩;have A:Hid (zp r q w z q5 w5):=G.out.step aa;have ax:Hid (zu w0 r q5 (t++u0++[40]) w5):=ak;clear aa ak;have U:=ze ((A.out.block (w.heap.size) (Nat.le_refl _) (by omega)).trans y.out.1)
 obtain ⟨Q,c1,c2,T,O⟩:=zF ((A.out.block (w.heap.size+1) (by omega) (by omega)).trans y.out.2.1)
 have L:=ze ((A.out.block (w.heap.size+2) (by omega) (by omega)).trans y.out.2.2)
 have J:=an.out q5 (t++u0++[40]) w5 ax.out A.out;go_wp2_with fail
 refine J.mono ?_;clear J U L Q c1 c2 T O;rintro e w6 ⟨q6,H,ah⟩;cases X1 with
 | none=>subst ah;obtain rfl:R=none:=HR.out;exact ⟨rfl,q6,(A.out.step H).unto,rfl⟩
 | some u1 =>
 obtain ⟨rfl,aj⟩:=ah;have K:Hid (zp r q w z q6 w6):=A.out.step H;have aw:Hid (zu w0 r q6 (t++u0++[40]++u1) w6):=aj;clear H aj;have U:=ze ((K.out.block (w.heap.size) (Nat.le_refl _) (by omega)).trans y.out.1)
 obtain ⟨Q,c1,c2,T,O⟩:=zF ((K.out.block (w.heap.size+1) (by omega) (by omega)).trans y.out.2.1)
 have L:=ze ((K.out.block (w.heap.size+2) (by omega) (by omega)).trans y.out.2.2)
 have J:=zt w0 r q6 (t++u0++[40]++u1) [41] w6 aw.out (by simp)
 go_wp2_with fail
 refine J.mono ?_;clear J U L Q c1 c2 T O;rintro e w7 ⟨q7,Z,rfl,al⟩;have I:Hid (zp r q w z q7 w7):=K.out.step Z;have ao:Hid (zu w0 r q7 (t++u0++[40]++u1++[41]) w7):=al;clear Z al;have U:=ze ((I.out.block (w.heap.size) (Nat.le_refl _) (by omega)).trans y.out.1)
 obtain ⟨Q,c1,c2,T,O⟩:=zF ((I.out.block (w.heap.size+1) (by omega) (by omega)).trans y.out.2.1)
 have L:=ze ((I.out.block (w.heap.size+2) (by omega) (by omega)).trans y.out.2.2)
 obtain rfl:R=some (u0++([40]++(u1++([41])))):=HR.out;have HP:Hid (zk w0 r q t w (some (u0++([40]++(u1++([41]))))) (.returned (.tuple #[])) w7):=⟨q7,I.out.unto,rfl,by have:=ao.out;simpa only [List.append_assoc] using this⟩
 clear ab ai G ar A ax K aw I ao U L Q c1 c2 T O HR y ay an;go_wp2
 exact bodyPost_ret (v:=.tuple #[]) (by simp [results,Tryz.results42,go_sem]) rfl HP.out
theorem zeG (w0:World) (d:Nat) (D:Int) (hD:D-1=(d:Int)) (hD1:1≤D) (hD2:D≤24) (hX:yD w0 d) (hT:ZC w0) (hl:Zz w0) (s:List UInt8) (n line:Int) (base:Option Addr) (m cap r:Nat) (q:Option Nat) (t:List UInt8) (w:World) (h:zu w0 r q t w) (hex:YN 11 s n m=true) (hs:s.length≤100000000) (kids:List Ez) (hm3:m=kids.length) (hc2:kids.length≤cap) (hm2:cap≤maxLen) (hrow2:∀i x,kids[i]?=some x→∃b o a1 a2 a3 a4 a5 a6 a7,base=some ⟨b,o,none⟩∧b<w0.heap.size∧b<w0.heap.size∧Zs w0.heap.size w0 x (yu a1 a2 a3 a4 a5 a6 a7)∧w0.cell? ⟨b,o+i*5,none⟩=some (.int .i64 a1)∧w0.cell? ⟨b,o+i*5+1,none⟩=some (.string (zb a2))∧w0.cell? ⟨b,o+i*5+2,none⟩=some (.int .i64 a3)∧w0.cell? ⟨b,o+i*5+3,none⟩=some (.slice a4 a5 a6)∧w0.cell? ⟨b,o+i*5+4,none⟩=some (.int .i64 a7)) :
  Calls Tryz.prog 42 #[.pointer (some ⟨r,0,none⟩),yu 11 s n base m cap line,.int .i64 D] w (zk w0 r q t w (zc (some [110,101,119,32]) (zc (tokO 1 0 s) (zc (some [40]) (zc (rowO (kids.map (prE d)) kids.length) (some [41])))))):=by
 have aE:∀(fn:Fn) (first cap:Array Value) (w:World),(Instr.makeFunc fn first cap).run Tryz.prog w=.ok (.func fn first cap) w:=fun _ _ _ _=>rfl
 obtain ⟨R,hR⟩:∃R,R=zc (some [110,101,119,32]) (zc (tokO 1 0 s) (zc (some [40]) (zc (rowO (kids.map (prE d)) kids.length) (some [41])))):=⟨_,rfl⟩;rw [←hR];obtain ⟨z,ae⟩:∃z,z=qH w r 11 s n base m cap line D:=⟨_,rfl⟩;obtain ⟨Z,au,e0,e1,e2⟩:=yE w r 11 s n base m cap line D;rw [←ae] at Z au e0 e1 e2;have af:=h.below Z;have an:Hid (zp r q w z q z):=zp.start h Z;have y:Hid (z.heap[w.heap.size]?=some (.cells #[.pointer (some ⟨r,0,none⟩)] 85 (0,0))∧z.heap[w.heap.size+1]?=some (Yi 11 s n base m cap line)∧z.heap[w.heap.size+2]?=some (.cells #[.int .i64 D] 3 (0,0))):=⟨e0,e1,e2⟩;have aC:Hid (∀(q:Option Nat) (t:List UInt8) (w:World),zu w0 r q t w→Calls Tryz.prog 82 #[.pointer (some ⟨r,0,none⟩),.string (zb s)] w (zk w0 r q t w (tokO 1 0 s))):=fun q t w h=>ym w0 r q t s w hT h hs
 have ao:Hid (∀(q2:Option Nat) (t2:List UInt8) (W:World),zu w0 r q2 t2 W→zp r q w z q2 W→Calls Tryz.prog 83 #[.pointer (some ⟨r,0,none⟩),.slice base m cap,.func (.func 79) #[] #[.pointer (some ⟨w.heap.size,0,none⟩),.pointer (some ⟨w.heap.size+2,0,none⟩)]] W (zk w0 r q2 t2 W (rowO (kids.map (prE d)) kids.length))):=fun q2 t2 W h2 hL2=>by rw [hm3];exact vI w0 (prE d) kids base cap _ _ r q2 t2 W h2 hc2 hm2 hrow2 fun x v q1 t1 W1 _ hx h1 hto=>Vy w0 d D hD hD1 hD2 hX x v _ _ r q1 t1 W1 hx h1 (ze (((hL2.step hto).block (w.heap.size) (Nat.le_refl _) (by omega)).trans y.out.1)) (ze (((hL2.step hto).block (w.heap.size+2) (by omega) (by omega)).trans y.out.2.2))
 have ci:=ZS 11 s n base m cap line z (hl.env af.env);rw [hex] at ci;have ay:Hid (zu w0 r q t z):=af;have aD:=ae.symm;have N:=ze e0;obtain ⟨K,c1,c2,L,J⟩:=zF e1;have I:=ze e2;have aF:(0:Int)<D:=by omega
 generalize tokO 1 0 s=X0 at *;generalize rowO (kids.map (prE d)) kids.length=X1 at *;have HR:Hid (R=zc (some [110,101,119,32]) (zc X0 (zc (some [40]) (zc X1 (some [41]))))):=hR;clear hR af e0 e1 e2 ae Z h hl hex hX hT hc2 hm2 hrow2 hm3
 go_enter Tryz.func42,Tryz.ntmps42
 go_wp2_with fail
 refine ci.mono ?_;clear ci N I K c1 c2 L J;rintro e w2 ⟨rfl,ag⟩;have Y:Hid (zp r q w z q w2):=an.out.step (zP.below ag);have ah:Hid (zu w0 r q t w2):=ay.out.below ag;clear ag;have ca:=zX true w2;go_wp2_with fail
 refine ca.mono ?_;clear ca;rintro e w3 ⟨rfl,rfl⟩;simp only [YW];have N:=ze ((Y.out.block (w.heap.size) (Nat.le_refl _) (by omega)).trans y.out.1)
 obtain ⟨K,c1,c2,L,J⟩:=zF ((Y.out.block (w.heap.size+1) (by omega) (by omega)).trans y.out.2.1)
 have I:=ze ((Y.out.block (w.heap.size+2) (by omega) (by omega)).trans y.out.2.2)
 have ai:Hid (zp r q w z q w3):=Y.out;have aj:Hid (zu w0 r q t w3):=ah.out;clear an ay Y ah;have G:=zt w0 r q (t) [110,101,119,32] w3 aj.out (by simp)
 go_wp2_with fail
 refine G.mono ?_;clear G N I K c1 c2 L J;rintro e w4 ⟨q4,ab,rfl,ax⟩;have H:Hid (zp r q w z q4 w4):=ai.out.step ab;have av:Hid (zu w0 r q4 (t++[110,101,119,32]) w4):=ax;clear ab ax;have N:=ze ((H.out.block (w.heap.size) (Nat.le_refl _) (by omega)).trans y.out.1)
 obtain ⟨K,c1,c2,L,J⟩:=zF ((H.out.block (w.heap.size+1) (by omega) (by omega)).trans y.out.2.1)
 have I:=ze ((H.out.block (w.heap.size+2) (by omega) (by omega)).trans y.out.2.2)
 have G:=aC.out q4 (t++[110,101,119,32]) w4 av.out;go_wp2_with fail
 refine G.mono ?_;clear G N I K c1 c2 L J;rintro e w5 ⟨q5,Q,ap⟩;cases X0 with
 | none=>subst ap;obtain rfl:R=none:=HR.out;exact ⟨rfl,q5,(H.out.step Q).unto,rfl⟩
 | some u0 =>
 obtain ⟨rfl,al⟩:=ap;have U:Hid (zp r q w z q5 w5):=H.out.step Q;have aB:Hid (zu w0 r q5 (t++[110,101,119,32]++u0) w5):=al;clear Q al;have N:=ze ((U.out.block (w.heap.size) (Nat.le_refl _) (by omega)).trans y.out.1)
 obtain ⟨K,c1,c2,L,J⟩:=zF ((U.out.block (w.heap.size+1) (by omega) (by omega)).trans y.out.2.1)
 have I:=ze ((U.out.block (w.heap.size+2) (by omega) (by omega)).trans y.out.2.2)
 have G:=zt w0 r q5 (t++[110,101,119,32]++u0) [40] w5 aB.out (by simp)
 go_wp2_with fail
 refine G.mono ?_;clear G N I K c1 c2 L J;rintro e w6 ⟨q6,aa,rfl,ak⟩;have A:Hid (zp r q w z q6 w6):=U.out.step aa;have aA:Hid (zu w0 r q6 (t++[110,101,119,32]++u0++[40]) w6):=ak;clear aa ak;have N:=ze ((A.out.block (w.heap.size) (Nat.le_refl _) (by omega)).trans y.out.1)
 obtain ⟨K,c1,c2,L,J⟩:=zF ((A.out.block (w.heap.size+1) (by omega) (by omega)).trans y.out.2.1)
 have I:=ze ((A.out.block (w.heap.size+2) (by omega) (by omega)).trans y.out.2.2)
 have G:=ao.out q6 (t++[110,101,119,32]++u0++[40]) w6 aA.out A.out;go_wp2_with fail
 refine G.mono ?_;clear G N I K c1 c2 L J;rintro e w7 ⟨q7,O,aq⟩;cases X1 with
 | none=>subst aq;obtain rfl:R=none:=HR.out;exact ⟨rfl,q7,(A.out.step O).unto,rfl⟩
 | some u1 =>
 obtain ⟨rfl,am⟩:=aq;have T:Hid (zp r q w z q7 w7):=A.out.step O;have ar:Hid (zu w0 r q7 (t++[110,101,119,32]++u0++[40]++u1) w7):=am;clear O am;have N:=ze ((T.out.block (w.heap.size) (Nat.le_refl _) (by omega)).trans y.out.1)
 obtain ⟨K,c1,c2,L,J⟩:=zF ((T.out.block (w.heap.size+1) (by omega) (by omega)).trans y.out.2.1)
 have I:=ze ((T.out.block (w.heap.size+2) (by omega) (by omega)).trans y.out.2.2)
 have G:=zt w0 r q7 (t++[110,101,119,32]++u0++[40]++u1) [41] w7 ar.out (by simp)
 go_wp2_with fail
 refine G.mono ?_;clear G N I K c1 c2 L J;rintro e w8 ⟨q8,ad,rfl,aw⟩;have V:Hid (zp r q w z q8 w8):=T.out.step ad;have az:Hid (zu w0 r q8 (t++[110,101,119,32]++u0++[40]++u1++[41]) w8):=aw;clear ad aw;have N:=ze ((V.out.block (w.heap.size) (Nat.le_refl _) (by omega)).trans y.out.1)
 obtain ⟨K,c1,c2,L,J⟩:=zF ((V.out.block (w.heap.size+1) (by omega) (by omega)).trans y.out.2.1)
 have I:=ze ((V.out.block (w.heap.size+2) (by omega) (by omega)).trans y.out.2.2)
 obtain rfl:R=some ([110,101,119,32]++(u0++([40]++(u1++([41]))))):=HR.out;have HP:Hid (zk w0 r q t w (some ([110,101,119,32]++(u0++([40]++(u1++([41])))))) (.returned (.tuple #[])) w8):=⟨q8,V.out.unto,rfl,by have:=az.out;simpa only [List.append_assoc] using this⟩
 clear ai aj H av U aB A aA T ar V az N I K c1 c2 L J HR y aC ao;go_wp2
 exact bodyPost_ret (v:=.tuple #[]) (by simp [results,Tryz.results42,go_sem]) rfl HP.out
theorem zeH (w0:World) (d:Nat) (D:Int) (hD:D-1=(d:Int)) (hD1:1≤D) (hD2:D≤24) (hX:yD w0 d) (hl:Zz w0) (s:List UInt8) (n line:Int) (base:Option Addr) (m cap r:Nat) (q:Option Nat) (t:List UInt8) (w:World) (h:zu w0 r q t w) (hex:YN 10 s n m=true) (kids:List Ez) (hm3:m=kids.length) (hc2:kids.length≤cap) (hm2:cap≤maxLen) (hrow2:∀i x,kids[i]?=some x→∃b o a1 a2 a3 a4 a5 a6 a7,base=some ⟨b,o,none⟩∧b<w0.heap.size∧b<w0.heap.size∧Zs w0.heap.size w0 x (yu a1 a2 a3 a4 a5 a6 a7)∧w0.cell? ⟨b,o+i*5,none⟩=some (.int .i64 a1)∧w0.cell? ⟨b,o+i*5+1,none⟩=some (.string (zb a2))∧w0.cell? ⟨b,o+i*5+2,none⟩=some (.int .i64 a3)∧w0.cell? ⟨b,o+i*5+3,none⟩=some (.slice a4 a5 a6)∧w0.cell? ⟨b,o+i*5+4,none⟩=some (.int .i64 a7)) :
  Calls Tryz.prog 42 #[.pointer (some ⟨r,0,none⟩),yu 10 s n base m cap line,.int .i64 D] w (zk w0 r q t w (zc (some [91]) (zc (rowO (kids.map (prE d)) kids.length) (some [93])))):=by
 have au:∀(fn:Fn) (first cap:Array Value) (w:World),(Instr.makeFunc fn first cap).run Tryz.prog w=.ok (.func fn first cap) w:=fun _ _ _ _=>rfl
 obtain ⟨R,hR⟩:∃R,R=zc (some [91]) (zc (rowO (kids.map (prE d)) kids.length) (some [93])):=⟨_,rfl⟩;rw [←hR];obtain ⟨A,Z⟩:∃A,A=qH w r 10 s n base m cap line D:=⟨_,rfl⟩;obtain ⟨K,ak,e0,e1,e2⟩:=yE w r 10 s n base m cap line D;rw [←Z] at K ak e0 e1 e2;have aa:=h.below K;have ai:Hid (zp r q w A q A):=zp.start h K;have y:Hid (A.heap[w.heap.size]?=some (.cells #[.pointer (some ⟨r,0,none⟩)] 85 (0,0))∧A.heap[w.heap.size+1]?=some (Yi 10 s n base m cap line)∧A.heap[w.heap.size+2]?=some (.cells #[.int .i64 D] 3 (0,0))):=⟨e0,e1,e2⟩;have aq:Hid (∀(q2:Option Nat) (t2:List UInt8) (W:World),zu w0 r q2 t2 W→zp r q w A q2 W→Calls Tryz.prog 83 #[.pointer (some ⟨r,0,none⟩),.slice base m cap,.func (.func 79) #[] #[.pointer (some ⟨w.heap.size,0,none⟩),.pointer (some ⟨w.heap.size+2,0,none⟩)]] W (zk w0 r q2 t2 W (rowO (kids.map (prE d)) kids.length))):=fun q2 t2 W h2 hL2=>by rw [hm3];exact vI w0 (prE d) kids base cap _ _ r q2 t2 W h2 hc2 hm2 hrow2 fun x v q1 t1 W1 _ hx h1 hto=>Vy w0 d D hD hD1 hD2 hX x v _ _ r q1 t1 W1 hx h1 (ze (((hL2.step hto).block (w.heap.size) (Nat.le_refl _) (by omega)).trans y.out.1)) (ze (((hL2.step hto).block (w.heap.size+2) (by omega) (by omega)).trans y.out.2.2))
 have ci:=ZS 10 s n base m cap line A (hl.env aa.env);rw [hex] at ci;have an:Hid (zu w0 r q t A):=aa;have ar:=Z.symm;have T:=ze e0;obtain ⟨O,c1,c2,Q,N⟩:=zF e1;have L:=ze e2;have av:(0:Int)<D:=by omega
 generalize rowO (kids.map (prE d)) kids.length=X0 at *;have HR:Hid (R=zc (some [91]) (zc X0 (some [93]))):=hR;clear hR aa e0 e1 e2 Z K h hl hex hX hc2 hm2 hrow2 hm3
 go_enter Tryz.func42,Tryz.ntmps42
 go_wp2_with fail
 refine ci.mono ?_;clear ci T L O c1 c2 Q N;rintro e w2 ⟨rfl,ab⟩;have J:Hid (zp r q w A q w2):=ai.out.step (zP.below ab);have ad:Hid (zu w0 r q t w2):=an.out.below ab;clear ab;have ca:=zX true w2;go_wp2_with fail
 refine ca.mono ?_;clear ca;rintro e w3 ⟨rfl,rfl⟩;simp only [YW];have T:=ze ((J.out.block (w.heap.size) (Nat.le_refl _) (by omega)).trans y.out.1)
 obtain ⟨O,c1,c2,Q,N⟩:=zF ((J.out.block (w.heap.size+1) (by omega) (by omega)).trans y.out.2.1)
 have L:=ze ((J.out.block (w.heap.size+2) (by omega) (by omega)).trans y.out.2.2)
 have ae:Hid (zp r q w A q w3):=J.out;have af:Hid (zu w0 r q t w3):=ad.out;clear ai an J ad;have V:=zt w0 r q (t) [91] w3 af.out (by simp)
 go_wp2_with fail
 refine V.mono ?_;clear V T L O c1 c2 Q N;rintro e w4 ⟨q4,Y,rfl,am⟩;have z:Hid (zp r q w A q4 w4):=ae.out.step Y;have al:Hid (zu w0 r q4 (t++[91]) w4):=am;clear Y am;have T:=ze ((z.out.block (w.heap.size) (Nat.le_refl _) (by omega)).trans y.out.1)
 obtain ⟨O,c1,c2,Q,N⟩:=zF ((z.out.block (w.heap.size+1) (by omega) (by omega)).trans y.out.2.1)
 have L:=ze ((z.out.block (w.heap.size+2) (by omega) (by omega)).trans y.out.2.2)
 have V:=aq.out q4 (t++[91]) w4 al.out z.out;go_wp2_with fail
 refine V.mono ?_;clear V T L O c1 c2 Q N;rintro e w5 ⟨q5,G,aj⟩;cases X0 with
 | none=>subst aj;obtain rfl:R=none:=HR.out;exact ⟨rfl,q5,(z.out.step G).unto,rfl⟩
 | some u0 =>
 obtain ⟨rfl,ah⟩:=aj;have I:Hid (zp r q w A q5 w5):=z.out.step G;have ap:Hid (zu w0 r q5 (t++[91]++u0) w5):=ah;clear G ah;have T:=ze ((I.out.block (w.heap.size) (Nat.le_refl _) (by omega)).trans y.out.1)
 obtain ⟨O,c1,c2,Q,N⟩:=zF ((I.out.block (w.heap.size+1) (by omega) (by omega)).trans y.out.2.1)
 have L:=ze ((I.out.block (w.heap.size+2) (by omega) (by omega)).trans y.out.2.2)
 have V:=zt w0 r q5 (t++[91]++u0) [93] w5 ap.out (by simp)
 go_wp2_with fail
 refine V.mono ?_;clear V T L O c1 c2 Q N;rintro e w6 ⟨q6,U,rfl,ag⟩;have H:Hid (zp r q w A q6 w6):=I.out.step U;have ao:Hid (zu w0 r q6 (t++[91]++u0++[93]) w6):=ag;clear U ag;have T:=ze ((H.out.block (w.heap.size) (Nat.le_refl _) (by omega)).trans y.out.1)
 obtain ⟨O,c1,c2,Q,N⟩:=zF ((H.out.block (w.heap.size+1) (by omega) (by omega)).trans y.out.2.1)
 have L:=ze ((H.out.block (w.heap.size+2) (by omega) (by omega)).trans y.out.2.2)
 obtain rfl:R=some ([91]++(u0++([93]))):=HR.out;have HP:Hid (zk w0 r q t w (some ([91]++(u0++([93])))) (.returned (.tuple #[])) w6):=⟨q6,H.out.unto,rfl,by have:=ao.out;simpa only [List.append_assoc] using this⟩
 clear ae af z al I ap H ao T L O c1 c2 Q N HR y aq;go_wp2
 exact bodyPost_ret (v:=.tuple #[]) (by simp [results,Tryz.results42,go_sem]) rfl HP.out
theorem zfT (w0:World) (D:Int) (hD1:1≤D) (hD2:D≤24) (hl:Zz w0) (s:List UInt8) (n line:Int) (base:Option Addr) (m cap r:Nat) (q:Option Nat) (t:List UInt8) (w:World) (h:zu w0 r q t w) (hex:YN 6 s n m=true) (X:Option (List UInt8)) (hS:Hid (∀(q:Option Nat) (t:List UInt8) (w:World),zu w0 r q t w→Calls Tryz.prog 84 #[.pointer (some ⟨r,0,none⟩),yu 6 s n base m cap line,.int .i64 D] w (zk w0 r q t w X))) :
  Calls Tryz.prog 42 #[.pointer (some ⟨r,0,none⟩),yu 6 s n base m cap line,.int .i64 D] w (zk w0 r q t w (X)):=by
 have ag:∀(fn:Fn) (first cap:Array Value) (w:World),(Instr.makeFunc fn first cap).run Tryz.prog w=.ok (.func fn first cap) w:=fun _ _ _ _=>rfl
 obtain ⟨R,hR⟩:∃R,R=X:=⟨_,rfl⟩;rw [←hR];obtain ⟨y,J⟩:∃y,y=qH w r 6 s n base m cap line D:=⟨_,rfl⟩;obtain ⟨H,Y,e0,e1,e2⟩:=yE w r 6 s n base m cap line D;rw [←J] at H Y e0 e1 e2;have K:=h.below H;have Q:Hid (zp r q w y q y):=zp.start h H;have o:Hid (y.heap[w.heap.size]?=some (.cells #[.pointer (some ⟨r,0,none⟩)] 85 (0,0))∧y.heap[w.heap.size+1]?=some (Yi 6 s n base m cap line)∧y.heap[w.heap.size+2]?=some (.cells #[.int .i64 D] 3 (0,0))):=⟨e0,e1,e2⟩;have ae:=hS;have ci:=ZS 6 s n base m cap line y (hl.env K.env);rw [hex] at ci;have ad:Hid (zu w0 r q t y):=K;have af:=J.symm;have b0:=ze e0;obtain ⟨V,c1,c2,Z,U⟩:=zF e1;have T:=ze e2;have ah:(0:Int)<D:=by omega
 clear hS;generalize X=X0 at *;have HR:Hid (R=X0):=hR;clear hR K e0 e1 e2 J H h hl hex
 go_enter Tryz.func42,Tryz.ntmps42
 go_wp2_with fail
 refine ci.mono ?_;clear ci b0 T V c1 c2 Z U;rintro e w2 ⟨rfl,L⟩;have G:Hid (zp r q w y q w2):=Q.out.step (zP.below L);have N:Hid (zu w0 r q t w2):=ad.out.below L;clear L;have ca:=zX true w2;go_wp2_with fail
 refine ca.mono ?_;clear ca;rintro e w3 ⟨rfl,rfl⟩;simp only [YW];have b0:=ze ((G.out.block (w.heap.size) (Nat.le_refl _) (by omega)).trans o.out.1)
 obtain ⟨V,c1,c2,Z,U⟩:=zF ((G.out.block (w.heap.size+1) (by omega) (by omega)).trans o.out.2.1)
 have T:=ze ((G.out.block (w.heap.size+2) (by omega) (by omega)).trans o.out.2.2)
 have I:Hid (zp r q w y q w3):=G.out;have O:Hid (zu w0 r q t w3):=N.out;clear Q ad G N;have cp:=ae.out q (t) w3 O.out;go_wp2_with fail
 refine cp.mono ?_;clear cp b0 T V c1 c2 Z U;rintro e w4 ⟨q4,A,W⟩;cases X0 with
 | none=>subst W;obtain rfl:R=none:=HR.out;exact ⟨rfl,q4,(I.out.step A).unto,rfl⟩
 | some u0 =>
 obtain ⟨rfl,ab⟩:=W;have z:Hid (zp r q w y q4 w4):=I.out.step A;have aa:Hid (zu w0 r q4 (t++u0) w4):=ab;clear A ab;have b0:=ze ((z.out.block (w.heap.size) (Nat.le_refl _) (by omega)).trans o.out.1)
 obtain ⟨V,c1,c2,Z,U⟩:=zF ((z.out.block (w.heap.size+1) (by omega) (by omega)).trans o.out.2.1)
 have T:=ze ((z.out.block (w.heap.size+2) (by omega) (by omega)).trans o.out.2.2)
 obtain rfl:R=some (u0):=HR.out;have HP:Hid (zk w0 r q t w (some (u0)) (.returned (.tuple #[])) w4):=⟨q4,z.out.unto,rfl,by have:=aa.out;simpa only [List.append_assoc] using this⟩
 clear I O z aa b0 T V c1 c2 Z U HR o ae;go_wp2
 exact bodyPost_ret (v:=.tuple #[]) (by simp [results,Tryz.results42,go_sem]) rfl HP.out
theorem zfU (w0:World) (D:Int) (hD1:1≤D) (hD2:D≤24) (hl:Zz w0) (s:List UInt8) (n line:Int) (base:Option Addr) (m cap r:Nat) (q:Option Nat) (t:List UInt8) (w:World) (h:zu w0 r q t w) (hex:YN 7 s n m=true) (X:Option (List UInt8)) (hS:Hid (∀(q:Option Nat) (t:List UInt8) (w:World),zu w0 r q t w→Calls Tryz.prog 84 #[.pointer (some ⟨r,0,none⟩),yu 7 s n base m cap line,.int .i64 D] w (zk w0 r q t w X))) :
  Calls Tryz.prog 42 #[.pointer (some ⟨r,0,none⟩),yu 7 s n base m cap line,.int .i64 D] w (zk w0 r q t w (X)):=by
 have ag:∀(fn:Fn) (first cap:Array Value) (w:World),(Instr.makeFunc fn first cap).run Tryz.prog w=.ok (.func fn first cap) w:=fun _ _ _ _=>rfl
 obtain ⟨R,hR⟩:∃R,R=X:=⟨_,rfl⟩;rw [←hR];obtain ⟨y,J⟩:∃y,y=qH w r 7 s n base m cap line D:=⟨_,rfl⟩;obtain ⟨H,Y,e0,e1,e2⟩:=yE w r 7 s n base m cap line D;rw [←J] at H Y e0 e1 e2;have K:=h.below H;have Q:Hid (zp r q w y q y):=zp.start h H;have o:Hid (y.heap[w.heap.size]?=some (.cells #[.pointer (some ⟨r,0,none⟩)] 85 (0,0))∧y.heap[w.heap.size+1]?=some (Yi 7 s n base m cap line)∧y.heap[w.heap.size+2]?=some (.cells #[.int .i64 D] 3 (0,0))):=⟨e0,e1,e2⟩;have ae:=hS;have ci:=ZS 7 s n base m cap line y (hl.env K.env);rw [hex] at ci;have ad:Hid (zu w0 r q t y):=K;have af:=J.symm;have b0:=ze e0;obtain ⟨V,c1,c2,Z,U⟩:=zF e1;have T:=ze e2;have ah:(0:Int)<D:=by omega
 clear hS;generalize X=X0 at *;have HR:Hid (R=X0):=hR;clear hR K e0 e1 e2 J H h hl hex
 go_enter Tryz.func42,Tryz.ntmps42
 go_wp2_with fail
 refine ci.mono ?_;clear ci b0 T V c1 c2 Z U;rintro e w2 ⟨rfl,L⟩;have G:Hid (zp r q w y q w2):=Q.out.step (zP.below L);have N:Hid (zu w0 r q t w2):=ad.out.below L;clear L;have ca:=zX true w2;go_wp2_with fail
 refine ca.mono ?_;clear ca;rintro e w3 ⟨rfl,rfl⟩;simp only [YW];have b0:=ze ((G.out.block (w.heap.size) (Nat.le_refl _) (by omega)).trans o.out.1)
 obtain ⟨V,c1,c2,Z,U⟩:=zF ((G.out.block (w.heap.size+1) (by omega) (by omega)).trans o.out.2.1)
 have T:=ze ((G.out.block (w.heap.size+2) (by omega) (by omega)).trans o.out.2.2)
 have I:Hid (zp r q w y q w3):=G.out;have O:Hid (zu w0 r q t w3):=N.out;clear Q ad G N;have cp:=ae.out q (t) w3 O.out;go_wp2_with fail
 refine cp.mono ?_;clear cp b0 T V c1 c2 Z U;rintro e w4 ⟨q4,A,W⟩;cases X0 with
 | none=>subst W;obtain rfl:R=none:=HR.out;exact ⟨rfl,q4,(I.out.step A).unto,rfl⟩
 | some u0 =>
 obtain ⟨rfl,ab⟩:=W;have z:Hid (zp r q w y q4 w4):=I.out.step A;have aa:Hid (zu w0 r q4 (t++u0) w4):=ab;clear A ab;have b0:=ze ((z.out.block (w.heap.size) (Nat.le_refl _) (by omega)).trans o.out.1)
 obtain ⟨V,c1,c2,Z,U⟩:=zF ((z.out.block (w.heap.size+1) (by omega) (by omega)).trans o.out.2.1)
 have T:=ze ((z.out.block (w.heap.size+2) (by omega) (by omega)).trans o.out.2.2)
 obtain rfl:R=some (u0):=HR.out;have HP:Hid (zk w0 r q t w (some (u0)) (.returned (.tuple #[])) w4):=⟨q4,z.out.unto,rfl,by have:=aa.out;simpa only [List.append_assoc] using this⟩
 clear I O z aa b0 T V c1 c2 Z U HR o ae;go_wp2
 exact bodyPost_ret (v:=.tuple #[]) (by simp [results,Tryz.results42,go_sem]) rfl HP.out
theorem zfV (w0:World) (D:Int) (hD1:1≤D) (hD2:D≤24) (hl:Zz w0) (s:List UInt8) (n line:Int) (base:Option Addr) (m cap r:Nat) (q:Option Nat) (t:List UInt8) (w:World) (h:zu w0 r q t w) (hex:YN 8 s n m=true) (X:Option (List UInt8)) (hS:Hid (∀(q:Option Nat) (t:List UInt8) (w:World),zu w0 r q t w→Calls Tryz.prog 84 #[.pointer (some ⟨r,0,none⟩),yu 8 s n base m cap line,.int .i64 D] w (zk w0 r q t w X))) :
  Calls Tryz.prog 42 #[.pointer (some ⟨r,0,none⟩),yu 8 s n base m cap line,.int .i64 D] w (zk w0 r q t w (X)):=by
 have ag:∀(fn:Fn) (first cap:Array Value) (w:World),(Instr.makeFunc fn first cap).run Tryz.prog w=.ok (.func fn first cap) w:=fun _ _ _ _=>rfl
 obtain ⟨R,hR⟩:∃R,R=X:=⟨_,rfl⟩;rw [←hR];obtain ⟨y,J⟩:∃y,y=qH w r 8 s n base m cap line D:=⟨_,rfl⟩;obtain ⟨H,Y,e0,e1,e2⟩:=yE w r 8 s n base m cap line D;rw [←J] at H Y e0 e1 e2;have K:=h.below H;have Q:Hid (zp r q w y q y):=zp.start h H;have o:Hid (y.heap[w.heap.size]?=some (.cells #[.pointer (some ⟨r,0,none⟩)] 85 (0,0))∧y.heap[w.heap.size+1]?=some (Yi 8 s n base m cap line)∧y.heap[w.heap.size+2]?=some (.cells #[.int .i64 D] 3 (0,0))):=⟨e0,e1,e2⟩;have ae:=hS;have ci:=ZS 8 s n base m cap line y (hl.env K.env);rw [hex] at ci;have ad:Hid (zu w0 r q t y):=K;have af:=J.symm;have b0:=ze e0;obtain ⟨V,c1,c2,Z,U⟩:=zF e1;have T:=ze e2;have ah:(0:Int)<D:=by omega
 clear hS;generalize X=X0 at *;have HR:Hid (R=X0):=hR;clear hR K e0 e1 e2 J H h hl hex
 go_enter Tryz.func42,Tryz.ntmps42
 go_wp2_with fail
 refine ci.mono ?_;clear ci b0 T V c1 c2 Z U;rintro e w2 ⟨rfl,L⟩;have G:Hid (zp r q w y q w2):=Q.out.step (zP.below L);have N:Hid (zu w0 r q t w2):=ad.out.below L;clear L;have ca:=zX true w2;go_wp2_with fail
 refine ca.mono ?_;clear ca;rintro e w3 ⟨rfl,rfl⟩;simp only [YW];have b0:=ze ((G.out.block (w.heap.size) (Nat.le_refl _) (by omega)).trans o.out.1)
 obtain ⟨V,c1,c2,Z,U⟩:=zF ((G.out.block (w.heap.size+1) (by omega) (by omega)).trans o.out.2.1)
 have T:=ze ((G.out.block (w.heap.size+2) (by omega) (by omega)).trans o.out.2.2)
 have I:Hid (zp r q w y q w3):=G.out;have O:Hid (zu w0 r q t w3):=N.out;clear Q ad G N;have cp:=ae.out q (t) w3 O.out;go_wp2_with fail
 refine cp.mono ?_;clear cp b0 T V c1 c2 Z U;rintro e w4 ⟨q4,A,W⟩;cases X0 with
 | none=>subst W;obtain rfl:R=none:=HR.out;exact ⟨rfl,q4,(I.out.step A).unto,rfl⟩
 | some u0 =>
 obtain ⟨rfl,ab⟩:=W;have z:Hid (zp r q w y q4 w4):=I.out.step A;have aa:Hid (zu w0 r q4 (t++u0) w4):=ab;clear A ab;have b0:=ze ((z.out.block (w.heap.size) (Nat.le_refl _) (by omega)).trans o.out.1)
 obtain ⟨V,c1,c2,Z,U⟩:=zF ((z.out.block (w.heap.size+1) (by omega) (by omega)).trans o.out.2.1)
 have T:=ze ((z.out.block (w.heap.size+2) (by omega) (by omega)).trans o.out.2.2)
 obtain rfl:R=some (u0):=HR.out;have HP:Hid (zk w0 r q t w (some (u0)) (.returned (.tuple #[])) w4):=⟨q4,z.out.unto,rfl,by have:=aa.out;simpa only [List.append_assoc] using this⟩
 clear I O z aa b0 T V c1 c2 Z U HR o ae;go_wp2
 exact bodyPost_ret (v:=.tuple #[]) (by simp [results,Tryz.results42,go_sem]) rfl HP.out
theorem zfW (w0:World) (D:Int) (hD1:1≤D) (hD2:D≤24) (hl:Zz w0) (s:List UInt8) (n line:Int) (base:Option Addr) (m cap r:Nat) (q:Option Nat) (t:List UInt8) (w:World) (h:zu w0 r q t w) (hex:YN 9 s n m=true) (X:Option (List UInt8)) (hS:Hid (∀(q:Option Nat) (t:List UInt8) (w:World),zu w0 r q t w→Calls Tryz.prog 84 #[.pointer (some ⟨r,0,none⟩),yu 9 s n base m cap line,.int .i64 D] w (zk w0 r q t w X))) :
  Calls Tryz.prog 42 #[.pointer (some ⟨r,0,none⟩),yu 9 s n base m cap line,.int .i64 D] w (zk w0 r q t w (X)):=by
 have ag:∀(fn:Fn) (first cap:Array Value) (w:World),(Instr.makeFunc fn first cap).run Tryz.prog w=.ok (.func fn first cap) w:=fun _ _ _ _=>rfl
 obtain ⟨R,hR⟩:∃R,R=X:=⟨_,rfl⟩;rw [←hR];obtain ⟨y,J⟩:∃y,y=qH w r 9 s n base m cap line D:=⟨_,rfl⟩;obtain ⟨H,Y,e0,e1,e2⟩:=yE w r 9 s n base m cap line D;rw [←J] at H Y e0 e1 e2;have K:=h.below H;have Q:Hid (zp r q w y q y):=zp.start h H;have o:Hid (y.heap[w.heap.size]?=some (.cells #[.pointer (some ⟨r,0,none⟩)] 85 (0,0))∧y.heap[w.heap.size+1]?=some (Yi 9 s n base m cap line)∧y.heap[w.heap.size+2]?=some (.cells #[.int .i64 D] 3 (0,0))):=⟨e0,e1,e2⟩;have ae:=hS;have ci:=ZS 9 s n base m cap line y (hl.env K.env);rw [hex] at ci;have ad:Hid (zu w0 r q t y):=K;have af:=J.symm;have b0:=ze e0;obtain ⟨V,c1,c2,Z,U⟩:=zF e1;have T:=ze e2;have ah:(0:Int)<D:=by omega
 clear hS;generalize X=X0 at *;have HR:Hid (R=X0):=hR;clear hR K e0 e1 e2 J H h hl hex
 go_enter Tryz.func42,Tryz.ntmps42
 go_wp2_with fail
 refine ci.mono ?_;clear ci b0 T V c1 c2 Z U;rintro e w2 ⟨rfl,L⟩;have G:Hid (zp r q w y q w2):=Q.out.step (zP.below L);have N:Hid (zu w0 r q t w2):=ad.out.below L;clear L;have ca:=zX true w2;go_wp2_with fail
 refine ca.mono ?_;clear ca;rintro e w3 ⟨rfl,rfl⟩;simp only [YW];have b0:=ze ((G.out.block (w.heap.size) (Nat.le_refl _) (by omega)).trans o.out.1)
 obtain ⟨V,c1,c2,Z,U⟩:=zF ((G.out.block (w.heap.size+1) (by omega) (by omega)).trans o.out.2.1)
 have T:=ze ((G.out.block (w.heap.size+2) (by omega) (by omega)).trans o.out.2.2)
 have I:Hid (zp r q w y q w3):=G.out;have O:Hid (zu w0 r q t w3):=N.out;clear Q ad G N;have cp:=ae.out q (t) w3 O.out;go_wp2_with fail
 refine cp.mono ?_;clear cp b0 T V c1 c2 Z U;rintro e w4 ⟨q4,A,W⟩;cases X0 with
 | none=>subst W;obtain rfl:R=none:=HR.out;exact ⟨rfl,q4,(I.out.step A).unto,rfl⟩
 | some u0 =>
 obtain ⟨rfl,ab⟩:=W;have z:Hid (zp r q w y q4 w4):=I.out.step A;have aa:Hid (zu w0 r q4 (t++u0) w4):=ab;clear A ab;have b0:=ze ((z.out.block (w.heap.size) (Nat.le_refl _) (by omega)).trans o.out.1)
 obtain ⟨V,c1,c2,Z,U⟩:=zF ((z.out.block (w.heap.size+1) (by omega) (by omega)).trans o.out.2.1)
 have T:=ze ((z.out.block (w.heap.size+2) (by omega) (by omega)).trans o.out.2.2)
 obtain rfl:R=some (u0):=HR.out;have HP:Hid (zk w0 r q t w (some (u0)) (.returned (.tuple #[])) w4):=⟨q4,z.out.unto,rfl,by have:=aa.out;simpa only [List.append_assoc] using this⟩
 clear I O z aa b0 T V c1 c2 Z U HR o ae;go_wp2
 exact bodyPost_ret (v:=.tuple #[]) (by simp [results,Tryz.results42,go_sem]) rfl HP.out
theorem zfX (w0:World) (D:Int) (hD1:1≤D) (hD2:D≤24) (hl:Zz w0) (s:List UInt8) (n line:Int) (base:Option Addr) (m cap r:Nat) (q:Option Nat) (t:List UInt8) (w:World) (h:zu w0 r q t w) (k:Int) (hex:YN k s n m=false) :
  Calls Tryz.prog 42 #[.pointer (some ⟨r,0,none⟩),yu k s n base m cap line,.int .i64 D] w (zk w0 r q t w none):=by
 have aa:∀(fn:Fn) (first cap:Array Value) (w:World),(Instr.makeFunc fn first cap).run Tryz.prog w=.ok (.func fn first cap) w:=fun _ _ _ _=>rfl
 obtain ⟨R,T⟩:∃R,R=(none:Option (List UInt8)):=⟨_,rfl⟩;rw [←T];obtain ⟨o,z⟩:∃o,o=qH w r k s n base m cap line D:=⟨_,rfl⟩;obtain ⟨y,H,J,K,I⟩:=yE w r k s n base m cap line D;rw [←z] at y H J K I;have A:=h.below y;have O:Hid (zp r q w o q o):=zp.start h y;have Z:Hid (o.heap[w.heap.size]?=some (.cells #[.pointer (some ⟨r,0,none⟩)] 85 (0,0))∧o.heap[w.heap.size+1]?=some (Yi k s n base m cap line)∧o.heap[w.heap.size+2]?=some (.cells #[.int .i64 D] 3 (0,0))):=⟨J,K,I⟩;have U:=ZS k s n base m cap line o (hl.env A.env);rw [hex] at U;have N:Hid (zu w0 r q t o):=A;have W:=z.symm;have b0:=ze J;obtain ⟨c0,c1,c2,c3,c4⟩:=zF K;have b2:=ze I;have ab:(0:Int)<D:=by omega
 have HR:Hid (R=none):=T;clear T A J K I z y h hl hex
 go_enter Tryz.func42,Tryz.ntmps42
 go_wp2_with fail
 refine U.mono ?_;clear U b0 b2 c0 c1 c2 c3 c4;rintro e L ⟨rfl,G⟩;have Q:Hid (zp r q w o q L):=O.out.step (zP.below G);have Y:Hid (zu w0 r q t L):=N.out.below G;clear G;have V:=zX false L;go_wp2_with fail
 refine V.mono ?_;clear V;rintro e w3 ⟨rfl,rfl⟩;obtain rfl:=HR.out;exact ⟨rfl,q,Q.out.unto,rfl⟩
theorem zdx (w0:World) (k:Int) (s:List UInt8) (n line:Int) (base:Option Addr) (m cap r:Nat) (q:Option Nat) (t:List UInt8) (w:World) (h:zu w0 r q t w) :
  Calls Tryz.prog 42 #[.pointer (some ⟨r,0,none⟩),yu k s n base m cap line,.int .i64 0] w (zk w0 r q t w none):=by
 obtain ⟨A,y⟩:∃A,A=qH w r k s n base m cap line 0:=⟨_,rfl⟩;obtain ⟨o,z,I,J,G⟩:=yE w r k s n base m cap line 0;rw [←y] at o z I J G;have D:Hid (zp r q w A q A):=zp.start h o;have H:=y.symm;have L:=ze G;have K:=zX false A;clear o I J G y h
 go_enter Tryz.func42,Tryz.ntmps42
 go_wp2_with fail
 refine K.mono ?_;clear K;rintro e N ⟨rfl,rfl⟩;exact ⟨rfl,q,D.out.unto,rfl⟩
end Go.Proofs.YtpejpbbdgblbeaaGreatDoor
