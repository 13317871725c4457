import Derived.Test.YtpejpbbdgblbeaaGreatDoorSWExpr
import Derived.Deep.RegionWith
import Derived.Test.YtpejpbbdgblbeaaGreatDoorMC8
import Derived.Shelf.Strings.Builder1
import Derived.Test.YtpejpbbdgblbeaaGreatDoorMC6
namespace Go.Proofs.YtpejpbbdgblbeaaGreatDoor
open Go.RowKit Go.Shelf
set_option maxHeartbeats 16000000
set_option maxRecDepth 100000
theorem zeI (w0:World) (D:Int) (hD1:1≤D) (hD2:D≤24) (hl:Zz w0) (s:List UInt8) (line:Int) (base:Option Addr) (m cap r:Nat) (q:Option Nat) (t:List UInt8) (w:World) (h:zu w0 r q t w) (hex:YN 2 s 0 m=true) :
  Calls Tryz.prog 42 #[.pointer (some ⟨r,0,none⟩),yu 2 s 0 base m cap line,.int .i64 D] w (zk w0 r q t w (some [102,97,108,115,101])):=by
 have ae:∀(fn:Fn) (first cap:Array Value) (w:World),(Instr.makeFunc fn first cap).run Tryz.prog w=.ok (.func fn first cap) w:=fun _ _ _ _=>rfl
 obtain ⟨R,hR⟩:∃R:Option (List UInt8),R=some [102,97,108,115,101]:=⟨_,rfl⟩;rw [←hR];obtain ⟨o,G⟩:∃o,o=qH w r 2 s 0 base m cap line D:=⟨_,rfl⟩;obtain ⟨z,U,Z,e1,Y⟩:=yE w r 2 s 0 base m cap line D;rw [←G] at z U Z e1 Y;have H:=h.below z;have Q:Hid (zp r q w o q o):=zp.start h z;have A:Hid (o.heap[w.heap.size]?=some (.cells #[.pointer (some ⟨r,0,none⟩)] 85 (0,0))∧o.heap[w.heap.size+1]?=some (Yi 2 s 0 base m cap line)∧o.heap[w.heap.size+2]?=some (.cells #[.int .i64 D] 3 (0,0))):=⟨Z,e1,Y⟩;have ci:=ZS 2 s 0 base m cap line o (hl.env H.env);rw [hex] at ci;have V:Hid (zu w0 r q t o):=H;have ad:=G.symm;have b0:=ze Z;obtain ⟨c0,c1,c2,c3,c4⟩:=zF e1;have b2:=ze Y;have af:(0:Int)<D:=by omega
 have HR:Hid (R=some [102,97,108,115,101]):=hR;clear hR H Z e1 Y G z h hl hex
 go_enter Tryz.func42,Tryz.ntmps42
 go_wp2_with fail
 refine ci.mono ?_;clear ci b0 b2 c0 c1 c2 c3 c4;rintro e w2 ⟨rfl,I⟩;have y:Hid (zp r q w o q w2):=Q.out.step (zP.below I);have K:Hid (zu w0 r q t w2):=V.out.below I;clear I;have ca:=zX true w2;go_wp2_with fail
 refine ca.mono ?_;clear ca;rintro e J ⟨rfl,rfl⟩;simp only [YW];have b0:=ze ((y.out.block (w.heap.size) (Nat.le_refl _) (by omega)).trans A.out.1)
 obtain ⟨c0,c1,c2,c3,c4⟩:=zF ((y.out.block (w.heap.size+1) (by omega) (by omega)).trans A.out.2.1)
 have b2:=ze ((y.out.block (w.heap.size+2) (by omega) (by omega)).trans A.out.2.2)
 have L:Hid (zp r q w o q J):=y.out;have O:Hid (zu w0 r q t J):=K.out;clear Q V y K;have N:Below J.heap.size J J.drew:=(Below.refl _ _).drew;have cp:=zt w0 r q t [102,97,108,115,101] J.drew (O.out.below N) (by simp)
 have ab:∀W,(Instr.index 133 (.agg #[.string ⟨#[102,97,108,115,101]⟩,.string ⟨#[116,114,117,101]⟩]) (.int .i64 0)).run Tryz.prog W=.ok (.string (zb [102,97,108,115,101])) W:=fun _=>rfl
 obtain rfl:=HR.out;have aa:Hid (∀e w',zk w0 r q t J.drew (some [102,97,108,115,101]) e w'→zk w0 r q t w (some [102,97,108,115,101]) e w'):=fun e w' ⟨q',h1,h2,h3⟩=>⟨q',(L.out.unto.trans (zP.below N)).trans h1,h2,h3⟩
 clear L O HR A;go_wp2_with fail
 go_region_with (go_at_call 81;refine cp.mono ?_;rintro e w4 T;have HP:=aa.out _ _ T;obtain ⟨-,-,rfl,-⟩:=T;have HP:Hid (zk w0 r q t w (some [102,97,108,115,101]) (.returned (.tuple #[])) w4):=HP)
 all_goals exact bodyPost_ret (v:=.tuple #[]) (by simp [results,Tryz.results42,go_sem]) rfl HP.out
theorem zeJ (w0:World) (D:Int) (hD1:1≤D) (hD2:D≤24) (hl:Zz w0) (s:List UInt8) (line:Int) (base:Option Addr) (m cap r:Nat) (q:Option Nat) (t:List UInt8) (w:World) (h:zu w0 r q t w) (hex:YN 2 s 1 m=true) :
  Calls Tryz.prog 42 #[.pointer (some ⟨r,0,none⟩),yu 2 s 1 base m cap line,.int .i64 D] w (zk w0 r q t w (some [116,114,117,101])):=by
 have ae:∀(fn:Fn) (first cap:Array Value) (w:World),(Instr.makeFunc fn first cap).run Tryz.prog w=.ok (.func fn first cap) w:=fun _ _ _ _=>rfl
 obtain ⟨R,hR⟩:∃R:Option (List UInt8),R=some [116,114,117,101]:=⟨_,rfl⟩;rw [←hR];obtain ⟨o,G⟩:∃o,o=qH w r 2 s 1 base m cap line D:=⟨_,rfl⟩;obtain ⟨z,U,Z,e1,Y⟩:=yE w r 2 s 1 base m cap line D;rw [←G] at z U Z e1 Y;have H:=h.below z;have Q:Hid (zp r q w o q o):=zp.start h z;have A:Hid (o.heap[w.heap.size]?=some (.cells #[.pointer (some ⟨r,0,none⟩)] 85 (0,0))∧o.heap[w.heap.size+1]?=some (Yi 2 s 1 base m cap line)∧o.heap[w.heap.size+2]?=some (.cells #[.int .i64 D] 3 (0,0))):=⟨Z,e1,Y⟩;have ci:=ZS 2 s 1 base m cap line o (hl.env H.env);rw [hex] at ci;have V:Hid (zu w0 r q t o):=H;have ad:=G.symm;have b0:=ze Z;obtain ⟨c0,c1,c2,c3,c4⟩:=zF e1;have b2:=ze Y;have af:(0:Int)<D:=by omega
 have HR:Hid (R=some [116,114,117,101]):=hR;clear hR H Z e1 Y G z h hl hex
 go_enter Tryz.func42,Tryz.ntmps42
 go_wp2_with fail
 refine ci.mono ?_;clear ci b0 b2 c0 c1 c2 c3 c4;rintro e w2 ⟨rfl,I⟩;have y:Hid (zp r q w o q w2):=Q.out.step (zP.below I);have K:Hid (zu w0 r q t w2):=V.out.below I;clear I;have ca:=zX true w2;go_wp2_with fail
 refine ca.mono ?_;clear ca;rintro e J ⟨rfl,rfl⟩;simp only [YW];have b0:=ze ((y.out.block (w.heap.size) (Nat.le_refl _) (by omega)).trans A.out.1)
 obtain ⟨c0,c1,c2,c3,c4⟩:=zF ((y.out.block (w.heap.size+1) (by omega) (by omega)).trans A.out.2.1)
 have b2:=ze ((y.out.block (w.heap.size+2) (by omega) (by omega)).trans A.out.2.2)
 have L:Hid (zp r q w o q J):=y.out;have O:Hid (zu w0 r q t J):=K.out;clear Q V y K;have N:Below J.heap.size J J.drew:=(Below.refl _ _).drew;have cp:=zt w0 r q t [116,114,117,101] J.drew (O.out.below N) (by simp)
 have ab:∀W,(Instr.index 133 (.agg #[.string ⟨#[102,97,108,115,101]⟩,.string ⟨#[116,114,117,101]⟩]) (.int .i64 1)).run Tryz.prog W=.ok (.string (zb [116,114,117,101])) W:=fun _=>rfl
 obtain rfl:=HR.out;have aa:Hid (∀e w',zk w0 r q t J.drew (some [116,114,117,101]) e w'→zk w0 r q t w (some [116,114,117,101]) e w'):=fun e w' ⟨q',h1,h2,h3⟩=>⟨q',(L.out.unto.trans (zP.below N)).trans h1,h2,h3⟩
 clear L O HR A;go_wp2_with fail
 go_region_with (go_at_call 81;refine cp.mono ?_;rintro e w4 T;have HP:=aa.out _ _ T;obtain ⟨-,-,rfl,-⟩:=T;have HP:Hid (zk w0 r q t w (some [116,114,117,101]) (.returned (.tuple #[])) w4):=HP)
 all_goals exact bodyPost_ret (v:=.tuple #[]) (by simp [results,Tryz.results42,go_sem]) rfl HP.out
def prB (f:Ez→Option (List UInt8)) (k:Int) (s:List UInt8) (n:Int) (kids:List Ez):Option (List UInt8) :=
  if YN k s n kids.length=true then
   if k=1 then tokO 2 n []
   else if k=2 then some (if n=0 then [102,97,108,115,101] else [116,114,117,101])
   else if k=3 then tokO 3 0 s
   else if k=4 then tokO 1 0 s
   else if k=5 then zc (tokO 1 0 s) (zc (some [40]) (zc (rowO (kids.map (f)) kids.length) (some [41])))
   else if k=11 then zc (some [110,101,119,32]) (zc (tokO 1 0 s) (zc (some [40]) (zc (rowO (kids.map (f)) kids.length) (some [41]))))
   else if k=10 then zc (some [91]) (zc (rowO (kids.map (f)) kids.length) (some [93]))
   else if k=6 then match kids with
    | a::_=>zc (some s) (kidO a 7 (f a))
    | _=>none
   else if k=7 then match kids with
    | a::b::_=>zc (kidO a (levelOf s) (f a)) (zc (some [32]) (zc (some s) (zc (some [32]) (kidO b (levelOf s+1) (f b)))))
    | _=>none
   else if k=8 then match kids with
    | a::b::_=>zc (kidO a 8 (f a)) (zc (some [91]) (zc (f b) (some [93])))
    | _=>none
   else if k=9 then match kids with
    | a::_=>zc (kidO a 8 (f a)) (zc (some [46]) (tokO 1 0 s))
    | _=>none
   else none
  else none
theorem zdy (d:Nat) (k:Int) (s:List UInt8) (n:Int) (kids:List Ez) (line:Int):prE (d+1) (.mk k s n kids line)=prB (prE d) k s n kids:=rfl
theorem xW {w0:World} {b o i:Nat} {a1:Int} {a2:List UInt8} {a3:Int} {a4:Option Addr} {a5 a6:Nat} {a7:Int} (p:Nat) (hp:p=o+i*5) (hlt:b<w0.heap.size) (h0:w0.cell? ⟨b,o+i*5,none⟩=some (.int .i64 a1)) (h1:w0.cell? ⟨b,o+i*5+1,none⟩=some (.string (zb a2))) (h2:w0.cell? ⟨b,o+i*5+2,none⟩=some (.int .i64 a3)) (h3:w0.cell? ⟨b,o+i*5+3,none⟩=some (.slice a4 a5 a6)) (h4:w0.cell? ⟨b,o+i*5+4,none⟩=some (.int .i64 a7)):ZX w0 b p a1 a2 a3 a4 a5 a6 a7:=by
 subst hp;exact ⟨hlt,h0,h1,h2,h3,h4⟩
theorem Vz (w0:World) (hT:ZC w0) (hl:Zz w0):∀d,d≤24→yD w0 d
 | 0,_=>by
  intro x v r q t w hx h;obtain ⟨k,s,n,kids,line⟩:=x;obtain ⟨G,y,rfl,-⟩:=hx.kid;exact zdx w0 k s n line G kids.length y r q t w h
 | d+1,hd=>by
  have hX:=Vz w0 hT hl d (by omega)
  intro x v r q t w hx h;obtain ⟨k,s,n,kids,line⟩:=x;obtain ⟨G,y,rfl,hc,hm,Z,ab,ae,H⟩:=hx.kid;obtain ⟨D,aa⟩:∃D:Int,D=((d+1:Nat):Int):=⟨_,rfl⟩;rw [←aa];have hD:D-1=(d:Int):=by omega
  have A:1≤D:=by omega
  have z:D≤24:=by omega
  rw [zdy]
  unfold prB
  by_cases hex:YN k s n kids.length=true
  ·rw [if_pos hex]
   by_cases h1:k=1
   ·subst h1;rw [if_pos rfl];exact zfP w0 D A z hT hl s n line G kids.length y r q t w h hex ab ae
   rw [if_neg h1]
   by_cases h2:k=2
   ·subst h2;rw [if_pos rfl]
    have ad:n=0∨n=1:=by
     unfold YN at hex
     simp at hex
     exact hex.2
    rcases ad with rfl | rfl
    ·rw [if_pos rfl];exact zeI w0 D A z hl s line G kids.length y r q t w h hex
    ·rw [if_neg (by omega)];exact zeJ w0 D A z hl s line G kids.length y r q t w h hex
   rw [if_neg h2]
   by_cases h3:k=3
   ·subst h3;rw [if_pos rfl];exact zfQ w0 D A z hT hl s n line G kids.length y r q t w h hex Z
   rw [if_neg h3]
   by_cases h4:k=4
   ·subst h4;rw [if_pos rfl];exact zfR w0 D A z hT hl s n line G kids.length y r q t w h hex Z
   rw [if_neg h4]
   by_cases h5:k=5
   ·subst h5;rw [if_pos rfl];exact zfS w0 d D hD A z hX hT hl s n line G kids.length y r q t w h hex Z kids rfl hc hm H
   rw [if_neg h5]
   by_cases h11:k=11
   ·subst h11;rw [if_pos rfl];exact zeG w0 d D hD A z hX hT hl s n line G kids.length y r q t w h hex Z kids rfl hc hm H
   rw [if_neg h11]
   by_cases h10:k=10
   ·subst h10;rw [if_pos rfl];exact zeH w0 d D hD A z hX hl s n line G kids.length y r q t w h hex kids rfl hc hm H
   rw [if_neg h10]
   by_cases h6:k=6
   ·subst h6;rw [if_pos rfl]
    have I:kids.length=1:=by unfold YN at hex;simp at hex;exact hex.1.2
    obtain ⟨a,rfl⟩:=List.length_eq_one_iff.1 I;obtain ⟨b,o,a1,O,V,N,a5,a6,R,rfl,K,-,J,L,Y,T,m3,W⟩:=H 0 a rfl;exact zfT w0 D A z hl s n line _ 1 y r q t w h hex _ fun q t w h=>zfL w0 d D hD A z hX hl s n b o y r line q t w Z h a a1 O V N a5 a6 R J (xW _ (by omega) K L Y T m3 W)
   rw [if_neg h6]
   by_cases h7:k=7
   ·subst h7;rw [if_pos rfl]
    have I:kids.length=2:=by unfold YN at hex;simp at hex;exact hex.1.2
    obtain ⟨a,c,rfl⟩:∃a c,kids=[a,c]:=by match kids,I with | [a,c],_=>exact ⟨a,c,rfl⟩
    obtain ⟨b,o,a1,O,V,N,a5,a6,R,rfl,K,-,J,L,Y,T,m3,W⟩:=H 0 a rfl;obtain ⟨b',o',c1,c2,c3,c4,c5,c6,c7,Q,-,-,U,n0,n1,n2,n3,n4⟩:=H 1 c rfl;cases Q
    exact zfU w0 D A z hl s n line _ 2 y r q t w h hex _ fun q t w h=>zfM w0 d D hD A z hX hl s n b o y r line q t w Z h a a1 O V N a5 a6 R J (xW _ (by omega) K L Y T m3 W) c c1 c2 c3 c4 c5 c6 c7 U (xW _ (by omega) K n0 n1 n2 n3 n4)
   rw [if_neg h7]
   by_cases h8:k=8
   ·subst h8;rw [if_pos rfl]
    have I:kids.length=2:=by unfold YN at hex;simp at hex;exact hex.1.2
    obtain ⟨a,c,rfl⟩:∃a c,kids=[a,c]:=by match kids,I with | [a,c],_=>exact ⟨a,c,rfl⟩
    obtain ⟨b,o,a1,O,V,N,a5,a6,R,rfl,K,-,J,L,Y,T,m3,W⟩:=H 0 a rfl;obtain ⟨b',o',c1,c2,c3,c4,c5,c6,c7,Q,-,-,U,n0,n1,n2,n3,n4⟩:=H 1 c rfl;cases Q
    exact zfV w0 D A z hl s n line _ 2 y r q t w h hex _ fun q t w h=>zfN w0 d D hD A z hX hl s n b o y r line q t w h a a1 O V N a5 a6 R J (xW _ (by omega) K L Y T m3 W) c c1 c2 c3 c4 c5 c6 c7 U (xW _ (by omega) K n0 n1 n2 n3 n4)
   rw [if_neg h8]
   by_cases h9:k=9
   ·subst h9;rw [if_pos rfl]
    have I:kids.length=1:=by unfold YN at hex;simp at hex;exact hex.2
    obtain ⟨a,rfl⟩:=List.length_eq_one_iff.1 I;obtain ⟨b,o,a1,O,V,N,a5,a6,R,rfl,K,-,J,L,Y,T,m3,W⟩:=H 0 a rfl;exact zfW w0 D A z hl s n line _ 1 y r q t w h hex _ fun q t w h=>zfO w0 d D hD A z hX hT hl s n b o y r line q t w Z h a a1 O V N a5 a6 R J (xW _ (by omega) K L Y T m3 W)
   exfalso
   unfold YN at hex
   rw [if_neg h1,if_neg h2,if_neg h3,if_neg h4,if_neg h5,if_neg h11,if_neg h6,if_neg h7,if_neg h8,if_neg h9,if_neg h10] at hex;cases hex
  ·rw [if_neg hex]
   exact zfX w0 D A z hl s n line G kids.length y r q t w h k (by simpa using hex)
theorem zdz:Tryz.prog.cellsOf 5=1:=by kernel_rfl
theorem zdA (B r g cap:Nat) (l:List UInt8) (cur:Array Value) (w:World) (hl0:l≠[]) (hc1:w.cell? ⟨r,1,none⟩=some (.slice (some ⟨g,0,none⟩) l.length cap)) (hbg:B≤g) (hg:w.heap[g]?=some (.cells cur 5 (0,0))) (hnc:l.length≤cap) (hcm:cap≤maxLen) (hcs:cur.size=cap) (hcell:∀j u,(Lib.byteCells l)[j]?=some u→w.cell? ((⟨g,0,none⟩:Addr).add j)=some u) :
  Calls Tryz.prog 69 #[.pointer (some ⟨r,0,none⟩)] w fun e w'=>e=.returned (.string (zb l))∧Below B w w':=by
 have s:l.length≠0:=by simpa using hl0
 have c1:w.drew.cell? ⟨r,1,none⟩=some (.slice (some ⟨g,0,none⟩) l.length cap):=hc1
 have y:(Builtin.unsafeSliceData_ #[120] 157 #[.slice (some ⟨g,0,none⟩) l.length cap]).run Tryz.prog w.drew=.ok (.pointer (some ⟨g,0,none⟩)) w.drew :=
  Lib.run_unsafeSliceData_row _ _ _ _ _ _ (by omega)
 have z:(Builtin.unsafeString_ #[157,3] 9 #[.pointer (some ⟨g,0,none⟩),.int .i64 l.length]).run Tryz.prog w.drew=.ok (.string ⟨l.toArray⟩) (w.drew.freeze ⟨g,0,none⟩ l.length):=by
  refine Lib.run_unsafeString_row w.drew 157 3 9 5 Tryz.underlying157 zdz g cur.size (by have h:w.drew.heap[g]?=some (.cells cur 5 (0,0)):=hg;simp [World.shape?,h]) l hl0 (by omega) (by unfold maxLen at hcm;omega) ?_
  intro j x A;exact hcell j (.int .u8 x.toNat) (by simp [Lib.byteCells,A])
 have o:Hid (Below B w (w.drew.freeze ⟨g,0,none⟩ l.length)):=Lib.below_freeze (Below.drew (Below.refl B w)) (p:=⟨g,0,none⟩) hbg _;clear hbg hg hcell hcs hnc hcm hl0;have mixed:Tryz.prog.follows Departure.mixedOrders=true:=rfl
 go_enter Tryz.func69,Tryz.ntmps69
 go_wp2
 go_region_o
 all_goals (go_wp2;exact bodyPost_ret (v:=.string ⟨l.toArray⟩) (by simp [results,Tryz.results69,go_sem]) rfl ⟨rfl,o.out⟩)
theorem zdB (B r g cap:Nat) (w:World) (hc0:cap≠0) (hc1:w.cell? ⟨r,1,none⟩=some (.slice (some ⟨g,0,none⟩) 0 cap)) :
  Calls Tryz.prog 69 #[.pointer (some ⟨r,0,none⟩)] w fun e w'=>e=.returned (.string (zb []))∧Below B w w':=by
 have o:∀(W:World) (q:Option Addr),(Builtin.unsafeString_ #[157,3] 9 #[.pointer q,.int .i64 0]).run Tryz.prog W=.ok (.string .empty) W:=fun W q=>Lib.run_unsafeString_none W _ _ _ q
 have c1:w.drew.cell? ⟨r,1,none⟩=some (.slice (some ⟨g,0,none⟩) 0 cap):=hc1
 have h:(Builtin.unsafeSliceData_ #[120] 157 #[.slice (some ⟨g,0,none⟩) 0 cap]).run Tryz.prog w.drew=.ok (.pointer (some ⟨g,0,none⟩)) w.drew :=
  Lib.run_unsafeSliceData_row _ _ _ _ _ _ hc0
 clear hc0;have mixed:Tryz.prog.follows Departure.mixedOrders=true:=rfl
 go_enter Tryz.func69,Tryz.ntmps69
 go_wp2
 go_region_o
 all_goals (go_wp2;exact bodyPost_ret (v:=.string .empty) (by simp [results,Tryz.results69,go_sem]) rfl ⟨rfl,Below.drew (Below.refl B w)⟩)
theorem zaT (B r g:Nat) (cur:Array Value) (w:World) (hBw:B≤w.heap.size) (hc1:w.cell? ⟨r,1,none⟩=some (.slice (some ⟨g,0,none⟩) 0 0)) (hg:w.heap[g]?=some (.cells cur 5 (0,0))) :
  Calls Tryz.prog 69 #[.pointer (some ⟨r,0,none⟩)] w fun e w'=>e=.returned (.string (zb []))∧Below B w w':=by
 have s:∀(W:World) (q:Option Addr),(Builtin.unsafeString_ #[157,3] 9 #[.pointer q,.int .i64 0]).run Tryz.prog W=.ok (.string .empty) W:=fun W q=>Lib.run_unsafeString_none W _ _ _ q
 have c1:w.drew.cell? ⟨r,1,none⟩=some (.slice (some ⟨g,0,none⟩) 0 0):=hc1
 have o:(Builtin.unsafeSliceData_ #[120] 157 #[.slice (some ⟨g,0,none⟩) 0 0]).run Tryz.prog w.drew=.ok (.pointer (some ⟨w.drew.heap.size,0,none⟩)) (w.drew.alloc (.view ⟨g,0,none⟩ 5)) :=
  Lib.run_unsafeSliceData_zero w.drew _ _ 5 Tryz.underlying157 ⟨g,0,none⟩ 0 (5,cur.size) (by have h:w.drew.heap[g]?=some (.cells cur 5 (0,0)):=hg;simp [World.shape?,h])
 have c2:(w.drew.alloc (.view ⟨g,0,none⟩ 5)).cell? ⟨r,1,none⟩=some (.slice (some ⟨g,0,none⟩) 0 0):=zj c1 _;have y:(w.alloc (.view ⟨g,0,none⟩ 5)).drew.cell? ⟨r,1,none⟩=some (.slice (some ⟨g,0,none⟩) 0 0):=c2;have mixed:Tryz.prog.follows Departure.mixedOrders=true:=rfl
 go_enter Tryz.func69,Tryz.ntmps69
 go_wp2
 go_region_o
 all_goals (go_wp2;exact bodyPost_ret (v:=.string .empty) (by simp [results,Tryz.results69,go_sem]) rfl ⟨rfl,(Below.drew (Below.refl B w)).alloc hBw _⟩)
theorem zaU (B r:Nat) (q:Option Nat) (l:List UInt8) (lo:Bool) (w:World) (h:Y8 r q l lo w) (hB:B≤w.heap.size) (hq:∀k,q=some k→B≤k) :
  Calls Tryz.prog 69 #[.pointer (some ⟨r,0,none⟩)] w fun e w'=>e=.returned (.string (zb l))∧Below B w w':=by
 obtain ⟨⟨p,v,K,N,G,rfl⟩,L⟩:=h;obtain ⟨O,c1,c2,Q⟩:=vB K;rcases G.2 with ⟨rfl,I⟩ | ⟨g,o,s,rfl,J,H,D,A,y,z⟩
 ·obtain rfl:l=[]:=List.eq_nil_of_length_eq_zero I
  exact zeB B r w c1
 ·by_cases hl:l=[]
  ·subst hl
   by_cases hc0:o=0
   ·subst hc0
    exact zaT B r g s w hB c1 H
   ·exact zdB B r g o w hc0 c1
  ·exact zdA B r g o l s w hl c1 (hq g rfl) H D A (by simpa using y) (G.cells (g:=g) rfl)
end Go.Proofs.YtpejpbbdgblbeaaGreatDoor
namespace Go.Proofs.YtpejpbbdgblbeaaGreatDoor
open Go.RowKit Go.Extern.Stop Go.Stop Go.Extern
set_option maxHeartbeats 16000000
set_option maxRecDepth 100000
theorem xL (g:FuncId) (cap:Array Value) (w:World) (Q:World→Prop) (Pn:Int→Int→World→Prop) (hent:∀w,(callFunc g cap).run Tryz.prog w=.ok (.enter g cap) w)
  (hdo:Calls Tryz.prog g cap (zeu w) fun e w'=>w'.heap[w.heap.size]?=some (.cells #[.int .i64 0] 3 (0,0))∧w'.heap[w.heap.size+1]?=some (.cells #[.int .i64 0] 26 (0,0))∧Y7 w'∧((e=.returned (.tuple #[])∧Q w')∨∃o at0,e=.panicked [{ v:=qv o at0,recovered:=false }]∧Pn o at0 w')) :
  Calls Tryz.prog 48 #[.func (.func g) #[] cap] w fun e w' =>
   (∃w0,e=.returned (.tuple #[.int .i64 0,.int .i64 0])∧Q w0∧Below w.heap.size w0 w'∧∀k,k≠w.heap.size→k≠w.heap.size+1→w'.heap[k]?=w0.heap[k]?)∨∃o at0 w0,e=.returned (.tuple #[.int .i64 at0,.int .i64 o])∧Pn o at0 w0∧Below w.heap.size w0 w':=by
 have T:∀(fn:Fn) (first cap:Array Value) (w:World),(Instr.makeFunc fn first cap).run Tryz.prog w=.ok (.func fn first cap) w:=fun _ _ _ _=>rfl
 go_enter_defers Tryz.func48,Tryz.ntmps48
 go_wp2_with fail
 refine hdo.mono ?_;clear hdo;rintro e s ⟨y,z,V,h⟩;have U:s.cell? ⟨w.heap.size,0,none⟩=some (.int .i64 0):=by simp [World.cell?,y]
 have J:s.cell? ⟨w.heap.size+1,0,none⟩=some (.int .i64 0):=by simp [World.cell?,z]
 have L:s.frozen? ⟨w.heap.size,0,none⟩=false:=by simp [World.frozen?,y]
 have W:s.frozen? ⟨w.heap.size+1,0,none⟩=false:=by simp [World.frozen?,z]
 have G:∀v,(s.setCell ⟨w.heap.size,0,none⟩ v).cell? ⟨w.heap.size+1,0,none⟩=some (.int .i64 0):=fun v=>(World.cell?_setCell_other _ _ _ _ (by simp)).trans J
 rcases h with ⟨rfl,N⟩ | ⟨o,at0,rfl,R⟩
 ·have A:Below w.heap.size s ((s.setCell ⟨w.heap.size,0,none⟩ (.int .i64 0)).setCell ⟨w.heap.size+1,0,none⟩ (.int .i64 0)):=((Below.refl w.heap.size s).setCell (p:=⟨w.heap.size,0,none⟩) (by simp) _).setCell (p:=⟨w.heap.size+1,0,none⟩) (by simp) _
  have K:Hid (Below w.heap.size s ((s.setCell ⟨w.heap.size,0,none⟩ (.int .i64 0)).setCell ⟨w.heap.size+1,0,none⟩ (.int .i64 0))):=A
  have H:((s.setCell ⟨w.heap.size,0,none⟩ (.int .i64 0)).setCell ⟨w.heap.size+1,0,none⟩ (.int .i64 0)).cell? ⟨w.heap.size,0,none⟩=some (.int .i64 0):=by
   rw [World.cell?_setCell_other _ _ _ _ (by simp),World.cell?_setCell_same _ _ _ U]
  have I:((s.setCell ⟨w.heap.size,0,none⟩ (.int .i64 0)).setCell ⟨w.heap.size+1,0,none⟩ (.int .i64 0)).cell? ⟨w.heap.size+1,0,none⟩=some (.int .i64 0):=World.cell?_setCell_same _ _ _ (G _);clear A;go_wp2
  refine leaves_cons (f:=90) (args:=#[.pointer (some ⟨w.heap.size,0,none⟩),.pointer (some ⟨w.heap.size+1,0,none⟩)]) (by simp) (by simp [go_sem]) ?_
  refine (zaC ⟨w.heap.size,0,none⟩ ⟨w.heap.size+1,0,none⟩ _).mono ?_;rintro e O D ⟨rfl,rfl,rfl⟩
  simp [Leaves,settle,results,Tryz.results48,go_sem,H,I]
  exact .inl ⟨s,N,K.out,fun k y z=>by rw [Below.heap_setCell _ _ _ _ (by simpa using z),Below.heap_setCell _ _ _ _ (by simpa using y)]⟩
 ·refine leaves_cons (f:=90) (args:=#[.pointer (some ⟨w.heap.size,0,none⟩),.pointer (some ⟨w.heap.size+1,0,none⟩)]) (by simp) (by simp [go_sem]) ?_
  refine (Qp w.heap.size o at0 0 0 [] s y z V).mono ?_;rintro e O D ⟨rfl,rfl,H,I,A⟩
  simp [Leaves,settle,results,Tryz.results48,go_sem,H,I]
  exact .inr ⟨o,at0,⟨rfl,rfl⟩,s,R,A⟩
end Go.Proofs.YtpejpbbdgblbeaaGreatDoor
namespace Go.Proofs.YtpejpbbdgblbeaaGreatDoor
open Go.RowKit Go.Shelf
set_option maxHeartbeats 16000000
set_option maxRecDepth 100000
def prR (R:Option (List UInt8)):List UInt8 × Nat:=match R with
 | none=>([],2)
 | some s=>if 4096<s.length then ([],5) else (s,0)
abbrev wrZ:Obj:=.cells #[.pointer none,.slice none 0 0,.bool false] 124
abbrev wrW (w:World) (f:Value):World:=((w.alloc (.cells #[f] 87)).alloc wrZ).alloc (.cells #[.pointer (some ⟨w.heap.size+1,0,none⟩)] 85)
theorem zeK (w:World) (f:Value):Below w.heap.size w (wrW w f)∧(wrW w f).heap.size=w.heap.size+3∧(wrW w f).heap[w.heap.size]?=some (.cells #[f] 87 (0,0))∧(wrW w f).heap[w.heap.size+1]?=some wrZ∧(wrW w f).heap[w.heap.size+2]?=some (.cells #[.pointer (some ⟨w.heap.size+1,0,none⟩)] 85 (0,0)):=by
 refine ⟨(((Below.refl _ w).alloc (Nat.le_refl _) _).alloc (by simp) _).alloc (by simp <;> omega) _,by simp,?_,?_,?_⟩
 ·rw [Below.heap_alloc _ _ _ (by simp <;> omega),Below.heap_alloc _ _ _ (by simp)];exact World.alloc_heap_new _ _
 ·rw [Below.heap_alloc _ _ _ (by simp)]
  have:=World.alloc_heap_new (w.alloc (.cells #[f] 87)) wrZ
  simpa using this
 ·have:=World.alloc_heap_new ((w.alloc (.cells #[f] 87)).alloc wrZ) (.cells #[.pointer (some ⟨w.heap.size+1,0,none⟩)] 85)
  simpa using this
theorem zeL (w0:World) (F bx r N0 N2:Nat) (q:Option Nat) (t:List UInt8) (R:Option (List UInt8)) (w:World) (hent:∀args w,(callFunc F args).run Tryz.prog w=.ok (.enter F args) w)
  (hW:Calls Tryz.prog F #[.pointer (some ⟨r,0,none⟩),.pointer (some ⟨bx,0,none⟩)] w (zk w0 r q t w R)) (c0:w.cell? ⟨N0,0,none⟩=some (.func (.func F) #[] #[.pointer (some ⟨bx,0,none⟩)])) (c2:w.cell? ⟨N2,0,none⟩=some (.pointer (some ⟨r,0,none⟩))) :
  Calls Tryz.prog 68 #[.pointer (some ⟨N0,0,none⟩),.pointer (some ⟨N2,0,none⟩)] w (zk w0 r q t w R):=by
 go_enter Tryz.func68,Tryz.ntmps68
 go_wp2_with fail
 refine hW.mono ?_;clear hW;rintro e z ⟨o,h,y⟩;cases R with
 | none=>subst y;exact ⟨rfl,o,h,rfl⟩
 | some u =>
  obtain ⟨rfl,s⟩:=y;have A:Hid (zk w0 r q t w (some u) (.returned (.tuple #[])) z):=⟨o,h,rfl,s⟩;clear h s c0 c2;go_wp2
  exact bodyPost_ret (v:=.tuple #[]) (by simp [results,Tryz.results68,go_sem]) rfl A.out
theorem QQ (F bx:Nat) (R:Option (List UInt8)) (w:World) (he:Y7 w) (hent:∀args w,(callFunc F args).run Tryz.prog w=.ok (.enter F args) w)
  (hW:∀W,zu w (w.heap.size+1) none [] W→Calls Tryz.prog F #[.pointer (some ⟨w.heap.size+1,0,none⟩),.pointer (some ⟨bx,0,none⟩)] W (zk w (w.heap.size+1) none [] W R)) :
  Calls Tryz.prog 34 #[.func (.func F) #[] #[.pointer (some ⟨bx,0,none⟩)]] w fun e w'=>e=.returned (.tuple #[.string (zb (prR R).1),.int .i64 ((prR R).2:Int)])∧Below w.heap.size w w':=by
 have al:∀(fn:Fn) (first cap:Array Value) (w:World),(Instr.makeFunc fn first cap).run Tryz.prog w=.ok (.func fn first cap) w:=fun _ _ _ _=>rfl
 obtain ⟨w1,Q⟩:∃w1,w1=wrW w (.func (.func F) #[] #[.pointer (some ⟨bx,0,none⟩)]):=⟨_,rfl⟩;obtain ⟨K,ab,e0,e1,e2⟩:=zeK w (.func (.func F) #[] #[.pointer (some ⟨bx,0,none⟩)]);rw [←Q] at K ab e0 e1 e2;obtain ⟨W,A⟩:∃W,W=zeu w1:=⟨_,rfl⟩;have D:Below w1.heap.size w1 W:=by rw [A];exact ((Below.refl _ w1).alloc (Nat.le_refl _) _).alloc (by simp) _
 have an:W.heap.size=w.heap.size+5:=by rw [A];simp [ab]
 have z:Below w.heap.size w W:=K.trans (D.mono (by omega))
 have pa:W.heap[w1.heap.size]?=some (.cells #[.int .i64 0] 3 (0,0)):=by
  rw [A,Below.heap_alloc _ _ _ (by simp)];exact World.alloc_heap_new _ _
 have pb:W.heap[w1.heap.size+1]?=some (.cells #[.int .i64 0] 26 (0,0)):=by
  rw [A]
  have:=World.alloc_heap_new (w1.alloc (.cells #[.int .i64 0] 3)) (.cells #[.int .i64 0] 26)
  simpa using this
 have Y:Y8 (w.heap.size+1) none [] false W:=⟨⟨_,_,(D.block _ (by omega)).trans e1,.inl rfl,World.ownsRow_nil _ _ _ _,rfl⟩,by simp⟩
 have hT:zu w (w.heap.size+1) none [] W:=⟨⟨[],false,Y,⟨fun h=>(by cases h),fun h=>(by simp at h)⟩,fun _=>rfl,by simp⟩,z,by omega,fun k h=>by cases h⟩
 have ah:0<w.heap.size:=World.block_lt_of_cell? w _ he;have ad:=zeL w F bx (w.heap.size+1) w.heap.size (w.heap.size+2) none [] R W hent (hW W hT) (ze ((D.block _ (by omega)).trans e0)) (ze ((D.block _ (by omega)).trans e2))
 have ca:=xL 68 #[.pointer (some ⟨w.heap.size,0,none⟩),.pointer (some ⟨w.heap.size+2,0,none⟩)] w1 (fun w'=>∃s G,R=some s∧zP (w.heap.size+1) none W G w'∧zu w (w.heap.size+1) G s w') (fun aa at0 w'=>aa=2∧at0=0∧R=none∧∃G,zP (w.heap.size+1) none W G w') (fun _=>rfl) (by
  rw [←A];refine ad.mono fun e w' hP=>?_
  obtain ⟨G,o,hp⟩:=hP;refine ⟨(o.block _ (by omega) (by omega) (by simp)).trans pa,(o.block _ (by omega) (by omega) (by simp)).trans pb,?_,?_⟩
  ·unfold Y7
   rw [World.cell?_of_block ((o.block 0 (by omega) (by omega) (by simp)).trans (z.block _ ah))];exact he
  ·cases R with
   | none=>exact .inr ⟨2,0,hp,rfl,rfl,rfl,G,o⟩
   | some s=>exact .inl ⟨hp.1,s,G,rfl,o,by simpa using hp.2⟩)
 have ak:Hid (Below w.heap.size w w1):=K;have I:Hid (Below w.heap.size w W):=z;have HE:Hid (W.heap[w.heap.size+2]?=some (.cells #[.pointer (some ⟨w.heap.size+1,0,none⟩)] 85 (0,0))):=(D.block _ (by omega)).trans e2
 have ai:=Q.symm;clear hW ad hT Y pa pb z D e0 e1 e2 K he Q A
 go_enter Tryz.func34,Tryz.ntmps34
 go_wp2_with fail
 refine ca.mono ?_;clear ca;rintro e w6 (⟨w5,rfl,⟨s,G,rfl,o,T⟩,y,J⟩ | ⟨aa,at0,w5,rfl,⟨rfl,rfl,rfl,G,o⟩,y⟩)
 ·obtain ⟨l,lo,ae,O,hl,aj⟩:=T.at0
  have af:=o.size;have am:=y.size
  have U:∀k,G=some k→w.heap.size+5≤k:=fun k hk=>by
   rcases o.row with e | e
   ·rw [e] at hk;cases hk
   ·have:=e k hk;omega
  have H:Y8 (w.heap.size+1) G l lo w6:=ae.keep (J _ (by omega) (by omega)) fun k hk=>J k (by have:=U k hk;omega) (by have:=U k hk;omega)
  have c2:w6.cell? ⟨w.heap.size+2,0,none⟩=some (.pointer (some ⟨w.heap.size+1,0,none⟩)):=ze ((J _ (by omega) (by omega)).trans ((o.block _ (by omega) (by omega) (by simp)).trans HE.out))
  have N:Below w.heap.size w w6:=T.env.trans (y.mono (by omega))
  obtain ⟨p,v,V,-⟩:=H.has;obtain ⟨-,-,cl,-⟩:=vB V;have cs:=zaU w.heap.size (w.heap.size+1) G l lo w6 H (by omega) (fun k hk=>by have:=U k hk;omega)
  have L:Hid (Below w.heap.size w w6):=N;clear ae H V N y J o T HE;cases lo with
  | true =>
   have HR:Hid (prR (some s)=([],5)):=show _=_ by unfold prR;simp only [if_pos (O.1 rfl)]
   clear cs O hl;go_wp2
   exact bodyPost_ret (v:=.tuple #[.string ⟨#[]⟩,.int .i64 5]) (by simp [results,Tryz.results34,go_sem]) rfl ⟨by rw [HR.out];rfl,L.out⟩
  | false =>
   obtain rfl:=hl rfl
   have HR:Hid (prR (some l)=(l,0)):=show _=_ by
    unfold prR
    have:¬ 4096<l.length:=by omega
    simp only [if_neg this]
   clear O hl;go_wp2_with fail
   refine cs.mono ?_;clear cs;rintro e w7 ⟨rfl,Z⟩;have ag:Hid (Below w.heap.size w w7):=L.out.trans Z;clear Z;go_wp2
   exact bodyPost_ret (v:=.tuple #[.string (zb l),.int .i64 0]) (by simp [results,Tryz.results34,go_sem]) rfl ⟨by rw [HR.out];rfl,ag.out⟩
 ·have af:=o.size
  have L:Hid (Below w.heap.size w w6):=⟨y.os.trans (o.os.trans I.out.os),y.tape.trans (o.tape.trans I.out.tape),y.output.trans (o.output.trans I.out.output),by have:=y.size;omega,fun k hk=>(y.block k (by omega)).trans ((o.block k (by omega) (by omega) (by simp)).trans (I.out.block k hk))⟩
  clear o y HE;have HR:Hid (prR none=([],2)):=rfl;go_wp2
  exact bodyPost_ret (v:=.tuple #[.string ⟨#[]⟩,.int .i64 2]) (by simp [results,Tryz.results34,go_sem]) rfl ⟨by rw [HR.out];rfl,L.out⟩
theorem Zs.wide {B B':Nat} {w:World} {x:Ez} {v:Value} (h:Zs B w x v) (hB:B≤B'):Zs B' w x v:=by
 induction h with
 | mk k s n kids line base cap b o us hs hn0 hn1 hbase hlen hc hm hcell hfive _ ih =>
  exact .mk k s n kids line base cap b o us hs hn0 hn1 (fun h=>⟨(hbase h).1,Nat.lt_of_lt_of_le (hbase h).2.1 hB,(hbase h).2.2⟩) hlen hc hm hcell hfive ih
theorem zeM (w0:World) (k:Int) (s:List UInt8) (n:Int) (base:Option Addr) (m cap:Nat) (line:Int) (bx r:Nat) (q:Option Nat) (t:List UInt8) (R:Option (List UInt8)) (w:World) (p:w.heap[bx]?=some (Yi k s n base m cap line))
  (cx:Calls Tryz.prog 42 #[.pointer (some ⟨r,0,none⟩),yu k s n base m cap line,.int .i64 24] w (zk w0 r q t w R)) :
  Calls Tryz.prog 41 #[.pointer (some ⟨r,0,none⟩),.pointer (some ⟨bx,0,none⟩)] w (zk w0 r q t w R):=by
 obtain ⟨H,c1,c2,D,G⟩:=zF p;clear p
 go_enter Tryz.func41,Tryz.ntmps41
 go_wp2_with fail
 refine cx.mono ?_;clear cx;rintro e I ⟨y,h,z⟩;cases R with
 | none=>subst z;exact ⟨rfl,y,h,rfl⟩
 | some u =>
  obtain ⟨rfl,o⟩:=z;have A:Hid (zk w0 r q t w (some u) (.returned (.tuple #[])) I):=⟨y,h,rfl,o⟩;clear h o H c1 c2 D G;go_wp2
  exact bodyPost_ret (v:=.tuple #[]) (by simp [results,Tryz.results41,go_sem]) rfl A.out
theorem UA (x:Ez) (v:Value) (w:World) (hx:Zs w.heap.size w x v) (hT:ZC w) (hl:Zz w) (he:Y7 w) :
  Calls Tryz.prog 18 #[v] w fun e w'=>e=.returned (.tuple #[.string (zb (prR (prE 24 x)).1),.int .i64 ((prR (prE 24 x)).2:Int)])∧Below w.heap.size w w':=by
 have U:∀(fn:Fn) (first h:Array Value) (w:World),(Instr.makeFunc fn first h).run Tryz.prog w=.ok (.func fn first h) w:=fun _ _ _ _=>rfl
 obtain ⟨k,s,n,kids,line⟩:=x;have A:=hx;obtain ⟨o,h,rfl,-⟩:=hx.kid;obtain ⟨w1,y⟩:∃w1,w1=w.alloc (Yi k s n o kids.length h line):=⟨_,rfl⟩;have z:Below w.heap.size w w1:=by rw [y];exact (Below.refl _ w).alloc (Nat.le_refl _) _
 have N:w1.heap[w.heap.size]?=some (Yi k s n o kids.length h line):=by rw [y];exact World.alloc_heap_new w _
 have T:w1.heap.size=w.heap.size+1:=by rw [y];simp
 have K:=Vz w1 (hT.below z (Nat.le_refl _)) (hl.env z) 24 (Nat.le_refl _);have D:Zs w1.heap.size w1 (.mk k s n kids line) (yu k s n o kids.length h line):=(A.kept z).wide (by omega)
 have I:=QQ 41 w.heap.size (prE 24 (.mk k s n kids line)) w1 (by unfold Y7;rw [y];exact zj he _) (fun _ _=>rfl) fun W hWr=>zeM w1 k s n o kids.length h line w.heap.size _ none [] _ W ((hWr.env.block _ (by omega)).trans N) (K _ _ _ none [] W D hWr)
 have J:Hid (Below w.heap.size w w1):=z;have L:=y.symm;generalize prR (prE 24 (.mk k s n kids line))=R at *;generalize kids.length=m at *;clear hx A D K N z hT hl he y;obtain ⟨u,Q⟩:=R;simp only at I ⊢
 go_enter Tryz.func18,Tryz.ntmps18
 go_wp2_with fail
 refine I.mono ?_;clear I;rintro e O ⟨rfl,G⟩;have H:Hid (Below w.heap.size w O):=zl J.out G;clear G;go_wp2
 exact bodyPost_ret (v:=.tuple #[.string (zb u),.int .i64 (Q:Int)]) (by simp [results,Tryz.results18,go_sem]) rfl ⟨rfl,H.out⟩
end Go.Proofs.YtpejpbbdgblbeaaGreatDoor
