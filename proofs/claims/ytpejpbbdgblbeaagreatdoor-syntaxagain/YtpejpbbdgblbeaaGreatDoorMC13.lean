import Derived.Test.YtpejpbbdgblbeaaGreatDoorSWExpr
import Derived.Deep.RegionWith
import Derived.Test.YtpejpbbdgblbeaaGreatDoorMC8
import Derived.Shelf.Strings.Builder1
import Derived.Test.YtpejpbbdgblbeaaGreatDoorMC6
namespace Go.Proofs.YtpejpbbdgblbeaaGreatDoor
open Go.RowKit Go.Shelf
set_option maxHeartbeats 16000000
set_option maxRecDepth 100000
theorem zgz (w0:World) (D:Int) (hD1:1≤D) (hD2:D≤24) (hl:ZC w0) (s:List UInt8) (line:Int) (base:Option Addr) (m cap r:Nat) (q:Option Nat) (t:List UInt8) (w:World) (h:zy w0 r q t w) (hex:yQ 2 s 0 m=true) :
  Calls Tryz.prog 42 #[.pointer (some ⟨r,0,none⟩),yz 2 s 0 base m cap line,.int .i64 D] w (zo w0 r q t w (some [102,97,108,115,101])):=by
 have ae:∀(fn:Fn) (first cap:Array Value) (w:World),(Instr.makeFunc fn first cap).run Tryz.prog w=.ok (.func fn first cap) w:=fun _ _ _ _=>rfl
 obtain ⟨R,hR⟩:∃R:Option (List UInt8),R=some [102,97,108,115,101]:=⟨_,rfl⟩;rw [←hR];obtain ⟨y,J⟩:∃y,y=QP w r 2 s 0 base m cap line D:=⟨_,rfl⟩;obtain ⟨z,O,e0,Z,e2⟩:=yO w r 2 s 0 base m cap line D;rw [←J] at z O e0 Z e2;have G:=h.below z;have L:Hid (zr r q w y q y):=zr.start h z;have A:Hid (y.heap[w.heap.size]?=some (.cells #[.pointer (some ⟨r,0,none⟩)] 85 (0,0))∧y.heap[w.heap.size+1]?=some (YD 2 s 0 base m cap line)∧y.heap[w.heap.size+2]?=some (.cells #[.int .i64 D] 3 (0,0))):=⟨e0,Z,e2⟩;have ci:=ZT 2 s 0 base m cap line y (hl.env G.env);rw [hex] at ci;have Y:Hid (zy w0 r q t y):=G;have ad:=J.symm;have b0:=ze e0;obtain ⟨c0,c1,c2,c3,c4⟩:=zI Z;have b2:=ze e2;have af:(0:Int)<D:=by omega
 have HR:Hid (R=some [102,97,108,115,101]):=hR;clear hR G e0 Z e2 J z h hl hex
 go_enter Tryz.func42,Tryz.ntmps42
 go_wp2_with fail
 refine ci.mono ?_;clear ci b0 b2 c0 c1 c2 c3 c4;rintro e w2 ⟨rfl,I⟩;have o:Hid (zr r q w y q w2):=L.out.step (zT.below I);have T:Hid (zy w0 r q t w2):=Y.out.below I;clear I;have ca:=z6 true w2;go_wp2_with fail
 refine ca.mono ?_;clear ca;rintro e H ⟨rfl,rfl⟩;simp only [xd];have b0:=ze ((o.out.block (w.heap.size) (Nat.le_refl _) (by omega)).trans A.out.1)
 obtain ⟨c0,c1,c2,c3,c4⟩:=zI ((o.out.block (w.heap.size+1) (by omega) (by omega)).trans A.out.2.1)
 have b2:=ze ((o.out.block (w.heap.size+2) (by omega) (by omega)).trans A.out.2.2)
 have V:Hid (zr r q w y q H):=o.out;have U:Hid (zy w0 r q t H):=T.out;clear L Y o T;have N:Below H.heap.size H H.drew:=(Below.refl _ _).drew;have cp:=zx w0 r q t [102,97,108,115,101] H.drew (U.out.below N) (by simp)
 have ab:∀W,(Instr.index 133 (.agg #[.string ⟨#[102,97,108,115,101]⟩,.string ⟨#[116,114,117,101]⟩]) (.int .i64 0)).run Tryz.prog W=.ok (.string (zb [102,97,108,115,101])) W:=fun _=>rfl
 obtain rfl:=HR.out;have aa:Hid (∀e w',zo w0 r q t H.drew (some [102,97,108,115,101]) e w'→zo w0 r q t w (some [102,97,108,115,101]) e w'):=fun e w' ⟨q',h1,h2,h3⟩=>⟨q',(V.out.unto.trans (zT.below N)).trans h1,h2,h3⟩
 clear V U HR A;go_wp2_with fail
 go_region_with (go_at_call 81;refine cp.mono ?_;rintro e w4 Q;have HP:=aa.out _ _ Q;obtain ⟨-,-,rfl,-⟩:=Q;have HP:Hid (zo w0 r q t w (some [102,97,108,115,101]) (.returned (.tuple #[])) w4):=HP)
 all_goals exact bodyPost_ret (v:=.tuple #[]) (by simp [results,Tryz.results42,go_sem]) rfl HP.out
theorem zgA (w0:World) (D:Int) (hD1:1≤D) (hD2:D≤24) (hl:ZC w0) (s:List UInt8) (line:Int) (base:Option Addr) (m cap r:Nat) (q:Option Nat) (t:List UInt8) (w:World) (h:zy w0 r q t w) (hex:yQ 2 s 1 m=true) :
  Calls Tryz.prog 42 #[.pointer (some ⟨r,0,none⟩),yz 2 s 1 base m cap line,.int .i64 D] w (zo w0 r q t w (some [116,114,117,101])):=by
 have ae:∀(fn:Fn) (first cap:Array Value) (w:World),(Instr.makeFunc fn first cap).run Tryz.prog w=.ok (.func fn first cap) w:=fun _ _ _ _=>rfl
 obtain ⟨R,hR⟩:∃R:Option (List UInt8),R=some [116,114,117,101]:=⟨_,rfl⟩;rw [←hR];obtain ⟨y,J⟩:∃y,y=QP w r 2 s 1 base m cap line D:=⟨_,rfl⟩;obtain ⟨z,O,e0,Z,e2⟩:=yO w r 2 s 1 base m cap line D;rw [←J] at z O e0 Z e2;have G:=h.below z;have L:Hid (zr r q w y q y):=zr.start h z;have A:Hid (y.heap[w.heap.size]?=some (.cells #[.pointer (some ⟨r,0,none⟩)] 85 (0,0))∧y.heap[w.heap.size+1]?=some (YD 2 s 1 base m cap line)∧y.heap[w.heap.size+2]?=some (.cells #[.int .i64 D] 3 (0,0))):=⟨e0,Z,e2⟩;have ci:=ZT 2 s 1 base m cap line y (hl.env G.env);rw [hex] at ci;have Y:Hid (zy w0 r q t y):=G;have ad:=J.symm;have b0:=ze e0;obtain ⟨c0,c1,c2,c3,c4⟩:=zI Z;have b2:=ze e2;have af:(0:Int)<D:=by omega
 have HR:Hid (R=some [116,114,117,101]):=hR;clear hR G e0 Z e2 J z h hl hex
 go_enter Tryz.func42,Tryz.ntmps42
 go_wp2_with fail
 refine ci.mono ?_;clear ci b0 b2 c0 c1 c2 c3 c4;rintro e w2 ⟨rfl,I⟩;have o:Hid (zr r q w y q w2):=L.out.step (zT.below I);have T:Hid (zy w0 r q t w2):=Y.out.below I;clear I;have ca:=z6 true w2;go_wp2_with fail
 refine ca.mono ?_;clear ca;rintro e H ⟨rfl,rfl⟩;simp only [xd];have b0:=ze ((o.out.block (w.heap.size) (Nat.le_refl _) (by omega)).trans A.out.1)
 obtain ⟨c0,c1,c2,c3,c4⟩:=zI ((o.out.block (w.heap.size+1) (by omega) (by omega)).trans A.out.2.1)
 have b2:=ze ((o.out.block (w.heap.size+2) (by omega) (by omega)).trans A.out.2.2)
 have V:Hid (zr r q w y q H):=o.out;have U:Hid (zy w0 r q t H):=T.out;clear L Y o T;have N:Below H.heap.size H H.drew:=(Below.refl _ _).drew;have cp:=zx w0 r q t [116,114,117,101] H.drew (U.out.below N) (by simp)
 have ab:∀W,(Instr.index 133 (.agg #[.string ⟨#[102,97,108,115,101]⟩,.string ⟨#[116,114,117,101]⟩]) (.int .i64 1)).run Tryz.prog W=.ok (.string (zb [116,114,117,101])) W:=fun _=>rfl
 obtain rfl:=HR.out;have aa:Hid (∀e w',zo w0 r q t H.drew (some [116,114,117,101]) e w'→zo w0 r q t w (some [116,114,117,101]) e w'):=fun e w' ⟨q',h1,h2,h3⟩=>⟨q',(V.out.unto.trans (zT.below N)).trans h1,h2,h3⟩
 clear V U HR A;go_wp2_with fail
 go_region_with (go_at_call 81;refine cp.mono ?_;rintro e w4 Q;have HP:=aa.out _ _ Q;obtain ⟨-,-,rfl,-⟩:=Q;have HP:Hid (zo w0 r q t w (some [116,114,117,101]) (.returned (.tuple #[])) w4):=HP)
 all_goals exact bodyPost_ret (v:=.tuple #[]) (by simp [results,Tryz.results42,go_sem]) rfl HP.out
def prB (f:Ez→Option (List UInt8)) (k:Int) (s:List UInt8) (n:Int) (kids:List Ez):Option (List UInt8) :=
  if yQ k s n kids.length=true then
   if k=1 then tokO 2 n []
   else if k=2 then some (if n=0 then [102,97,108,115,101] else [116,114,117,101])
   else if k=3 then tokO 3 0 s
   else if k=4 then tokO 1 0 s
   else if k=5 then zc (tokO 1 0 s) (zc (some [40]) (zc (rowO (kids.map (f)) kids.length) (some [41])))
   else if k=11 then zc (some [110,101,119,32]) (zc (tokO 1 0 s) (zc (some [40]) (zc (rowO (kids.map (f)) kids.length) (some [41]))))
   else if k=10 then zc (some [91]) (zc (rowO (kids.map (f)) kids.length) (some [93]))
   else if k=6 then match kids with
    | a::_=>zc (some s) (kidO a 7 (f a))
    | _=>none
   else if k=7 then match kids with
    | a::b::_=>zc (kidO a (levelOf s) (f a)) (zc (some [32]) (zc (some s) (zc (some [32]) (kidO b (levelOf s+1) (f b)))))
    | _=>none
   else if k=8 then match kids with
    | a::b::_=>zc (kidO a 8 (f a)) (zc (some [91]) (zc (f b) (some [93])))
    | _=>none
   else if k=9 then match kids with
    | a::_=>zc (kidO a 8 (f a)) (zc (some [46]) (tokO 1 0 s))
    | _=>none
   else none
  else none
theorem X8 (d:Nat) (k:Int) (s:List UInt8) (n:Int) (kids:List Ez) (line:Int):prE (d+1) (.mk k s n kids line)=prB (prE d) k s n kids:=rfl
theorem Xj {w0:World} {b o i:Nat} {a1:Int} {a2:List UInt8} {a3:Int} {a4:Option Addr} {a5 a6:Nat} {a7:Int} (p:Nat) (hp:p=o+i*5) (hlt:b<w0.heap.size) (h0:w0.cell? ⟨b,o+i*5,none⟩=some (.int .i64 a1)) (h1:w0.cell? ⟨b,o+i*5+1,none⟩=some (.string (zb a2))) (h2:w0.cell? ⟨b,o+i*5+2,none⟩=some (.int .i64 a3)) (h3:w0.cell? ⟨b,o+i*5+3,none⟩=some (.slice a4 a5 a6)) (h4:w0.cell? ⟨b,o+i*5+4,none⟩=some (.int .i64 a7)):ZZ w0 b p a1 a2 a3 a4 a5 a6 a7:=by
 subst hp;exact ⟨hlt,h0,h1,h2,h3,h4⟩
theorem uc (w0:World) (hT:ZE w0) (hl:ZC w0):∀d,d≤24→yN w0 d
 | 0,_=>by
  intro x v r q t w hx h;obtain ⟨k,s,n,kids,line⟩:=x;obtain ⟨G,y,rfl,-⟩:=hx.kid;exact ze4 w0 k s n line G kids.length y r q t w h
 | d+1,hd=>by
  have hX:=uc w0 hT hl d (by omega)
  intro x v r q t w hx h;obtain ⟨k,s,n,kids,line⟩:=x;obtain ⟨G,y,rfl,hc,hm,hs,ae,ab,H⟩:=hx.kid;obtain ⟨D,ad⟩:∃D:Int,D=((d+1:Nat):Int):=⟨_,rfl⟩;rw [←ad];have Q:D-1=(d:Int):=by omega
  have z:1≤D:=by omega
  have A:D≤24:=by omega
  rw [X8]
  unfold prB
  by_cases hex:yQ k s n kids.length=true
  ·rw [if_pos hex]
   by_cases h1:k=1
   ·subst h1;rw [if_pos rfl];exact zhU w0 D z A hT hl s n line G kids.length y r q t w h hex ae ab
   rw [if_neg h1]
   by_cases h2:k=2
   ·subst h2;rw [if_pos rfl]
    have af:n=0∨n=1:=by
     unfold yQ at hex
     simp at hex
     exact hex.2
    rcases af with rfl | rfl
    ·rw [if_pos rfl];exact zgz w0 D z A hl s line G kids.length y r q t w h hex
    ·rw [if_neg (by omega)];exact zgA w0 D z A hl s line G kids.length y r q t w h hex
   rw [if_neg h2]
   by_cases h3:k=3
   ·subst h3;rw [if_pos rfl];exact zhV w0 D z A hT hl s n line G kids.length y r q t w h hex hs
   rw [if_neg h3]
   by_cases h4:k=4
   ·subst h4;rw [if_pos rfl];exact zhW w0 D z A hT hl s n line G kids.length y r q t w h hex hs
   rw [if_neg h4]
   by_cases h5:k=5
   ·subst h5;rw [if_pos rfl];exact zhX w0 d D Q z A hX hT hl s n line G kids.length y r q t w h hex hs kids rfl hc hm H
   rw [if_neg h5]
   by_cases h11:k=11
   ·subst h11;rw [if_pos rfl];exact zgx w0 d D Q z A hX hT hl s n line G kids.length y r q t w h hex hs kids rfl hc hm H
   rw [if_neg h11]
   by_cases h10:k=10
   ·subst h10;rw [if_pos rfl];exact zgy w0 d D Q z A hX hl s n line G kids.length y r q t w h hex kids rfl hc hm H
   rw [if_neg h10]
   by_cases h6:k=6
   ·subst h6;rw [if_pos rfl]
    have I:kids.length=1:=by unfold yQ at hex;simp at hex;exact hex.1.2
    obtain ⟨a,rfl⟩:=List.length_eq_one_iff.1 I;obtain ⟨b,o,a1,a2,U,a4,R,Z,W,rfl,L,-,J,Y,N,V,O,m4⟩:=H 0 a rfl;exact zhY w0 D z A hl s n line _ 1 y r q t w h hex _ fun q t w h=>zhQ w0 d D Q z A hX hl s n b o y r line q t w hs h a a1 a2 U a4 R Z W J (Xj _ (by omega) L Y N V O m4)
   rw [if_neg h6]
   by_cases h7:k=7
   ·subst h7;rw [if_pos rfl]
    have I:kids.length=2:=by unfold yQ at hex;simp at hex;exact hex.1.2
    obtain ⟨a,c,rfl⟩:∃a c,kids=[a,c]:=by match kids,I with | [a,c],_=>exact ⟨a,c,rfl⟩
    obtain ⟨b,o,a1,a2,U,a4,R,Z,W,rfl,L,-,J,Y,N,V,O,m4⟩:=H 0 a rfl;obtain ⟨b',o',c1,c2,c3,c4,c5,c6,c7,aa,-,-,T,n0,n1,n2,n3,n4⟩:=H 1 c rfl;cases aa
    exact zhZ w0 D z A hl s n line _ 2 y r q t w h hex _ fun q t w h=>zhR w0 d D Q z A hX hl s n b o y r line q t w hs h a a1 a2 U a4 R Z W J (Xj _ (by omega) L Y N V O m4) c c1 c2 c3 c4 c5 c6 c7 T (Xj _ (by omega) L n0 n1 n2 n3 n4)
   rw [if_neg h7]
   by_cases h8:k=8
   ·subst h8;rw [if_pos rfl]
    have I:kids.length=2:=by unfold yQ at hex;simp at hex;exact hex.1.2
    obtain ⟨a,c,rfl⟩:∃a c,kids=[a,c]:=by match kids,I with | [a,c],_=>exact ⟨a,c,rfl⟩
    obtain ⟨b,o,a1,a2,U,a4,R,Z,W,rfl,L,-,J,Y,N,V,O,m4⟩:=H 0 a rfl;obtain ⟨b',o',c1,c2,c3,c4,c5,c6,c7,aa,-,-,T,n0,n1,n2,n3,n4⟩:=H 1 c rfl;cases aa
    exact zh0 w0 D z A hl s n line _ 2 y r q t w h hex _ fun q t w h=>zhS w0 d D Q z A hX hl s n b o y r line q t w h a a1 a2 U a4 R Z W J (Xj _ (by omega) L Y N V O m4) c c1 c2 c3 c4 c5 c6 c7 T (Xj _ (by omega) L n0 n1 n2 n3 n4)
   rw [if_neg h8]
   by_cases h9:k=9
   ·subst h9;rw [if_pos rfl]
    have I:kids.length=1:=by unfold yQ at hex;simp at hex;exact hex.2
    obtain ⟨a,rfl⟩:=List.length_eq_one_iff.1 I;obtain ⟨b,o,a1,a2,U,a4,R,Z,W,rfl,L,-,J,Y,N,V,O,m4⟩:=H 0 a rfl;exact zh1 w0 D z A hl s n line _ 1 y r q t w h hex _ fun q t w h=>zhT w0 d D Q z A hX hT hl s n b o y r line q t w hs h a a1 a2 U a4 R Z W J (Xj _ (by omega) L Y N V O m4)
   exfalso
   unfold yQ at hex
   rw [if_neg h1,if_neg h2,if_neg h3,if_neg h4,if_neg h5,if_neg h11,if_neg h6,if_neg h7,if_neg h8,if_neg h9,if_neg h10] at hex;cases hex
  ·rw [if_neg hex]
   exact zh2 w0 D z A hl s n line G kids.length y r q t w h k (by simpa using hex)
theorem ze5:Tryz.prog.cellsOf 5=1:=by kernel_rfl
theorem ze6 (B r g cap:Nat) (l:List UInt8) (cur:Array Value) (w:World) (hl0:l≠[]) (hc1:w.cell? ⟨r,1,none⟩=some (.slice (some ⟨g,0,none⟩) l.length cap)) (hbg:B≤g) (hg:w.heap[g]?=some (.cells cur 5 (0,0))) (hnc:l.length≤cap) (hcm:cap≤maxLen) (hcs:cur.size=cap) (hcell:∀j u,(Lib.byteCells l)[j]?=some u→w.cell? ((⟨g,0,none⟩:Addr).add j)=some u) :
  Calls Tryz.prog 69 #[.pointer (some ⟨r,0,none⟩)] w fun e w'=>e=.returned (.string (zb l))∧Below B w w':=by
 have y:l.length≠0:=by simpa using hl0
 have c1:w.drew.cell? ⟨r,1,none⟩=some (.slice (some ⟨g,0,none⟩) l.length cap):=hc1
 have A:(Builtin.unsafeSliceData_ #[120] 157 #[.slice (some ⟨g,0,none⟩) l.length cap]).run Tryz.prog w.drew=.ok (.pointer (some ⟨g,0,none⟩)) w.drew :=
  Lib.run_unsafeSliceData_row _ _ _ _ _ _ (by omega)
 have D:(Builtin.unsafeString_ #[157,3] 9 #[.pointer (some ⟨g,0,none⟩),.int .i64 l.length]).run Tryz.prog w.drew=.ok (.string ⟨l.toArray⟩) (w.drew.freeze ⟨g,0,none⟩ l.length):=by
  refine Lib.run_unsafeString_row w.drew 157 3 9 5 Tryz.underlying157 ze5 g cur.size (by have h:w.drew.heap[g]?=some (.cells cur 5 (0,0)):=hg;simp [World.shape?,h]) l hl0 (by omega) (by unfold maxLen at hcm;omega) ?_
  intro j x z;exact hcell j (.int .u8 x.toNat) (by simp [Lib.byteCells,z])
 have o:Hid (Below B w (w.drew.freeze ⟨g,0,none⟩ l.length)):=Lib.below_freeze (Below.drew (Below.refl B w)) (p:=⟨g,0,none⟩) hbg _;clear hbg hg hcell hcs hnc hcm hl0;have mixed:Tryz.prog.follows Departure.mixedOrders=true:=rfl
 go_enter Tryz.func69,Tryz.ntmps69
 go_wp2
 go_region_o
 all_goals (go_wp2;exact bodyPost_ret (v:=.string ⟨l.toArray⟩) (by simp [results,Tryz.results69,go_sem]) rfl ⟨rfl,o.out⟩)
theorem ze7 (B r g cap:Nat) (w:World) (hc0:cap≠0) (hc1:w.cell? ⟨r,1,none⟩=some (.slice (some ⟨g,0,none⟩) 0 cap)) :
  Calls Tryz.prog 69 #[.pointer (some ⟨r,0,none⟩)] w fun e w'=>e=.returned (.string (zb []))∧Below B w w':=by
 have o:∀(W:World) (q:Option Addr),(Builtin.unsafeString_ #[157,3] 9 #[.pointer q,.int .i64 0]).run Tryz.prog W=.ok (.string .empty) W:=fun W q=>Lib.run_unsafeString_none W _ _ _ q
 have c1:w.drew.cell? ⟨r,1,none⟩=some (.slice (some ⟨g,0,none⟩) 0 cap):=hc1
 have h:(Builtin.unsafeSliceData_ #[120] 157 #[.slice (some ⟨g,0,none⟩) 0 cap]).run Tryz.prog w.drew=.ok (.pointer (some ⟨g,0,none⟩)) w.drew :=
  Lib.run_unsafeSliceData_row _ _ _ _ _ _ hc0
 clear hc0;have mixed:Tryz.prog.follows Departure.mixedOrders=true:=rfl
 go_enter Tryz.func69,Tryz.ntmps69
 go_wp2
 go_region_o
 all_goals (go_wp2;exact bodyPost_ret (v:=.string .empty) (by simp [results,Tryz.results69,go_sem]) rfl ⟨rfl,Below.drew (Below.refl B w)⟩)
theorem zb1 (B r g:Nat) (cur:Array Value) (w:World) (hBw:B≤w.heap.size) (hc1:w.cell? ⟨r,1,none⟩=some (.slice (some ⟨g,0,none⟩) 0 0)) (hg:w.heap[g]?=some (.cells cur 5 (0,0))) :
  Calls Tryz.prog 69 #[.pointer (some ⟨r,0,none⟩)] w fun e w'=>e=.returned (.string (zb []))∧Below B w w':=by
 have y:∀(W:World) (q:Option Addr),(Builtin.unsafeString_ #[157,3] 9 #[.pointer q,.int .i64 0]).run Tryz.prog W=.ok (.string .empty) W:=fun W q=>Lib.run_unsafeString_none W _ _ _ q
 have c1:w.drew.cell? ⟨r,1,none⟩=some (.slice (some ⟨g,0,none⟩) 0 0):=hc1
 have o:(Builtin.unsafeSliceData_ #[120] 157 #[.slice (some ⟨g,0,none⟩) 0 0]).run Tryz.prog w.drew=.ok (.pointer (some ⟨w.drew.heap.size,0,none⟩)) (w.drew.alloc (.view ⟨g,0,none⟩ 5)) :=
  Lib.run_unsafeSliceData_zero w.drew _ _ 5 Tryz.underlying157 ⟨g,0,none⟩ 0 (5,cur.size) (by have h:w.drew.heap[g]?=some (.cells cur 5 (0,0)):=hg;simp [World.shape?,h])
 have c2:(w.drew.alloc (.view ⟨g,0,none⟩ 5)).cell? ⟨r,1,none⟩=some (.slice (some ⟨g,0,none⟩) 0 0):=zl c1 _;have z:(w.alloc (.view ⟨g,0,none⟩ 5)).drew.cell? ⟨r,1,none⟩=some (.slice (some ⟨g,0,none⟩) 0 0):=c2;have mixed:Tryz.prog.follows Departure.mixedOrders=true:=rfl
 go_enter Tryz.func69,Tryz.ntmps69
 go_wp2
 go_region_o
 all_goals (go_wp2;exact bodyPost_ret (v:=.string .empty) (by simp [results,Tryz.results69,go_sem]) rfl ⟨rfl,(Below.drew (Below.refl B w)).alloc hBw _⟩)
theorem zb2 (B r:Nat) (q:Option Nat) (l:List UInt8) (lo:Bool) (w:World) (h:xr r q l lo w) (hB:B≤w.heap.size) (hq:∀k,q=some k→B≤k) :
  Calls Tryz.prog 69 #[.pointer (some ⟨r,0,none⟩)] w fun e w'=>e=.returned (.string (zb l))∧Below B w w':=by
 obtain ⟨⟨p,v,J,R,I,rfl⟩,O⟩:=h;obtain ⟨T,c1,c2,Q⟩:=Vf J;rcases I.2 with ⟨rfl,N⟩ | ⟨g,o,y,rfl,L,H,A,D,z,G⟩
 ·obtain rfl:l=[]:=List.eq_nil_of_length_eq_zero N
  exact zgs B r w c1
 ·by_cases hl:l=[]
  ·subst hl
   by_cases hc0:o=0
   ·subst hc0
    exact zb1 B r g y w hB c1 H
   ·exact ze7 B r g o w hc0 c1
  ·exact ze6 B r g o l y w hl c1 (hq g rfl) H A D (by simpa using z) (I.cells (g:=g) rfl)
end Go.Proofs.YtpejpbbdgblbeaaGreatDoor
namespace Go.Proofs.YtpejpbbdgblbeaaGreatDoor
open Go.RowKit Go.Extern.Stop Go.Stop Go.Extern
set_option maxHeartbeats 16000000
set_option maxRecDepth 100000
theorem xZ (g:FuncId) (cap:Array Value) (w:World) (Q:World→Prop) (Pn:Int→Int→World→Prop) (hent:∀w,(callFunc g cap).run Tryz.prog w=.ok (.enter g cap) w)
  (hdo:Calls Tryz.prog g cap (zgl w) fun e w'=>w'.heap[w.heap.size]?=some (.cells #[.int .i64 0] 3 (0,0))∧w'.heap[w.heap.size+1]?=some (.cells #[.int .i64 0] 26 (0,0))∧xp w'∧((e=.returned (.tuple #[])∧Q w')∨∃o at0,e=.panicked [{ v:=QE o at0,recovered:=false }]∧Pn o at0 w')) :
  Calls Tryz.prog 48 #[.func (.func g) #[] cap] w fun e w' =>
   (∃w0,e=.returned (.tuple #[.int .i64 0,.int .i64 0])∧Q w0∧Below w.heap.size w0 w'∧∀k,k≠w.heap.size→k≠w.heap.size+1→w'.heap[k]?=w0.heap[k]?)∨∃o at0 w0,e=.returned (.tuple #[.int .i64 at0,.int .i64 o])∧Pn o at0 w0∧Below w.heap.size w0 w':=by
 have L:∀(fn:Fn) (first cap:Array Value) (w:World),(Instr.makeFunc fn first cap).run Tryz.prog w=.ok (.func fn first cap) w:=fun _ _ _ _=>rfl
 go_enter_defers Tryz.func48,Tryz.ntmps48
 go_wp2_with fail
 refine hdo.mono ?_;clear hdo;rintro e y ⟨z,A,N,h⟩;have U:y.cell? ⟨w.heap.size,0,none⟩=some (.int .i64 0):=by simp [World.cell?,z]
 have Y:y.cell? ⟨w.heap.size+1,0,none⟩=some (.int .i64 0):=by simp [World.cell?,A]
 have Z:y.frozen? ⟨w.heap.size,0,none⟩=false:=by simp [World.frozen?,z]
 have V:y.frozen? ⟨w.heap.size+1,0,none⟩=false:=by simp [World.frozen?,A]
 have I:∀v,(y.setCell ⟨w.heap.size,0,none⟩ v).cell? ⟨w.heap.size+1,0,none⟩=some (.int .i64 0):=fun v=>(World.cell?_setCell_other _ _ _ _ (by simp)).trans Y
 rcases h with ⟨rfl,W⟩ | ⟨o,at0,rfl,T⟩
 ·have D:Below w.heap.size y ((y.setCell ⟨w.heap.size,0,none⟩ (.int .i64 0)).setCell ⟨w.heap.size+1,0,none⟩ (.int .i64 0)):=((Below.refl w.heap.size y).setCell (p:=⟨w.heap.size,0,none⟩) (by simp) _).setCell (p:=⟨w.heap.size+1,0,none⟩) (by simp) _
  have O:Hid (Below w.heap.size y ((y.setCell ⟨w.heap.size,0,none⟩ (.int .i64 0)).setCell ⟨w.heap.size+1,0,none⟩ (.int .i64 0))):=D
  have J:((y.setCell ⟨w.heap.size,0,none⟩ (.int .i64 0)).setCell ⟨w.heap.size+1,0,none⟩ (.int .i64 0)).cell? ⟨w.heap.size,0,none⟩=some (.int .i64 0):=by
   rw [World.cell?_setCell_other _ _ _ _ (by simp),World.cell?_setCell_same _ _ _ U]
  have H:((y.setCell ⟨w.heap.size,0,none⟩ (.int .i64 0)).setCell ⟨w.heap.size+1,0,none⟩ (.int .i64 0)).cell? ⟨w.heap.size+1,0,none⟩=some (.int .i64 0):=World.cell?_setCell_same _ _ _ (I _);clear D;go_wp2
  refine leaves_cons (f:=90) (args:=#[.pointer (some ⟨w.heap.size,0,none⟩),.pointer (some ⟨w.heap.size+1,0,none⟩)]) (by simp) (by simp [go_sem]) ?_
  refine (zbK ⟨w.heap.size,0,none⟩ ⟨w.heap.size+1,0,none⟩ _).mono ?_;rintro e R G ⟨rfl,rfl,rfl⟩
  simp [Leaves,settle,results,Tryz.results48,go_sem,J,H]
  exact .inl ⟨y,W,O.out,fun k z A=>by rw [Below.heap_setCell _ _ _ _ (by simpa using A),Below.heap_setCell _ _ _ _ (by simpa using z)]⟩
 ·refine leaves_cons (f:=90) (args:=#[.pointer (some ⟨w.heap.size,0,none⟩),.pointer (some ⟨w.heap.size+1,0,none⟩)]) (by simp) (by simp [go_sem]) ?_
  refine (zay w.heap.size o at0 0 0 [] y z A N).mono ?_;rintro e R G ⟨rfl,rfl,J,H,D⟩
  simp [Leaves,settle,results,Tryz.results48,go_sem,J,H]
  exact .inr ⟨o,at0,⟨rfl,rfl⟩,y,T,D⟩
end Go.Proofs.YtpejpbbdgblbeaaGreatDoor
namespace Go.Proofs.YtpejpbbdgblbeaaGreatDoor
open Go.RowKit Go.Shelf
set_option maxHeartbeats 16000000
set_option maxRecDepth 100000
def prR (R:Option (List UInt8)):List UInt8 × Nat:=match R with
 | none=>([],2)
 | some s=>if 4096<s.length then ([],5) else (s,0)
abbrev wrZ:Obj:=.cells #[.pointer none,.slice none 0 0,.bool false] 124
abbrev wrW (w:World) (f:Value):World:=((w.alloc (.cells #[f] 87)).alloc wrZ).alloc (.cells #[.pointer (some ⟨w.heap.size+1,0,none⟩)] 85)
theorem zgB (w:World) (f:Value):Below w.heap.size w (wrW w f)∧(wrW w f).heap.size=w.heap.size+3∧(wrW w f).heap[w.heap.size]?=some (.cells #[f] 87 (0,0))∧(wrW w f).heap[w.heap.size+1]?=some wrZ∧(wrW w f).heap[w.heap.size+2]?=some (.cells #[.pointer (some ⟨w.heap.size+1,0,none⟩)] 85 (0,0)):=by
 refine ⟨(((Below.refl _ w).alloc (Nat.le_refl _) _).alloc (by simp) _).alloc (by simp <;> omega) _,by simp,?_,?_,?_⟩
 ·rw [Below.heap_alloc _ _ _ (by simp <;> omega),Below.heap_alloc _ _ _ (by simp)];exact World.alloc_heap_new _ _
 ·rw [Below.heap_alloc _ _ _ (by simp)]
  have:=World.alloc_heap_new (w.alloc (.cells #[f] 87)) wrZ
  simpa using this
 ·have:=World.alloc_heap_new ((w.alloc (.cells #[f] 87)).alloc wrZ) (.cells #[.pointer (some ⟨w.heap.size+1,0,none⟩)] 85)
  simpa using this
theorem zgC (w0:World) (F bx r N0 N2:Nat) (q:Option Nat) (t:List UInt8) (R:Option (List UInt8)) (w:World) (hent:∀args w,(callFunc F args).run Tryz.prog w=.ok (.enter F args) w)
  (hW:Calls Tryz.prog F #[.pointer (some ⟨r,0,none⟩),.pointer (some ⟨bx,0,none⟩)] w (zo w0 r q t w R)) (c0:w.cell? ⟨N0,0,none⟩=some (.func (.func F) #[] #[.pointer (some ⟨bx,0,none⟩)])) (c2:w.cell? ⟨N2,0,none⟩=some (.pointer (some ⟨r,0,none⟩))) :
  Calls Tryz.prog 68 #[.pointer (some ⟨N0,0,none⟩),.pointer (some ⟨N2,0,none⟩)] w (zo w0 r q t w R):=by
 go_enter Tryz.func68,Tryz.ntmps68
 go_wp2_with fail
 refine hW.mono ?_;clear hW;rintro e A ⟨o,h,z⟩;cases R with
 | none=>subst z;exact ⟨rfl,o,h,rfl⟩
 | some u =>
  obtain ⟨rfl,y⟩:=z;have D:Hid (zo w0 r q t w (some u) (.returned (.tuple #[])) A):=⟨o,h,rfl,y⟩;clear h y c0 c2;go_wp2
  exact bodyPost_ret (v:=.tuple #[]) (by simp [results,Tryz.results68,go_sem]) rfl D.out
theorem zaX (F bx:Nat) (R:Option (List UInt8)) (w:World) (he:xp w) (hent:∀args w,(callFunc F args).run Tryz.prog w=.ok (.enter F args) w)
  (hW:∀W,zy w (w.heap.size+1) none [] W→Calls Tryz.prog F #[.pointer (some ⟨w.heap.size+1,0,none⟩),.pointer (some ⟨bx,0,none⟩)] W (zo w (w.heap.size+1) none [] W R)) :
  Calls Tryz.prog 34 #[.func (.func F) #[] #[.pointer (some ⟨bx,0,none⟩)]] w fun e w'=>e=.returned (.tuple #[.string (zb (prR R).1),.int .i64 ((prR R).2:Int)])∧Below w.heap.size w w':=by
 have al:∀(fn:Fn) (first cap:Array Value) (w:World),(Instr.makeFunc fn first cap).run Tryz.prog w=.ok (.func fn first cap) w:=fun _ _ _ _=>rfl
 obtain ⟨w1,V⟩:∃w1,w1=wrW w (.func (.func F) #[] #[.pointer (some ⟨bx,0,none⟩)]):=⟨_,rfl⟩;obtain ⟨L,af,e0,e1,e2⟩:=zgB w (.func (.func F) #[] #[.pointer (some ⟨bx,0,none⟩)]);rw [←V] at L af e0 e1 e2;obtain ⟨W,D⟩:∃W,W=zgl w1:=⟨_,rfl⟩;have A:Below w1.heap.size w1 W:=by rw [D];exact ((Below.refl _ w1).alloc (Nat.le_refl _) _).alloc (by simp) _
 have am:W.heap.size=w.heap.size+5:=by rw [D];simp [af]
 have z:Below w.heap.size w W:=L.trans (A.mono (by omega))
 have pa:W.heap[w1.heap.size]?=some (.cells #[.int .i64 0] 3 (0,0)):=by
  rw [D,Below.heap_alloc _ _ _ (by simp)];exact World.alloc_heap_new _ _
 have pb:W.heap[w1.heap.size+1]?=some (.cells #[.int .i64 0] 26 (0,0)):=by
  rw [D]
  have:=World.alloc_heap_new (w1.alloc (.cells #[.int .i64 0] 3)) (.cells #[.int .i64 0] 26)
  simpa using this
 have Y:xr (w.heap.size+1) none [] false W:=⟨⟨_,_,(A.block _ (by omega)).trans e1,.inl rfl,World.ownsRow_nil _ _ _ _,rfl⟩,by simp⟩
 have hT:zy w (w.heap.size+1) none [] W:=⟨⟨[],false,Y,⟨fun h=>(by cases h),fun h=>(by simp at h)⟩,fun _=>rfl,by simp⟩,z,by omega,fun k h=>by cases h⟩
 have ah:0<w.heap.size:=World.block_lt_of_cell? w _ he;have Z:=zgC w F bx (w.heap.size+1) w.heap.size (w.heap.size+2) none [] R W hent (hW W hT) (ze ((A.block _ (by omega)).trans e0)) (ze ((A.block _ (by omega)).trans e2))
 have ca:=xZ 68 #[.pointer (some ⟨w.heap.size,0,none⟩),.pointer (some ⟨w.heap.size+2,0,none⟩)] w1 (fun w'=>∃s G,R=some s∧zT (w.heap.size+1) none W G w'∧zy w (w.heap.size+1) G s w') (fun aa at0 w'=>aa=2∧at0=0∧R=none∧∃G,zT (w.heap.size+1) none W G w') (fun _=>rfl) (by
  rw [←D];refine Z.mono fun e w' hP=>?_
  obtain ⟨G,o,hp⟩:=hP;refine ⟨(o.block _ (by omega) (by omega) (by simp)).trans pa,(o.block _ (by omega) (by omega) (by simp)).trans pb,?_,?_⟩
  ·unfold xp
   rw [World.cell?_of_block ((o.block 0 (by omega) (by omega) (by simp)).trans (z.block _ ah))];exact he
  ·cases R with
   | none=>exact .inr ⟨2,0,hp,rfl,rfl,rfl,G,o⟩
   | some s=>exact .inl ⟨hp.1,s,G,rfl,o,by simpa using hp.2⟩)
 have an:Hid (Below w.heap.size w w1):=L;have N:Hid (Below w.heap.size w W):=z;have HE:Hid (W.heap[w.heap.size+2]?=some (.cells #[.pointer (some ⟨w.heap.size+1,0,none⟩)] 85 (0,0))):=(A.block _ (by omega)).trans e2
 have aj:=V.symm;clear hW Z hT Y pa pb z A e0 e1 e2 L he V D
 go_enter Tryz.func34,Tryz.ntmps34
 go_wp2_with fail
 refine ca.mono ?_;clear ca;rintro e w6 (⟨w5,rfl,⟨s,G,rfl,o,Q⟩,y,I⟩ | ⟨aa,at0,w5,rfl,⟨rfl,rfl,rfl,G,o⟩,y⟩)
 ·obtain ⟨l,lo,ab,U,hl,ao⟩:=Q.at0
  have ai:=o.size;have ak:=y.size
  have T:∀k,G=some k→w.heap.size+5≤k:=fun k hk=>by
   rcases o.row with e | e
   ·rw [e] at hk;cases hk
   ·have:=e k hk;omega
  have H:xr (w.heap.size+1) G l lo w6:=ab.keep (I _ (by omega) (by omega)) fun k hk=>I k (by have:=T k hk;omega) (by have:=T k hk;omega)
  have c2:w6.cell? ⟨w.heap.size+2,0,none⟩=some (.pointer (some ⟨w.heap.size+1,0,none⟩)):=ze ((I _ (by omega) (by omega)).trans ((o.block _ (by omega) (by omega) (by simp)).trans HE.out))
  have O:Below w.heap.size w w6:=Q.env.trans (y.mono (by omega))
  obtain ⟨p,v,ae,-⟩:=H.has;obtain ⟨-,-,cl,-⟩:=Vf ae;have cs:=zb2 w.heap.size (w.heap.size+1) G l lo w6 H (by omega) (fun k hk=>by have:=T k hk;omega)
  have J:Hid (Below w.heap.size w w6):=O;clear ab H ae O y I o Q HE;cases lo with
  | true =>
   have HR:Hid (prR (some s)=([],5)):=show _=_ by unfold prR;simp only [if_pos (U.1 rfl)]
   clear cs U hl;go_wp2
   exact bodyPost_ret (v:=.tuple #[.string ⟨#[]⟩,.int .i64 5]) (by simp [results,Tryz.results34,go_sem]) rfl ⟨by rw [HR.out];rfl,J.out⟩
  | false =>
   obtain rfl:=hl rfl
   have HR:Hid (prR (some l)=(l,0)):=show _=_ by
    unfold prR
    have:¬ 4096<l.length:=by omega
    simp only [if_neg this]
   clear U hl;go_wp2_with fail
   refine cs.mono ?_;clear cs;rintro e w7 ⟨rfl,ad⟩;have ag:Hid (Below w.heap.size w w7):=J.out.trans ad;clear ad;go_wp2
   exact bodyPost_ret (v:=.tuple #[.string (zb l),.int .i64 0]) (by simp [results,Tryz.results34,go_sem]) rfl ⟨by rw [HR.out];rfl,ag.out⟩
 ·have ai:=o.size
  have J:Hid (Below w.heap.size w w6):=⟨y.os.trans (o.os.trans N.out.os),y.tape.trans (o.tape.trans N.out.tape),y.output.trans (o.output.trans N.out.output),by have:=y.size;omega,fun k hk=>(y.block k (by omega)).trans ((o.block k (by omega) (by omega) (by simp)).trans (N.out.block k hk))⟩
  clear o y HE;have HR:Hid (prR none=([],2)):=rfl;go_wp2
  exact bodyPost_ret (v:=.tuple #[.string ⟨#[]⟩,.int .i64 2]) (by simp [results,Tryz.results34,go_sem]) rfl ⟨by rw [HR.out];rfl,J.out⟩
theorem Zy.wide {B B':Nat} {w:World} {x:Ez} {v:Value} (h:Zy B w x v) (hB:B≤B'):Zy B' w x v:=by
 induction h with
 | mk k s n kids line base cap b o us hs hn0 hn1 hbase hlen hc hm hcell hfive _ ih =>
  exact .mk k s n kids line base cap b o us hs hn0 hn1 (fun h=>⟨(hbase h).1,Nat.lt_of_lt_of_le (hbase h).2.1 hB,(hbase h).2.2⟩) hlen hc hm hcell hfive ih
theorem zgD (w0:World) (k:Int) (s:List UInt8) (n:Int) (base:Option Addr) (m cap:Nat) (line:Int) (bx r:Nat) (q:Option Nat) (t:List UInt8) (R:Option (List UInt8)) (w:World) (p:w.heap[bx]?=some (YD k s n base m cap line))
  (cx:Calls Tryz.prog 42 #[.pointer (some ⟨r,0,none⟩),yz k s n base m cap line,.int .i64 24] w (zo w0 r q t w R)) :
  Calls Tryz.prog 41 #[.pointer (some ⟨r,0,none⟩),.pointer (some ⟨bx,0,none⟩)] w (zo w0 r q t w R):=by
 obtain ⟨H,c1,c2,A,G⟩:=zI p;clear p
 go_enter Tryz.func41,Tryz.ntmps41
 go_wp2_with fail
 refine cx.mono ?_;clear cx;rintro e D ⟨z,h,y⟩;cases R with
 | none=>subst y;exact ⟨rfl,z,h,rfl⟩
 | some u =>
  obtain ⟨rfl,o⟩:=y;have I:Hid (zo w0 r q t w (some u) (.returned (.tuple #[])) D):=⟨z,h,rfl,o⟩;clear h o H c1 c2 A G;go_wp2
  exact bodyPost_ret (v:=.tuple #[]) (by simp [results,Tryz.results41,go_sem]) rfl I.out
theorem qu (x:Ez) (v:Value) (w:World) (hx:Zy w.heap.size w x v) (hT:ZE w) (hl:ZC w) (he:xp w) :
  Calls Tryz.prog 18 #[v] w fun e w'=>e=.returned (.tuple #[.string (zb (prR (prE 24 x)).1),.int .i64 ((prR (prE 24 x)).2:Int)])∧Below w.heap.size w w':=by
 have Q:∀(fn:Fn) (first h:Array Value) (w:World),(Instr.makeFunc fn first h).run Tryz.prog w=.ok (.func fn first h) w:=fun _ _ _ _=>rfl
 obtain ⟨k,s,n,kids,line⟩:=x;have A:=hx;obtain ⟨o,h,rfl,-⟩:=hx.kid;obtain ⟨w1,y⟩:∃w1,w1=w.alloc (YD k s n o kids.length h line):=⟨_,rfl⟩;have z:Below w.heap.size w w1:=by rw [y];exact (Below.refl _ w).alloc (Nat.le_refl _) _
 have O:w1.heap[w.heap.size]?=some (YD k s n o kids.length h line):=by rw [y];exact World.alloc_heap_new w _
 have V:w1.heap.size=w.heap.size+1:=by rw [y];simp
 have N:=uc w1 (hT.below z (Nat.le_refl _)) (hl.env z) 24 (Nat.le_refl _);have G:Zy w1.heap.size w1 (.mk k s n kids line) (yz k s n o kids.length h line):=(A.kept z).wide (by omega)
 have I:=zaX 41 w.heap.size (prE 24 (.mk k s n kids line)) w1 (by unfold xp;rw [y];exact zl he _) (fun _ _=>rfl) fun W hWr=>zgD w1 k s n o kids.length h line w.heap.size _ none [] _ W ((hWr.env.block _ (by omega)).trans O) (N _ _ _ none [] W G hWr)
 have J:Hid (Below w.heap.size w w1):=z;have L:=y.symm;generalize prR (prE 24 (.mk k s n kids line))=R at *;generalize kids.length=m at *;clear hx A G N O z hT hl he y;obtain ⟨u,U⟩:=R;simp only at I ⊢
 go_enter Tryz.func18,Tryz.ntmps18
 go_wp2_with fail
 refine I.mono ?_;clear I;rintro e T ⟨rfl,D⟩;have H:Hid (Below w.heap.size w T):=zp J.out D;clear D;go_wp2
 exact bodyPost_ret (v:=.tuple #[.string (zb u),.int .i64 (U:Int)]) (by simp [results,Tryz.results18,go_sem]) rfl ⟨rfl,H.out⟩
end Go.Proofs.YtpejpbbdgblbeaaGreatDoor
