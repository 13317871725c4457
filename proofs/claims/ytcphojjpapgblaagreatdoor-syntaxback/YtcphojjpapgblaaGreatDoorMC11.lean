import Derived.Test.YtcphojjpapgblaaGreatDoorSWExpr
import Derived.Deep.RegionWith
import Derived.Test.YtcphojjpapgblaaGreatDoorMC6
import Derived.Shelf.Strings.Builder1
import Derived.Test.YtcphojjpapgblaaGreatDoorMC4
namespace Go.Proofs.YtcphojjpapgblaaGreatDoor
open Go.RowKit Go.Shelf
set_option maxHeartbeats 16000000
set_option maxRecDepth 100000
theorem zgT (w0:World) (D:Int) (hD1:1≤D) (hD2:D≤24) (hl:ZA w0) (s:List UInt8) (line:Int) (base:Option Addr) (m cap r:Nat) (q:Option Nat) (t:List UInt8) (w:World) (h:zy w0 r q t w) (hex:YC 2 s 0 m=true) :
  Calls Tryz.prog 40 #[.pointer (some ⟨r,0,none⟩),yp 2 s 0 base m cap line,.int .i64 D] w (zn w0 r q t w (some [102,97,108,115,101])):=by
 have af:∀(fn:Fn) (first cap:Array Value) (w:World),(Instr.makeFunc fn first cap).run Tryz.prog w=.ok (.func fn first cap) w:=fun _ _ _ _=>rfl
 obtain ⟨R,hR⟩:∃R:Option (List UInt8),R=some [102,97,108,115,101]:=⟨_,rfl⟩;rw [←hR];obtain ⟨y,I⟩:∃y,y=Q6 w r 2 s 0 base m cap line D:=⟨_,rfl⟩;obtain ⟨z,T,e0,Z,Y⟩:=yP w r 2 s 0 base m cap line D;rw [←I] at z T e0 Z Y;have G:=h.below z;have V:Hid (zp r q w y q y):=zp.start h z;have A:Hid (y.heap[w.heap.size]?=some (.cells #[.pointer (some ⟨r,0,none⟩)] 84 (0,0))∧y.heap[w.heap.size+1]?=some (yW 2 s 0 base m cap line)∧y.heap[w.heap.size+2]?=some (.cells #[.int .i64 D] 3 (0,0))):=⟨e0,Z,Y⟩;have ci:=ZQ 2 s 0 base m cap line y (hl.env G.env);rw [hex] at ci;have X:Hid (zy w0 r q t y):=G;have ad:=I.symm;have b0:=ze e0;obtain ⟨c0,c1,c2,c3,c4⟩:=zF Z;have b2:=ze Y;have ae:(0:Int)<D:=by omega
 have HR:Hid (R=some [102,97,108,115,101]):=hR;clear hR G e0 Z Y I z h hl hex
 go_enter Tryz.func40,Tryz.ntmps40
 go_wp2_with fail
 refine ci.mono ?_;clear ci b0 b2 c0 c1 c2 c3 c4;rintro e w2 ⟨rfl,H⟩;have o:Hid (zp r q w y q w2):=V.out.step (zT.below H);have O:Hid (zy w0 r q t w2):=X.out.below H;clear H;have ca:=z6 true w2;go_wp2_with fail
 refine ca.mono ?_;clear ca;rintro e J ⟨rfl,rfl⟩;simp only [Y8];have b0:=ze ((o.out.block (w.heap.size) (Nat.le_refl _) (by omega)).trans A.out.1)
 obtain ⟨c0,c1,c2,c3,c4⟩:=zF ((o.out.block (w.heap.size+1) (by omega) (by omega)).trans A.out.2.1)
 have b2:=ze ((o.out.block (w.heap.size+2) (by omega) (by omega)).trans A.out.2.2)
 have Q:Hid (zp r q w y q J):=o.out;have L:Hid (zy w0 r q t J):=O.out;clear V X o O;have N:Below J.heap.size J J.drew:=(Below.refl _ _).drew;have cp:=zw w0 r q t [102,97,108,115,101] J.drew (L.out.below N) (by simp)
 have ab:∀W,(Instr.index 132 (.agg #[.string ⟨#[102,97,108,115,101]⟩,.string ⟨#[116,114,117,101]⟩]) (.int .i64 0)).run Tryz.prog W=.ok (.string (zb [102,97,108,115,101])) W:=fun _=>rfl
 obtain rfl:=HR.out;have aa:Hid (∀e w',zn w0 r q t J.drew (some [102,97,108,115,101]) e w'→zn w0 r q t w (some [102,97,108,115,101]) e w'):=fun e w' ⟨q',h1,h2,h3⟩=>⟨q',(Q.out.unto.trans (zT.below N)).trans h1,h2,h3⟩
 clear Q L HR A;go_wp2_with fail
 go_region_with (go_at_call 79;refine cp.mono ?_;rintro e w4 U;have HP:=aa.out _ _ U;obtain ⟨-,-,rfl,-⟩:=U;have HP:Hid (zn w0 r q t w (some [102,97,108,115,101]) (.returned (.tuple #[])) w4):=HP)
 all_goals exact bodyPost_ret (v:=.tuple #[]) (by simp [results,Tryz.results40,go_sem]) rfl HP.out
theorem zgU (w0:World) (D:Int) (hD1:1≤D) (hD2:D≤24) (hl:ZA w0) (s:List UInt8) (line:Int) (base:Option Addr) (m cap r:Nat) (q:Option Nat) (t:List UInt8) (w:World) (h:zy w0 r q t w) (hex:YC 2 s 1 m=true) :
  Calls Tryz.prog 40 #[.pointer (some ⟨r,0,none⟩),yp 2 s 1 base m cap line,.int .i64 D] w (zn w0 r q t w (some [116,114,117,101])):=by
 have af:∀(fn:Fn) (first cap:Array Value) (w:World),(Instr.makeFunc fn first cap).run Tryz.prog w=.ok (.func fn first cap) w:=fun _ _ _ _=>rfl
 obtain ⟨R,hR⟩:∃R:Option (List UInt8),R=some [116,114,117,101]:=⟨_,rfl⟩;rw [←hR];obtain ⟨y,I⟩:∃y,y=Q6 w r 2 s 1 base m cap line D:=⟨_,rfl⟩;obtain ⟨z,T,e0,Z,Y⟩:=yP w r 2 s 1 base m cap line D;rw [←I] at z T e0 Z Y;have G:=h.below z;have V:Hid (zp r q w y q y):=zp.start h z;have A:Hid (y.heap[w.heap.size]?=some (.cells #[.pointer (some ⟨r,0,none⟩)] 84 (0,0))∧y.heap[w.heap.size+1]?=some (yW 2 s 1 base m cap line)∧y.heap[w.heap.size+2]?=some (.cells #[.int .i64 D] 3 (0,0))):=⟨e0,Z,Y⟩;have ci:=ZQ 2 s 1 base m cap line y (hl.env G.env);rw [hex] at ci;have X:Hid (zy w0 r q t y):=G;have ad:=I.symm;have b0:=ze e0;obtain ⟨c0,c1,c2,c3,c4⟩:=zF Z;have b2:=ze Y;have ae:(0:Int)<D:=by omega
 have HR:Hid (R=some [116,114,117,101]):=hR;clear hR G e0 Z Y I z h hl hex
 go_enter Tryz.func40,Tryz.ntmps40
 go_wp2_with fail
 refine ci.mono ?_;clear ci b0 b2 c0 c1 c2 c3 c4;rintro e w2 ⟨rfl,H⟩;have o:Hid (zp r q w y q w2):=V.out.step (zT.below H);have O:Hid (zy w0 r q t w2):=X.out.below H;clear H;have ca:=z6 true w2;go_wp2_with fail
 refine ca.mono ?_;clear ca;rintro e J ⟨rfl,rfl⟩;simp only [Y8];have b0:=ze ((o.out.block (w.heap.size) (Nat.le_refl _) (by omega)).trans A.out.1)
 obtain ⟨c0,c1,c2,c3,c4⟩:=zF ((o.out.block (w.heap.size+1) (by omega) (by omega)).trans A.out.2.1)
 have b2:=ze ((o.out.block (w.heap.size+2) (by omega) (by omega)).trans A.out.2.2)
 have Q:Hid (zp r q w y q J):=o.out;have L:Hid (zy w0 r q t J):=O.out;clear V X o O;have N:Below J.heap.size J J.drew:=(Below.refl _ _).drew;have cp:=zw w0 r q t [116,114,117,101] J.drew (L.out.below N) (by simp)
 have ab:∀W,(Instr.index 132 (.agg #[.string ⟨#[102,97,108,115,101]⟩,.string ⟨#[116,114,117,101]⟩]) (.int .i64 1)).run Tryz.prog W=.ok (.string (zb [116,114,117,101])) W:=fun _=>rfl
 obtain rfl:=HR.out;have aa:Hid (∀e w',zn w0 r q t J.drew (some [116,114,117,101]) e w'→zn w0 r q t w (some [116,114,117,101]) e w'):=fun e w' ⟨q',h1,h2,h3⟩=>⟨q',(Q.out.unto.trans (zT.below N)).trans h1,h2,h3⟩
 clear Q L HR A;go_wp2_with fail
 go_region_with (go_at_call 79;refine cp.mono ?_;rintro e w4 U;have HP:=aa.out _ _ U;obtain ⟨-,-,rfl,-⟩:=U;have HP:Hid (zn w0 r q t w (some [116,114,117,101]) (.returned (.tuple #[])) w4):=HP)
 all_goals exact bodyPost_ret (v:=.tuple #[]) (by simp [results,Tryz.results40,go_sem]) rfl HP.out
def prB (f:Ez→Option (List UInt8)) (k:Int) (s:List UInt8) (n:Int) (kids:List Ez):Option (List UInt8) :=
  if YC k s n kids.length=true then
   if k=1 then tokO 2 n []
   else if k=2 then some (if n=0 then [102,97,108,115,101] else [116,114,117,101])
   else if k=3 then tokO 3 0 s
   else if k=4 then tokO 1 0 s
   else if k=5 then zd (tokO 1 0 s) (zd (some [40]) (zd (rowO (kids.map (f)) kids.length) (some [41])))
   else if k=11 then zd (some [110,101,119,32]) (zd (tokO 1 0 s) (zd (some [40]) (zd (rowO (kids.map (f)) kids.length) (some [41]))))
   else if k=10 then zd (some [91]) (zd (rowO (kids.map (f)) kids.length) (some [93]))
   else if k=6 then match kids with
    | a::_=>zd (some s) (kidO a 7 (f a))
    | _=>none
   else if k=7 then match kids with
    | a::b::_=>zd (kidO a (levelOf s) (f a)) (zd (some [32]) (zd (some s) (zd (some [32]) (kidO b (levelOf s+1) (f b)))))
    | _=>none
   else if k=8 then match kids with
    | a::b::_=>zd (kidO a 8 (f a)) (zd (some [91]) (zd (f b) (some [93])))
    | _=>none
   else if k=9 then match kids with
    | a::_=>zd (kidO a 8 (f a)) (zd (some [46]) (tokO 1 0 s))
    | _=>none
   else none
  else none
theorem zbb (d:Nat) (k:Int) (s:List UInt8) (n:Int) (kids:List Ez) (line:Int):prE (d+1) (.mk k s n kids line)=prB (prE d) k s n kids:=rfl
theorem Xj {w0:World} {b o i:Nat} {a1:Int} {a2:List UInt8} {a3:Int} {a4:Option Addr} {a5 a6:Nat} {a7:Int} (p:Nat) (hp:p=o+i*5) (hlt:b<w0.heap.size) (h0:w0.cell? ⟨b,o+i*5,none⟩=some (.int .i64 a1)) (h1:w0.cell? ⟨b,o+i*5+1,none⟩=some (.string (zb a2))) (h2:w0.cell? ⟨b,o+i*5+2,none⟩=some (.int .i64 a3)) (h3:w0.cell? ⟨b,o+i*5+3,none⟩=some (.slice a4 a5 a6)) (h4:w0.cell? ⟨b,o+i*5+4,none⟩=some (.int .i64 a7)):ZW w0 b p a1 a2 a3 a4 a5 a6 a7:=by
 subst hp;exact ⟨hlt,h0,h1,h2,h3,h4⟩
theorem ua (w0:World) (hT:ZC w0) (hl:ZA w0):∀d,d≤24→yO w0 d
 | 0,_=>by
  intro x v r q t w hx h;obtain ⟨k,s,n,kids,line⟩:=x;obtain ⟨base,y,rfl,-⟩:=hx.kid;exact zfi w0 k s n line base kids.length y r q t w h
 | d+1,hd=>by
  have N:=ua w0 hT hl d (by omega)
  intro x v r q t w hx h;obtain ⟨k,s,n,kids,line⟩:=x;obtain ⟨base,y,rfl,hc,hm,Z,ae,ag,G⟩:=hx.kid;obtain ⟨D,af⟩:∃D:Int,D=((d+1:Nat):Int):=⟨_,rfl⟩;rw [←af];have hD:D-1=(d:Int):=by omega
  have z:1≤D:=by omega
  have A:D≤24:=by omega
  rw [zbb]
  unfold prB
  by_cases hex:YC k s n kids.length=true
  ·rw [if_pos hex]
   by_cases h1:k=1
   ·subst h1;rw [if_pos rfl];exact zh6 w0 D z A hT hl s n line base kids.length y r q t w h hex ae ag
   rw [if_neg h1]
   by_cases h2:k=2
   ·subst h2;rw [if_pos rfl]
    have ad:n=0∨n=1:=by
     unfold YC at hex
     simp at hex
     exact hex.2
    rcases ad with rfl | rfl
    ·rw [if_pos rfl];exact zgT w0 D z A hl s line base kids.length y r q t w h hex
    ·rw [if_neg (by omega)];exact zgU w0 D z A hl s line base kids.length y r q t w h hex
   rw [if_neg h2]
   by_cases h3:k=3
   ·subst h3;rw [if_pos rfl];exact zh7 w0 D z A hT hl s n line base kids.length y r q t w h hex Z
   rw [if_neg h3]
   by_cases h4:k=4
   ·subst h4;rw [if_pos rfl];exact zh8 w0 D z A hT hl s n line base kids.length y r q t w h hex Z
   rw [if_neg h4]
   by_cases h5:k=5
   ·subst h5;rw [if_pos rfl];exact zh9 w0 d D hD z A N hT hl s n line base kids.length y r q t w h hex Z kids rfl hc hm G
   rw [if_neg h5]
   by_cases h11:k=11
   ·subst h11;rw [if_pos rfl];exact zgR w0 d D hD z A N hT hl s n line base kids.length y r q t w h hex Z kids rfl hc hm G
   rw [if_neg h11]
   by_cases h10:k=10
   ·subst h10;rw [if_pos rfl];exact zgS w0 d D hD z A N hl s n line base kids.length y r q t w h hex kids rfl hc hm G
   rw [if_neg h10]
   by_cases h6:k=6
   ·subst h6;rw [if_pos rfl]
    have H:kids.length=1:=by unfold YC at hex;simp at hex;exact hex.1.2
    obtain ⟨a,rfl⟩:=List.length_eq_one_iff.1 H;obtain ⟨b,o,O,a2,a3,R,Q,V,U,rfl,J,-,I,X,T,W,L,Y⟩:=G 0 a rfl;exact zia w0 D z A hl s n line _ 1 y r q t w h hex _ fun q t w h=>zh2 w0 d D hD z A N hl s n b o y r line q t w Z h a O a2 a3 R Q V U I (Xj _ (by omega) J X T W L Y)
   rw [if_neg h6]
   by_cases h7:k=7
   ·subst h7;rw [if_pos rfl]
    have H:kids.length=2:=by unfold YC at hex;simp at hex;exact hex.1.2
    obtain ⟨a,c,rfl⟩:∃a c,kids=[a,c]:=by match kids,H with | [a,c],_=>exact ⟨a,c,rfl⟩
    obtain ⟨b,o,O,a2,a3,R,Q,V,U,rfl,J,-,I,X,T,W,L,Y⟩:=G 0 a rfl;obtain ⟨b',o',c1,c2,c3,c4,c5,c6,c7,ab,-,-,aa,n0,n1,n2,n3,n4⟩:=G 1 c rfl;cases ab
    exact zib w0 D z A hl s n line _ 2 y r q t w h hex _ fun q t w h=>zh3 w0 d D hD z A N hl s n b o y r line q t w Z h a O a2 a3 R Q V U I (Xj _ (by omega) J X T W L Y) c c1 c2 c3 c4 c5 c6 c7 aa (Xj _ (by omega) J n0 n1 n2 n3 n4)
   rw [if_neg h7]
   by_cases h8:k=8
   ·subst h8;rw [if_pos rfl]
    have H:kids.length=2:=by unfold YC at hex;simp at hex;exact hex.1.2
    obtain ⟨a,c,rfl⟩:∃a c,kids=[a,c]:=by match kids,H with | [a,c],_=>exact ⟨a,c,rfl⟩
    obtain ⟨b,o,O,a2,a3,R,Q,V,U,rfl,J,-,I,X,T,W,L,Y⟩:=G 0 a rfl;obtain ⟨b',o',c1,c2,c3,c4,c5,c6,c7,ab,-,-,aa,n0,n1,n2,n3,n4⟩:=G 1 c rfl;cases ab
    exact zic w0 D z A hl s n line _ 2 y r q t w h hex _ fun q t w h=>zh4 w0 d D hD z A N hl s n b o y r line q t w h a O a2 a3 R Q V U I (Xj _ (by omega) J X T W L Y) c c1 c2 c3 c4 c5 c6 c7 aa (Xj _ (by omega) J n0 n1 n2 n3 n4)
   rw [if_neg h8]
   by_cases h9:k=9
   ·subst h9;rw [if_pos rfl]
    have H:kids.length=1:=by unfold YC at hex;simp at hex;exact hex.2
    obtain ⟨a,rfl⟩:=List.length_eq_one_iff.1 H;obtain ⟨b,o,O,a2,a3,R,Q,V,U,rfl,J,-,I,X,T,W,L,Y⟩:=G 0 a rfl;exact zid w0 D z A hl s n line _ 1 y r q t w h hex _ fun q t w h=>zh5 w0 d D hD z A N hT hl s n b o y r line q t w Z h a O a2 a3 R Q V U I (Xj _ (by omega) J X T W L Y)
   exfalso
   unfold YC at hex
   rw [if_neg h1,if_neg h2,if_neg h3,if_neg h4,if_neg h5,if_neg h11,if_neg h6,if_neg h7,if_neg h8,if_neg h9,if_neg h10] at hex;cases hex
  ·rw [if_neg hex]
   exact zie w0 D z A hl s n line base kids.length y r q t w h k (by simpa using hex)
theorem zfj:Tryz.prog.cellsOf 5=1:=by kernel_rfl
theorem zfk (B r g cap:Nat) (l:List UInt8) (cur:Array Value) (w:World) (hl0:l≠[]) (hc1:w.cell? ⟨r,1,none⟩=some (.slice (some ⟨g,0,none⟩) l.length cap)) (hbg:B≤g) (hg:w.heap[g]?=some (.cells cur 5 (0,0))) (hnc:l.length≤cap) (hcm:cap≤maxLen) (hcs:cur.size=cap) (hcell:∀j u,(Lib.byteCells l)[j]?=some u→w.cell? ((⟨g,0,none⟩:Addr).add j)=some u) :
  Calls Tryz.prog 67 #[.pointer (some ⟨r,0,none⟩)] w fun e w'=>e=.returned (.string (zb l))∧Below B w w':=by
 have o:l.length≠0:=by simpa using hl0
 have c1:w.drew.cell? ⟨r,1,none⟩=some (.slice (some ⟨g,0,none⟩) l.length cap):=hc1
 have y:(Builtin.unsafeSliceData_ #[119] 156 #[.slice (some ⟨g,0,none⟩) l.length cap]).run Tryz.prog w.drew=.ok (.pointer (some ⟨g,0,none⟩)) w.drew :=
  Lib.run_unsafeSliceData_row _ _ _ _ _ _ (by omega)
 have z:(Builtin.unsafeString_ #[156,3] 9 #[.pointer (some ⟨g,0,none⟩),.int .i64 l.length]).run Tryz.prog w.drew=.ok (.string ⟨l.toArray⟩) (w.drew.freeze ⟨g,0,none⟩ l.length):=by
  refine Lib.run_unsafeString_row w.drew 156 3 9 5 Tryz.underlying156 zfj g cur.size (by have h:w.drew.heap[g]?=some (.cells cur 5 (0,0)):=hg;simp [World.shape?,h]) l hl0 (by omega) (by unfold maxLen at hcm;omega) ?_
  intro j x A;exact hcell j (.int .u8 x.toNat) (by simp [Lib.byteCells,A])
 have D:Hid (Below B w (w.drew.freeze ⟨g,0,none⟩ l.length)):=Lib.below_freeze (Below.drew (Below.refl B w)) (p:=⟨g,0,none⟩) hbg _;clear hbg hg hcell hcs hnc hcm hl0;have mixed:Tryz.prog.follows Departure.mixedOrders=true:=rfl
 go_enter Tryz.func67,Tryz.ntmps67
 go_wp2
 go_region_o
 all_goals (go_wp2;exact bodyPost_ret (v:=.string ⟨l.toArray⟩) (by simp [results,Tryz.results67,go_sem]) rfl ⟨rfl,D.out⟩)
theorem zfl (B r g cap:Nat) (w:World) (hc0:cap≠0) (hc1:w.cell? ⟨r,1,none⟩=some (.slice (some ⟨g,0,none⟩) 0 cap)) :
  Calls Tryz.prog 67 #[.pointer (some ⟨r,0,none⟩)] w fun e w'=>e=.returned (.string (zb []))∧Below B w w':=by
 have o:∀(W:World) (q:Option Addr),(Builtin.unsafeString_ #[156,3] 9 #[.pointer q,.int .i64 0]).run Tryz.prog W=.ok (.string .empty) W:=fun W q=>Lib.run_unsafeString_none W _ _ _ q
 have c1:w.drew.cell? ⟨r,1,none⟩=some (.slice (some ⟨g,0,none⟩) 0 cap):=hc1
 have h:(Builtin.unsafeSliceData_ #[119] 156 #[.slice (some ⟨g,0,none⟩) 0 cap]).run Tryz.prog w.drew=.ok (.pointer (some ⟨g,0,none⟩)) w.drew :=
  Lib.run_unsafeSliceData_row _ _ _ _ _ _ hc0
 clear hc0;have mixed:Tryz.prog.follows Departure.mixedOrders=true:=rfl
 go_enter Tryz.func67,Tryz.ntmps67
 go_wp2
 go_region_o
 all_goals (go_wp2;exact bodyPost_ret (v:=.string .empty) (by simp [results,Tryz.results67,go_sem]) rfl ⟨rfl,Below.drew (Below.refl B w)⟩)
theorem zcl (B r g:Nat) (cur:Array Value) (w:World) (hBw:B≤w.heap.size) (hc1:w.cell? ⟨r,1,none⟩=some (.slice (some ⟨g,0,none⟩) 0 0)) (hg:w.heap[g]?=some (.cells cur 5 (0,0))) :
  Calls Tryz.prog 67 #[.pointer (some ⟨r,0,none⟩)] w fun e w'=>e=.returned (.string (zb []))∧Below B w w':=by
 have o:∀(W:World) (q:Option Addr),(Builtin.unsafeString_ #[156,3] 9 #[.pointer q,.int .i64 0]).run Tryz.prog W=.ok (.string .empty) W:=fun W q=>Lib.run_unsafeString_none W _ _ _ q
 have c1:w.drew.cell? ⟨r,1,none⟩=some (.slice (some ⟨g,0,none⟩) 0 0):=hc1
 have y:(Builtin.unsafeSliceData_ #[119] 156 #[.slice (some ⟨g,0,none⟩) 0 0]).run Tryz.prog w.drew=.ok (.pointer (some ⟨w.drew.heap.size,0,none⟩)) (w.drew.alloc (.view ⟨g,0,none⟩ 5)) :=
  Lib.run_unsafeSliceData_zero w.drew _ _ 5 Tryz.underlying156 ⟨g,0,none⟩ 0 (5,cur.size) (by have h:w.drew.heap[g]?=some (.cells cur 5 (0,0)):=hg;simp [World.shape?,h])
 have c2:(w.drew.alloc (.view ⟨g,0,none⟩ 5)).cell? ⟨r,1,none⟩=some (.slice (some ⟨g,0,none⟩) 0 0):=zl c1 _;have z:(w.alloc (.view ⟨g,0,none⟩ 5)).drew.cell? ⟨r,1,none⟩=some (.slice (some ⟨g,0,none⟩) 0 0):=c2;have mixed:Tryz.prog.follows Departure.mixedOrders=true:=rfl
 go_enter Tryz.func67,Tryz.ntmps67
 go_wp2
 go_region_o
 all_goals (go_wp2;exact bodyPost_ret (v:=.string .empty) (by simp [results,Tryz.results67,go_sem]) rfl ⟨rfl,(Below.drew (Below.refl B w)).alloc hBw _⟩)
theorem zcm (B r:Nat) (q:Option Nat) (l:List UInt8) (lo:Bool) (w:World) (h:xr r q l lo w) (hB:B≤w.heap.size) (hq:∀k,q=some k→B≤k) :
  Calls Tryz.prog 67 #[.pointer (some ⟨r,0,none⟩)] w fun e w'=>e=.returned (.string (zb l))∧Below B w w':=by
 obtain ⟨⟨p,v,N,Q,H,rfl⟩,L⟩:=h;obtain ⟨T,c1,c2,R⟩:=Vd N;rcases H.2 with ⟨rfl,J⟩ | ⟨g,o,y,rfl,O,I,D,z,A,G⟩
 ·obtain rfl:l=[]:=List.eq_nil_of_length_eq_zero J
  exact zgK B r w c1
 ·by_cases hl:l=[]
  ·subst hl
   by_cases hc0:o=0
   ·subst hc0
    exact zcl B r g y w hB c1 I
   ·exact zfl B r g o w hc0 c1
  ·exact zfk B r g o l y w hl c1 (hq g rfl) I D z (by simpa using A) (H.cells (g:=g) rfl)
end Go.Proofs.YtcphojjpapgblaaGreatDoor
namespace Go.Proofs.YtcphojjpapgblaaGreatDoor
open Go.RowKit Go.Extern.Stop Go.Stop Go.Extern
set_option maxHeartbeats 16000000
set_option maxRecDepth 100000
theorem xZ (g:FuncId) (cap:Array Value) (w:World) (Q:World→Prop) (Pn:Int→Int→World→Prop) (hent:∀w,(callFunc g cap).run Tryz.prog w=.ok (.enter g cap) w)
  (hdo:Calls Tryz.prog g cap (zgF w) fun e w'=>w'.heap[w.heap.size]?=some (.cells #[.int .i64 0] 3 (0,0))∧w'.heap[w.heap.size+1]?=some (.cells #[.int .i64 0] 26 (0,0))∧xp w'∧((e=.returned (.tuple #[])∧Q w')∨∃o at0,e=.panicked [{ v:=QV o at0,recovered:=false }]∧Pn o at0 w')) :
  Calls Tryz.prog 46 #[.func (.func g) #[] cap] w fun e w' =>
   (∃w0,e=.returned (.tuple #[.int .i64 0,.int .i64 0])∧Q w0∧Below w.heap.size w0 w'∧∀k,k≠w.heap.size→k≠w.heap.size+1→w'.heap[k]?=w0.heap[k]?)∨∃o at0 w0,e=.returned (.tuple #[.int .i64 at0,.int .i64 o])∧Pn o at0 w0∧Below w.heap.size w0 w':=by
 have O:∀(fn:Fn) (first cap:Array Value) (w:World),(Instr.makeFunc fn first cap).run Tryz.prog w=.ok (.func fn first cap) w:=fun _ _ _ _=>rfl
 go_enter_defers Tryz.func46,Tryz.ntmps46
 go_wp2_with fail
 refine hdo.mono ?_;clear hdo;rintro e y ⟨A,z,T,h⟩;have X:y.cell? ⟨w.heap.size,0,none⟩=some (.int .i64 0):=by simp [World.cell?,A]
 have Y:y.cell? ⟨w.heap.size+1,0,none⟩=some (.int .i64 0):=by simp [World.cell?,z]
 have R:y.frozen? ⟨w.heap.size,0,none⟩=false:=by simp [World.frozen?,A]
 have V:y.frozen? ⟨w.heap.size+1,0,none⟩=false:=by simp [World.frozen?,z]
 have J:∀v,(y.setCell ⟨w.heap.size,0,none⟩ v).cell? ⟨w.heap.size+1,0,none⟩=some (.int .i64 0):=fun v=>(World.cell?_setCell_other _ _ _ _ (by simp)).trans Y
 rcases h with ⟨rfl,L⟩ | ⟨o,at0,rfl,N⟩
 ·have D:Below w.heap.size y ((y.setCell ⟨w.heap.size,0,none⟩ (.int .i64 0)).setCell ⟨w.heap.size+1,0,none⟩ (.int .i64 0)):=((Below.refl w.heap.size y).setCell (p:=⟨w.heap.size,0,none⟩) (by simp) _).setCell (p:=⟨w.heap.size+1,0,none⟩) (by simp) _
  have W:Hid (Below w.heap.size y ((y.setCell ⟨w.heap.size,0,none⟩ (.int .i64 0)).setCell ⟨w.heap.size+1,0,none⟩ (.int .i64 0))):=D
  have I:((y.setCell ⟨w.heap.size,0,none⟩ (.int .i64 0)).setCell ⟨w.heap.size+1,0,none⟩ (.int .i64 0)).cell? ⟨w.heap.size,0,none⟩=some (.int .i64 0):=by
   rw [World.cell?_setCell_other _ _ _ _ (by simp),World.cell?_setCell_same _ _ _ X]
  have G:((y.setCell ⟨w.heap.size,0,none⟩ (.int .i64 0)).setCell ⟨w.heap.size+1,0,none⟩ (.int .i64 0)).cell? ⟨w.heap.size+1,0,none⟩=some (.int .i64 0):=World.cell?_setCell_same _ _ _ (J _);clear D;go_wp2
  refine leaves_cons (f:=88) (args:=#[.pointer (some ⟨w.heap.size,0,none⟩),.pointer (some ⟨w.heap.size+1,0,none⟩)]) (by simp) (by simp [go_sem]) ?_
  refine (zb6 ⟨w.heap.size,0,none⟩ ⟨w.heap.size+1,0,none⟩ _).mono ?_;rintro e U H ⟨rfl,rfl,rfl⟩
  simp [Leaves,settle,results,Tryz.results46,go_sem,I,G]
  exact .inl ⟨y,L,W.out,fun k A z=>by rw [Below.heap_setCell _ _ _ _ (by simpa using z),Below.heap_setCell _ _ _ _ (by simpa using A)]⟩
 ·refine leaves_cons (f:=88) (args:=#[.pointer (some ⟨w.heap.size,0,none⟩),.pointer (some ⟨w.heap.size+1,0,none⟩)]) (by simp) (by simp [go_sem]) ?_
  refine (zaO w.heap.size o at0 0 0 [] y A z T).mono ?_;rintro e U H ⟨rfl,rfl,I,G,D⟩
  simp [Leaves,settle,results,Tryz.results46,go_sem,I,G]
  exact .inr ⟨o,at0,⟨rfl,rfl⟩,y,N,D⟩
end Go.Proofs.YtcphojjpapgblaaGreatDoor
namespace Go.Proofs.YtcphojjpapgblaaGreatDoor
open Go.RowKit Go.Shelf
set_option maxHeartbeats 16000000
set_option maxRecDepth 100000
def prR (R:Option (List UInt8)):List UInt8 × Nat:=match R with
 | none=>([],2)
 | some s=>if 4096<s.length then ([],5) else (s,0)
abbrev wrZ:Obj:=.cells #[.pointer none,.slice none 0 0,.bool false] 123
abbrev wrW (w:World) (f:Value):World:=((w.alloc (.cells #[f] 86)).alloc wrZ).alloc (.cells #[.pointer (some ⟨w.heap.size+1,0,none⟩)] 84)
theorem zgV (w:World) (f:Value):Below w.heap.size w (wrW w f)∧(wrW w f).heap.size=w.heap.size+3∧(wrW w f).heap[w.heap.size]?=some (.cells #[f] 86 (0,0))∧(wrW w f).heap[w.heap.size+1]?=some wrZ∧(wrW w f).heap[w.heap.size+2]?=some (.cells #[.pointer (some ⟨w.heap.size+1,0,none⟩)] 84 (0,0)):=by
 refine ⟨(((Below.refl _ w).alloc (Nat.le_refl _) _).alloc (by simp) _).alloc (by simp <;> omega) _,by simp,?_,?_,?_⟩
 ·rw [Below.heap_alloc _ _ _ (by simp <;> omega),Below.heap_alloc _ _ _ (by simp)];exact World.alloc_heap_new _ _
 ·rw [Below.heap_alloc _ _ _ (by simp)]
  have:=World.alloc_heap_new (w.alloc (.cells #[f] 86)) wrZ
  simpa using this
 ·have:=World.alloc_heap_new ((w.alloc (.cells #[f] 86)).alloc wrZ) (.cells #[.pointer (some ⟨w.heap.size+1,0,none⟩)] 84)
  simpa using this
theorem zgW (w0:World) (F bx r N0 N2:Nat) (q:Option Nat) (t:List UInt8) (R:Option (List UInt8)) (w:World) (hent:∀args w,(callFunc F args).run Tryz.prog w=.ok (.enter F args) w)
  (hW:Calls Tryz.prog F #[.pointer (some ⟨r,0,none⟩),.pointer (some ⟨bx,0,none⟩)] w (zn w0 r q t w R)) (c0:w.cell? ⟨N0,0,none⟩=some (.func (.func F) #[] #[.pointer (some ⟨bx,0,none⟩)])) (c2:w.cell? ⟨N2,0,none⟩=some (.pointer (some ⟨r,0,none⟩))) :
  Calls Tryz.prog 66 #[.pointer (some ⟨N0,0,none⟩),.pointer (some ⟨N2,0,none⟩)] w (zn w0 r q t w R):=by
 go_enter Tryz.func66,Tryz.ntmps66
 go_wp2_with fail
 refine hW.mono ?_;clear hW;rintro e A ⟨o,h,y⟩;cases R with
 | none=>subst y;exact ⟨rfl,o,h,rfl⟩
 | some u =>
  obtain ⟨rfl,z⟩:=y;have D:Hid (zn w0 r q t w (some u) (.returned (.tuple #[])) A):=⟨o,h,rfl,z⟩;clear h z c0 c2;go_wp2
  exact bodyPost_ret (v:=.tuple #[]) (by simp [results,Tryz.results66,go_sem]) rfl D.out
theorem zbc (F bx:Nat) (R:Option (List UInt8)) (w:World) (he:xp w) (hent:∀args w,(callFunc F args).run Tryz.prog w=.ok (.enter F args) w)
  (hW:∀W,zy w (w.heap.size+1) none [] W→Calls Tryz.prog F #[.pointer (some ⟨w.heap.size+1,0,none⟩),.pointer (some ⟨bx,0,none⟩)] W (zn w (w.heap.size+1) none [] W R)) :
  Calls Tryz.prog 32 #[.func (.func F) #[] #[.pointer (some ⟨bx,0,none⟩)]] w fun e w'=>e=.returned (.tuple #[.string (zb (prR R).1),.int .i64 ((prR R).2:Int)])∧Below w.heap.size w w':=by
 have am:∀(fn:Fn) (first cap:Array Value) (w:World),(Instr.makeFunc fn first cap).run Tryz.prog w=.ok (.func fn first cap) w:=fun _ _ _ _=>rfl
 obtain ⟨w1,U⟩:∃w1,w1=wrW w (.func (.func F) #[] #[.pointer (some ⟨bx,0,none⟩)]):=⟨_,rfl⟩;obtain ⟨J,aa,e0,e1,e2⟩:=zgV w (.func (.func F) #[] #[.pointer (some ⟨bx,0,none⟩)]);rw [←U] at J aa e0 e1 e2;obtain ⟨W,A⟩:∃W,W=zgF w1:=⟨_,rfl⟩;have D:Below w1.heap.size w1 W:=by rw [A];exact ((Below.refl _ w1).alloc (Nat.le_refl _) _).alloc (by simp) _
 have an:W.heap.size=w.heap.size+5:=by rw [A];simp [aa]
 have z:Below w.heap.size w W:=J.trans (D.mono (by omega))
 have pa:W.heap[w1.heap.size]?=some (.cells #[.int .i64 0] 3 (0,0)):=by
  rw [A,Below.heap_alloc _ _ _ (by simp)];exact World.alloc_heap_new _ _
 have pb:W.heap[w1.heap.size+1]?=some (.cells #[.int .i64 0] 26 (0,0)):=by
  rw [A]
  have:=World.alloc_heap_new (w1.alloc (.cells #[.int .i64 0] 3)) (.cells #[.int .i64 0] 26)
  simpa using this
 have ae:xr (w.heap.size+1) none [] false W:=⟨⟨_,_,(D.block _ (by omega)).trans e1,.inl rfl,World.ownsRow_nil _ _ _ _,rfl⟩,by simp⟩
 have hT:zy w (w.heap.size+1) none [] W:=⟨⟨[],false,ae,⟨fun h=>(by cases h),fun h=>(by simp at h)⟩,fun _=>rfl,by simp⟩,z,by omega,fun k h=>by cases h⟩
 have ag:0<w.heap.size:=World.block_lt_of_cell? w _ he;have ab:=zgW w F bx (w.heap.size+1) w.heap.size (w.heap.size+2) none [] R W hent (hW W hT) (ze ((D.block _ (by omega)).trans e0)) (ze ((D.block _ (by omega)).trans e2))
 have ca:=xZ 66 #[.pointer (some ⟨w.heap.size,0,none⟩),.pointer (some ⟨w.heap.size+2,0,none⟩)] w1 (fun w'=>∃s G,R=some s∧zT (w.heap.size+1) none W G w'∧zy w (w.heap.size+1) G s w') (fun Z at0 w'=>Z=2∧at0=0∧R=none∧∃G,zT (w.heap.size+1) none W G w') (fun _=>rfl) (by
  rw [←A];refine ab.mono fun e w' hP=>?_
  obtain ⟨G,o,hp⟩:=hP;refine ⟨(o.block _ (by omega) (by omega) (by simp)).trans pa,(o.block _ (by omega) (by omega) (by simp)).trans pb,?_,?_⟩
  ·unfold xp
   rw [World.cell?_of_block ((o.block 0 (by omega) (by omega) (by simp)).trans (z.block _ ag))];exact he
  ·cases R with
   | none=>exact .inr ⟨2,0,hp,rfl,rfl,rfl,G,o⟩
   | some s=>exact .inl ⟨hp.1,s,G,rfl,o,by simpa using hp.2⟩)
 have ak:Hid (Below w.heap.size w w1):=J;have N:Hid (Below w.heap.size w W):=z;have HE:Hid (W.heap[w.heap.size+2]?=some (.cells #[.pointer (some ⟨w.heap.size+1,0,none⟩)] 84 (0,0))):=(D.block _ (by omega)).trans e2
 have ai:=U.symm;clear hW ab hT ae pa pb z D e0 e1 e2 J he U A
 go_enter Tryz.func32,Tryz.ntmps32
 go_wp2_with fail
 refine ca.mono ?_;clear ca;rintro e w6 (⟨w5,rfl,⟨s,G,rfl,o,V⟩,y,I⟩ | ⟨Z,at0,w5,rfl,⟨rfl,rfl,rfl,G,o⟩,y⟩)
 ·obtain ⟨l,lo,X,T,hl,aj⟩:=V.at0
  have ah:=o.size;have al:=y.size
  have Q:∀k,G=some k→w.heap.size+5≤k:=fun k hk=>by
   rcases o.row with e | e
   ·rw [e] at hk;cases hk
   ·have:=e k hk;omega
  have H:xr (w.heap.size+1) G l lo w6:=X.keep (I _ (by omega) (by omega)) fun k hk=>I k (by have:=Q k hk;omega) (by have:=Q k hk;omega)
  have c2:w6.cell? ⟨w.heap.size+2,0,none⟩=some (.pointer (some ⟨w.heap.size+1,0,none⟩)):=ze ((I _ (by omega) (by omega)).trans ((o.block _ (by omega) (by omega) (by simp)).trans HE.out))
  have O:Below w.heap.size w w6:=V.env.trans (y.mono (by omega))
  obtain ⟨p,v,ad,-⟩:=H.has;obtain ⟨-,-,cl,-⟩:=Vd ad;have cs:=zcm w.heap.size (w.heap.size+1) G l lo w6 H (by omega) (fun k hk=>by have:=Q k hk;omega)
  have L:Hid (Below w.heap.size w w6):=O;clear X H ad O y I o V HE;cases lo with
  | true =>
   have HR:Hid (prR (some s)=([],5)):=show _=_ by unfold prR;simp only [if_pos (T.1 rfl)]
   clear cs T hl;go_wp2
   exact bodyPost_ret (v:=.tuple #[.string ⟨#[]⟩,.int .i64 5]) (by simp [results,Tryz.results32,go_sem]) rfl ⟨by rw [HR.out];rfl,L.out⟩
  | false =>
   obtain rfl:=hl rfl
   have HR:Hid (prR (some l)=(l,0)):=show _=_ by
    unfold prR
    have:¬ 4096<l.length:=by omega
    simp only [if_neg this]
   clear T hl;go_wp2_with fail
   refine cs.mono ?_;clear cs;rintro e w7 ⟨rfl,Y⟩;have af:Hid (Below w.heap.size w w7):=L.out.trans Y;clear Y;go_wp2
   exact bodyPost_ret (v:=.tuple #[.string (zb l),.int .i64 0]) (by simp [results,Tryz.results32,go_sem]) rfl ⟨by rw [HR.out];rfl,af.out⟩
 ·have ah:=o.size
  have L:Hid (Below w.heap.size w w6):=⟨y.os.trans (o.os.trans N.out.os),y.tape.trans (o.tape.trans N.out.tape),y.output.trans (o.output.trans N.out.output),by have:=y.size;omega,fun k hk=>(y.block k (by omega)).trans ((o.block k (by omega) (by omega) (by simp)).trans (N.out.block k hk))⟩
  clear o y HE;have HR:Hid (prR none=([],2)):=rfl;go_wp2
  exact bodyPost_ret (v:=.tuple #[.string ⟨#[]⟩,.int .i64 2]) (by simp [results,Tryz.results32,go_sem]) rfl ⟨by rw [HR.out];rfl,L.out⟩
theorem Zl.wide {B B':Nat} {w:World} {x:Ez} {v:Value} (h:Zl B w x v) (hB:B≤B'):Zl B' w x v:=by
 induction h with
 | mk k s n kids line base cap b o us hs hn0 hn1 hbase hlen hc hm hcell hfive _ ih =>
  exact .mk k s n kids line base cap b o us hs hn0 hn1 (fun h=>⟨(hbase h).1,Nat.lt_of_lt_of_le (hbase h).2.1 hB,(hbase h).2.2⟩) hlen hc hm hcell hfive ih
theorem zgX (w0:World) (k:Int) (s:List UInt8) (n:Int) (base:Option Addr) (m cap:Nat) (line:Int) (bx r:Nat) (q:Option Nat) (t:List UInt8) (R:Option (List UInt8)) (w:World) (p:w.heap[bx]?=some (yW k s n base m cap line))
  (cx:Calls Tryz.prog 40 #[.pointer (some ⟨r,0,none⟩),yp k s n base m cap line,.int .i64 24] w (zn w0 r q t w R)) :
  Calls Tryz.prog 39 #[.pointer (some ⟨r,0,none⟩),.pointer (some ⟨bx,0,none⟩)] w (zn w0 r q t w R):=by
 obtain ⟨G,c1,c2,D,H⟩:=zF p;clear p
 go_enter Tryz.func39,Tryz.ntmps39
 go_wp2_with fail
 refine cx.mono ?_;clear cx;rintro e A ⟨z,h,y⟩;cases R with
 | none=>subst y;exact ⟨rfl,z,h,rfl⟩
 | some u =>
  obtain ⟨rfl,o⟩:=y;have I:Hid (zn w0 r q t w (some u) (.returned (.tuple #[])) A):=⟨z,h,rfl,o⟩;clear h o G c1 c2 D H;go_wp2
  exact bodyPost_ret (v:=.tuple #[]) (by simp [results,Tryz.results39,go_sem]) rfl I.out
theorem vR (x:Ez) (v:Value) (w:World) (hx:Zl w.heap.size w x v) (hT:ZC w) (hl:ZA w) (he:xp w) :
  Calls Tryz.prog 16 #[v] w fun e w'=>e=.returned (.tuple #[.string (zb (prR (prE 24 x)).1),.int .i64 ((prR (prE 24 x)).2:Int)])∧Below w.heap.size w w':=by
 have O:∀(fn:Fn) (first h:Array Value) (w:World),(Instr.makeFunc fn first h).run Tryz.prog w=.ok (.func fn first h) w:=fun _ _ _ _=>rfl
 obtain ⟨k,s,n,kids,line⟩:=x;have A:=hx;obtain ⟨base,h,rfl,-⟩:=hx.kid;obtain ⟨w1,o⟩:∃w1,w1=w.alloc (yW k s n base kids.length h line):=⟨_,rfl⟩;have y:Below w.heap.size w w1:=by rw [o];exact (Below.refl _ w).alloc (Nat.le_refl _) _
 have L:w1.heap[w.heap.size]?=some (yW k s n base kids.length h line):=by rw [o];exact World.alloc_heap_new w _
 have T:w1.heap.size=w.heap.size+1:=by rw [o];simp
 have J:=ua w1 (hT.below y (Nat.le_refl _)) (hl.env y) 24 (Nat.le_refl _);have z:Zl w1.heap.size w1 (.mk k s n kids line) (yp k s n base kids.length h line):=(A.kept y).wide (by omega)
 have H:=zbc 39 w.heap.size (prE 24 (.mk k s n kids line)) w1 (by unfold xp;rw [o];exact zl he _) (fun _ _=>rfl) fun W hWr=>zgX w1 k s n base kids.length h line w.heap.size _ none [] _ W ((hWr.env.block _ (by omega)).trans L) (J _ _ _ none [] W z hWr)
 have G:Hid (Below w.heap.size w w1):=y;have N:=o.symm;generalize prR (prE 24 (.mk k s n kids line))=R at *;generalize kids.length=m at *;clear hx A z J L y hT hl he o;obtain ⟨u,Q⟩:=R;simp only at H ⊢
 go_enter Tryz.func16,Tryz.ntmps16
 go_wp2_with fail
 refine H.mono ?_;clear H;rintro e U ⟨rfl,D⟩;have I:Hid (Below w.heap.size w U):=zt G.out D;clear D;go_wp2
 exact bodyPost_ret (v:=.tuple #[.string (zb u),.int .i64 (Q:Int)]) (by simp [results,Tryz.results16,go_sem]) rfl ⟨rfl,I.out⟩
end Go.Proofs.YtcphojjpapgblaaGreatDoor
