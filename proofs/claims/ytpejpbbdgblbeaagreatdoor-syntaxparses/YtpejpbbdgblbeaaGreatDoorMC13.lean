import Derived.Test.YtpejpbbdgblbeaaGreatDoorSWExpr
import Derived.Deep.RegionWith
import Derived.Test.YtpejpbbdgblbeaaGreatDoorMC8
import Derived.Shelf.Strings.Builder1
import Derived.Test.YtpejpbbdgblbeaaGreatDoorMC6
namespace Go.Proofs.YtpejpbbdgblbeaaGreatDoor
open Go.RowKit Go.Shelf
set_option maxHeartbeats 16000000
set_option maxRecDepth 100000
theorem zgN (w0:World) (D:Int) (hD1:1≤D) (hD2:D≤24) (hl:ZS w0) (s:List UInt8) (line:Int) (base:Option Addr) (m cap r:Nat) (q:Option Nat) (t:List UInt8) (w:World) (h:zH w0 r q t w) (hex:xR 2 s 0 m=true) :
  Calls Tryz.prog 42 #[.pointer (some ⟨r,0,none⟩),Ye 2 s 0 base m cap line,.int .i64 D] w (zr w0 r q t w (some [102,97,108,115,101])):=by
 have hmf:∀(fn:Fn) (first cap:Array Value) (w:World),(Instr.makeFunc fn first cap).run Tryz.prog w=.ok (.func fn first cap) w:=fun _ _ _ _=>rfl
 obtain ⟨R,hR⟩:∃R:Option (List UInt8),R=some [102,97,108,115,101]:=⟨_,rfl⟩;rw [←hR];obtain ⟨w1,hw1⟩:∃w1,w1=exW w r 2 s 0 base m cap line D:=⟨_,rfl⟩;obtain ⟨hb1,hsz1,e0,e1,e2⟩:=Yy w r 2 s 0 base m cap line D;rw [←hw1] at hb1 hsz1 e0 e1 e2;have hW1:=h.below hb1;have HL1:Hid (zu r q w w1 q w1):=zu.start h hb1;have HP1:Hid (w1.heap[w.heap.size]?=some (.cells #[.pointer (some ⟨r,0,none⟩)] 85 (0,0))∧w1.heap[w.heap.size+1]?=some (Y3 2 s 0 base m cap line)∧w1.heap[w.heap.size+2]?=some (.cells #[.int .i64 D] 3 (0,0))):=⟨e0,e1,e2⟩;have ci:=yw 2 s 0 base m cap line w1 (hl.env hW1.env);rw [hex] at ci;have HW1:Hid (zH w0 r q t w1):=hW1;have hw1':=hw1.symm;have b0:=zg e0;obtain ⟨c0,c1,c2,c3,c4⟩:=zK e1;have b2:=zg e2;have hD0:(0:Int)<D:=by omega
 have HR:Hid (R=some [102,97,108,115,101]):=hR;clear hR hW1 e0 e1 e2 hw1 hb1 h hl hex
 go_enter Tryz.func42,Tryz.ntmps42
 go_wp2_with fail
 refine ci.mono ?_;clear ci b0 b2 c0 c1 c2 c3 c4;rintro e w2 ⟨rfl,hb2⟩;have HL2:Hid (zu r q w w1 q w2):=HL1.out.step (zX.below hb2);have HW2:Hid (zH w0 r q t w2):=HW1.out.below hb2;clear hb2;have ca:=Zi true w2;go_wp2_with fail
 refine ca.mono ?_;clear ca;rintro e w3 ⟨rfl,rfl⟩;simp only [xY];have b0:=zg ((HL2.out.block (w.heap.size) (Nat.le_refl _) (by omega)).trans HP1.out.1)
 obtain ⟨c0,c1,c2,c3,c4⟩:=zK ((HL2.out.block (w.heap.size+1) (by omega) (by omega)).trans HP1.out.2.1)
 have b2:=zg ((HL2.out.block (w.heap.size+2) (by omega) (by omega)).trans HP1.out.2.2)
 have HL3:Hid (zu r q w w1 q w3):=HL2.out;have HW3:Hid (zH w0 r q t w3):=HW2.out;clear HL1 HW1 HL2 HW2;have hBd:Below w3.heap.size w3 w3.drew:=(Below.refl _ _).drew;have cp:=zE w0 r q t [102,97,108,115,101] w3.drew (HW3.out.below hBd) (by simp)
 have hidx:∀W,(Instr.index 133 (.agg #[.string ⟨#[102,97,108,115,101]⟩,.string ⟨#[116,114,117,101]⟩]) (.int .i64 0)).run Tryz.prog W=.ok (.string (za [102,97,108,115,101])) W:=fun _=>rfl
 obtain rfl:=HR.out;have HPP:Hid (∀e w',zr w0 r q t w3.drew (some [102,97,108,115,101]) e w'→zr w0 r q t w (some [102,97,108,115,101]) e w'):=fun e w' ⟨q',h1,h2,h3⟩=>⟨q',(HL3.out.unto.trans (zX.below hBd)).trans h1,h2,h3⟩
 clear HL3 HW3 HR HP1;go_wp2_with fail
 go_region_with (go_at_call 81;refine cp.mono ?_;rintro e w4 hp4;have HP:=HPP.out _ _ hp4;obtain ⟨-,-,rfl,-⟩:=hp4;have HP:Hid (zr w0 r q t w (some [102,97,108,115,101]) (.returned (.tuple #[])) w4):=HP)
 all_goals exact bodyPost_ret (v:=.tuple #[]) (by simp [results,Tryz.results42,go_sem]) rfl HP.out
theorem zgO (w0:World) (D:Int) (hD1:1≤D) (hD2:D≤24) (hl:ZS w0) (s:List UInt8) (line:Int) (base:Option Addr) (m cap r:Nat) (q:Option Nat) (t:List UInt8) (w:World) (h:zH w0 r q t w) (hex:xR 2 s 1 m=true) :
  Calls Tryz.prog 42 #[.pointer (some ⟨r,0,none⟩),Ye 2 s 1 base m cap line,.int .i64 D] w (zr w0 r q t w (some [116,114,117,101])):=by
 have hmf:∀(fn:Fn) (first cap:Array Value) (w:World),(Instr.makeFunc fn first cap).run Tryz.prog w=.ok (.func fn first cap) w:=fun _ _ _ _=>rfl
 obtain ⟨R,hR⟩:∃R:Option (List UInt8),R=some [116,114,117,101]:=⟨_,rfl⟩;rw [←hR];obtain ⟨w1,hw1⟩:∃w1,w1=exW w r 2 s 1 base m cap line D:=⟨_,rfl⟩;obtain ⟨hb1,hsz1,e0,e1,e2⟩:=Yy w r 2 s 1 base m cap line D;rw [←hw1] at hb1 hsz1 e0 e1 e2;have hW1:=h.below hb1;have HL1:Hid (zu r q w w1 q w1):=zu.start h hb1;have HP1:Hid (w1.heap[w.heap.size]?=some (.cells #[.pointer (some ⟨r,0,none⟩)] 85 (0,0))∧w1.heap[w.heap.size+1]?=some (Y3 2 s 1 base m cap line)∧w1.heap[w.heap.size+2]?=some (.cells #[.int .i64 D] 3 (0,0))):=⟨e0,e1,e2⟩;have ci:=yw 2 s 1 base m cap line w1 (hl.env hW1.env);rw [hex] at ci;have HW1:Hid (zH w0 r q t w1):=hW1;have hw1':=hw1.symm;have b0:=zg e0;obtain ⟨c0,c1,c2,c3,c4⟩:=zK e1;have b2:=zg e2;have hD0:(0:Int)<D:=by omega
 have HR:Hid (R=some [116,114,117,101]):=hR;clear hR hW1 e0 e1 e2 hw1 hb1 h hl hex
 go_enter Tryz.func42,Tryz.ntmps42
 go_wp2_with fail
 refine ci.mono ?_;clear ci b0 b2 c0 c1 c2 c3 c4;rintro e w2 ⟨rfl,hb2⟩;have HL2:Hid (zu r q w w1 q w2):=HL1.out.step (zX.below hb2);have HW2:Hid (zH w0 r q t w2):=HW1.out.below hb2;clear hb2;have ca:=Zi true w2;go_wp2_with fail
 refine ca.mono ?_;clear ca;rintro e w3 ⟨rfl,rfl⟩;simp only [xY];have b0:=zg ((HL2.out.block (w.heap.size) (Nat.le_refl _) (by omega)).trans HP1.out.1)
 obtain ⟨c0,c1,c2,c3,c4⟩:=zK ((HL2.out.block (w.heap.size+1) (by omega) (by omega)).trans HP1.out.2.1)
 have b2:=zg ((HL2.out.block (w.heap.size+2) (by omega) (by omega)).trans HP1.out.2.2)
 have HL3:Hid (zu r q w w1 q w3):=HL2.out;have HW3:Hid (zH w0 r q t w3):=HW2.out;clear HL1 HW1 HL2 HW2;have hBd:Below w3.heap.size w3 w3.drew:=(Below.refl _ _).drew;have cp:=zE w0 r q t [116,114,117,101] w3.drew (HW3.out.below hBd) (by simp)
 have hidx:∀W,(Instr.index 133 (.agg #[.string ⟨#[102,97,108,115,101]⟩,.string ⟨#[116,114,117,101]⟩]) (.int .i64 1)).run Tryz.prog W=.ok (.string (za [116,114,117,101])) W:=fun _=>rfl
 obtain rfl:=HR.out;have HPP:Hid (∀e w',zr w0 r q t w3.drew (some [116,114,117,101]) e w'→zr w0 r q t w (some [116,114,117,101]) e w'):=fun e w' ⟨q',h1,h2,h3⟩=>⟨q',(HL3.out.unto.trans (zX.below hBd)).trans h1,h2,h3⟩
 clear HL3 HW3 HR HP1;go_wp2_with fail
 go_region_with (go_at_call 81;refine cp.mono ?_;rintro e w4 hp4;have HP:=HPP.out _ _ hp4;obtain ⟨-,-,rfl,-⟩:=hp4;have HP:Hid (zr w0 r q t w (some [116,114,117,101]) (.returned (.tuple #[])) w4):=HP)
 all_goals exact bodyPost_ret (v:=.tuple #[]) (by simp [results,Tryz.results42,go_sem]) rfl HP.out
def prB (f:Ez→Option (List UInt8)) (k:Int) (s:List UInt8) (n:Int) (kids:List Ez):Option (List UInt8) :=
  if xR k s n kids.length=true then
   if k=1 then tokO 2 n []
   else if k=2 then some (if n=0 then [102,97,108,115,101] else [116,114,117,101])
   else if k=3 then tokO 3 0 s
   else if k=4 then tokO 1 0 s
   else if k=5 then zd (tokO 1 0 s) (zd (some [40]) (zd (rowO (kids.map (f)) kids.length) (some [41])))
   else if k=11 then zd (some [110,101,119,32]) (zd (tokO 1 0 s) (zd (some [40]) (zd (rowO (kids.map (f)) kids.length) (some [41]))))
   else if k=10 then zd (some [91]) (zd (rowO (kids.map (f)) kids.length) (some [93]))
   else if k=6 then match kids with
    | a::_=>zd (some s) (kidO a 7 (f a))
    | _=>none
   else if k=7 then match kids with
    | a::b::_=>zd (kidO a (levelOf s) (f a)) (zd (some [32]) (zd (some s) (zd (some [32]) (kidO b (levelOf s+1) (f b)))))
    | _=>none
   else if k=8 then match kids with
    | a::b::_=>zd (kidO a 8 (f a)) (zd (some [91]) (zd (f b) (some [93])))
    | _=>none
   else if k=9 then match kids with
    | a::_=>zd (kidO a 8 (f a)) (zd (some [46]) (tokO 1 0 s))
    | _=>none
   else none
  else none
theorem zfE (d:Nat) (k:Int) (s:List UInt8) (n:Int) (kids:List Ez) (line:Int):prE (d+1) (.mk k s n kids line)=prB (prE d) k s n kids:=rfl
theorem X6 {w0:World} {b o i:Nat} {a1:Int} {a2:List UInt8} {a3:Int} {a4:Option Addr} {a5 a6:Nat} {a7:Int} (p:Nat) (hp:p=o+i*5) (hlt:b<w0.heap.size) (h0:w0.cell? ⟨b,o+i*5,none⟩=some (.int .i64 a1)) (h1:w0.cell? ⟨b,o+i*5+1,none⟩=some (.string (za a2))) (h2:w0.cell? ⟨b,o+i*5+2,none⟩=some (.int .i64 a3)) (h3:w0.cell? ⟨b,o+i*5+3,none⟩=some (.slice a4 a5 a6)) (h4:w0.cell? ⟨b,o+i*5+4,none⟩=some (.int .i64 a7)):yI w0 b p a1 a2 a3 a4 a5 a6 a7:=by
 subst hp;exact ⟨hlt,h0,h1,h2,h3,h4⟩
theorem uY (w0:World) (hT:ZV w0) (hl:ZS w0):∀d,d≤24→Yx w0 d
 | 0,_=>by
  intro x v r q t w hx h;obtain ⟨k,s,n,kids,line⟩:=x;obtain ⟨base,cap,rfl,-⟩:=hx.kid;exact zfD w0 k s n line base kids.length cap r q t w h
 | d+1,hd=>by
  have hX:=uY w0 hT hl d (by omega)
  intro x v r q t w hx h;obtain ⟨k,s,n,kids,line⟩:=x;obtain ⟨base,cap,rfl,hc,hm,hs,hn0,hn1,hrow⟩:=hx.kid;obtain ⟨D,hDD⟩:∃D:Int,D=((d+1:Nat):Int):=⟨_,rfl⟩;rw [←hDD];have hD:D-1=(d:Int):=by omega
  have hD1:1≤D:=by omega
  have hD2:D≤24:=by omega
  rw [zfE]
  unfold prB
  by_cases hex:xR k s n kids.length=true
  ·rw [if_pos hex]
   by_cases h1:k=1
   ·subst h1;rw [if_pos rfl];exact zhI w0 D hD1 hD2 hT hl s n line base kids.length cap r q t w h hex hn0 hn1
   rw [if_neg h1]
   by_cases h2:k=2
   ·subst h2;rw [if_pos rfl]
    have h01:n=0∨n=1:=by
     unfold xR at hex
     simp at hex
     exact hex.2
    rcases h01 with rfl | rfl
    ·rw [if_pos rfl];exact zgN w0 D hD1 hD2 hl s line base kids.length cap r q t w h hex
    ·rw [if_neg (by omega)];exact zgO w0 D hD1 hD2 hl s line base kids.length cap r q t w h hex
   rw [if_neg h2]
   by_cases h3:k=3
   ·subst h3;rw [if_pos rfl];exact zhJ w0 D hD1 hD2 hT hl s n line base kids.length cap r q t w h hex hs
   rw [if_neg h3]
   by_cases h4:k=4
   ·subst h4;rw [if_pos rfl];exact zhK w0 D hD1 hD2 hT hl s n line base kids.length cap r q t w h hex hs
   rw [if_neg h4]
   by_cases h5:k=5
   ·subst h5;rw [if_pos rfl];exact zhL w0 d D hD hD1 hD2 hX hT hl s n line base kids.length cap r q t w h hex hs kids rfl hc hm hrow
   rw [if_neg h5]
   by_cases h11:k=11
   ·subst h11;rw [if_pos rfl];exact zgL w0 d D hD hD1 hD2 hX hT hl s n line base kids.length cap r q t w h hex hs kids rfl hc hm hrow
   rw [if_neg h11]
   by_cases h10:k=10
   ·subst h10;rw [if_pos rfl];exact zgM w0 d D hD hD1 hD2 hX hl s n line base kids.length cap r q t w h hex kids rfl hc hm hrow
   rw [if_neg h10]
   by_cases h6:k=6
   ·subst h6;rw [if_pos rfl]
    have hlen:kids.length=1:=by unfold xR at hex;simp at hex;exact hex.1.2
    obtain ⟨a,rfl⟩:=List.length_eq_one_iff.1 hlen;obtain ⟨b,o,a1,a2,a3,a4,a5,a6,a7,rfl,hb,-,hxa,m0,m1,m2,m3,m4⟩:=hrow 0 a rfl;exact zhM w0 D hD1 hD2 hl s n line _ 1 cap r q t w h hex _ fun q t w h=>zhE w0 d D hD hD1 hD2 hX hl s n b o cap r line q t w hs h a a1 a2 a3 a4 a5 a6 a7 hxa (X6 _ (by omega) hb m0 m1 m2 m3 m4)
   rw [if_neg h6]
   by_cases h7:k=7
   ·subst h7;rw [if_pos rfl]
    have hlen:kids.length=2:=by unfold xR at hex;simp at hex;exact hex.1.2
    obtain ⟨a,c,rfl⟩:∃a c,kids=[a,c]:=by match kids,hlen with | [a,c],_=>exact ⟨a,c,rfl⟩
    obtain ⟨b,o,a1,a2,a3,a4,a5,a6,a7,rfl,hb,-,hxa,m0,m1,m2,m3,m4⟩:=hrow 0 a rfl;obtain ⟨b',o',c1,c2,c3,c4,c5,c6,c7,hbb,-,-,hxc,n0,n1,n2,n3,n4⟩:=hrow 1 c rfl;cases hbb
    exact zhN w0 D hD1 hD2 hl s n line _ 2 cap r q t w h hex _ fun q t w h=>zhF w0 d D hD hD1 hD2 hX hl s n b o cap r line q t w hs h a a1 a2 a3 a4 a5 a6 a7 hxa (X6 _ (by omega) hb m0 m1 m2 m3 m4) c c1 c2 c3 c4 c5 c6 c7 hxc (X6 _ (by omega) hb n0 n1 n2 n3 n4)
   rw [if_neg h7]
   by_cases h8:k=8
   ·subst h8;rw [if_pos rfl]
    have hlen:kids.length=2:=by unfold xR at hex;simp at hex;exact hex.1.2
    obtain ⟨a,c,rfl⟩:∃a c,kids=[a,c]:=by match kids,hlen with | [a,c],_=>exact ⟨a,c,rfl⟩
    obtain ⟨b,o,a1,a2,a3,a4,a5,a6,a7,rfl,hb,-,hxa,m0,m1,m2,m3,m4⟩:=hrow 0 a rfl;obtain ⟨b',o',c1,c2,c3,c4,c5,c6,c7,hbb,-,-,hxc,n0,n1,n2,n3,n4⟩:=hrow 1 c rfl;cases hbb
    exact zhO w0 D hD1 hD2 hl s n line _ 2 cap r q t w h hex _ fun q t w h=>zhG w0 d D hD hD1 hD2 hX hl s n b o cap r line q t w h a a1 a2 a3 a4 a5 a6 a7 hxa (X6 _ (by omega) hb m0 m1 m2 m3 m4) c c1 c2 c3 c4 c5 c6 c7 hxc (X6 _ (by omega) hb n0 n1 n2 n3 n4)
   rw [if_neg h8]
   by_cases h9:k=9
   ·subst h9;rw [if_pos rfl]
    have hlen:kids.length=1:=by unfold xR at hex;simp at hex;exact hex.2
    obtain ⟨a,rfl⟩:=List.length_eq_one_iff.1 hlen;obtain ⟨b,o,a1,a2,a3,a4,a5,a6,a7,rfl,hb,-,hxa,m0,m1,m2,m3,m4⟩:=hrow 0 a rfl;exact zhP w0 D hD1 hD2 hl s n line _ 1 cap r q t w h hex _ fun q t w h=>zhH w0 d D hD hD1 hD2 hX hT hl s n b o cap r line q t w hs h a a1 a2 a3 a4 a5 a6 a7 hxa (X6 _ (by omega) hb m0 m1 m2 m3 m4)
   exfalso
   unfold xR at hex
   rw [if_neg h1,if_neg h2,if_neg h3,if_neg h4,if_neg h5,if_neg h11,if_neg h6,if_neg h7,if_neg h8,if_neg h9,if_neg h10] at hex;cases hex
  ·rw [if_neg hex]
   exact zhQ w0 D hD1 hD2 hl s n line base kids.length cap r q t w h k (by simpa using hex)
theorem zfF:Tryz.prog.cellsOf 5=1:=by kernel_rfl
theorem zfG (B r g cap:Nat) (l:List UInt8) (cur:Array Value) (w:World) (hl0:l≠[]) (hc1:w.cell? ⟨r,1,none⟩=some (.slice (some ⟨g,0,none⟩) l.length cap)) (hbg:B≤g) (hg:w.heap[g]?=some (.cells cur 5 (0,0))) (hnc:l.length≤cap) (hcm:cap≤maxLen) (hcs:cur.size=cap) (hcell:∀j u,(Lib.byteCells l)[j]?=some u→w.cell? ((⟨g,0,none⟩:Addr).add j)=some u) :
  Calls Tryz.prog 69 #[.pointer (some ⟨r,0,none⟩)] w fun e w'=>e=.returned (.string (za l))∧Below B w w':=by
 have hl1:l.length≠0:=by simpa using hl0
 have c1:w.drew.cell? ⟨r,1,none⟩=some (.slice (some ⟨g,0,none⟩) l.length cap):=hc1
 have hSD:(Builtin.unsafeSliceData_ #[120] 157 #[.slice (some ⟨g,0,none⟩) l.length cap]).run Tryz.prog w.drew=.ok (.pointer (some ⟨g,0,none⟩)) w.drew :=
  Lib.run_unsafeSliceData_row _ _ _ _ _ _ (by omega)
 have hUS:(Builtin.unsafeString_ #[157,3] 9 #[.pointer (some ⟨g,0,none⟩),.int .i64 l.length]).run Tryz.prog w.drew=.ok (.string ⟨l.toArray⟩) (w.drew.freeze ⟨g,0,none⟩ l.length):=by
  refine Lib.run_unsafeString_row w.drew 157 3 9 5 Tryz.underlying157 zfF g cur.size (by have hg':w.drew.heap[g]?=some (.cells cur 5 (0,0)):=hg;simp [World.shape?,hg']) l hl0 (by omega) (by unfold maxLen at hcm;omega) ?_
  intro j x hx;exact hcell j (.int .u8 x.toNat) (by simp [Lib.byteCells,hx])
 have HB:Hid (Below B w (w.drew.freeze ⟨g,0,none⟩ l.length)):=Lib.below_freeze (Below.drew (Below.refl B w)) (p:=⟨g,0,none⟩) hbg _;clear hbg hg hcell hcs hnc hcm hl0;have mixed:Tryz.prog.follows Departure.mixedOrders=true:=rfl
 go_enter Tryz.func69,Tryz.ntmps69
 go_wp2
 go_region_o
 all_goals (go_wp2;exact bodyPost_ret (v:=.string ⟨l.toArray⟩) (by simp [results,Tryz.results69,go_sem]) rfl ⟨rfl,HB.out⟩)
theorem zfH (B r g cap:Nat) (w:World) (hc0:cap≠0) (hc1:w.cell? ⟨r,1,none⟩=some (.slice (some ⟨g,0,none⟩) 0 cap)) :
  Calls Tryz.prog 69 #[.pointer (some ⟨r,0,none⟩)] w fun e w'=>e=.returned (.string (za []))∧Below B w w':=by
 have hUS:∀(W:World) (q:Option Addr),(Builtin.unsafeString_ #[157,3] 9 #[.pointer q,.int .i64 0]).run Tryz.prog W=.ok (.string .empty) W:=fun W q=>Lib.run_unsafeString_none W _ _ _ q
 have c1:w.drew.cell? ⟨r,1,none⟩=some (.slice (some ⟨g,0,none⟩) 0 cap):=hc1
 have hSD:(Builtin.unsafeSliceData_ #[120] 157 #[.slice (some ⟨g,0,none⟩) 0 cap]).run Tryz.prog w.drew=.ok (.pointer (some ⟨g,0,none⟩)) w.drew :=
  Lib.run_unsafeSliceData_row _ _ _ _ _ _ hc0
 clear hc0;have mixed:Tryz.prog.follows Departure.mixedOrders=true:=rfl
 go_enter Tryz.func69,Tryz.ntmps69
 go_wp2
 go_region_o
 all_goals (go_wp2;exact bodyPost_ret (v:=.string .empty) (by simp [results,Tryz.results69,go_sem]) rfl ⟨rfl,Below.drew (Below.refl B w)⟩)
theorem zcM (B r g:Nat) (cur:Array Value) (w:World) (hBw:B≤w.heap.size) (hc1:w.cell? ⟨r,1,none⟩=some (.slice (some ⟨g,0,none⟩) 0 0)) (hg:w.heap[g]?=some (.cells cur 5 (0,0))) :
  Calls Tryz.prog 69 #[.pointer (some ⟨r,0,none⟩)] w fun e w'=>e=.returned (.string (za []))∧Below B w w':=by
 have hUS:∀(W:World) (q:Option Addr),(Builtin.unsafeString_ #[157,3] 9 #[.pointer q,.int .i64 0]).run Tryz.prog W=.ok (.string .empty) W:=fun W q=>Lib.run_unsafeString_none W _ _ _ q
 have c1:w.drew.cell? ⟨r,1,none⟩=some (.slice (some ⟨g,0,none⟩) 0 0):=hc1
 have hSD:(Builtin.unsafeSliceData_ #[120] 157 #[.slice (some ⟨g,0,none⟩) 0 0]).run Tryz.prog w.drew=.ok (.pointer (some ⟨w.drew.heap.size,0,none⟩)) (w.drew.alloc (.view ⟨g,0,none⟩ 5)) :=
  Lib.run_unsafeSliceData_zero w.drew _ _ 5 Tryz.underlying157 ⟨g,0,none⟩ 0 (5,cur.size) (by have hg':w.drew.heap[g]?=some (.cells cur 5 (0,0)):=hg;simp [World.shape?,hg'])
 have c2:(w.drew.alloc (.view ⟨g,0,none⟩ 5)).cell? ⟨r,1,none⟩=some (.slice (some ⟨g,0,none⟩) 0 0):=ze c1 _;have c3:(w.alloc (.view ⟨g,0,none⟩ 5)).drew.cell? ⟨r,1,none⟩=some (.slice (some ⟨g,0,none⟩) 0 0):=c2;have mixed:Tryz.prog.follows Departure.mixedOrders=true:=rfl
 go_enter Tryz.func69,Tryz.ntmps69
 go_wp2
 go_region_o
 all_goals (go_wp2;exact bodyPost_ret (v:=.string .empty) (by simp [results,Tryz.results69,go_sem]) rfl ⟨rfl,(Below.drew (Below.refl B w)).alloc hBw _⟩)
theorem zcN (B r:Nat) (q:Option Nat) (l:List UInt8) (lo:Bool) (w:World) (h:Xj r q l lo w) (hB:B≤w.heap.size) (hq:∀k,q=some k→B≤k) :
  Calls Tryz.prog 69 #[.pointer (some ⟨r,0,none⟩)] w fun e w'=>e=.returned (.string (za l))∧Below B w w':=by
 obtain ⟨⟨p,v,hb,hp,ho,rfl⟩,hne⟩:=h;obtain ⟨c0,c1,c2,cf⟩:=VQ hb;rcases ho.2 with ⟨rfl,hz⟩ | ⟨g,cap,cur,rfl,hbg,hg,hnc,hcm,hcs,htake⟩
 ·obtain rfl:l=[]:=List.eq_nil_of_length_eq_zero hz
  exact zgF B r w c1
 ·by_cases hl:l=[]
  ·subst hl
   by_cases hc0:cap=0
   ·subst hc0
    exact zcM B r g cur w hB c1 hg
   ·exact zfH B r g cap w hc0 c1
  ·exact zfG B r g cap l cur w hl c1 (hq g rfl) hg hnc hcm (by simpa using hcs) (ho.cells (g:=g) rfl)
end Go.Proofs.YtpejpbbdgblbeaaGreatDoor
namespace Go.Proofs.YtpejpbbdgblbeaaGreatDoor
open Go.RowKit Go.Extern.Stop Go.Stop Go.Extern
set_option maxHeartbeats 16000000
set_option maxRecDepth 100000
theorem XS (g:FuncId) (cap:Array Value) (w:World) (Q:World→Prop) (Pn:Int→Int→World→Prop) (hent:∀w,(callFunc g cap).run Tryz.prog w=.ok (.enter g cap) w)
  (hdo:Calls Tryz.prog g cap (zgA w) fun e w'=>w'.heap[w.heap.size]?=some (.cells #[.int .i64 0] 3 (0,0))∧w'.heap[w.heap.size+1]?=some (.cells #[.int .i64 0] 26 (0,0))∧Xh w'∧((e=.returned (.tuple #[])∧Q w')∨∃why at0,e=.panicked [{ v:=zal why at0,recovered:=false }]∧Pn why at0 w')) :
  Calls Tryz.prog 48 #[.func (.func g) #[] cap] w fun e w' =>
   (∃w0,e=.returned (.tuple #[.int .i64 0,.int .i64 0])∧Q w0∧Below w.heap.size w0 w'∧∀k,k≠w.heap.size→k≠w.heap.size+1→w'.heap[k]?=w0.heap[k]?)∨∃why at0 w0,e=.returned (.tuple #[.int .i64 at0,.int .i64 why])∧Pn why at0 w0∧Below w.heap.size w0 w':=by
 have hmf:∀(fn:Fn) (first cap:Array Value) (w:World),(Instr.makeFunc fn first cap).run Tryz.prog w=.ok (.func fn first cap) w:=fun _ _ _ _=>rfl
 go_enter_defers Tryz.func48,Tryz.ntmps48
 go_wp2_with fail
 refine hdo.mono ?_;clear hdo;rintro e w1 ⟨h0,h1,hg,h⟩;have k0:w1.cell? ⟨w.heap.size,0,none⟩=some (.int .i64 0):=by simp [World.cell?,h0]
 have k1:w1.cell? ⟨w.heap.size+1,0,none⟩=some (.int .i64 0):=by simp [World.cell?,h1]
 have k0f:w1.frozen? ⟨w.heap.size,0,none⟩=false:=by simp [World.frozen?,h0]
 have k1f:w1.frozen? ⟨w.heap.size+1,0,none⟩=false:=by simp [World.frozen?,h1]
 have k1':∀v,(w1.setCell ⟨w.heap.size,0,none⟩ v).cell? ⟨w.heap.size+1,0,none⟩=some (.int .i64 0):=fun v=>(World.cell?_setCell_other _ _ _ _ (by simp)).trans k1
 rcases h with ⟨rfl,hQ⟩ | ⟨why,at0,rfl,hP⟩
 ·have hB:Below w.heap.size w1 ((w1.setCell ⟨w.heap.size,0,none⟩ (.int .i64 0)).setCell ⟨w.heap.size+1,0,none⟩ (.int .i64 0)):=((Below.refl w.heap.size w1).setCell (p:=⟨w.heap.size,0,none⟩) (by simp) _).setCell (p:=⟨w.heap.size+1,0,none⟩) (by simp) _
  have HB:Hid (Below w.heap.size w1 ((w1.setCell ⟨w.heap.size,0,none⟩ (.int .i64 0)).setCell ⟨w.heap.size+1,0,none⟩ (.int .i64 0))):=hB
  have e0:((w1.setCell ⟨w.heap.size,0,none⟩ (.int .i64 0)).setCell ⟨w.heap.size+1,0,none⟩ (.int .i64 0)).cell? ⟨w.heap.size,0,none⟩=some (.int .i64 0):=by
   rw [World.cell?_setCell_other _ _ _ _ (by simp),World.cell?_setCell_same _ _ _ k0]
  have e1:((w1.setCell ⟨w.heap.size,0,none⟩ (.int .i64 0)).setCell ⟨w.heap.size+1,0,none⟩ (.int .i64 0)).cell? ⟨w.heap.size+1,0,none⟩=some (.int .i64 0):=World.cell?_setCell_same _ _ _ (k1' _);clear hB;go_wp2
  refine leaves_cons (f:=90) (args:=#[.pointer (some ⟨w.heap.size,0,none⟩),.pointer (some ⟨w.heap.size+1,0,none⟩)]) (by simp) (by simp [go_sem]) ?_
  refine (zcx ⟨w.heap.size,0,none⟩ ⟨w.heap.size+1,0,none⟩ _).mono ?_;rintro e u' w'' ⟨rfl,rfl,rfl⟩
  simp [Leaves,settle,results,Tryz.results48,go_sem,e0,e1]
  exact .inl ⟨w1,hQ,HB.out,fun k h0 h1=>by rw [Below.heap_setCell _ _ _ _ (by simpa using h1),Below.heap_setCell _ _ _ _ (by simpa using h0)]⟩
 ·refine leaves_cons (f:=90) (args:=#[.pointer (some ⟨w.heap.size,0,none⟩),.pointer (some ⟨w.heap.size+1,0,none⟩)]) (by simp) (by simp [go_sem]) ?_
  refine (za9 w.heap.size why at0 0 0 [] w1 h0 h1 hg).mono ?_;rintro e u' w'' ⟨rfl,rfl,e0,e1,hB⟩
  simp [Leaves,settle,results,Tryz.results48,go_sem,e0,e1]
  exact .inr ⟨why,at0,⟨rfl,rfl⟩,w1,hP,hB⟩
end Go.Proofs.YtpejpbbdgblbeaaGreatDoor
namespace Go.Proofs.YtpejpbbdgblbeaaGreatDoor
open Go.RowKit Go.Shelf
set_option maxHeartbeats 16000000
set_option maxRecDepth 100000
def prR (R:Option (List UInt8)):List UInt8 × Nat:=match R with
 | none=>([],2)
 | some s=>if 4096<s.length then ([],5) else (s,0)
abbrev wrZ:Obj:=.cells #[.pointer none,.slice none 0 0,.bool false] 124
abbrev wrW (w:World) (f:Value):World:=((w.alloc (.cells #[f] 87)).alloc wrZ).alloc (.cells #[.pointer (some ⟨w.heap.size+1,0,none⟩)] 85)
theorem zgP (w:World) (f:Value):Below w.heap.size w (wrW w f)∧(wrW w f).heap.size=w.heap.size+3∧(wrW w f).heap[w.heap.size]?=some (.cells #[f] 87 (0,0))∧(wrW w f).heap[w.heap.size+1]?=some wrZ∧(wrW w f).heap[w.heap.size+2]?=some (.cells #[.pointer (some ⟨w.heap.size+1,0,none⟩)] 85 (0,0)):=by
 refine ⟨(((Below.refl _ w).alloc (Nat.le_refl _) _).alloc (by simp) _).alloc (by simp <;> omega) _,by simp,?_,?_,?_⟩
 ·rw [Below.heap_alloc _ _ _ (by simp <;> omega),Below.heap_alloc _ _ _ (by simp)];exact World.alloc_heap_new _ _
 ·rw [Below.heap_alloc _ _ _ (by simp)]
  have:=World.alloc_heap_new (w.alloc (.cells #[f] 87)) wrZ
  simpa using this
 ·have:=World.alloc_heap_new ((w.alloc (.cells #[f] 87)).alloc wrZ) (.cells #[.pointer (some ⟨w.heap.size+1,0,none⟩)] 85)
  simpa using this
theorem zgQ (w0:World) (F bx r N0 N2:Nat) (q:Option Nat) (t:List UInt8) (R:Option (List UInt8)) (w:World) (hent:∀args w,(callFunc F args).run Tryz.prog w=.ok (.enter F args) w)
  (hW:Calls Tryz.prog F #[.pointer (some ⟨r,0,none⟩),.pointer (some ⟨bx,0,none⟩)] w (zr w0 r q t w R)) (c0:w.cell? ⟨N0,0,none⟩=some (.func (.func F) #[] #[.pointer (some ⟨bx,0,none⟩)])) (c2:w.cell? ⟨N2,0,none⟩=some (.pointer (some ⟨r,0,none⟩))) :
  Calls Tryz.prog 68 #[.pointer (some ⟨N0,0,none⟩),.pointer (some ⟨N2,0,none⟩)] w (zr w0 r q t w R):=by
 go_enter Tryz.func68,Tryz.ntmps68
 go_wp2_with fail
 refine hW.mono ?_;clear hW;rintro e w1 ⟨q',hto,hp⟩;cases R with
 | none=>subst hp;exact ⟨rfl,q',hto,rfl⟩
 | some u =>
  obtain ⟨rfl,hw⟩:=hp;have HP:Hid (zr w0 r q t w (some u) (.returned (.tuple #[])) w1):=⟨q',hto,rfl,hw⟩;clear hto hw c0 c2;go_wp2
  exact bodyPost_ret (v:=.tuple #[]) (by simp [results,Tryz.results68,go_sem]) rfl HP.out
theorem zbw (F bx:Nat) (R:Option (List UInt8)) (w:World) (he:Xh w) (hent:∀args w,(callFunc F args).run Tryz.prog w=.ok (.enter F args) w)
  (hW:∀W,zH w (w.heap.size+1) none [] W→Calls Tryz.prog F #[.pointer (some ⟨w.heap.size+1,0,none⟩),.pointer (some ⟨bx,0,none⟩)] W (zr w (w.heap.size+1) none [] W R)) :
  Calls Tryz.prog 34 #[.func (.func F) #[] #[.pointer (some ⟨bx,0,none⟩)]] w fun e w'=>e=.returned (.tuple #[.string (za (prR R).1),.int .i64 ((prR R).2:Int)])∧Below w.heap.size w w':=by
 have hmf:∀(fn:Fn) (first cap:Array Value) (w:World),(Instr.makeFunc fn first cap).run Tryz.prog w=.ok (.func fn first cap) w:=fun _ _ _ _=>rfl
 obtain ⟨w1,hw1⟩:∃w1,w1=wrW w (.func (.func F) #[] #[.pointer (some ⟨bx,0,none⟩)]):=⟨_,rfl⟩;obtain ⟨hb1,hs1,e0,e1,e2⟩:=zgP w (.func (.func F) #[] #[.pointer (some ⟨bx,0,none⟩)]);rw [←hw1] at hb1 hs1 e0 e1 e2;obtain ⟨W,hWW⟩:∃W,W=zgA w1:=⟨_,rfl⟩;have hbW:Below w1.heap.size w1 W:=by rw [hWW];exact ((Below.refl _ w1).alloc (Nat.le_refl _) _).alloc (by simp) _
 have hsW:W.heap.size=w.heap.size+5:=by rw [hWW];simp [hs1]
 have hbwW:Below w.heap.size w W:=hb1.trans (hbW.mono (by omega))
 have pa:W.heap[w1.heap.size]?=some (.cells #[.int .i64 0] 3 (0,0)):=by
  rw [hWW,Below.heap_alloc _ _ _ (by simp)];exact World.alloc_heap_new _ _
 have pb:W.heap[w1.heap.size+1]?=some (.cells #[.int .i64 0] 26 (0,0)):=by
  rw [hWW]
  have:=World.alloc_heap_new (w1.alloc (.cells #[.int .i64 0] 3)) (.cells #[.int .i64 0] 26)
  simpa using this
 have hAt:Xj (w.heap.size+1) none [] false W:=⟨⟨_,_,(hbW.block _ (by omega)).trans e1,.inl rfl,World.ownsRow_nil _ _ _ _,rfl⟩,by simp⟩
 have hT:zH w (w.heap.size+1) none [] W:=⟨⟨[],false,hAt,⟨fun h=>(by cases h),fun h=>(by simp at h)⟩,fun _=>rfl,by simp⟩,hbwW,by omega,fun k h=>by cases h⟩
 have heb:0<w.heap.size:=World.block_lt_of_cell? w _ he;have hdo:=zgQ w F bx (w.heap.size+1) w.heap.size (w.heap.size+2) none [] R W hent (hW W hT) (zg ((hbW.block _ (by omega)).trans e0)) (zg ((hbW.block _ (by omega)).trans e2))
 have ca:=XS 68 #[.pointer (some ⟨w.heap.size,0,none⟩),.pointer (some ⟨w.heap.size+2,0,none⟩)] w1 (fun w'=>∃s q',R=some s∧zX (w.heap.size+1) none W q' w'∧zH w (w.heap.size+1) q' s w') (fun why at0 w'=>why=2∧at0=0∧R=none∧∃q',zX (w.heap.size+1) none W q' w') (fun _=>rfl) (by
  rw [←hWW];refine hdo.mono fun e w' hP=>?_
  obtain ⟨q',hto,hp⟩:=hP;refine ⟨(hto.block _ (by omega) (by omega) (by simp)).trans pa,(hto.block _ (by omega) (by omega) (by simp)).trans pb,?_,?_⟩
  ·unfold Xh
   rw [World.cell?_of_block ((hto.block 0 (by omega) (by omega) (by simp)).trans (hbwW.block _ heb))];exact he
  ·cases R with
   | none=>exact .inr ⟨2,0,hp,rfl,rfl,rfl,q',hto⟩
   | some s=>exact .inl ⟨hp.1,s,q',rfl,hto,by simpa using hp.2⟩)
 have HB1:Hid (Below w.heap.size w w1):=hb1;have HBW:Hid (Below w.heap.size w W):=hbwW;have HE:Hid (W.heap[w.heap.size+2]?=some (.cells #[.pointer (some ⟨w.heap.size+1,0,none⟩)] 85 (0,0))):=(hbW.block _ (by omega)).trans e2
 have hw1':=hw1.symm;clear hW hdo hT hAt pa pb hbwW hbW e0 e1 e2 hb1 he hw1 hWW
 go_enter Tryz.func34,Tryz.ntmps34
 go_wp2_with fail
 refine ca.mono ?_;clear ca;rintro e w6 (⟨w5,rfl,⟨s,q',rfl,hto,hwt⟩,hb6,hkp⟩ | ⟨why,at0,w5,rfl,⟨rfl,rfl,rfl,q',hto⟩,hb6⟩)
 ·obtain ⟨l,lo,hat,hlo,hl,hll⟩:=hwt.at0
  have hs5:=hto.size;have hs6:=hb6.size
  have hq5:∀k,q'=some k→w.heap.size+5≤k:=fun k hk=>by
   rcases hto.row with e | e
   ·rw [e] at hk;cases hk
   ·have:=e k hk;omega
  have hat6:Xj (w.heap.size+1) q' l lo w6:=hat.keep (hkp _ (by omega) (by omega)) fun k hk=>hkp k (by have:=hq5 k hk;omega) (by have:=hq5 k hk;omega)
  have c2:w6.cell? ⟨w.heap.size+2,0,none⟩=some (.pointer (some ⟨w.heap.size+1,0,none⟩)):=zg ((hkp _ (by omega) (by omega)).trans ((hto.block _ (by omega) (by omega) (by simp)).trans HE.out))
  have hb06:Below w.heap.size w w6:=hwt.env.trans (hb6.mono (by omega))
  obtain ⟨p,v,hbk,-⟩:=hat6.has;obtain ⟨-,-,cl,-⟩:=VQ hbk;have cs:=zcN w.heap.size (w.heap.size+1) q' l lo w6 hat6 (by omega) (fun k hk=>by have:=hq5 k hk;omega)
  have HB6:Hid (Below w.heap.size w w6):=hb06;clear hat hat6 hbk hb06 hb6 hkp hto hwt HE;cases lo with
  | true =>
   have HR:Hid (prR (some s)=([],5)):=show _=_ by unfold prR;simp only [if_pos (hlo.1 rfl)]
   clear cs hlo hl;go_wp2
   exact bodyPost_ret (v:=.tuple #[.string ⟨#[]⟩,.int .i64 5]) (by simp [results,Tryz.results34,go_sem]) rfl ⟨by rw [HR.out];rfl,HB6.out⟩
  | false =>
   obtain rfl:=hl rfl
   have HR:Hid (prR (some l)=(l,0)):=show _=_ by
    unfold prR
    have:¬ 4096<l.length:=by omega
    simp only [if_neg this]
   clear hlo hl;go_wp2_with fail
   refine cs.mono ?_;clear cs;rintro e w7 ⟨rfl,hb7⟩;have HB7:Hid (Below w.heap.size w w7):=HB6.out.trans hb7;clear hb7;go_wp2
   exact bodyPost_ret (v:=.tuple #[.string (za l),.int .i64 0]) (by simp [results,Tryz.results34,go_sem]) rfl ⟨by rw [HR.out];rfl,HB7.out⟩
 ·have hs5:=hto.size
  have HB6:Hid (Below w.heap.size w w6):=⟨hb6.os.trans (hto.os.trans HBW.out.os),hb6.tape.trans (hto.tape.trans HBW.out.tape),hb6.output.trans (hto.output.trans HBW.out.output),by have:=hb6.size;omega,fun k hk=>(hb6.block k (by omega)).trans ((hto.block k (by omega) (by omega) (by simp)).trans (HBW.out.block k hk))⟩
  clear hto hb6 HE;have HR:Hid (prR none=([],2)):=rfl;go_wp2
  exact bodyPost_ret (v:=.tuple #[.string ⟨#[]⟩,.int .i64 2]) (by simp [results,Tryz.results34,go_sem]) rfl ⟨by rw [HR.out];rfl,HB6.out⟩
theorem ZJ.wide {B B':Nat} {w:World} {x:Ez} {v:Value} (h:ZJ B w x v) (hB:B≤B'):ZJ B' w x v:=by
 induction h with
 | mk k s n kids line base cap b o us hs hn0 hn1 hbase hlen hc hm hcell hfive _ ih =>
  exact .mk k s n kids line base cap b o us hs hn0 hn1 (fun h=>⟨(hbase h).1,Nat.lt_of_lt_of_le (hbase h).2.1 hB,(hbase h).2.2⟩) hlen hc hm hcell hfive ih
theorem zgR (w0:World) (k:Int) (s:List UInt8) (n:Int) (base:Option Addr) (m cap:Nat) (line:Int) (bx r:Nat) (q:Option Nat) (t:List UInt8) (R:Option (List UInt8)) (w:World) (p:w.heap[bx]?=some (Y3 k s n base m cap line))
  (cx:Calls Tryz.prog 42 #[.pointer (some ⟨r,0,none⟩),Ye k s n base m cap line,.int .i64 24] w (zr w0 r q t w R)) :
  Calls Tryz.prog 41 #[.pointer (some ⟨r,0,none⟩),.pointer (some ⟨bx,0,none⟩)] w (zr w0 r q t w R):=by
 obtain ⟨c0,c1,c2,c3,c4⟩:=zK p;clear p
 go_enter Tryz.func41,Tryz.ntmps41
 go_wp2_with fail
 refine cx.mono ?_;clear cx;rintro e w1 ⟨q',hto,hp⟩;cases R with
 | none=>subst hp;exact ⟨rfl,q',hto,rfl⟩
 | some u =>
  obtain ⟨rfl,hw⟩:=hp;have HP:Hid (zr w0 r q t w (some u) (.returned (.tuple #[])) w1):=⟨q',hto,rfl,hw⟩;clear hto hw c0 c1 c2 c3 c4;go_wp2
  exact bodyPost_ret (v:=.tuple #[]) (by simp [results,Tryz.results41,go_sem]) rfl HP.out
theorem Qk (x:Ez) (v:Value) (w:World) (hx:ZJ w.heap.size w x v) (hT:ZV w) (hl:ZS w) (he:Xh w) :
  Calls Tryz.prog 18 #[v] w fun e w'=>e=.returned (.tuple #[.string (za (prR (prE 24 x)).1),.int .i64 ((prR (prE 24 x)).2:Int)])∧Below w.heap.size w w':=by
 have hmf:∀(fn:Fn) (first cap:Array Value) (w:World),(Instr.makeFunc fn first cap).run Tryz.prog w=.ok (.func fn first cap) w:=fun _ _ _ _=>rfl
 obtain ⟨k,s,n,kids,line⟩:=x;have hx0:=hx;obtain ⟨base,cap,rfl,-⟩:=hx.kid;obtain ⟨w1,hw1⟩:∃w1,w1=w.alloc (Y3 k s n base kids.length cap line):=⟨_,rfl⟩;have hb1:Below w.heap.size w w1:=by rw [hw1];exact (Below.refl _ w).alloc (Nat.le_refl _) _
 have p1:w1.heap[w.heap.size]?=some (Y3 k s n base kids.length cap line):=by rw [hw1];exact World.alloc_heap_new w _
 have hs1:w1.heap.size=w.heap.size+1:=by rw [hw1];simp
 have hX:=uY w1 (hT.below hb1 (Nat.le_refl _)) (hl.env hb1) 24 (Nat.le_refl _);have hx1:ZJ w1.heap.size w1 (.mk k s n kids line) (Ye k s n base kids.length cap line):=(hx0.kept hb1).wide (by omega)
 have ca:=zbw 41 w.heap.size (prE 24 (.mk k s n kids line)) w1 (by unfold Xh;rw [hw1];exact ze he _) (fun _ _=>rfl) fun W hWr=>zgR w1 k s n base kids.length cap line w.heap.size _ none [] _ W ((hWr.env.block _ (by omega)).trans p1) (hX _ _ _ none [] W hx1 hWr)
 have HB1:Hid (Below w.heap.size w w1):=hb1;have hw1':=hw1.symm;generalize prR (prE 24 (.mk k s n kids line))=R at *;generalize kids.length=m at *;clear hx hx0 hx1 hX p1 hb1 hT hl he hw1;obtain ⟨u,er⟩:=R;simp only at ca ⊢
 go_enter Tryz.func18,Tryz.ntmps18
 go_wp2_with fail
 refine ca.mono ?_;clear ca;rintro e w2 ⟨rfl,hb2⟩;have HB2:Hid (Below w.heap.size w w2):=zi HB1.out hb2;clear hb2;go_wp2
 exact bodyPost_ret (v:=.tuple #[.string (za u),.int .i64 (er:Int)]) (by simp [results,Tryz.results18,go_sem]) rfl ⟨rfl,HB2.out⟩
end Go.Proofs.YtpejpbbdgblbeaaGreatDoor
