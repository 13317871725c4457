import Derived.Test.YtcphojjpapgblaaGreatDoorMC12
import Derived.BigQuiet
import Derived.Test.YtcphojjpapgblaaGreatDoorMC23
namespace Go.Proofs.YtcphojjpapgblaaGreatDoor
open Go.RowKit Go.Shelf
set_option maxHeartbeats 16000000
set_option maxRecDepth 100000
abbrev vL (k:Int) (s:List UInt8) (be:Option Addr) (me ce:Nat) (bb:Option Addr) (mb cb:Nat) (bl:Option Addr) (ml cl:Nat) (line:Int):Obj:=.cells #[.int .i64 k,.string (zb s),.slice be me ce,.slice bb mb cb,.slice bl ml cl,.int .i64 line] 107
abbrev szV (k:Int) (s:List UInt8) (be:Option Addr) (me ce:Nat) (bb:Option Addr) (mb cb:Nat) (bl:Option Addr) (ml cl:Nat) (line:Int):Value:=.agg #[.int .i64 k,.string (zb s),.slice be me ce,.slice bb mb cb,.slice bl ml cl,.int .i64 line]
theorem zv {w:World} {N:Nat} {k:Int} {s:List UInt8} {be:Option Addr} {me ce:Nat} {bb:Option Addr} {mb cb:Nat} {bl:Option Addr} {ml cl:Nat} {line:Int} (p:w.heap[N]?=some (vL k s be me ce bb mb cb bl ml cl line)) :
  w.cell? ⟨N,0,none⟩=some (.int .i64 k)∧w.cell? ⟨N,1,none⟩=some (.string (zb s))∧w.cell? ⟨N,2,none⟩=some (.slice be me ce)∧w.cell? ⟨N,3,none⟩=some (.slice bb mb cb)∧w.cell? ⟨N,4,none⟩=some (.slice bl ml cl)∧w.cell? ⟨N,5,none⟩=some (.int .i64 line):=by
 refine ⟨?_,?_,?_,?_,?_,?_⟩ <;> (simp only [World.cell?,p];rfl)
theorem zfx (a:Int) (s:List UInt8) (n:Int) (base:Option Addr) (m cap:Nat) (line:Int) (w:World) :
  Calls Tryz.prog 187 #[yp a s n base m cap line] w fun e w'=>e=.returned (.bool (a==4||a==8||a==9))∧w'=w.alloc (yW a s n base m cap line):=by
 by_cases h4:a=4
 ·subst h4
  go_enter Tryz.func187,Tryz.ntmps187
  go_wp2
  go_ret
  exact ⟨rfl,rfl⟩
 ·have y:(a==4)=false:=by simpa using h4
  by_cases h8:a=8
  ·subst h8
   go_enter Tryz.func187,Tryz.ntmps187
   go_wp2
   go_ret
   exact ⟨rfl,rfl⟩
  ·have h:(a==8)=false:=by simpa using h8
   by_cases h9:a=9
   ·subst h9
    go_enter Tryz.func187,Tryz.ntmps187
    go_wp2
    go_ret
    exact ⟨rfl,rfl⟩
   ·have o:(a==9)=false:=by simpa using h9
    rw [y,h,o];clear h4 h8 h9
    go_enter Tryz.func187,Tryz.ntmps187
    go_wp2
    go_ret
    exact ⟨rfl,rfl⟩
theorem uQ {n:Nat} {w w':World} (h:Below n w w') (k:Nat):Below n w (w'.drewN k):=h.trans (⟨rfl,rfl,rfl,Nat.le_refl _,fun _ _=>rfl⟩:Below n w' (w'.drewN k))
theorem Zj.ez {B:Nat} {w:World} {l:List Ez} {base:Option Addr} {m cap:Nat} (h:Zj (qN B w) 5 B w l base m cap):∀i x,l[i]?=some x→∃b o z L I D H J G,base=some ⟨b,o,none⟩∧b<B∧b<w.heap.size∧Zl B w x (yp z L I D H J G) ∧
   w.cell? ⟨b,o+i*5,none⟩=some (.int .i64 z)∧w.cell? ⟨b,o+i*5+1,none⟩=some (.string (zb L))∧w.cell? ⟨b,o+i*5+2,none⟩=some (.int .i64 I)∧w.cell? ⟨b,o+i*5+3,none⟩=some (.slice D H J)∧w.cell? ⟨b,o+i*5+4,none⟩=some (.int .i64 G)∧z=US x:=by
 intro i x Y;obtain ⟨b,o,c,Q,T,U,X,N,y⟩:=h.2.2.2 i x Y
 obtain ⟨z,L,I,D,H,J,G,W,O⟩:∃z L I D H J G,Value.agg c.toArray=yp z L I D H J G∧z=US x:=by
  have A:Zl B w x (Value.agg c.toArray):=N;generalize Value.agg c.toArray=V at A;cases A with
  | mk=>exact ⟨_,_,_,_,_,_,_,rfl,rfl⟩
 have R:c=[.int .i64 z,.string (zb L),.int .i64 I,.slice D H J,.int .i64 G]:=by
  have:=congrArg (fun v=>match v with | .agg a=>a.toList | _=>[]) W
  simpa using this
 subst R;exact ⟨b,o,z,L,I,D,H,J,G,Q,T,U,N,y 0 _ rfl,y 1 _ rfl,y 2 _ rfl,y 3 _ rfl,y 4 _ rfl,O⟩
theorem zfy (k:Int) (s:List UInt8) (es:List Ez) (be:Option Addr) (me ce:Nat) (bb:Option Addr) (mb cb:Nat) (bl:Option Addr) (ml cl:Nat) (line:Int) (B:Nat) (w:World) (hrow:Zj (qN B w) 5 B w es be me ce) :
  Calls Tryz.prog 189 #[szV k s be me ce bb mb cb bl ml cl line] w fun e w'=>e=.returned (.bool (hasX k es))∧Below w.heap.size w w':=by
 obtain ⟨w1,D⟩:∃w1,w1=w.alloc (vL k s be me ce bb mb cb bl ml cl line):=⟨_,rfl⟩;have W:Below w.heap.size w w1:=by rw [D];exact (Below.refl _ w).alloc (Nat.le_refl _) _
 have p1:w1.heap[w.heap.size]?=some (vL k s be me ce bb mb cb bl ml cl line):=by rw [D];exact World.alloc_heap_new w _
 obtain ⟨c0,c1,c2,c3,c4,c5⟩:=zv p1;have I:Hid (Below w.heap.size w w1):=W;have ad:=D.symm;have A:es.length=me:=hrow.1.symm
 have HX:Hid (∀a b,es=[a,b]→∃b o L V T Q O U R,be=some ⟨b,o,none⟩∧L=US a∧w1.cell? ⟨b,o,none⟩=some (.int .i64 L)∧w1.cell? ⟨b,o+1,none⟩=some (.string (zb V))∧w1.cell? ⟨b,o+2,none⟩=some (.int .i64 T)∧w1.cell? ⟨b,o+3,none⟩=some (.slice Q O U)∧w1.cell? ⟨b,o+4,none⟩=some (.int .i64 R)):=fun a b N=>by
  subst N;obtain ⟨b,o,L,V,T,Q,O,U,R,G,_,h3,_,m0,m1,Z,Y,m4,hk⟩:=hrow.ez 0 a rfl;rw [Nat.zero_mul,Nat.add_zero] at m0 m1 Z Y m4;refine ⟨b,o,L,V,T,Q,O,U,R,G,hk,?_,?_,?_,?_,?_⟩
  ·rw [D];exact zl m0 _
  ·rw [D];exact zl m1 _
  ·rw [D];exact zl Z _
  ·rw [D];exact zl Y _
  ·rw [D];exact zl m4 _
 clear W p1 D hrow
 by_cases hk1:k=1
 ·subst hk1
  have y:Hid (hasX 1 es=decide (me=1)):=show _=_ by rw [←A];simp [hasX];rfl
  by_cases G:me=1
  ·subst G
   have z:Hid (hasX 1 es=true):=y.out.trans (by simp)
   clear y
   go_enter Tryz.func189,Tryz.ntmps189
   go_wp2
   exact bodyPost_ret (v:=.bool true) (by simp [results,Tryz.results189,go_sem]) rfl ⟨by rw [z.out],I.out⟩
  ·have J:((me:Int)==1)=false:=by rw [beq_eq_false_iff_ne];omega
   have z:Hid (hasX 1 es=false):=y.out.trans (by simpa using G)
   clear y
   go_enter Tryz.func189,Tryz.ntmps189
   go_wp2
   exact bodyPost_ret (v:=.bool false) (by simp [results,Tryz.results189,go_sem]) rfl ⟨by rw [z.out],I.out⟩
 by_cases hk3:k=3
 ·subst hk3
  have y:Hid (hasX 3 es=decide (me=1)):=show _=_ by rw [←A];simp [hasX];rfl
  by_cases G:me=1
  ·subst G
   have z:Hid (hasX 3 es=true):=y.out.trans (by simp)
   clear y
   go_enter Tryz.func189,Tryz.ntmps189
   go_wp2
   exact bodyPost_ret (v:=.bool true) (by simp [results,Tryz.results189,go_sem]) rfl ⟨by rw [z.out],I.out⟩
  ·have J:((me:Int)==1)=false:=by rw [beq_eq_false_iff_ne];omega
   have z:Hid (hasX 3 es=false):=y.out.trans (by simpa using G)
   clear y
   go_enter Tryz.func189,Tryz.ntmps189
   go_wp2
   exact bodyPost_ret (v:=.bool false) (by simp [results,Tryz.results189,go_sem]) rfl ⟨by rw [z.out],I.out⟩
 by_cases hk4:k=4
 ·subst hk4
  have y:Hid (hasX 4 es=decide (me=1)):=show _=_ by rw [←A];simp [hasX];rfl
  by_cases G:me=1
  ·subst G
   have z:Hid (hasX 4 es=true):=y.out.trans (by simp)
   clear y
   go_enter Tryz.func189,Tryz.ntmps189
   go_wp2
   exact bodyPost_ret (v:=.bool true) (by simp [results,Tryz.results189,go_sem]) rfl ⟨by rw [z.out],I.out⟩
  ·have J:((me:Int)==1)=false:=by rw [beq_eq_false_iff_ne];omega
   have z:Hid (hasX 4 es=false):=y.out.trans (by simpa using G)
   clear y
   go_enter Tryz.func189,Tryz.ntmps189
   go_wp2
   exact bodyPost_ret (v:=.bool false) (by simp [results,Tryz.results189,go_sem]) rfl ⟨by rw [z.out],I.out⟩
 by_cases hk5:k=5
 ·subst hk5
  have y:Hid (hasX 5 es=decide (me=1)):=show _=_ by rw [←A];simp [hasX];rfl
  by_cases G:me=1
  ·subst G
   have z:Hid (hasX 5 es=true):=y.out.trans (by simp)
   clear y
   go_enter Tryz.func189,Tryz.ntmps189
   go_wp2
   exact bodyPost_ret (v:=.bool true) (by simp [results,Tryz.results189,go_sem]) rfl ⟨by rw [z.out],I.out⟩
  ·have J:((me:Int)==1)=false:=by rw [beq_eq_false_iff_ne];omega
   have z:Hid (hasX 5 es=false):=y.out.trans (by simpa using G)
   clear y
   go_enter Tryz.func189,Tryz.ntmps189
   go_wp2
   exact bodyPost_ret (v:=.bool false) (by simp [results,Tryz.results189,go_sem]) rfl ⟨by rw [z.out],I.out⟩
 by_cases hk7:k=7
 ·subst hk7
  have y:Hid (hasX 7 es=decide (me=1)):=show _=_ by rw [←A];simp [hasX];rfl
  by_cases G:me=1
  ·subst G
   have z:Hid (hasX 7 es=true):=y.out.trans (by simp)
   clear y
   go_enter Tryz.func189,Tryz.ntmps189
   go_wp2
   exact bodyPost_ret (v:=.bool true) (by simp [results,Tryz.results189,go_sem]) rfl ⟨by rw [z.out],I.out⟩
  ·have J:((me:Int)==1)=false:=by rw [beq_eq_false_iff_ne];omega
   have z:Hid (hasX 7 es=false):=y.out.trans (by simpa using G)
   clear y
   go_enter Tryz.func189,Tryz.ntmps189
   go_wp2
   exact bodyPost_ret (v:=.bool false) (by simp [results,Tryz.results189,go_sem]) rfl ⟨by rw [z.out],I.out⟩
 by_cases hk2:k=2
 ·subst hk2
  clear hk1 hk3 hk4 hk5 hk7
  by_cases h2:me=2
  ·obtain ⟨a,b,N⟩:∃a b,es=[a,b]:=by match es,A.trans h2 with | [a,b],_=>exact ⟨a,b,rfl⟩
   obtain ⟨B2,o,L,V,T,Q,O,U,R,rfl,X,m0,m1,Z,Y,m4⟩:=HX.out a b N;have z:Hid (hasX 2 es=(L==4||L==8||L==9)):=show _=_ by rw [N,X];simp [hasX,ui]
   subst h2;have cp:=zfx L V T Q O U R w1;generalize (L==4||L==8||L==9)=H at *;clear N X HX A
   go_enter Tryz.func189,Tryz.ntmps189
   go_wp2_with fail
   refine cp.mono ?_;clear cp;rintro e w2 ⟨rfl,rfl⟩;have aa:Hid (Below w.heap.size w (w1.alloc (yW L V T Q O U R))):=I.out.alloc I.out.size _;clear I;go_wp2
   exact bodyPost_ret (v:=.bool H) (by simp [results,Tryz.results189,go_sem]) rfl ⟨by rw [z.out],aa.out⟩
  ·have J:((me:Int)==2)=false:=by rw [beq_eq_false_iff_ne];omega
   have z:Hid (hasX 2 es=false):=show _=_ by
    have ab:es.length≠2:=by omega
    match es,ab with
    | [],_=>rfl
    | [_],_=>rfl
    | [_,_],h=>exact absurd rfl h
    | _::_::_::_,_=>rfl
   go_enter Tryz.func189,Tryz.ntmps189
   go_wp2
   exact bodyPost_ret (v:=.bool false) (by simp [results,Tryz.results189,go_sem]) rfl ⟨by rw [z.out],I.out⟩
 by_cases hk6:k=6
 ·subst hk6
  clear hk1 hk3 hk4 hk5 hk7 hk2
  by_cases G:me≤1
  ·have J:(me:Int)≤1:=by omega
   have z:Hid (hasX 6 es=true):=show _=_ by simp [hasX,A,G]
   go_enter Tryz.func189,Tryz.ntmps189
   go_wp2
   exact bodyPost_ret (v:=.bool true) (by simp [results,Tryz.results189,go_sem]) rfl ⟨by rw [z.out],I.out⟩
  ·have J:¬ (me:Int)≤1:=by omega
   have z:Hid (hasX 6 es=false):=show _=_ by simp [hasX,A];omega
   go_enter Tryz.func189,Tryz.ntmps189
   go_wp2
   exact bodyPost_ret (v:=.bool false) (by simp [results,Tryz.results189,go_sem]) rfl ⟨by rw [z.out],I.out⟩
 have z:Hid (hasX k es=false):=show _=_ by
  unfold hasX
  rw [if_neg (by omega),if_neg hk2,if_neg hk6]
 have f1:(k==1)=false:=by simpa using hk1
 have f2:(k==2)=false:=by simpa using hk2
 have f3:(k==3)=false:=by simpa using hk3
 have f4:(k==4)=false:=by simpa using hk4
 have f5:(k==5)=false:=by simpa using hk5
 have f6:(k==6)=false:=by simpa using hk6
 have f7:(k==7)=false:=by simpa using hk7
 clear hk1 hk2 hk3 hk4 hk5 hk6 hk7
 go_enter Tryz.func189,Tryz.ntmps189
 go_wp2
 exact bodyPost_ret (v:=.bool false) (by simp [results,Tryz.results189,go_sem]) rfl ⟨by rw [z.out],I.out⟩
theorem YA (k:Int) (s:List UInt8) (es:List Ez) (be:Option Addr) (me ce:Nat) (bb:Option Addr) (mb cb:Nat) (bl:Option Addr) (ml cl:Nat) (line:Int) (B:Nat) (w:World) (hrow:Zj (qN B w) 5 B w es be me ce) (hB:B≤w.heap.size) :
  Calls Tryz.prog 171 #[szV k s be me ce bb mb cb bl ml cl line] w fun e w'=>e=.returned (.bool (xg k s es mb ml))∧Below w.heap.size w w':=by
 obtain ⟨w1,U⟩:∃w1,w1=w.alloc (vL k s be me ce bb mb cb bl ml cl line):=⟨_,rfl⟩;have W:Below w.heap.size w w1:=by rw [U];exact (Below.refl _ w).alloc (Nat.le_refl _) _
 have p1:w1.heap[w.heap.size]?=some (vL k s be me ce bb mb cb bl ml cl line):=by rw [U];exact World.alloc_heap_new w _
 have V:∀n,Below B w (w1.drewN n):=fun n=>(uQ W n).mono hB
 have I:=fun n=>zfy k s es be me ce bb mb cb bl ml cl line B (w1.drewN n) (hrow.kept (V n) fun _ _ h=>Zl.kept h (V n))
 obtain ⟨c0,c1,c2,z,A,c5⟩:=zv p1;have D:Hid (∀n,Below w.heap.size w (w1.drewN n)):=fun n=>uQ W n
 have aa:=U.symm;have HV:Hid (xg k s es mb ml=(hasX k es&&(k==1||s==[])&&(k==4||k==3||k==5||mb==0)&&(k==4||ml==0))):=rfl;generalize hasX k es=H at *;obtain ⟨R,hR⟩:∃R,R=xg k s es mb ml:=⟨_,rfl⟩;have G:Hid (R=(H&&(k==1||s==[])&&(k==4||k==3||k==5||mb==0)&&(k==4||ml==0))):=hR.trans HV.out;rw [←hR];clear hR HV W p1 U hrow V
 by_cases hk1:k=1
 ·subst hk1
  cases H with
  | false =>
   obtain rfl:R=false:=by rw [G.out];simp_all
   clear G
   go_enter Tryz.func171,Tryz.ntmps171
   go_wp2_with fail
   go_quiet (fail)
   go_wp2_with fail
   refine (I _).mono ?_;clear I;rintro e J ⟨rfl,o⟩;have y:Hid (Below w.heap.size w J):=zt (D.out _) o;have L:=(o.cell (p:=⟨w.heap.size,1,none⟩) (World.block_lt_of_cell? _ _ c1)).trans c1;have N:=(o.cell (p:=⟨w.heap.size,3,none⟩) (World.block_lt_of_cell? _ _ z)).trans z;have O:=(o.cell (p:=⟨w.heap.size,4,none⟩) (World.block_lt_of_cell? _ _ A)).trans A;clear o D;go_wp2
   exact bodyPost_ret (v:=.bool false) (by simp [results,Tryz.results171,go_sem]) rfl ⟨rfl,y.out⟩
  | true =>
   by_cases hmb:mb=0
   ·subst hmb
    by_cases hml:ml=0
    ·subst hml
     obtain rfl:R=true:=by rw [G.out];simp_all
     clear G
     go_enter Tryz.func171,Tryz.ntmps171
     go_wp2_with fail
     go_quiet (fail)
     go_wp2_with fail
     refine (I _).mono ?_;clear I;rintro e J ⟨rfl,o⟩;have y:Hid (Below w.heap.size w J):=zt (D.out _) o;have L:=(o.cell (p:=⟨w.heap.size,1,none⟩) (World.block_lt_of_cell? _ _ c1)).trans c1;have N:=(o.cell (p:=⟨w.heap.size,3,none⟩) (World.block_lt_of_cell? _ _ z)).trans z;have O:=(o.cell (p:=⟨w.heap.size,4,none⟩) (World.block_lt_of_cell? _ _ A)).trans A;clear o D;go_wp2
     exact bodyPost_ret (v:=.bool true) (by simp [results,Tryz.results171,go_sem]) rfl ⟨rfl,y.out⟩
    ·have Q:((ml:Int)==0)=false:=by rw [beq_eq_false_iff_ne];omega
     have T:(ml==0)=false:=by rw [beq_eq_false_iff_ne];exact hml
     obtain rfl:R=false:=by rw [G.out];simp_all
     clear G
     go_enter Tryz.func171,Tryz.ntmps171
     go_wp2_with fail
     go_quiet (fail)
     go_wp2_with fail
     refine (I _).mono ?_;clear I;rintro e J ⟨rfl,o⟩;have y:Hid (Below w.heap.size w J):=zt (D.out _) o;have L:=(o.cell (p:=⟨w.heap.size,1,none⟩) (World.block_lt_of_cell? _ _ c1)).trans c1;have N:=(o.cell (p:=⟨w.heap.size,3,none⟩) (World.block_lt_of_cell? _ _ z)).trans z;have O:=(o.cell (p:=⟨w.heap.size,4,none⟩) (World.block_lt_of_cell? _ _ A)).trans A;clear o D;go_wp2
     exact bodyPost_ret (v:=.bool false) (by simp [results,Tryz.results171,go_sem]) rfl ⟨rfl,y.out⟩
   ·have Z:((mb:Int)==0)=false:=by rw [beq_eq_false_iff_ne];omega
    have Y:(mb==0)=false:=by rw [beq_eq_false_iff_ne];exact hmb
    obtain rfl:R=false:=by rw [G.out];simp_all
    clear G
    go_enter Tryz.func171,Tryz.ntmps171
    go_wp2_with fail
    go_quiet (fail)
    go_wp2_with fail
    refine (I _).mono ?_;clear I;rintro e J ⟨rfl,o⟩;have y:Hid (Below w.heap.size w J):=zt (D.out _) o;have L:=(o.cell (p:=⟨w.heap.size,1,none⟩) (World.block_lt_of_cell? _ _ c1)).trans c1;have N:=(o.cell (p:=⟨w.heap.size,3,none⟩) (World.block_lt_of_cell? _ _ z)).trans z;have O:=(o.cell (p:=⟨w.heap.size,4,none⟩) (World.block_lt_of_cell? _ _ A)).trans A;clear o D;go_wp2
    exact bodyPost_ret (v:=.bool false) (by simp [results,Tryz.results171,go_sem]) rfl ⟨rfl,y.out⟩
 by_cases hk4:k=4
 ·subst hk4
  cases H with
  | false =>
   obtain rfl:R=false:=by rw [G.out];simp_all
   clear G
   go_enter Tryz.func171,Tryz.ntmps171
   go_wp2_with fail
   go_quiet (fail)
   go_wp2_with fail
   refine (I _).mono ?_;clear I;rintro e J ⟨rfl,o⟩;have y:Hid (Below w.heap.size w J):=zt (D.out _) o;have L:=(o.cell (p:=⟨w.heap.size,1,none⟩) (World.block_lt_of_cell? _ _ c1)).trans c1;have N:=(o.cell (p:=⟨w.heap.size,3,none⟩) (World.block_lt_of_cell? _ _ z)).trans z;have O:=(o.cell (p:=⟨w.heap.size,4,none⟩) (World.block_lt_of_cell? _ _ A)).trans A;clear o D;go_wp2
   exact bodyPost_ret (v:=.bool false) (by simp [results,Tryz.results171,go_sem]) rfl ⟨rfl,y.out⟩
  | true =>
   by_cases hs:s=[]
   ·subst hs
    obtain rfl:R=true:=by rw [G.out];simp_all
    clear G
    go_enter Tryz.func171,Tryz.ntmps171
    go_wp2_with fail
    go_quiet (fail)
    go_wp2_with fail
    refine (I _).mono ?_;clear I;rintro e J ⟨rfl,o⟩;have y:Hid (Below w.heap.size w J):=zt (D.out _) o;have L:=(o.cell (p:=⟨w.heap.size,1,none⟩) (World.block_lt_of_cell? _ _ c1)).trans c1;have N:=(o.cell (p:=⟨w.heap.size,3,none⟩) (World.block_lt_of_cell? _ _ z)).trans z;have O:=(o.cell (p:=⟨w.heap.size,4,none⟩) (World.block_lt_of_cell? _ _ A)).trans A;clear o D;go_wp2
    exact bodyPost_ret (v:=.bool true) (by simp [results,Tryz.results171,go_sem]) rfl ⟨rfl,y.out⟩
   ·have X:(s==[])=false:=by simpa using hs
    obtain rfl:R=false:=by rw [G.out];simp_all
    clear G
    go_enter Tryz.func171,Tryz.ntmps171
    go_wp2_with fail
    go_quiet (fail)
    go_wp2_with fail
    refine (I _).mono ?_;clear I;rintro e J ⟨rfl,o⟩;have y:Hid (Below w.heap.size w J):=zt (D.out _) o;have L:=(o.cell (p:=⟨w.heap.size,1,none⟩) (World.block_lt_of_cell? _ _ c1)).trans c1;have N:=(o.cell (p:=⟨w.heap.size,3,none⟩) (World.block_lt_of_cell? _ _ z)).trans z;have O:=(o.cell (p:=⟨w.heap.size,4,none⟩) (World.block_lt_of_cell? _ _ A)).trans A;clear o D;go_wp2
    exact bodyPost_ret (v:=.bool false) (by simp [results,Tryz.results171,go_sem]) rfl ⟨rfl,y.out⟩
 by_cases hk3:k=3
 ·subst hk3
  cases H with
  | false =>
   obtain rfl:R=false:=by rw [G.out];simp_all
   clear G
   go_enter Tryz.func171,Tryz.ntmps171
   go_wp2_with fail
   go_quiet (fail)
   go_wp2_with fail
   refine (I _).mono ?_;clear I;rintro e J ⟨rfl,o⟩;have y:Hid (Below w.heap.size w J):=zt (D.out _) o;have L:=(o.cell (p:=⟨w.heap.size,1,none⟩) (World.block_lt_of_cell? _ _ c1)).trans c1;have N:=(o.cell (p:=⟨w.heap.size,3,none⟩) (World.block_lt_of_cell? _ _ z)).trans z;have O:=(o.cell (p:=⟨w.heap.size,4,none⟩) (World.block_lt_of_cell? _ _ A)).trans A;clear o D;go_wp2
   exact bodyPost_ret (v:=.bool false) (by simp [results,Tryz.results171,go_sem]) rfl ⟨rfl,y.out⟩
  | true =>
   by_cases hs:s=[]
   ·subst hs
    by_cases hml:ml=0
    ·subst hml
     obtain rfl:R=true:=by rw [G.out];simp_all
     clear G
     go_enter Tryz.func171,Tryz.ntmps171
     go_wp2_with fail
     go_quiet (fail)
     go_wp2_with fail
     refine (I _).mono ?_;clear I;rintro e J ⟨rfl,o⟩;have y:Hid (Below w.heap.size w J):=zt (D.out _) o;have L:=(o.cell (p:=⟨w.heap.size,1,none⟩) (World.block_lt_of_cell? _ _ c1)).trans c1;have N:=(o.cell (p:=⟨w.heap.size,3,none⟩) (World.block_lt_of_cell? _ _ z)).trans z;have O:=(o.cell (p:=⟨w.heap.size,4,none⟩) (World.block_lt_of_cell? _ _ A)).trans A;clear o D;go_wp2
     exact bodyPost_ret (v:=.bool true) (by simp [results,Tryz.results171,go_sem]) rfl ⟨rfl,y.out⟩
    ·have Q:((ml:Int)==0)=false:=by rw [beq_eq_false_iff_ne];omega
     have T:(ml==0)=false:=by rw [beq_eq_false_iff_ne];exact hml
     obtain rfl:R=false:=by rw [G.out];simp_all
     clear G
     go_enter Tryz.func171,Tryz.ntmps171
     go_wp2_with fail
     go_quiet (fail)
     go_wp2_with fail
     refine (I _).mono ?_;clear I;rintro e J ⟨rfl,o⟩;have y:Hid (Below w.heap.size w J):=zt (D.out _) o;have L:=(o.cell (p:=⟨w.heap.size,1,none⟩) (World.block_lt_of_cell? _ _ c1)).trans c1;have N:=(o.cell (p:=⟨w.heap.size,3,none⟩) (World.block_lt_of_cell? _ _ z)).trans z;have O:=(o.cell (p:=⟨w.heap.size,4,none⟩) (World.block_lt_of_cell? _ _ A)).trans A;clear o D;go_wp2
     exact bodyPost_ret (v:=.bool false) (by simp [results,Tryz.results171,go_sem]) rfl ⟨rfl,y.out⟩
   ·have X:(s==[])=false:=by simpa using hs
    obtain rfl:R=false:=by rw [G.out];simp_all
    clear G
    go_enter Tryz.func171,Tryz.ntmps171
    go_wp2_with fail
    go_quiet (fail)
    go_wp2_with fail
    refine (I _).mono ?_;clear I;rintro e J ⟨rfl,o⟩;have y:Hid (Below w.heap.size w J):=zt (D.out _) o;have L:=(o.cell (p:=⟨w.heap.size,1,none⟩) (World.block_lt_of_cell? _ _ c1)).trans c1;have N:=(o.cell (p:=⟨w.heap.size,3,none⟩) (World.block_lt_of_cell? _ _ z)).trans z;have O:=(o.cell (p:=⟨w.heap.size,4,none⟩) (World.block_lt_of_cell? _ _ A)).trans A;clear o D;go_wp2
    exact bodyPost_ret (v:=.bool false) (by simp [results,Tryz.results171,go_sem]) rfl ⟨rfl,y.out⟩
 by_cases hk5:k=5
 ·subst hk5
  cases H with
  | false =>
   obtain rfl:R=false:=by rw [G.out];simp_all
   clear G
   go_enter Tryz.func171,Tryz.ntmps171
   go_wp2_with fail
   go_quiet (fail)
   go_wp2_with fail
   refine (I _).mono ?_;clear I;rintro e J ⟨rfl,o⟩;have y:Hid (Below w.heap.size w J):=zt (D.out _) o;have L:=(o.cell (p:=⟨w.heap.size,1,none⟩) (World.block_lt_of_cell? _ _ c1)).trans c1;have N:=(o.cell (p:=⟨w.heap.size,3,none⟩) (World.block_lt_of_cell? _ _ z)).trans z;have O:=(o.cell (p:=⟨w.heap.size,4,none⟩) (World.block_lt_of_cell? _ _ A)).trans A;clear o D;go_wp2
   exact bodyPost_ret (v:=.bool false) (by simp [results,Tryz.results171,go_sem]) rfl ⟨rfl,y.out⟩
  | true =>
   by_cases hs:s=[]
   ·subst hs
    by_cases hml:ml=0
    ·subst hml
     obtain rfl:R=true:=by rw [G.out];simp_all
     clear G
     go_enter Tryz.func171,Tryz.ntmps171
     go_wp2_with fail
     go_quiet (fail)
     go_wp2_with fail
     refine (I _).mono ?_;clear I;rintro e J ⟨rfl,o⟩;have y:Hid (Below w.heap.size w J):=zt (D.out _) o;have L:=(o.cell (p:=⟨w.heap.size,1,none⟩) (World.block_lt_of_cell? _ _ c1)).trans c1;have N:=(o.cell (p:=⟨w.heap.size,3,none⟩) (World.block_lt_of_cell? _ _ z)).trans z;have O:=(o.cell (p:=⟨w.heap.size,4,none⟩) (World.block_lt_of_cell? _ _ A)).trans A;clear o D;go_wp2
     exact bodyPost_ret (v:=.bool true) (by simp [results,Tryz.results171,go_sem]) rfl ⟨rfl,y.out⟩
    ·have Q:((ml:Int)==0)=false:=by rw [beq_eq_false_iff_ne];omega
     have T:(ml==0)=false:=by rw [beq_eq_false_iff_ne];exact hml
     obtain rfl:R=false:=by rw [G.out];simp_all
     clear G
     go_enter Tryz.func171,Tryz.ntmps171
     go_wp2_with fail
     go_quiet (fail)
     go_wp2_with fail
     refine (I _).mono ?_;clear I;rintro e J ⟨rfl,o⟩;have y:Hid (Below w.heap.size w J):=zt (D.out _) o;have L:=(o.cell (p:=⟨w.heap.size,1,none⟩) (World.block_lt_of_cell? _ _ c1)).trans c1;have N:=(o.cell (p:=⟨w.heap.size,3,none⟩) (World.block_lt_of_cell? _ _ z)).trans z;have O:=(o.cell (p:=⟨w.heap.size,4,none⟩) (World.block_lt_of_cell? _ _ A)).trans A;clear o D;go_wp2
     exact bodyPost_ret (v:=.bool false) (by simp [results,Tryz.results171,go_sem]) rfl ⟨rfl,y.out⟩
   ·have X:(s==[])=false:=by simpa using hs
    obtain rfl:R=false:=by rw [G.out];simp_all
    clear G
    go_enter Tryz.func171,Tryz.ntmps171
    go_wp2_with fail
    go_quiet (fail)
    go_wp2_with fail
    refine (I _).mono ?_;clear I;rintro e J ⟨rfl,o⟩;have y:Hid (Below w.heap.size w J):=zt (D.out _) o;have L:=(o.cell (p:=⟨w.heap.size,1,none⟩) (World.block_lt_of_cell? _ _ c1)).trans c1;have N:=(o.cell (p:=⟨w.heap.size,3,none⟩) (World.block_lt_of_cell? _ _ z)).trans z;have O:=(o.cell (p:=⟨w.heap.size,4,none⟩) (World.block_lt_of_cell? _ _ A)).trans A;clear o D;go_wp2
    exact bodyPost_ret (v:=.bool false) (by simp [results,Tryz.results171,go_sem]) rfl ⟨rfl,y.out⟩
 have f1:(k==1)=false:=by simpa using hk1
 have f3:(k==3)=false:=by simpa using hk3
 have f4:(k==4)=false:=by simpa using hk4
 have f5:(k==5)=false:=by simpa using hk5
 clear hk1 hk3 hk4 hk5;cases H with
 | false =>
  obtain rfl:R=false:=by rw [G.out];simp_all
  clear G
  go_enter Tryz.func171,Tryz.ntmps171
  go_wp2_with fail
  go_quiet (fail)
  go_wp2_with fail
  refine (I _).mono ?_;clear I;rintro e J ⟨rfl,o⟩;have y:Hid (Below w.heap.size w J):=zt (D.out _) o;have L:=(o.cell (p:=⟨w.heap.size,1,none⟩) (World.block_lt_of_cell? _ _ c1)).trans c1;have N:=(o.cell (p:=⟨w.heap.size,3,none⟩) (World.block_lt_of_cell? _ _ z)).trans z;have O:=(o.cell (p:=⟨w.heap.size,4,none⟩) (World.block_lt_of_cell? _ _ A)).trans A;clear o D;go_wp2
  exact bodyPost_ret (v:=.bool false) (by simp [results,Tryz.results171,go_sem]) rfl ⟨rfl,y.out⟩
 | true =>
  by_cases hs:s=[]
  ·subst hs
   by_cases hmb:mb=0
   ·subst hmb
    by_cases hml:ml=0
    ·subst hml
     obtain rfl:R=true:=by rw [G.out];simp_all
     clear G
     go_enter Tryz.func171,Tryz.ntmps171
     go_wp2_with fail
     go_quiet (fail)
     go_wp2_with fail
     refine (I _).mono ?_;clear I;rintro e J ⟨rfl,o⟩;have y:Hid (Below w.heap.size w J):=zt (D.out _) o;have L:=(o.cell (p:=⟨w.heap.size,1,none⟩) (World.block_lt_of_cell? _ _ c1)).trans c1;have N:=(o.cell (p:=⟨w.heap.size,3,none⟩) (World.block_lt_of_cell? _ _ z)).trans z;have O:=(o.cell (p:=⟨w.heap.size,4,none⟩) (World.block_lt_of_cell? _ _ A)).trans A;clear o D;go_wp2
     exact bodyPost_ret (v:=.bool true) (by simp [results,Tryz.results171,go_sem]) rfl ⟨rfl,y.out⟩
    ·have Q:((ml:Int)==0)=false:=by rw [beq_eq_false_iff_ne];omega
     have T:(ml==0)=false:=by rw [beq_eq_false_iff_ne];exact hml
     obtain rfl:R=false:=by rw [G.out];simp_all
     clear G
     go_enter Tryz.func171,Tryz.ntmps171
     go_wp2_with fail
     go_quiet (fail)
     go_wp2_with fail
     refine (I _).mono ?_;clear I;rintro e J ⟨rfl,o⟩;have y:Hid (Below w.heap.size w J):=zt (D.out _) o;have L:=(o.cell (p:=⟨w.heap.size,1,none⟩) (World.block_lt_of_cell? _ _ c1)).trans c1;have N:=(o.cell (p:=⟨w.heap.size,3,none⟩) (World.block_lt_of_cell? _ _ z)).trans z;have O:=(o.cell (p:=⟨w.heap.size,4,none⟩) (World.block_lt_of_cell? _ _ A)).trans A;clear o D;go_wp2
     exact bodyPost_ret (v:=.bool false) (by simp [results,Tryz.results171,go_sem]) rfl ⟨rfl,y.out⟩
   ·have Z:((mb:Int)==0)=false:=by rw [beq_eq_false_iff_ne];omega
    have Y:(mb==0)=false:=by rw [beq_eq_false_iff_ne];exact hmb
    obtain rfl:R=false:=by rw [G.out];simp_all
    clear G
    go_enter Tryz.func171,Tryz.ntmps171
    go_wp2_with fail
    go_quiet (fail)
    go_wp2_with fail
    refine (I _).mono ?_;clear I;rintro e J ⟨rfl,o⟩;have y:Hid (Below w.heap.size w J):=zt (D.out _) o;have L:=(o.cell (p:=⟨w.heap.size,1,none⟩) (World.block_lt_of_cell? _ _ c1)).trans c1;have N:=(o.cell (p:=⟨w.heap.size,3,none⟩) (World.block_lt_of_cell? _ _ z)).trans z;have O:=(o.cell (p:=⟨w.heap.size,4,none⟩) (World.block_lt_of_cell? _ _ A)).trans A;clear o D;go_wp2
    exact bodyPost_ret (v:=.bool false) (by simp [results,Tryz.results171,go_sem]) rfl ⟨rfl,y.out⟩
  ·have X:(s==[])=false:=by simpa using hs
   obtain rfl:R=false:=by rw [G.out];simp_all
   clear G
   go_enter Tryz.func171,Tryz.ntmps171
   go_wp2_with fail
   go_quiet (fail)
   go_wp2_with fail
   refine (I _).mono ?_;clear I;rintro e J ⟨rfl,o⟩;have y:Hid (Below w.heap.size w J):=zt (D.out _) o;have L:=(o.cell (p:=⟨w.heap.size,1,none⟩) (World.block_lt_of_cell? _ _ c1)).trans c1;have N:=(o.cell (p:=⟨w.heap.size,3,none⟩) (World.block_lt_of_cell? _ _ z)).trans z;have O:=(o.cell (p:=⟨w.heap.size,4,none⟩) (World.block_lt_of_cell? _ _ A)).trans A;clear o D;go_wp2
   exact bodyPost_ret (v:=.bool false) (by simp [results,Tryz.results171,go_sem]) rfl ⟨rfl,y.out⟩
theorem zcz {P:Program} {l:List Oper} {Q:Exit→Act→World→Prop} {S:World→Prop} {id:Nat} {a:Act} {w:World} {n:Nat} {listed:Array Bool} (hm:P.follows .mixedOrders=true) (hn:n=l.length) (hL:listed=Array.replicate n false)
  (h:wpAnyH P .any l.toArray Q S n listed a w.drew):(Code.region id l.toArray true).wp P Q a w:=by
 subst hn hL;refine wp_region_held (S:=S) hm ?_;rw [show l.toArray.size=l.length by simp]
 exact h
theorem zeg {P:Program} {md:Region.Mode} {l:List Oper} {Q:Exit→Act→World→Prop} {S:World→Prop} {listed:Array Bool} {fuel:Nat} {a:Act} {w:World} (hr:Region.ready md l.toArray listed=[]) (h:Q .normal a w):wpAnyH P md l.toArray Q S fuel listed a w :=
 wpAnyH_done hr h _
theorem vE (w0:World) (d:Nat) (D:Int) (hD:D-1=(d:Int)) (_hD1:1≤D) (hD2:D≤24) (hX:yO w0 d) (i:Nat) (x:Ez) (b o:Nat) (a1:Int) (a2:List UInt8) (a3:Int) (a4:Option Addr) (a5 a6:Nat) (a7:Int) (hx:Zl w0.heap.size w0 x (yp a1 a2 a3 a4 a5 a6 a7)) (hkid:ZW w0 b (o+i*5) a1 a2 a3 a4 a5 a6 a7)
  (bw bs bd r:Nat) (me ce:Nat) (hi:i<me) (_hme:me≤140737488355328) (q:Option Nat) (t:List UInt8) (w:World) (h:zy w0 r q t w) (hcw:w.cell? ⟨bw,0,none⟩=some (.pointer (some ⟨r,0,none⟩))) (hcs:w.cell? ⟨bs,2,none⟩=some (.slice (some ⟨b,o,none⟩) me ce)) (hcd:w.cell? ⟨bd,0,none⟩=some (.int .i64 D)) (hne:∀k,k=bw∨k=bs∨k=bd→k≠r∧q≠some k) :
  Calls Tryz.prog 172 #[.int .i64 (i:Int),.pointer (some ⟨bw,0,none⟩),.pointer (some ⟨bs,0,none⟩),.pointer (some ⟨bd,0,none⟩)] w (zn w0 r q t w (prE d x)):=by
 obtain ⟨V,n1,U,Q,T⟩:=hkid.now h.env;have lw:bw<w.heap.size:=World.block_lt_of_cell? w _ hcw;have ls:bs<w.heap.size:=World.block_lt_of_cell? w _ hcs;have ld:bd<w.heap.size:=World.block_lt_of_cell? w _ hcd;have J:Below w.heap.size w w.drew:=(Below.refl _ _).drew;have R:=hX _ _ r q t w.drew hx (h.below J);have I:Hid (∀z y,zT r q w.drew z y→zT r q w z y):=fun z y h4=>(zT.below J).trans h4
 have O:Hid (ZW w0 b (o+i*5) a1 a2 a3 a4 a5 a6 a7):=hkid
 have H:Hid (∀z y p v,zT r q w z y→(p.block=bw∨p.block=bs∨p.block=bd)→w.cell? p=some v→y.cell? p=some v):=fun z y p v h4 hp hv=>by
  rw [World.cell?_of_block (h4.block p.block (by rcases hp with e | e | e <;> rw [e] <;> assumption) (hne _ hp).1 (hne _ hp).2)]
  exact hv
 generalize prE d x=X at *;have aa:(i:Int)<(me:Int):=by omega
 have ab:(0:Int)≤(i:Int):=by omega
 have Y:Hid (∃c:Vj (fun W=>W.cell? ⟨bw,0,none⟩=some (.pointer (some ⟨r,0,none⟩))∧W.cell? ⟨bs,2,none⟩=some (.slice (some ⟨b,o,none⟩) me ce)∧W.cell? ⟨bd,0,none⟩=some (.int .i64 D)∧W.cell? ⟨b,o+i*5,none⟩=some (.int .i64 a1)∧W.cell? ⟨b,o+i*5+1,none⟩=some (.string (zb a2))∧W.cell? ⟨b,o+i*5+2,none⟩=some (.int .i64 a3)∧W.cell? ⟨b,o+i*5+3,none⟩=some (.slice a4 a5 a6)∧W.cell? ⟨b,o+i*5+4,none⟩=some (.int .i64 a7)),w.drew=c.1):=⟨⟨w.drew,hcw,hcs,hcd,V,n1,U,Q,T⟩,rfl⟩
 have N:Hid (∀z t4 y,zT r q w z y→zy w0 r z t4 y→∃c:Vj (fun W=>W.cell? ⟨bw,0,none⟩=some (.pointer (some ⟨r,0,none⟩))∧W.cell? ⟨bs,2,none⟩=some (.slice (some ⟨b,o,none⟩) me ce)∧W.cell? ⟨bd,0,none⟩=some (.int .i64 D)∧W.cell? ⟨b,o+i*5,none⟩=some (.int .i64 a1)∧W.cell? ⟨b,o+i*5+1,none⟩=some (.string (zb a2))∧W.cell? ⟨b,o+i*5+2,none⟩=some (.int .i64 a3)∧W.cell? ⟨b,o+i*5+3,none⟩=some (.slice a4 a5 a6)∧W.cell? ⟨b,o+i*5+4,none⟩=some (.int .i64 a7)),y=c.1):=fun z t4 y h4 G=>by
  obtain ⟨m0,m1,m2,m3,m4⟩:=hkid.now G.env;exact ⟨⟨y,H.out z y _ _ h4 (.inl rfl) hcw,H.out z y _ _ h4 (.inr (.inl rfl)) hcs,H.out z y _ _ h4 (.inr (.inr rfl)) hcd,m0,m1,m2,m3,m4⟩,rfl⟩
 clear hx hkid h hX J hne V n1 U Q T hcw hcs hcd
 go_enter Tryz.func172,Tryz.ntmps172
 go_wp2_with fail
 have z1:∀c:Vj (fun W=>W.cell? ⟨bw,0,none⟩=some (.pointer (some ⟨r,0,none⟩))∧W.cell? ⟨bs,2,none⟩=some (.slice (some ⟨b,o,none⟩) me ce)∧W.cell? ⟨bd,0,none⟩=some (.int .i64 D)∧W.cell? ⟨b,o+i*5,none⟩=some (.int .i64 a1)∧W.cell? ⟨b,o+i*5+1,none⟩=some (.string (zb a2))∧W.cell? ⟨b,o+i*5+2,none⟩=some (.int .i64 a3)∧W.cell? ⟨b,o+i*5+3,none⟩=some (.slice a4 a5 a6)∧W.cell? ⟨b,o+i*5+4,none⟩=some (.int .i64 a7)),c.1.cell? ⟨bw,0,none⟩=some (.pointer (some ⟨r,0,none⟩)):=fun c=>c.2.1
 have z2:∀c:Vj (fun W=>W.cell? ⟨bw,0,none⟩=some (.pointer (some ⟨r,0,none⟩))∧W.cell? ⟨bs,2,none⟩=some (.slice (some ⟨b,o,none⟩) me ce)∧W.cell? ⟨bd,0,none⟩=some (.int .i64 D)∧W.cell? ⟨b,o+i*5,none⟩=some (.int .i64 a1)∧W.cell? ⟨b,o+i*5+1,none⟩=some (.string (zb a2))∧W.cell? ⟨b,o+i*5+2,none⟩=some (.int .i64 a3)∧W.cell? ⟨b,o+i*5+3,none⟩=some (.slice a4 a5 a6)∧W.cell? ⟨b,o+i*5+4,none⟩=some (.int .i64 a7)),c.1.cell? ⟨bs,2,none⟩=some (.slice (some ⟨b,o,none⟩) me ce):=fun c=>c.2.2.1
 have z3:∀c:Vj (fun W=>W.cell? ⟨bw,0,none⟩=some (.pointer (some ⟨r,0,none⟩))∧W.cell? ⟨bs,2,none⟩=some (.slice (some ⟨b,o,none⟩) me ce)∧W.cell? ⟨bd,0,none⟩=some (.int .i64 D)∧W.cell? ⟨b,o+i*5,none⟩=some (.int .i64 a1)∧W.cell? ⟨b,o+i*5+1,none⟩=some (.string (zb a2))∧W.cell? ⟨b,o+i*5+2,none⟩=some (.int .i64 a3)∧W.cell? ⟨b,o+i*5+3,none⟩=some (.slice a4 a5 a6)∧W.cell? ⟨b,o+i*5+4,none⟩=some (.int .i64 a7)),c.1.cell? ⟨bd,0,none⟩=some (.int .i64 D):=fun c=>c.2.2.2.1
 have y0:∀c:Vj (fun W=>W.cell? ⟨bw,0,none⟩=some (.pointer (some ⟨r,0,none⟩))∧W.cell? ⟨bs,2,none⟩=some (.slice (some ⟨b,o,none⟩) me ce)∧W.cell? ⟨bd,0,none⟩=some (.int .i64 D)∧W.cell? ⟨b,o+i*5,none⟩=some (.int .i64 a1)∧W.cell? ⟨b,o+i*5+1,none⟩=some (.string (zb a2))∧W.cell? ⟨b,o+i*5+2,none⟩=some (.int .i64 a3)∧W.cell? ⟨b,o+i*5+3,none⟩=some (.slice a4 a5 a6)∧W.cell? ⟨b,o+i*5+4,none⟩=some (.int .i64 a7)),c.1.cell? ⟨b,o+i*5,none⟩=some (.int .i64 a1):=fun c=>c.2.2.2.2.1
 have y1:∀c:Vj (fun W=>W.cell? ⟨bw,0,none⟩=some (.pointer (some ⟨r,0,none⟩))∧W.cell? ⟨bs,2,none⟩=some (.slice (some ⟨b,o,none⟩) me ce)∧W.cell? ⟨bd,0,none⟩=some (.int .i64 D)∧W.cell? ⟨b,o+i*5,none⟩=some (.int .i64 a1)∧W.cell? ⟨b,o+i*5+1,none⟩=some (.string (zb a2))∧W.cell? ⟨b,o+i*5+2,none⟩=some (.int .i64 a3)∧W.cell? ⟨b,o+i*5+3,none⟩=some (.slice a4 a5 a6)∧W.cell? ⟨b,o+i*5+4,none⟩=some (.int .i64 a7)),c.1.cell? ⟨b,o+i*5+1,none⟩=some (.string (zb a2)):=fun c=>c.2.2.2.2.2.1
 have y2:∀c:Vj (fun W=>W.cell? ⟨bw,0,none⟩=some (.pointer (some ⟨r,0,none⟩))∧W.cell? ⟨bs,2,none⟩=some (.slice (some ⟨b,o,none⟩) me ce)∧W.cell? ⟨bd,0,none⟩=some (.int .i64 D)∧W.cell? ⟨b,o+i*5,none⟩=some (.int .i64 a1)∧W.cell? ⟨b,o+i*5+1,none⟩=some (.string (zb a2))∧W.cell? ⟨b,o+i*5+2,none⟩=some (.int .i64 a3)∧W.cell? ⟨b,o+i*5+3,none⟩=some (.slice a4 a5 a6)∧W.cell? ⟨b,o+i*5+4,none⟩=some (.int .i64 a7)),c.1.cell? ⟨b,o+i*5+2,none⟩=some (.int .i64 a3):=fun c=>c.2.2.2.2.2.2.1
 have y3:∀c:Vj (fun W=>W.cell? ⟨bw,0,none⟩=some (.pointer (some ⟨r,0,none⟩))∧W.cell? ⟨bs,2,none⟩=some (.slice (some ⟨b,o,none⟩) me ce)∧W.cell? ⟨bd,0,none⟩=some (.int .i64 D)∧W.cell? ⟨b,o+i*5,none⟩=some (.int .i64 a1)∧W.cell? ⟨b,o+i*5+1,none⟩=some (.string (zb a2))∧W.cell? ⟨b,o+i*5+2,none⟩=some (.int .i64 a3)∧W.cell? ⟨b,o+i*5+3,none⟩=some (.slice a4 a5 a6)∧W.cell? ⟨b,o+i*5+4,none⟩=some (.int .i64 a7)),c.1.cell? ⟨b,o+i*5+3,none⟩=some (.slice a4 a5 a6):=fun c=>c.2.2.2.2.2.2.2.1
 have y4:∀c:Vj (fun W=>W.cell? ⟨bw,0,none⟩=some (.pointer (some ⟨r,0,none⟩))∧W.cell? ⟨bs,2,none⟩=some (.slice (some ⟨b,o,none⟩) me ce)∧W.cell? ⟨bd,0,none⟩=some (.int .i64 D)∧W.cell? ⟨b,o+i*5,none⟩=some (.int .i64 a1)∧W.cell? ⟨b,o+i*5+1,none⟩=some (.string (zb a2))∧W.cell? ⟨b,o+i*5+2,none⟩=some (.int .i64 a3)∧W.cell? ⟨b,o+i*5+3,none⟩=some (.slice a4 a5 a6)∧W.cell? ⟨b,o+i*5+4,none⟩=some (.int .i64 a7)),c.1.cell? ⟨b,o+i*5+4,none⟩=some (.int .i64 a7):=fun c=>c.2.2.2.2.2.2.2.2
 refine zcz (n:=9) (S:=fun w'=>∃c:Vj (fun W=>W.cell? ⟨bw,0,none⟩=some (.pointer (some ⟨r,0,none⟩))∧W.cell? ⟨bs,2,none⟩=some (.slice (some ⟨b,o,none⟩) me ce)∧W.cell? ⟨bd,0,none⟩=some (.int .i64 D)∧W.cell? ⟨b,o+i*5,none⟩=some (.int .i64 a1)∧W.cell? ⟨b,o+i*5+1,none⟩=some (.string (zb a2))∧W.cell? ⟨b,o+i*5+2,none⟩=some (.int .i64 a3)∧W.cell? ⟨b,o+i*5+3,none⟩=some (.slice a4 a5 a6)∧W.cell? ⟨b,o+i*5+4,none⟩=some (.int .i64 a7)),w'=c.1) (by kernel_rfl) rfl rfl ?_
 refine yA (fuel:=1) (fuel':=9) (idx:=[0,1,2,3,4,5,6,7]) (by decide +kernel) rfl rfl rfl (fun _ _ d _ _ h=>by cases d <;> exact h) Y.out ?_
 show wpQuiet _ _ _ _ [_,_,_,_,_,_,_,_] _
 iterate 8 (go_big_quiet_step (exact rfl))
 refine wpQuiet_nil ?_;refine Zi (fuel:=0) (fuel':=1) (i:=8) rfl (by decide +kernel) rfl rfl (by rfl) ?_
 intro K Z;go_simp;refine R.mono ?_;clear R;rintro e y ⟨z,A,L⟩;cases X with
 | none=>subst L;exact ⟨rfl,z,I.out _ _ A,rfl⟩
 | some u =>
  obtain ⟨rfl,G⟩:=L;have HP:Hid (zn w0 r q t w (some u) (.returned (.tuple #[])) y):=⟨z,I.out _ _ A,rfl,G⟩
  (try go_simp)
  refine Z.out _ _ (N.out z _ y (I.out _ _ A) G) ?_;clear Z K A G Y N H I O z1 z2 z3 y0 y1 y2 y3 y4;refine zeg (by decide +kernel) ?_
  go_wp2
  exact bodyPost_ret (v:=.tuple #[]) (by simp [results,Tryz.results172,go_sem]) rfl HP.out
end Go.Proofs.YtcphojjpapgblaaGreatDoor
