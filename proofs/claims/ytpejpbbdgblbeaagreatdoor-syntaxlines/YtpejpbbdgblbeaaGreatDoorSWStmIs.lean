import Derived.Test.YtpejpbbdgblbeaaGreatDoorMC12
import Derived.BigQuiet
namespace Go.Proofs.YtpejpbbdgblbeaaGreatDoor
open Go.RowKit Go.Shelf
set_option maxHeartbeats 16000000
set_option maxRecDepth 100000
abbrev Vc (k:Int) (s:List UInt8) (be:Option Addr) (me ce:Nat) (bb:Option Addr) (mb cb:Nat) (bl:Option Addr) (ml cl:Nat) (line:Int):Obj:=.cells #[.int .i64 k,.string (zb s),.slice be me ce,.slice bb mb cb,.slice bl ml cl,.int .i64 line] 108
abbrev qP (k:Int) (s:List UInt8) (be:Option Addr) (me ce:Nat) (bb:Option Addr) (mb cb:Nat) (bl:Option Addr) (ml cl:Nat) (line:Int):Value:=.agg #[.int .i64 k,.string (zb s),.slice be me ce,.slice bb mb cb,.slice bl ml cl,.int .i64 line]
theorem zv {w:World} {N:Nat} {k:Int} {s:List UInt8} {be:Option Addr} {me ce:Nat} {bb:Option Addr} {mb cb:Nat} {bl:Option Addr} {ml cl:Nat} {line:Int} (p:w.heap[N]?=some (Vc k s be me ce bb mb cb bl ml cl line)) :
  w.cell? ⟨N,0,none⟩=some (.int .i64 k)∧w.cell? ⟨N,1,none⟩=some (.string (zb s))∧w.cell? ⟨N,2,none⟩=some (.slice be me ce)∧w.cell? ⟨N,3,none⟩=some (.slice bb mb cb)∧w.cell? ⟨N,4,none⟩=some (.slice bl ml cl)∧w.cell? ⟨N,5,none⟩=some (.int .i64 line):=by
 refine ⟨?_,?_,?_,?_,?_,?_⟩ <;> (simp only [World.cell?,p];rfl)
theorem zdU (a:Int) (s:List UInt8) (n:Int) (base:Option Addr) (m cap:Nat) (line:Int) (w:World) :
  Calls Tryz.prog 189 #[yu a s n base m cap line] w fun e w'=>e=.returned (.bool (a==4||a==8||a==9))∧w'=w.alloc (Yi a s n base m cap line):=by
 by_cases h4:a=4
 ·subst h4
  go_enter Tryz.func189,Tryz.ntmps189
  go_wp2
  go_ret
  exact ⟨rfl,rfl⟩
 ·have o:(a==4)=false:=by simpa using h4
  by_cases h8:a=8
  ·subst h8
   go_enter Tryz.func189,Tryz.ntmps189
   go_wp2
   go_ret
   exact ⟨rfl,rfl⟩
  ·have y:(a==8)=false:=by simpa using h8
   by_cases h9:a=9
   ·subst h9
    go_enter Tryz.func189,Tryz.ntmps189
    go_wp2
    go_ret
    exact ⟨rfl,rfl⟩
   ·have h:(a==9)=false:=by simpa using h9
    rw [o,y,h];clear h4 h8 h9
    go_enter Tryz.func189,Tryz.ntmps189
    go_wp2
    go_ret
    exact ⟨rfl,rfl⟩
theorem VZ {n:Nat} {w w':World} (h:Below n w w') (k:Nat):Below n w (w'.drewN k):=h.trans (⟨rfl,rfl,rfl,Nat.le_refl _,fun _ _=>rfl⟩:Below n w' (w'.drewN k))
theorem Zk.ez {B:Nat} {w:World} {l:List Ez} {base:Option Addr} {m cap:Nat} (h:Zk (qI B w) 5 B w l base m cap):∀i x,l[i]?=some x→∃b o y H I D A J G,base=some ⟨b,o,none⟩∧b<B∧b<w.heap.size∧Zs B w x (yu y H I D A J G) ∧
   w.cell? ⟨b,o+i*5,none⟩=some (.int .i64 y)∧w.cell? ⟨b,o+i*5+1,none⟩=some (.string (zb H))∧w.cell? ⟨b,o+i*5+2,none⟩=some (.int .i64 I)∧w.cell? ⟨b,o+i*5+3,none⟩=some (.slice D A J)∧w.cell? ⟨b,o+i*5+4,none⟩=some (.int .i64 G)∧y=U6 x:=by
 intro i x W;obtain ⟨b,o,c,L,T,Q,U,K,s⟩:=h.2.2.2 i x W
 obtain ⟨y,H,I,D,A,J,G,O,N⟩:∃y H I D A J G,Value.agg c.toArray=yu y H I D A J G∧y=U6 x:=by
  have z:Zs B w x (Value.agg c.toArray):=K;generalize Value.agg c.toArray=V at z;cases z with
  | mk=>exact ⟨_,_,_,_,_,_,_,rfl,rfl⟩
 have R:c=[.int .i64 y,.string (zb H),.int .i64 I,.slice D A J,.int .i64 G]:=by
  have:=congrArg (fun v=>match v with | .agg a=>a.toList | _=>[]) O
  simpa using this
 subst R;exact ⟨b,o,y,H,I,D,A,J,G,L,T,Q,K,s 0 _ rfl,s 1 _ rfl,s 2 _ rfl,s 3 _ rfl,s 4 _ rfl,N⟩
theorem zdV (k:Int) (s:List UInt8) (es:List Ez) (be:Option Addr) (me ce:Nat) (bb:Option Addr) (mb cb:Nat) (bl:Option Addr) (ml cl:Nat) (line:Int) (B:Nat) (w:World) (hrow:Zk (qI B w) 5 B w es be me ce) :
  Calls Tryz.prog 191 #[qP k s be me ce bb mb cb bl ml cl line] w fun e w'=>e=.returned (.bool (hasX k es))∧Below w.heap.size w w':=by
 obtain ⟨w1,D⟩:∃w1,w1=w.alloc (Vc k s be me ce bb mb cb bl ml cl line):=⟨_,rfl⟩;have V:Below w.heap.size w w1:=by rw [D];exact (Below.refl _ w).alloc (Nat.le_refl _) _
 have p1:w1.heap[w.heap.size]?=some (Vc k s be me ce bb mb cb bl ml cl line):=by rw [D];exact World.alloc_heap_new w _
 obtain ⟨c0,c1,c2,c3,c4,c5⟩:=zv p1;have I:Hid (Below w.heap.size w w1):=V;have ad:=D.symm;have A:es.length=me:=hrow.1.symm
 have HX:Hid (∀a b,es=[a,b]→∃b o K O U N R Q T,be=some ⟨b,o,none⟩∧K=U6 a∧w1.cell? ⟨b,o,none⟩=some (.int .i64 K)∧w1.cell? ⟨b,o+1,none⟩=some (.string (zb O))∧w1.cell? ⟨b,o+2,none⟩=some (.int .i64 U)∧w1.cell? ⟨b,o+3,none⟩=some (.slice N R Q)∧w1.cell? ⟨b,o+4,none⟩=some (.int .i64 T)):=fun a b L=>by
  subst L;obtain ⟨b,o,K,O,U,N,R,Q,T,G,_,h3,_,Y,m1,m2,m3,Z,hk⟩:=hrow.ez 0 a rfl;rw [Nat.zero_mul,Nat.add_zero] at Y m1 m2 m3 Z;refine ⟨b,o,K,O,U,N,R,Q,T,G,hk,?_,?_,?_,?_,?_⟩
  ·rw [D];exact zj Y _
  ·rw [D];exact zj m1 _
  ·rw [D];exact zj m2 _
  ·rw [D];exact zj m3 _
  ·rw [D];exact zj Z _
 clear V p1 D hrow
 by_cases hk1:k=1
 ·subst hk1
  have y:Hid (hasX 1 es=decide (me=1)):=show _=_ by rw [←A];simp [hasX];rfl
  by_cases G:me=1
  ·subst G
   have z:Hid (hasX 1 es=true):=y.out.trans (by simp)
   clear y
   go_enter Tryz.func191,Tryz.ntmps191
   go_wp2
   exact bodyPost_ret (v:=.bool true) (by simp [results,Tryz.results191,go_sem]) rfl ⟨by rw [z.out],I.out⟩
  ·have J:((me:Int)==1)=false:=by rw [beq_eq_false_iff_ne];omega
   have z:Hid (hasX 1 es=false):=y.out.trans (by simpa using G)
   clear y
   go_enter Tryz.func191,Tryz.ntmps191
   go_wp2
   exact bodyPost_ret (v:=.bool false) (by simp [results,Tryz.results191,go_sem]) rfl ⟨by rw [z.out],I.out⟩
 by_cases hk3:k=3
 ·subst hk3
  have y:Hid (hasX 3 es=decide (me=1)):=show _=_ by rw [←A];simp [hasX];rfl
  by_cases G:me=1
  ·subst G
   have z:Hid (hasX 3 es=true):=y.out.trans (by simp)
   clear y
   go_enter Tryz.func191,Tryz.ntmps191
   go_wp2
   exact bodyPost_ret (v:=.bool true) (by simp [results,Tryz.results191,go_sem]) rfl ⟨by rw [z.out],I.out⟩
  ·have J:((me:Int)==1)=false:=by rw [beq_eq_false_iff_ne];omega
   have z:Hid (hasX 3 es=false):=y.out.trans (by simpa using G)
   clear y
   go_enter Tryz.func191,Tryz.ntmps191
   go_wp2
   exact bodyPost_ret (v:=.bool false) (by simp [results,Tryz.results191,go_sem]) rfl ⟨by rw [z.out],I.out⟩
 by_cases hk4:k=4
 ·subst hk4
  have y:Hid (hasX 4 es=decide (me=1)):=show _=_ by rw [←A];simp [hasX];rfl
  by_cases G:me=1
  ·subst G
   have z:Hid (hasX 4 es=true):=y.out.trans (by simp)
   clear y
   go_enter Tryz.func191,Tryz.ntmps191
   go_wp2
   exact bodyPost_ret (v:=.bool true) (by simp [results,Tryz.results191,go_sem]) rfl ⟨by rw [z.out],I.out⟩
  ·have J:((me:Int)==1)=false:=by rw [beq_eq_false_iff_ne];omega
   have z:Hid (hasX 4 es=false):=y.out.trans (by simpa using G)
   clear y
   go_enter Tryz.func191,Tryz.ntmps191
   go_wp2
   exact bodyPost_ret (v:=.bool false) (by simp [results,Tryz.results191,go_sem]) rfl ⟨by rw [z.out],I.out⟩
 by_cases hk5:k=5
 ·subst hk5
  have y:Hid (hasX 5 es=decide (me=1)):=show _=_ by rw [←A];simp [hasX];rfl
  by_cases G:me=1
  ·subst G
   have z:Hid (hasX 5 es=true):=y.out.trans (by simp)
   clear y
   go_enter Tryz.func191,Tryz.ntmps191
   go_wp2
   exact bodyPost_ret (v:=.bool true) (by simp [results,Tryz.results191,go_sem]) rfl ⟨by rw [z.out],I.out⟩
  ·have J:((me:Int)==1)=false:=by rw [beq_eq_false_iff_ne];omega
   have z:Hid (hasX 5 es=false):=y.out.trans (by simpa using G)
   clear y
   go_enter Tryz.func191,Tryz.ntmps191
   go_wp2
   exact bodyPost_ret (v:=.bool false) (by simp [results,Tryz.results191,go_sem]) rfl ⟨by rw [z.out],I.out⟩
 by_cases hk7:k=7
 ·subst hk7
  have y:Hid (hasX 7 es=decide (me=1)):=show _=_ by rw [←A];simp [hasX];rfl
  by_cases G:me=1
  ·subst G
   have z:Hid (hasX 7 es=true):=y.out.trans (by simp)
   clear y
   go_enter Tryz.func191,Tryz.ntmps191
   go_wp2
   exact bodyPost_ret (v:=.bool true) (by simp [results,Tryz.results191,go_sem]) rfl ⟨by rw [z.out],I.out⟩
  ·have J:((me:Int)==1)=false:=by rw [beq_eq_false_iff_ne];omega
   have z:Hid (hasX 7 es=false):=y.out.trans (by simpa using G)
   clear y
   go_enter Tryz.func191,Tryz.ntmps191
   go_wp2
   exact bodyPost_ret (v:=.bool false) (by simp [results,Tryz.results191,go_sem]) rfl ⟨by rw [z.out],I.out⟩
 by_cases hk2:k=2
 ·subst hk2
  clear hk1 hk3 hk4 hk5 hk7
  by_cases h2:me=2
  ·obtain ⟨a,b,L⟩:∃a b,es=[a,b]:=by match es,A.trans h2 with | [a,b],_=>exact ⟨a,b,rfl⟩
   obtain ⟨B2,o,K,O,U,N,R,Q,T,rfl,W,Y,m1,m2,m3,Z⟩:=HX.out a b L;have z:Hid (hasX 2 es=(K==4||K==8||K==9)):=show _=_ by rw [L,W];simp [hasX,zdC]
   subst h2;have cp:=zdU K O U N R Q T w1;generalize (K==4||K==8||K==9)=H at *;clear L W HX A
   go_enter Tryz.func191,Tryz.ntmps191
   go_wp2_with fail
   refine cp.mono ?_;clear cp;rintro e w2 ⟨rfl,rfl⟩;have aa:Hid (Below w.heap.size w (w1.alloc (Yi K O U N R Q T))):=I.out.alloc I.out.size _;clear I;go_wp2
   exact bodyPost_ret (v:=.bool H) (by simp [results,Tryz.results191,go_sem]) rfl ⟨by rw [z.out],aa.out⟩
  ·have J:((me:Int)==2)=false:=by rw [beq_eq_false_iff_ne];omega
   have z:Hid (hasX 2 es=false):=show _=_ by
    have ab:es.length≠2:=by omega
    match es,ab with
    | [],_=>rfl
    | [_],_=>rfl
    | [_,_],h=>exact absurd rfl h
    | _::_::_::_,_=>rfl
   go_enter Tryz.func191,Tryz.ntmps191
   go_wp2
   exact bodyPost_ret (v:=.bool false) (by simp [results,Tryz.results191,go_sem]) rfl ⟨by rw [z.out],I.out⟩
 by_cases hk6:k=6
 ·subst hk6
  clear hk1 hk3 hk4 hk5 hk7 hk2
  by_cases G:me≤1
  ·have J:(me:Int)≤1:=by omega
   have z:Hid (hasX 6 es=true):=show _=_ by simp [hasX,A,G]
   go_enter Tryz.func191,Tryz.ntmps191
   go_wp2
   exact bodyPost_ret (v:=.bool true) (by simp [results,Tryz.results191,go_sem]) rfl ⟨by rw [z.out],I.out⟩
  ·have J:¬ (me:Int)≤1:=by omega
   have z:Hid (hasX 6 es=false):=show _=_ by simp [hasX,A];omega
   go_enter Tryz.func191,Tryz.ntmps191
   go_wp2
   exact bodyPost_ret (v:=.bool false) (by simp [results,Tryz.results191,go_sem]) rfl ⟨by rw [z.out],I.out⟩
 have z:Hid (hasX k es=false):=show _=_ by
  unfold hasX
  rw [if_neg (by omega),if_neg hk2,if_neg hk6]
 have f1:(k==1)=false:=by simpa using hk1
 have f2:(k==2)=false:=by simpa using hk2
 have f3:(k==3)=false:=by simpa using hk3
 have f4:(k==4)=false:=by simpa using hk4
 have f5:(k==5)=false:=by simpa using hk5
 have f6:(k==6)=false:=by simpa using hk6
 have f7:(k==7)=false:=by simpa using hk7
 clear hk1 hk2 hk3 hk4 hk5 hk6 hk7
 go_enter Tryz.func191,Tryz.ntmps191
 go_wp2
 exact bodyPost_ret (v:=.bool false) (by simp [results,Tryz.results191,go_sem]) rfl ⟨by rw [z.out],I.out⟩
theorem Yp (k:Int) (s:List UInt8) (es:List Ez) (be:Option Addr) (me ce:Nat) (bb:Option Addr) (mb cb:Nat) (bl:Option Addr) (ml cl:Nat) (line:Int) (B:Nat) (w:World) (hrow:Zk (qI B w) 5 B w es be me ce) (hB:B≤w.heap.size) :
  Calls Tryz.prog 173 #[qP k s be me ce bb mb cb bl ml cl line] w fun e w'=>e=.returned (.bool (xM k s es mb ml))∧Below w.heap.size w w':=by
 obtain ⟨w1,T⟩:∃w1,w1=w.alloc (Vc k s be me ce bb mb cb bl ml cl line):=⟨_,rfl⟩;have U:Below w.heap.size w w1:=by rw [T];exact (Below.refl _ w).alloc (Nat.le_refl _) _
 have p1:w1.heap[w.heap.size]?=some (Vc k s be me ce bb mb cb bl ml cl line):=by rw [T];exact World.alloc_heap_new w _
 have W:∀n,Below B w (w1.drewN n):=fun n=>(VZ U n).mono hB
 have A:=fun n=>zdV k s es be me ce bb mb cb bl ml cl line B (w1.drewN n) (hrow.kept (W n) fun _ _ h=>Zs.kept h (W n))
 obtain ⟨c0,c1,c2,G,z,c5⟩:=zv p1;have D:Hid (∀n,Below w.heap.size w (w1.drewN n)):=fun n=>VZ U n
 have aa:=T.symm;have HV:Hid (xM k s es mb ml=(hasX k es&&(k==1||s==[])&&(k==4||k==3||k==5||mb==0)&&(k==4||ml==0))):=rfl;generalize hasX k es=H at *;obtain ⟨R,hR⟩:∃R,R=xM k s es mb ml:=⟨_,rfl⟩;have I:Hid (R=(H&&(k==1||s==[])&&(k==4||k==3||k==5||mb==0)&&(k==4||ml==0))):=hR.trans HV.out;rw [←hR];clear hR HV U p1 T hrow W
 by_cases hk1:k=1
 ·subst hk1
  cases H with
  | false =>
   obtain rfl:R=false:=by rw [I.out];simp_all
   clear I
   go_enter Tryz.func173,Tryz.ntmps173
   go_wp2_with fail
   go_quiet (fail)
   go_wp2_with fail
   refine (A _).mono ?_;clear A;rintro e J ⟨rfl,o⟩;have y:Hid (Below w.heap.size w J):=zl (D.out _) o;have N:=(o.cell (p:=⟨w.heap.size,1,none⟩) (World.block_lt_of_cell? _ _ c1)).trans c1;have K:=(o.cell (p:=⟨w.heap.size,3,none⟩) (World.block_lt_of_cell? _ _ G)).trans G;have L:=(o.cell (p:=⟨w.heap.size,4,none⟩) (World.block_lt_of_cell? _ _ z)).trans z;clear o D;go_wp2
   exact bodyPost_ret (v:=.bool false) (by simp [results,Tryz.results173,go_sem]) rfl ⟨rfl,y.out⟩
  | true =>
   by_cases hmb:mb=0
   ·subst hmb
    by_cases hml:ml=0
    ·subst hml
     obtain rfl:R=true:=by rw [I.out];simp_all
     clear I
     go_enter Tryz.func173,Tryz.ntmps173
     go_wp2_with fail
     go_quiet (fail)
     go_wp2_with fail
     refine (A _).mono ?_;clear A;rintro e J ⟨rfl,o⟩;have y:Hid (Below w.heap.size w J):=zl (D.out _) o;have N:=(o.cell (p:=⟨w.heap.size,1,none⟩) (World.block_lt_of_cell? _ _ c1)).trans c1;have K:=(o.cell (p:=⟨w.heap.size,3,none⟩) (World.block_lt_of_cell? _ _ G)).trans G;have L:=(o.cell (p:=⟨w.heap.size,4,none⟩) (World.block_lt_of_cell? _ _ z)).trans z;clear o D;go_wp2
     exact bodyPost_ret (v:=.bool true) (by simp [results,Tryz.results173,go_sem]) rfl ⟨rfl,y.out⟩
    ·have O:((ml:Int)==0)=false:=by rw [beq_eq_false_iff_ne];omega
     have Q:(ml==0)=false:=by rw [beq_eq_false_iff_ne];exact hml
     obtain rfl:R=false:=by rw [I.out];simp_all
     clear I
     go_enter Tryz.func173,Tryz.ntmps173
     go_wp2_with fail
     go_quiet (fail)
     go_wp2_with fail
     refine (A _).mono ?_;clear A;rintro e J ⟨rfl,o⟩;have y:Hid (Below w.heap.size w J):=zl (D.out _) o;have N:=(o.cell (p:=⟨w.heap.size,1,none⟩) (World.block_lt_of_cell? _ _ c1)).trans c1;have K:=(o.cell (p:=⟨w.heap.size,3,none⟩) (World.block_lt_of_cell? _ _ G)).trans G;have L:=(o.cell (p:=⟨w.heap.size,4,none⟩) (World.block_lt_of_cell? _ _ z)).trans z;clear o D;go_wp2
     exact bodyPost_ret (v:=.bool false) (by simp [results,Tryz.results173,go_sem]) rfl ⟨rfl,y.out⟩
   ·have Z:((mb:Int)==0)=false:=by rw [beq_eq_false_iff_ne];omega
    have Y:(mb==0)=false:=by rw [beq_eq_false_iff_ne];exact hmb
    obtain rfl:R=false:=by rw [I.out];simp_all
    clear I
    go_enter Tryz.func173,Tryz.ntmps173
    go_wp2_with fail
    go_quiet (fail)
    go_wp2_with fail
    refine (A _).mono ?_;clear A;rintro e J ⟨rfl,o⟩;have y:Hid (Below w.heap.size w J):=zl (D.out _) o;have N:=(o.cell (p:=⟨w.heap.size,1,none⟩) (World.block_lt_of_cell? _ _ c1)).trans c1;have K:=(o.cell (p:=⟨w.heap.size,3,none⟩) (World.block_lt_of_cell? _ _ G)).trans G;have L:=(o.cell (p:=⟨w.heap.size,4,none⟩) (World.block_lt_of_cell? _ _ z)).trans z;clear o D;go_wp2
    exact bodyPost_ret (v:=.bool false) (by simp [results,Tryz.results173,go_sem]) rfl ⟨rfl,y.out⟩
 by_cases hk4:k=4
 ·subst hk4
  cases H with
  | false =>
   obtain rfl:R=false:=by rw [I.out];simp_all
   clear I
   go_enter Tryz.func173,Tryz.ntmps173
   go_wp2_with fail
   go_quiet (fail)
   go_wp2_with fail
   refine (A _).mono ?_;clear A;rintro e J ⟨rfl,o⟩;have y:Hid (Below w.heap.size w J):=zl (D.out _) o;have N:=(o.cell (p:=⟨w.heap.size,1,none⟩) (World.block_lt_of_cell? _ _ c1)).trans c1;have K:=(o.cell (p:=⟨w.heap.size,3,none⟩) (World.block_lt_of_cell? _ _ G)).trans G;have L:=(o.cell (p:=⟨w.heap.size,4,none⟩) (World.block_lt_of_cell? _ _ z)).trans z;clear o D;go_wp2
   exact bodyPost_ret (v:=.bool false) (by simp [results,Tryz.results173,go_sem]) rfl ⟨rfl,y.out⟩
  | true =>
   by_cases hs:s=[]
   ·subst hs
    obtain rfl:R=true:=by rw [I.out];simp_all
    clear I
    go_enter Tryz.func173,Tryz.ntmps173
    go_wp2_with fail
    go_quiet (fail)
    go_wp2_with fail
    refine (A _).mono ?_;clear A;rintro e J ⟨rfl,o⟩;have y:Hid (Below w.heap.size w J):=zl (D.out _) o;have N:=(o.cell (p:=⟨w.heap.size,1,none⟩) (World.block_lt_of_cell? _ _ c1)).trans c1;have K:=(o.cell (p:=⟨w.heap.size,3,none⟩) (World.block_lt_of_cell? _ _ G)).trans G;have L:=(o.cell (p:=⟨w.heap.size,4,none⟩) (World.block_lt_of_cell? _ _ z)).trans z;clear o D;go_wp2
    exact bodyPost_ret (v:=.bool true) (by simp [results,Tryz.results173,go_sem]) rfl ⟨rfl,y.out⟩
   ·have V:(s==[])=false:=by simpa using hs
    obtain rfl:R=false:=by rw [I.out];simp_all
    clear I
    go_enter Tryz.func173,Tryz.ntmps173
    go_wp2_with fail
    go_quiet (fail)
    go_wp2_with fail
    refine (A _).mono ?_;clear A;rintro e J ⟨rfl,o⟩;have y:Hid (Below w.heap.size w J):=zl (D.out _) o;have N:=(o.cell (p:=⟨w.heap.size,1,none⟩) (World.block_lt_of_cell? _ _ c1)).trans c1;have K:=(o.cell (p:=⟨w.heap.size,3,none⟩) (World.block_lt_of_cell? _ _ G)).trans G;have L:=(o.cell (p:=⟨w.heap.size,4,none⟩) (World.block_lt_of_cell? _ _ z)).trans z;clear o D;go_wp2
    exact bodyPost_ret (v:=.bool false) (by simp [results,Tryz.results173,go_sem]) rfl ⟨rfl,y.out⟩
 by_cases hk3:k=3
 ·subst hk3
  cases H with
  | false =>
   obtain rfl:R=false:=by rw [I.out];simp_all
   clear I
   go_enter Tryz.func173,Tryz.ntmps173
   go_wp2_with fail
   go_quiet (fail)
   go_wp2_with fail
   refine (A _).mono ?_;clear A;rintro e J ⟨rfl,o⟩;have y:Hid (Below w.heap.size w J):=zl (D.out _) o;have N:=(o.cell (p:=⟨w.heap.size,1,none⟩) (World.block_lt_of_cell? _ _ c1)).trans c1;have K:=(o.cell (p:=⟨w.heap.size,3,none⟩) (World.block_lt_of_cell? _ _ G)).trans G;have L:=(o.cell (p:=⟨w.heap.size,4,none⟩) (World.block_lt_of_cell? _ _ z)).trans z;clear o D;go_wp2
   exact bodyPost_ret (v:=.bool false) (by simp [results,Tryz.results173,go_sem]) rfl ⟨rfl,y.out⟩
  | true =>
   by_cases hs:s=[]
   ·subst hs
    by_cases hml:ml=0
    ·subst hml
     obtain rfl:R=true:=by rw [I.out];simp_all
     clear I
     go_enter Tryz.func173,Tryz.ntmps173
     go_wp2_with fail
     go_quiet (fail)
     go_wp2_with fail
     refine (A _).mono ?_;clear A;rintro e J ⟨rfl,o⟩;have y:Hid (Below w.heap.size w J):=zl (D.out _) o;have N:=(o.cell (p:=⟨w.heap.size,1,none⟩) (World.block_lt_of_cell? _ _ c1)).trans c1;have K:=(o.cell (p:=⟨w.heap.size,3,none⟩) (World.block_lt_of_cell? _ _ G)).trans G;have L:=(o.cell (p:=⟨w.heap.size,4,none⟩) (World.block_lt_of_cell? _ _ z)).trans z;clear o D;go_wp2
     exact bodyPost_ret (v:=.bool true) (by simp [results,Tryz.results173,go_sem]) rfl ⟨rfl,y.out⟩
    ·have O:((ml:Int)==0)=false:=by rw [beq_eq_false_iff_ne];omega
     have Q:(ml==0)=false:=by rw [beq_eq_false_iff_ne];exact hml
     obtain rfl:R=false:=by rw [I.out];simp_all
     clear I
     go_enter Tryz.func173,Tryz.ntmps173
     go_wp2_with fail
     go_quiet (fail)
     go_wp2_with fail
     refine (A _).mono ?_;clear A;rintro e J ⟨rfl,o⟩;have y:Hid (Below w.heap.size w J):=zl (D.out _) o;have N:=(o.cell (p:=⟨w.heap.size,1,none⟩) (World.block_lt_of_cell? _ _ c1)).trans c1;have K:=(o.cell (p:=⟨w.heap.size,3,none⟩) (World.block_lt_of_cell? _ _ G)).trans G;have L:=(o.cell (p:=⟨w.heap.size,4,none⟩) (World.block_lt_of_cell? _ _ z)).trans z;clear o D;go_wp2
     exact bodyPost_ret (v:=.bool false) (by simp [results,Tryz.results173,go_sem]) rfl ⟨rfl,y.out⟩
   ·have V:(s==[])=false:=by simpa using hs
    obtain rfl:R=false:=by rw [I.out];simp_all
    clear I
    go_enter Tryz.func173,Tryz.ntmps173
    go_wp2_with fail
    go_quiet (fail)
    go_wp2_with fail
    refine (A _).mono ?_;clear A;rintro e J ⟨rfl,o⟩;have y:Hid (Below w.heap.size w J):=zl (D.out _) o;have N:=(o.cell (p:=⟨w.heap.size,1,none⟩) (World.block_lt_of_cell? _ _ c1)).trans c1;have K:=(o.cell (p:=⟨w.heap.size,3,none⟩) (World.block_lt_of_cell? _ _ G)).trans G;have L:=(o.cell (p:=⟨w.heap.size,4,none⟩) (World.block_lt_of_cell? _ _ z)).trans z;clear o D;go_wp2
    exact bodyPost_ret (v:=.bool false) (by simp [results,Tryz.results173,go_sem]) rfl ⟨rfl,y.out⟩
 by_cases hk5:k=5
 ·subst hk5
  cases H with
  | false =>
   obtain rfl:R=false:=by rw [I.out];simp_all
   clear I
   go_enter Tryz.func173,Tryz.ntmps173
   go_wp2_with fail
   go_quiet (fail)
   go_wp2_with fail
   refine (A _).mono ?_;clear A;rintro e J ⟨rfl,o⟩;have y:Hid (Below w.heap.size w J):=zl (D.out _) o;have N:=(o.cell (p:=⟨w.heap.size,1,none⟩) (World.block_lt_of_cell? _ _ c1)).trans c1;have K:=(o.cell (p:=⟨w.heap.size,3,none⟩) (World.block_lt_of_cell? _ _ G)).trans G;have L:=(o.cell (p:=⟨w.heap.size,4,none⟩) (World.block_lt_of_cell? _ _ z)).trans z;clear o D;go_wp2
   exact bodyPost_ret (v:=.bool false) (by simp [results,Tryz.results173,go_sem]) rfl ⟨rfl,y.out⟩
  | true =>
   by_cases hs:s=[]
   ·subst hs
    by_cases hml:ml=0
    ·subst hml
     obtain rfl:R=true:=by rw [I.out];simp_all
     clear I
     go_enter Tryz.func173,Tryz.ntmps173
     go_wp2_with fail
     go_quiet (fail)
     go_wp2_with fail
     refine (A _).mono ?_;clear A;rintro e J ⟨rfl,o⟩;have y:Hid (Below w.heap.size w J):=zl (D.out _) o;have N:=(o.cell (p:=⟨w.heap.size,1,none⟩) (World.block_lt_of_cell? _ _ c1)).trans c1;have K:=(o.cell (p:=⟨w.heap.size,3,none⟩) (World.block_lt_of_cell? _ _ G)).trans G;have L:=(o.cell (p:=⟨w.heap.size,4,none⟩) (World.block_lt_of_cell? _ _ z)).trans z;clear o D;go_wp2
     exact bodyPost_ret (v:=.bool true) (by simp [results,Tryz.results173,go_sem]) rfl ⟨rfl,y.out⟩
    ·have O:((ml:Int)==0)=false:=by rw [beq_eq_false_iff_ne];omega
     have Q:(ml==0)=false:=by rw [beq_eq_false_iff_ne];exact hml
     obtain rfl:R=false:=by rw [I.out];simp_all
     clear I
     go_enter Tryz.func173,Tryz.ntmps173
     go_wp2_with fail
     go_quiet (fail)
     go_wp2_with fail
     refine (A _).mono ?_;clear A;rintro e J ⟨rfl,o⟩;have y:Hid (Below w.heap.size w J):=zl (D.out _) o;have N:=(o.cell (p:=⟨w.heap.size,1,none⟩) (World.block_lt_of_cell? _ _ c1)).trans c1;have K:=(o.cell (p:=⟨w.heap.size,3,none⟩) (World.block_lt_of_cell? _ _ G)).trans G;have L:=(o.cell (p:=⟨w.heap.size,4,none⟩) (World.block_lt_of_cell? _ _ z)).trans z;clear o D;go_wp2
     exact bodyPost_ret (v:=.bool false) (by simp [results,Tryz.results173,go_sem]) rfl ⟨rfl,y.out⟩
   ·have V:(s==[])=false:=by simpa using hs
    obtain rfl:R=false:=by rw [I.out];simp_all
    clear I
    go_enter Tryz.func173,Tryz.ntmps173
    go_wp2_with fail
    go_quiet (fail)
    go_wp2_with fail
    refine (A _).mono ?_;clear A;rintro e J ⟨rfl,o⟩;have y:Hid (Below w.heap.size w J):=zl (D.out _) o;have N:=(o.cell (p:=⟨w.heap.size,1,none⟩) (World.block_lt_of_cell? _ _ c1)).trans c1;have K:=(o.cell (p:=⟨w.heap.size,3,none⟩) (World.block_lt_of_cell? _ _ G)).trans G;have L:=(o.cell (p:=⟨w.heap.size,4,none⟩) (World.block_lt_of_cell? _ _ z)).trans z;clear o D;go_wp2
    exact bodyPost_ret (v:=.bool false) (by simp [results,Tryz.results173,go_sem]) rfl ⟨rfl,y.out⟩
 have f1:(k==1)=false:=by simpa using hk1
 have f3:(k==3)=false:=by simpa using hk3
 have f4:(k==4)=false:=by simpa using hk4
 have f5:(k==5)=false:=by simpa using hk5
 clear hk1 hk3 hk4 hk5;cases H with
 | false =>
  obtain rfl:R=false:=by rw [I.out];simp_all
  clear I
  go_enter Tryz.func173,Tryz.ntmps173
  go_wp2_with fail
  go_quiet (fail)
  go_wp2_with fail
  refine (A _).mono ?_;clear A;rintro e J ⟨rfl,o⟩;have y:Hid (Below w.heap.size w J):=zl (D.out _) o;have N:=(o.cell (p:=⟨w.heap.size,1,none⟩) (World.block_lt_of_cell? _ _ c1)).trans c1;have K:=(o.cell (p:=⟨w.heap.size,3,none⟩) (World.block_lt_of_cell? _ _ G)).trans G;have L:=(o.cell (p:=⟨w.heap.size,4,none⟩) (World.block_lt_of_cell? _ _ z)).trans z;clear o D;go_wp2
  exact bodyPost_ret (v:=.bool false) (by simp [results,Tryz.results173,go_sem]) rfl ⟨rfl,y.out⟩
 | true =>
  by_cases hs:s=[]
  ·subst hs
   by_cases hmb:mb=0
   ·subst hmb
    by_cases hml:ml=0
    ·subst hml
     obtain rfl:R=true:=by rw [I.out];simp_all
     clear I
     go_enter Tryz.func173,Tryz.ntmps173
     go_wp2_with fail
     go_quiet (fail)
     go_wp2_with fail
     refine (A _).mono ?_;clear A;rintro e J ⟨rfl,o⟩;have y:Hid (Below w.heap.size w J):=zl (D.out _) o;have N:=(o.cell (p:=⟨w.heap.size,1,none⟩) (World.block_lt_of_cell? _ _ c1)).trans c1;have K:=(o.cell (p:=⟨w.heap.size,3,none⟩) (World.block_lt_of_cell? _ _ G)).trans G;have L:=(o.cell (p:=⟨w.heap.size,4,none⟩) (World.block_lt_of_cell? _ _ z)).trans z;clear o D;go_wp2
     exact bodyPost_ret (v:=.bool true) (by simp [results,Tryz.results173,go_sem]) rfl ⟨rfl,y.out⟩
    ·have O:((ml:Int)==0)=false:=by rw [beq_eq_false_iff_ne];omega
     have Q:(ml==0)=false:=by rw [beq_eq_false_iff_ne];exact hml
     obtain rfl:R=false:=by rw [I.out];simp_all
     clear I
     go_enter Tryz.func173,Tryz.ntmps173
     go_wp2_with fail
     go_quiet (fail)
     go_wp2_with fail
     refine (A _).mono ?_;clear A;rintro e J ⟨rfl,o⟩;have y:Hid (Below w.heap.size w J):=zl (D.out _) o;have N:=(o.cell (p:=⟨w.heap.size,1,none⟩) (World.block_lt_of_cell? _ _ c1)).trans c1;have K:=(o.cell (p:=⟨w.heap.size,3,none⟩) (World.block_lt_of_cell? _ _ G)).trans G;have L:=(o.cell (p:=⟨w.heap.size,4,none⟩) (World.block_lt_of_cell? _ _ z)).trans z;clear o D;go_wp2
     exact bodyPost_ret (v:=.bool false) (by simp [results,Tryz.results173,go_sem]) rfl ⟨rfl,y.out⟩
   ·have Z:((mb:Int)==0)=false:=by rw [beq_eq_false_iff_ne];omega
    have Y:(mb==0)=false:=by rw [beq_eq_false_iff_ne];exact hmb
    obtain rfl:R=false:=by rw [I.out];simp_all
    clear I
    go_enter Tryz.func173,Tryz.ntmps173
    go_wp2_with fail
    go_quiet (fail)
    go_wp2_with fail
    refine (A _).mono ?_;clear A;rintro e J ⟨rfl,o⟩;have y:Hid (Below w.heap.size w J):=zl (D.out _) o;have N:=(o.cell (p:=⟨w.heap.size,1,none⟩) (World.block_lt_of_cell? _ _ c1)).trans c1;have K:=(o.cell (p:=⟨w.heap.size,3,none⟩) (World.block_lt_of_cell? _ _ G)).trans G;have L:=(o.cell (p:=⟨w.heap.size,4,none⟩) (World.block_lt_of_cell? _ _ z)).trans z;clear o D;go_wp2
    exact bodyPost_ret (v:=.bool false) (by simp [results,Tryz.results173,go_sem]) rfl ⟨rfl,y.out⟩
  ·have V:(s==[])=false:=by simpa using hs
   obtain rfl:R=false:=by rw [I.out];simp_all
   clear I
   go_enter Tryz.func173,Tryz.ntmps173
   go_wp2_with fail
   go_quiet (fail)
   go_wp2_with fail
   refine (A _).mono ?_;clear A;rintro e J ⟨rfl,o⟩;have y:Hid (Below w.heap.size w J):=zl (D.out _) o;have N:=(o.cell (p:=⟨w.heap.size,1,none⟩) (World.block_lt_of_cell? _ _ c1)).trans c1;have K:=(o.cell (p:=⟨w.heap.size,3,none⟩) (World.block_lt_of_cell? _ _ G)).trans G;have L:=(o.cell (p:=⟨w.heap.size,4,none⟩) (World.block_lt_of_cell? _ _ z)).trans z;clear o D;go_wp2
   exact bodyPost_ret (v:=.bool false) (by simp [results,Tryz.results173,go_sem]) rfl ⟨rfl,y.out⟩
end Go.Proofs.YtpejpbbdgblbeaaGreatDoor
