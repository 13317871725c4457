import Derived.Test.YtdgpapchkpnijaaGreatDoorMC13
import Derived.BigQuiet
namespace Go.Proofs.YtdgpapchkpnijaaGreatDoor
open Go.RowKit Go.Shelf
set_option maxHeartbeats 16000000
set_option maxRecDepth 100000
abbrev Vc (k:Int) (s:List UInt8) (be:Option Addr) (me ce:Nat) (bb:Option Addr) (mb cb:Nat) (bl:Option Addr) (ml cl:Nat) (line:Int):Obj:=.cells #[.int .i64 k,.string (za s),.slice be me ce,.slice bb mb cb,.slice bl ml cl,.int .i64 line] 112
abbrev qv (k:Int) (s:List UInt8) (be:Option Addr) (me ce:Nat) (bb:Option Addr) (mb cb:Nat) (bl:Option Addr) (ml cl:Nat) (line:Int):Value:=.agg #[.int .i64 k,.string (za s),.slice be me ce,.slice bb mb cb,.slice bl ml cl,.int .i64 line]
theorem zy {w:World} {N:Nat} {k:Int} {s:List UInt8} {be:Option Addr} {me ce:Nat} {bb:Option Addr} {mb cb:Nat} {bl:Option Addr} {ml cl:Nat} {line:Int} (p:w.heap[N]?=some (Vc k s be me ce bb mb cb bl ml cl line)) :
  w.cell? ⟨N,0,none⟩=some (.int .i64 k)∧w.cell? ⟨N,1,none⟩=some (.string (za s))∧w.cell? ⟨N,2,none⟩=some (.slice be me ce)∧w.cell? ⟨N,3,none⟩=some (.slice bb mb cb)∧w.cell? ⟨N,4,none⟩=some (.slice bl ml cl)∧w.cell? ⟨N,5,none⟩=some (.int .i64 line):=by
 refine ⟨?_,?_,?_,?_,?_,?_⟩ <;> (simp only [World.cell?,p];rfl)
theorem zdi (a:Int) (s:List UInt8) (n:Int) (base:Option Addr) (m cap:Nat) (line:Int) (w:World) :
  Calls Tryz.prog 194 #[yv a s n base m cap line] w fun e w'=>e=.returned (.bool (a==4||a==8||a==9))∧w'=w.alloc (yV a s n base m cap line):=by
 by_cases h4:a=4
 ·subst h4
  go_enter Tryz.func194,Tryz.ntmps194
  go_wp2
  go_ret
  exact ⟨rfl,rfl⟩
 ·have f4:(a==4)=false:=by simpa using h4
  by_cases h8:a=8
  ·subst h8
   go_enter Tryz.func194,Tryz.ntmps194
   go_wp2
   go_ret
   exact ⟨rfl,rfl⟩
  ·have f8:(a==8)=false:=by simpa using h8
   by_cases h9:a=9
   ·subst h9
    go_enter Tryz.func194,Tryz.ntmps194
    go_wp2
    go_ret
    exact ⟨rfl,rfl⟩
   ·have f9:(a==9)=false:=by simpa using h9
    rw [f4,f8,f9];clear h4 h8 h9
    go_enter Tryz.func194,Tryz.ntmps194
    go_wp2
    go_ret
    exact ⟨rfl,rfl⟩
theorem VL {n:Nat} {w w':World} (h:Below n w w') (k:Nat):Below n w (w'.drewN k):=h.trans (⟨rfl,rfl,rfl,Nat.le_refl _,fun _ _=>rfl⟩:Below n w' (w'.drewN k))
theorem ZR.ez {B:Nat} {w:World} {l:List Ez} {base:Option Addr} {m cap:Nat} (h:ZR (EzC B w) 5 B w l base m cap):∀i x,l[i]?=some x→∃b o a1 a2 a3 a4 a5 a6 a7,base=some ⟨b,o,none⟩∧b<B∧b<w.heap.size∧Zs B w x (yv a1 a2 a3 a4 a5 a6 a7) ∧
   w.cell? ⟨b,o+i*5,none⟩=some (.int .i64 a1)∧w.cell? ⟨b,o+i*5+1,none⟩=some (.string (za a2))∧w.cell? ⟨b,o+i*5+2,none⟩=some (.int .i64 a3)∧w.cell? ⟨b,o+i*5+3,none⟩=some (.slice a4 a5 a6)∧w.cell? ⟨b,o+i*5+4,none⟩=some (.int .i64 a7)∧a1=UR x:=by
 intro i x hx;obtain ⟨b,o,c,hb1,hb2,hb3,hlen,hxx,hcell⟩:=h.2.2.2 i x hx
 obtain ⟨a1,a2,a3,a4,a5,a6,a7,hag,hka⟩:∃a1 a2 a3 a4 a5 a6 a7,Value.agg c.toArray=yv a1 a2 a3 a4 a5 a6 a7∧a1=UR x:=by
  have hxx':Zs B w x (Value.agg c.toArray):=hxx;generalize Value.agg c.toArray=V at hxx';cases hxx' with
  | mk=>exact ⟨_,_,_,_,_,_,_,rfl,rfl⟩
 have hcl:c=[.int .i64 a1,.string (za a2),.int .i64 a3,.slice a4 a5 a6,.int .i64 a7]:=by
  have:=congrArg (fun v=>match v with | .agg a=>a.toList | _=>[]) hag
  simpa using this
 subst hcl;exact ⟨b,o,a1,a2,a3,a4,a5,a6,a7,hb1,hb2,hb3,hxx,hcell 0 _ rfl,hcell 1 _ rfl,hcell 2 _ rfl,hcell 3 _ rfl,hcell 4 _ rfl,hka⟩
theorem zdj (k:Int) (s:List UInt8) (es:List Ez) (be:Option Addr) (me ce:Nat) (bb:Option Addr) (mb cb:Nat) (bl:Option Addr) (ml cl:Nat) (line:Int) (B:Nat) (w:World) (hrow:ZR (EzC B w) 5 B w es be me ce) :
  Calls Tryz.prog 198 #[qv k s be me ce bb mb cb bl ml cl line] w fun e w'=>e=.returned (.bool (hasX k es))∧Below w.heap.size w w':=by
 obtain ⟨w1,hw1⟩:∃w1,w1=w.alloc (Vc k s be me ce bb mb cb bl ml cl line):=⟨_,rfl⟩;have hb1:Below w.heap.size w w1:=by rw [hw1];exact (Below.refl _ w).alloc (Nat.le_refl _) _
 have p1:w1.heap[w.heap.size]?=some (Vc k s be me ce bb mb cb bl ml cl line):=by rw [hw1];exact World.alloc_heap_new w _
 obtain ⟨c0,c1,c2,c3,c4,c5⟩:=zy p1;have HB:Hid (Below w.heap.size w w1):=hb1;have hw1':=hw1.symm;have hlen:es.length=me:=hrow.1.symm
 have HX:Hid (∀a b,es=[a,b]→∃b o a1 a2 a3 a4 a5 a6 a7,be=some ⟨b,o,none⟩∧a1=UR a∧w1.cell? ⟨b,o,none⟩=some (.int .i64 a1)∧w1.cell? ⟨b,o+1,none⟩=some (.string (za a2))∧w1.cell? ⟨b,o+2,none⟩=some (.int .i64 a3)∧w1.cell? ⟨b,o+3,none⟩=some (.slice a4 a5 a6)∧w1.cell? ⟨b,o+4,none⟩=some (.int .i64 a7)):=fun a b hab=>by
  subst hab;obtain ⟨b,o,a1,a2,a3,a4,a5,a6,a7,h1,_,h3,_,m0,m1,m2,m3,m4,hk⟩:=hrow.ez 0 a rfl;rw [Nat.zero_mul,Nat.add_zero] at m0 m1 m2 m3 m4;refine ⟨b,o,a1,a2,a3,a4,a5,a6,a7,h1,hk,?_,?_,?_,?_,?_⟩
  ·rw [hw1];exact zj m0 _
  ·rw [hw1];exact zj m1 _
  ·rw [hw1];exact zj m2 _
  ·rw [hw1];exact zj m3 _
  ·rw [hw1];exact zj m4 _
 clear hb1 p1 hw1 hrow
 by_cases hk1:k=1
 ·subst hk1
  have HV0:Hid (hasX 1 es=decide (me=1)):=show _=_ by rw [←hlen];simp [hasX];rfl
  by_cases h1:me=1
  ·subst h1
   have HV:Hid (hasX 1 es=true):=HV0.out.trans (by simp)
   clear HV0
   go_enter Tryz.func198,Tryz.ntmps198
   go_wp2
   exact bodyPost_ret (v:=.bool true) (by simp [results,Tryz.results198,go_sem]) rfl ⟨by rw [HV.out],HB.out⟩
  ·have hmI:((me:Int)==1)=false:=by rw [beq_eq_false_iff_ne];omega
   have HV:Hid (hasX 1 es=false):=HV0.out.trans (by simpa using h1)
   clear HV0
   go_enter Tryz.func198,Tryz.ntmps198
   go_wp2
   exact bodyPost_ret (v:=.bool false) (by simp [results,Tryz.results198,go_sem]) rfl ⟨by rw [HV.out],HB.out⟩
 by_cases hk3:k=3
 ·subst hk3
  have HV0:Hid (hasX 3 es=decide (me=1)):=show _=_ by rw [←hlen];simp [hasX];rfl
  by_cases h1:me=1
  ·subst h1
   have HV:Hid (hasX 3 es=true):=HV0.out.trans (by simp)
   clear HV0
   go_enter Tryz.func198,Tryz.ntmps198
   go_wp2
   exact bodyPost_ret (v:=.bool true) (by simp [results,Tryz.results198,go_sem]) rfl ⟨by rw [HV.out],HB.out⟩
  ·have hmI:((me:Int)==1)=false:=by rw [beq_eq_false_iff_ne];omega
   have HV:Hid (hasX 3 es=false):=HV0.out.trans (by simpa using h1)
   clear HV0
   go_enter Tryz.func198,Tryz.ntmps198
   go_wp2
   exact bodyPost_ret (v:=.bool false) (by simp [results,Tryz.results198,go_sem]) rfl ⟨by rw [HV.out],HB.out⟩
 by_cases hk4:k=4
 ·subst hk4
  have HV0:Hid (hasX 4 es=decide (me=1)):=show _=_ by rw [←hlen];simp [hasX];rfl
  by_cases h1:me=1
  ·subst h1
   have HV:Hid (hasX 4 es=true):=HV0.out.trans (by simp)
   clear HV0
   go_enter Tryz.func198,Tryz.ntmps198
   go_wp2
   exact bodyPost_ret (v:=.bool true) (by simp [results,Tryz.results198,go_sem]) rfl ⟨by rw [HV.out],HB.out⟩
  ·have hmI:((me:Int)==1)=false:=by rw [beq_eq_false_iff_ne];omega
   have HV:Hid (hasX 4 es=false):=HV0.out.trans (by simpa using h1)
   clear HV0
   go_enter Tryz.func198,Tryz.ntmps198
   go_wp2
   exact bodyPost_ret (v:=.bool false) (by simp [results,Tryz.results198,go_sem]) rfl ⟨by rw [HV.out],HB.out⟩
 by_cases hk5:k=5
 ·subst hk5
  have HV0:Hid (hasX 5 es=decide (me=1)):=show _=_ by rw [←hlen];simp [hasX];rfl
  by_cases h1:me=1
  ·subst h1
   have HV:Hid (hasX 5 es=true):=HV0.out.trans (by simp)
   clear HV0
   go_enter Tryz.func198,Tryz.ntmps198
   go_wp2
   exact bodyPost_ret (v:=.bool true) (by simp [results,Tryz.results198,go_sem]) rfl ⟨by rw [HV.out],HB.out⟩
  ·have hmI:((me:Int)==1)=false:=by rw [beq_eq_false_iff_ne];omega
   have HV:Hid (hasX 5 es=false):=HV0.out.trans (by simpa using h1)
   clear HV0
   go_enter Tryz.func198,Tryz.ntmps198
   go_wp2
   exact bodyPost_ret (v:=.bool false) (by simp [results,Tryz.results198,go_sem]) rfl ⟨by rw [HV.out],HB.out⟩
 by_cases hk7:k=7
 ·subst hk7
  have HV0:Hid (hasX 7 es=decide (me=1)):=show _=_ by rw [←hlen];simp [hasX];rfl
  by_cases h1:me=1
  ·subst h1
   have HV:Hid (hasX 7 es=true):=HV0.out.trans (by simp)
   clear HV0
   go_enter Tryz.func198,Tryz.ntmps198
   go_wp2
   exact bodyPost_ret (v:=.bool true) (by simp [results,Tryz.results198,go_sem]) rfl ⟨by rw [HV.out],HB.out⟩
  ·have hmI:((me:Int)==1)=false:=by rw [beq_eq_false_iff_ne];omega
   have HV:Hid (hasX 7 es=false):=HV0.out.trans (by simpa using h1)
   clear HV0
   go_enter Tryz.func198,Tryz.ntmps198
   go_wp2
   exact bodyPost_ret (v:=.bool false) (by simp [results,Tryz.results198,go_sem]) rfl ⟨by rw [HV.out],HB.out⟩
 by_cases hk2:k=2
 ·subst hk2
  clear hk1 hk3 hk4 hk5 hk7
  by_cases h2:me=2
  ·obtain ⟨a,b,hab⟩:∃a b,es=[a,b]:=by match es,hlen.trans h2 with | [a,b],_=>exact ⟨a,b,rfl⟩
   obtain ⟨B2,o,a1,a2,a3,a4,a5,a6,a7,rfl,hka,m0,m1,m2,m3,m4⟩:=HX.out a b hab;have HV:Hid (hasX 2 es=(a1==4||a1==8||a1==9)):=show _=_ by rw [hab,hka];simp [hasX,zc4]
   subst h2;have cp:=zdi a1 a2 a3 a4 a5 a6 a7 w1;generalize (a1==4||a1==8||a1==9)=H at *;clear hab hka HX hlen
   go_enter Tryz.func198,Tryz.ntmps198
   go_wp2_with fail
   refine cp.mono ?_;clear cp;rintro e w2 ⟨rfl,rfl⟩;have HB2:Hid (Below w.heap.size w (w1.alloc (yV a1 a2 a3 a4 a5 a6 a7))):=HB.out.alloc HB.out.size _;clear HB;go_wp2
   exact bodyPost_ret (v:=.bool H) (by simp [results,Tryz.results198,go_sem]) rfl ⟨by rw [HV.out],HB2.out⟩
  ·have hmI:((me:Int)==2)=false:=by rw [beq_eq_false_iff_ne];omega
   have HV:Hid (hasX 2 es=false):=show _=_ by
    have hne:es.length≠2:=by omega
    match es,hne with
    | [],_=>rfl
    | [_],_=>rfl
    | [_,_],h=>exact absurd rfl h
    | _::_::_::_,_=>rfl
   go_enter Tryz.func198,Tryz.ntmps198
   go_wp2
   exact bodyPost_ret (v:=.bool false) (by simp [results,Tryz.results198,go_sem]) rfl ⟨by rw [HV.out],HB.out⟩
 by_cases hk6:k=6
 ·subst hk6
  clear hk1 hk3 hk4 hk5 hk7 hk2
  by_cases h1:me≤1
  ·have hmI:(me:Int)≤1:=by omega
   have HV:Hid (hasX 6 es=true):=show _=_ by simp [hasX,hlen,h1]
   go_enter Tryz.func198,Tryz.ntmps198
   go_wp2
   exact bodyPost_ret (v:=.bool true) (by simp [results,Tryz.results198,go_sem]) rfl ⟨by rw [HV.out],HB.out⟩
  ·have hmI:¬ (me:Int)≤1:=by omega
   have HV:Hid (hasX 6 es=false):=show _=_ by simp [hasX,hlen];omega
   go_enter Tryz.func198,Tryz.ntmps198
   go_wp2
   exact bodyPost_ret (v:=.bool false) (by simp [results,Tryz.results198,go_sem]) rfl ⟨by rw [HV.out],HB.out⟩
 have HV:Hid (hasX k es=false):=show _=_ by
  unfold hasX
  rw [if_neg (by omega),if_neg hk2,if_neg hk6]
 have f1:(k==1)=false:=by simpa using hk1
 have f2:(k==2)=false:=by simpa using hk2
 have f3:(k==3)=false:=by simpa using hk3
 have f4:(k==4)=false:=by simpa using hk4
 have f5:(k==5)=false:=by simpa using hk5
 have f6:(k==6)=false:=by simpa using hk6
 have f7:(k==7)=false:=by simpa using hk7
 clear hk1 hk2 hk3 hk4 hk5 hk6 hk7
 go_enter Tryz.func198,Tryz.ntmps198
 go_wp2
 exact bodyPost_ret (v:=.bool false) (by simp [results,Tryz.results198,go_sem]) rfl ⟨by rw [HV.out],HB.out⟩
theorem Yo (k:Int) (s:List UInt8) (es:List Ez) (be:Option Addr) (me ce:Nat) (bb:Option Addr) (mb cb:Nat) (bl:Option Addr) (ml cl:Nat) (line:Int) (B:Nat) (w:World) (hrow:ZR (EzC B w) 5 B w es be me ce) (hB:B≤w.heap.size) :
  Calls Tryz.prog 179 #[qv k s be me ce bb mb cb bl ml cl line] w fun e w'=>e=.returned (.bool (xL k s es mb ml))∧Below w.heap.size w w':=by
 obtain ⟨w1,hw1⟩:∃w1,w1=w.alloc (Vc k s be me ce bb mb cb bl ml cl line):=⟨_,rfl⟩;have hb1:Below w.heap.size w w1:=by rw [hw1];exact (Below.refl _ w).alloc (Nat.le_refl _) _
 have p1:w1.heap[w.heap.size]?=some (Vc k s be me ce bb mb cb bl ml cl line):=by rw [hw1];exact World.alloc_heap_new w _
 have hbB:∀n,Below B w (w1.drewN n):=fun n=>(VL hb1 n).mono hB
 have ch:=fun n=>zdj k s es be me ce bb mb cb bl ml cl line B (w1.drewN n) (hrow.kept (hbB n) fun _ _ h=>Zs.kept h (hbB n))
 obtain ⟨c0,c1,c2,c3,c4,c5⟩:=zy p1;have HB:Hid (∀n,Below w.heap.size w (w1.drewN n)):=fun n=>VL hb1 n
 have hw1':=hw1.symm;have HV:Hid (xL k s es mb ml=(hasX k es&&(k==1||s==[])&&(k==4||k==3||k==5||mb==0)&&(k==4||ml==0))):=rfl;generalize hasX k es=H at *;obtain ⟨R,hR⟩:∃R,R=xL k s es mb ml:=⟨_,rfl⟩;have HR:Hid (R=(H&&(k==1||s==[])&&(k==4||k==3||k==5||mb==0)&&(k==4||ml==0))):=hR.trans HV.out;rw [←hR];clear hR HV hb1 p1 hw1 hrow hbB
 by_cases hk1:k=1
 ·subst hk1
  cases H with
  | false =>
   obtain rfl:R=false:=by rw [HR.out];simp_all
   clear HR
   go_enter Tryz.func179,Tryz.ntmps179
   go_wp2_with fail
   go_quiet (fail)
   go_wp2_with fail
   refine (ch _).mono ?_;clear ch;rintro e w2 ⟨rfl,hb2⟩;have HB2:Hid (Below w.heap.size w w2):=zu (HB.out _) hb2;have p2:=(hb2.cell (p:=⟨w.heap.size,1,none⟩) (World.block_lt_of_cell? _ _ c1)).trans c1;have p3:=(hb2.cell (p:=⟨w.heap.size,3,none⟩) (World.block_lt_of_cell? _ _ c3)).trans c3;have p4:=(hb2.cell (p:=⟨w.heap.size,4,none⟩) (World.block_lt_of_cell? _ _ c4)).trans c4;clear hb2 HB;go_wp2
   exact bodyPost_ret (v:=.bool false) (by simp [results,Tryz.results179,go_sem]) rfl ⟨rfl,HB2.out⟩
  | true =>
   by_cases hmb:mb=0
   ·subst hmb
    by_cases hml:ml=0
    ·subst hml
     obtain rfl:R=true:=by rw [HR.out];simp_all
     clear HR
     go_enter Tryz.func179,Tryz.ntmps179
     go_wp2_with fail
     go_quiet (fail)
     go_wp2_with fail
     refine (ch _).mono ?_;clear ch;rintro e w2 ⟨rfl,hb2⟩;have HB2:Hid (Below w.heap.size w w2):=zu (HB.out _) hb2;have p2:=(hb2.cell (p:=⟨w.heap.size,1,none⟩) (World.block_lt_of_cell? _ _ c1)).trans c1;have p3:=(hb2.cell (p:=⟨w.heap.size,3,none⟩) (World.block_lt_of_cell? _ _ c3)).trans c3;have p4:=(hb2.cell (p:=⟨w.heap.size,4,none⟩) (World.block_lt_of_cell? _ _ c4)).trans c4;clear hb2 HB;go_wp2
     exact bodyPost_ret (v:=.bool true) (by simp [results,Tryz.results179,go_sem]) rfl ⟨rfl,HB2.out⟩
    ·have hmlI:((ml:Int)==0)=false:=by rw [beq_eq_false_iff_ne];omega
     have hmlN:(ml==0)=false:=by rw [beq_eq_false_iff_ne];exact hml
     obtain rfl:R=false:=by rw [HR.out];simp_all
     clear HR
     go_enter Tryz.func179,Tryz.ntmps179
     go_wp2_with fail
     go_quiet (fail)
     go_wp2_with fail
     refine (ch _).mono ?_;clear ch;rintro e w2 ⟨rfl,hb2⟩;have HB2:Hid (Below w.heap.size w w2):=zu (HB.out _) hb2;have p2:=(hb2.cell (p:=⟨w.heap.size,1,none⟩) (World.block_lt_of_cell? _ _ c1)).trans c1;have p3:=(hb2.cell (p:=⟨w.heap.size,3,none⟩) (World.block_lt_of_cell? _ _ c3)).trans c3;have p4:=(hb2.cell (p:=⟨w.heap.size,4,none⟩) (World.block_lt_of_cell? _ _ c4)).trans c4;clear hb2 HB;go_wp2
     exact bodyPost_ret (v:=.bool false) (by simp [results,Tryz.results179,go_sem]) rfl ⟨rfl,HB2.out⟩
   ·have hmbI:((mb:Int)==0)=false:=by rw [beq_eq_false_iff_ne];omega
    have hmbN:(mb==0)=false:=by rw [beq_eq_false_iff_ne];exact hmb
    obtain rfl:R=false:=by rw [HR.out];simp_all
    clear HR
    go_enter Tryz.func179,Tryz.ntmps179
    go_wp2_with fail
    go_quiet (fail)
    go_wp2_with fail
    refine (ch _).mono ?_;clear ch;rintro e w2 ⟨rfl,hb2⟩;have HB2:Hid (Below w.heap.size w w2):=zu (HB.out _) hb2;have p2:=(hb2.cell (p:=⟨w.heap.size,1,none⟩) (World.block_lt_of_cell? _ _ c1)).trans c1;have p3:=(hb2.cell (p:=⟨w.heap.size,3,none⟩) (World.block_lt_of_cell? _ _ c3)).trans c3;have p4:=(hb2.cell (p:=⟨w.heap.size,4,none⟩) (World.block_lt_of_cell? _ _ c4)).trans c4;clear hb2 HB;go_wp2
    exact bodyPost_ret (v:=.bool false) (by simp [results,Tryz.results179,go_sem]) rfl ⟨rfl,HB2.out⟩
 by_cases hk4:k=4
 ·subst hk4
  cases H with
  | false =>
   obtain rfl:R=false:=by rw [HR.out];simp_all
   clear HR
   go_enter Tryz.func179,Tryz.ntmps179
   go_wp2_with fail
   go_quiet (fail)
   go_wp2_with fail
   refine (ch _).mono ?_;clear ch;rintro e w2 ⟨rfl,hb2⟩;have HB2:Hid (Below w.heap.size w w2):=zu (HB.out _) hb2;have p2:=(hb2.cell (p:=⟨w.heap.size,1,none⟩) (World.block_lt_of_cell? _ _ c1)).trans c1;have p3:=(hb2.cell (p:=⟨w.heap.size,3,none⟩) (World.block_lt_of_cell? _ _ c3)).trans c3;have p4:=(hb2.cell (p:=⟨w.heap.size,4,none⟩) (World.block_lt_of_cell? _ _ c4)).trans c4;clear hb2 HB;go_wp2
   exact bodyPost_ret (v:=.bool false) (by simp [results,Tryz.results179,go_sem]) rfl ⟨rfl,HB2.out⟩
  | true =>
   by_cases hs:s=[]
   ·subst hs
    obtain rfl:R=true:=by rw [HR.out];simp_all
    clear HR
    go_enter Tryz.func179,Tryz.ntmps179
    go_wp2_with fail
    go_quiet (fail)
    go_wp2_with fail
    refine (ch _).mono ?_;clear ch;rintro e w2 ⟨rfl,hb2⟩;have HB2:Hid (Below w.heap.size w w2):=zu (HB.out _) hb2;have p2:=(hb2.cell (p:=⟨w.heap.size,1,none⟩) (World.block_lt_of_cell? _ _ c1)).trans c1;have p3:=(hb2.cell (p:=⟨w.heap.size,3,none⟩) (World.block_lt_of_cell? _ _ c3)).trans c3;have p4:=(hb2.cell (p:=⟨w.heap.size,4,none⟩) (World.block_lt_of_cell? _ _ c4)).trans c4;clear hb2 HB;go_wp2
    exact bodyPost_ret (v:=.bool true) (by simp [results,Tryz.results179,go_sem]) rfl ⟨rfl,HB2.out⟩
   ·have hs1:(s==[])=false:=by simpa using hs
    obtain rfl:R=false:=by rw [HR.out];simp_all
    clear HR
    go_enter Tryz.func179,Tryz.ntmps179
    go_wp2_with fail
    go_quiet (fail)
    go_wp2_with fail
    refine (ch _).mono ?_;clear ch;rintro e w2 ⟨rfl,hb2⟩;have HB2:Hid (Below w.heap.size w w2):=zu (HB.out _) hb2;have p2:=(hb2.cell (p:=⟨w.heap.size,1,none⟩) (World.block_lt_of_cell? _ _ c1)).trans c1;have p3:=(hb2.cell (p:=⟨w.heap.size,3,none⟩) (World.block_lt_of_cell? _ _ c3)).trans c3;have p4:=(hb2.cell (p:=⟨w.heap.size,4,none⟩) (World.block_lt_of_cell? _ _ c4)).trans c4;clear hb2 HB;go_wp2
    exact bodyPost_ret (v:=.bool false) (by simp [results,Tryz.results179,go_sem]) rfl ⟨rfl,HB2.out⟩
 by_cases hk3:k=3
 ·subst hk3
  cases H with
  | false =>
   obtain rfl:R=false:=by rw [HR.out];simp_all
   clear HR
   go_enter Tryz.func179,Tryz.ntmps179
   go_wp2_with fail
   go_quiet (fail)
   go_wp2_with fail
   refine (ch _).mono ?_;clear ch;rintro e w2 ⟨rfl,hb2⟩;have HB2:Hid (Below w.heap.size w w2):=zu (HB.out _) hb2;have p2:=(hb2.cell (p:=⟨w.heap.size,1,none⟩) (World.block_lt_of_cell? _ _ c1)).trans c1;have p3:=(hb2.cell (p:=⟨w.heap.size,3,none⟩) (World.block_lt_of_cell? _ _ c3)).trans c3;have p4:=(hb2.cell (p:=⟨w.heap.size,4,none⟩) (World.block_lt_of_cell? _ _ c4)).trans c4;clear hb2 HB;go_wp2
   exact bodyPost_ret (v:=.bool false) (by simp [results,Tryz.results179,go_sem]) rfl ⟨rfl,HB2.out⟩
  | true =>
   by_cases hs:s=[]
   ·subst hs
    by_cases hml:ml=0
    ·subst hml
     obtain rfl:R=true:=by rw [HR.out];simp_all
     clear HR
     go_enter Tryz.func179,Tryz.ntmps179
     go_wp2_with fail
     go_quiet (fail)
     go_wp2_with fail
     refine (ch _).mono ?_;clear ch;rintro e w2 ⟨rfl,hb2⟩;have HB2:Hid (Below w.heap.size w w2):=zu (HB.out _) hb2;have p2:=(hb2.cell (p:=⟨w.heap.size,1,none⟩) (World.block_lt_of_cell? _ _ c1)).trans c1;have p3:=(hb2.cell (p:=⟨w.heap.size,3,none⟩) (World.block_lt_of_cell? _ _ c3)).trans c3;have p4:=(hb2.cell (p:=⟨w.heap.size,4,none⟩) (World.block_lt_of_cell? _ _ c4)).trans c4;clear hb2 HB;go_wp2
     exact bodyPost_ret (v:=.bool true) (by simp [results,Tryz.results179,go_sem]) rfl ⟨rfl,HB2.out⟩
    ·have hmlI:((ml:Int)==0)=false:=by rw [beq_eq_false_iff_ne];omega
     have hmlN:(ml==0)=false:=by rw [beq_eq_false_iff_ne];exact hml
     obtain rfl:R=false:=by rw [HR.out];simp_all
     clear HR
     go_enter Tryz.func179,Tryz.ntmps179
     go_wp2_with fail
     go_quiet (fail)
     go_wp2_with fail
     refine (ch _).mono ?_;clear ch;rintro e w2 ⟨rfl,hb2⟩;have HB2:Hid (Below w.heap.size w w2):=zu (HB.out _) hb2;have p2:=(hb2.cell (p:=⟨w.heap.size,1,none⟩) (World.block_lt_of_cell? _ _ c1)).trans c1;have p3:=(hb2.cell (p:=⟨w.heap.size,3,none⟩) (World.block_lt_of_cell? _ _ c3)).trans c3;have p4:=(hb2.cell (p:=⟨w.heap.size,4,none⟩) (World.block_lt_of_cell? _ _ c4)).trans c4;clear hb2 HB;go_wp2
     exact bodyPost_ret (v:=.bool false) (by simp [results,Tryz.results179,go_sem]) rfl ⟨rfl,HB2.out⟩
   ·have hs1:(s==[])=false:=by simpa using hs
    obtain rfl:R=false:=by rw [HR.out];simp_all
    clear HR
    go_enter Tryz.func179,Tryz.ntmps179
    go_wp2_with fail
    go_quiet (fail)
    go_wp2_with fail
    refine (ch _).mono ?_;clear ch;rintro e w2 ⟨rfl,hb2⟩;have HB2:Hid (Below w.heap.size w w2):=zu (HB.out _) hb2;have p2:=(hb2.cell (p:=⟨w.heap.size,1,none⟩) (World.block_lt_of_cell? _ _ c1)).trans c1;have p3:=(hb2.cell (p:=⟨w.heap.size,3,none⟩) (World.block_lt_of_cell? _ _ c3)).trans c3;have p4:=(hb2.cell (p:=⟨w.heap.size,4,none⟩) (World.block_lt_of_cell? _ _ c4)).trans c4;clear hb2 HB;go_wp2
    exact bodyPost_ret (v:=.bool false) (by simp [results,Tryz.results179,go_sem]) rfl ⟨rfl,HB2.out⟩
 by_cases hk5:k=5
 ·subst hk5
  cases H with
  | false =>
   obtain rfl:R=false:=by rw [HR.out];simp_all
   clear HR
   go_enter Tryz.func179,Tryz.ntmps179
   go_wp2_with fail
   go_quiet (fail)
   go_wp2_with fail
   refine (ch _).mono ?_;clear ch;rintro e w2 ⟨rfl,hb2⟩;have HB2:Hid (Below w.heap.size w w2):=zu (HB.out _) hb2;have p2:=(hb2.cell (p:=⟨w.heap.size,1,none⟩) (World.block_lt_of_cell? _ _ c1)).trans c1;have p3:=(hb2.cell (p:=⟨w.heap.size,3,none⟩) (World.block_lt_of_cell? _ _ c3)).trans c3;have p4:=(hb2.cell (p:=⟨w.heap.size,4,none⟩) (World.block_lt_of_cell? _ _ c4)).trans c4;clear hb2 HB;go_wp2
   exact bodyPost_ret (v:=.bool false) (by simp [results,Tryz.results179,go_sem]) rfl ⟨rfl,HB2.out⟩
  | true =>
   by_cases hs:s=[]
   ·subst hs
    by_cases hml:ml=0
    ·subst hml
     obtain rfl:R=true:=by rw [HR.out];simp_all
     clear HR
     go_enter Tryz.func179,Tryz.ntmps179
     go_wp2_with fail
     go_quiet (fail)
     go_wp2_with fail
     refine (ch _).mono ?_;clear ch;rintro e w2 ⟨rfl,hb2⟩;have HB2:Hid (Below w.heap.size w w2):=zu (HB.out _) hb2;have p2:=(hb2.cell (p:=⟨w.heap.size,1,none⟩) (World.block_lt_of_cell? _ _ c1)).trans c1;have p3:=(hb2.cell (p:=⟨w.heap.size,3,none⟩) (World.block_lt_of_cell? _ _ c3)).trans c3;have p4:=(hb2.cell (p:=⟨w.heap.size,4,none⟩) (World.block_lt_of_cell? _ _ c4)).trans c4;clear hb2 HB;go_wp2
     exact bodyPost_ret (v:=.bool true) (by simp [results,Tryz.results179,go_sem]) rfl ⟨rfl,HB2.out⟩
    ·have hmlI:((ml:Int)==0)=false:=by rw [beq_eq_false_iff_ne];omega
     have hmlN:(ml==0)=false:=by rw [beq_eq_false_iff_ne];exact hml
     obtain rfl:R=false:=by rw [HR.out];simp_all
     clear HR
     go_enter Tryz.func179,Tryz.ntmps179
     go_wp2_with fail
     go_quiet (fail)
     go_wp2_with fail
     refine (ch _).mono ?_;clear ch;rintro e w2 ⟨rfl,hb2⟩;have HB2:Hid (Below w.heap.size w w2):=zu (HB.out _) hb2;have p2:=(hb2.cell (p:=⟨w.heap.size,1,none⟩) (World.block_lt_of_cell? _ _ c1)).trans c1;have p3:=(hb2.cell (p:=⟨w.heap.size,3,none⟩) (World.block_lt_of_cell? _ _ c3)).trans c3;have p4:=(hb2.cell (p:=⟨w.heap.size,4,none⟩) (World.block_lt_of_cell? _ _ c4)).trans c4;clear hb2 HB;go_wp2
     exact bodyPost_ret (v:=.bool false) (by simp [results,Tryz.results179,go_sem]) rfl ⟨rfl,HB2.out⟩
   ·have hs1:(s==[])=false:=by simpa using hs
    obtain rfl:R=false:=by rw [HR.out];simp_all
    clear HR
    go_enter Tryz.func179,Tryz.ntmps179
    go_wp2_with fail
    go_quiet (fail)
    go_wp2_with fail
    refine (ch _).mono ?_;clear ch;rintro e w2 ⟨rfl,hb2⟩;have HB2:Hid (Below w.heap.size w w2):=zu (HB.out _) hb2;have p2:=(hb2.cell (p:=⟨w.heap.size,1,none⟩) (World.block_lt_of_cell? _ _ c1)).trans c1;have p3:=(hb2.cell (p:=⟨w.heap.size,3,none⟩) (World.block_lt_of_cell? _ _ c3)).trans c3;have p4:=(hb2.cell (p:=⟨w.heap.size,4,none⟩) (World.block_lt_of_cell? _ _ c4)).trans c4;clear hb2 HB;go_wp2
    exact bodyPost_ret (v:=.bool false) (by simp [results,Tryz.results179,go_sem]) rfl ⟨rfl,HB2.out⟩
 have f1:(k==1)=false:=by simpa using hk1
 have f3:(k==3)=false:=by simpa using hk3
 have f4:(k==4)=false:=by simpa using hk4
 have f5:(k==5)=false:=by simpa using hk5
 clear hk1 hk3 hk4 hk5;cases H with
 | false =>
  obtain rfl:R=false:=by rw [HR.out];simp_all
  clear HR
  go_enter Tryz.func179,Tryz.ntmps179
  go_wp2_with fail
  go_quiet (fail)
  go_wp2_with fail
  refine (ch _).mono ?_;clear ch;rintro e w2 ⟨rfl,hb2⟩;have HB2:Hid (Below w.heap.size w w2):=zu (HB.out _) hb2;have p2:=(hb2.cell (p:=⟨w.heap.size,1,none⟩) (World.block_lt_of_cell? _ _ c1)).trans c1;have p3:=(hb2.cell (p:=⟨w.heap.size,3,none⟩) (World.block_lt_of_cell? _ _ c3)).trans c3;have p4:=(hb2.cell (p:=⟨w.heap.size,4,none⟩) (World.block_lt_of_cell? _ _ c4)).trans c4;clear hb2 HB;go_wp2
  exact bodyPost_ret (v:=.bool false) (by simp [results,Tryz.results179,go_sem]) rfl ⟨rfl,HB2.out⟩
 | true =>
  by_cases hs:s=[]
  ·subst hs
   by_cases hmb:mb=0
   ·subst hmb
    by_cases hml:ml=0
    ·subst hml
     obtain rfl:R=true:=by rw [HR.out];simp_all
     clear HR
     go_enter Tryz.func179,Tryz.ntmps179
     go_wp2_with fail
     go_quiet (fail)
     go_wp2_with fail
     refine (ch _).mono ?_;clear ch;rintro e w2 ⟨rfl,hb2⟩;have HB2:Hid (Below w.heap.size w w2):=zu (HB.out _) hb2;have p2:=(hb2.cell (p:=⟨w.heap.size,1,none⟩) (World.block_lt_of_cell? _ _ c1)).trans c1;have p3:=(hb2.cell (p:=⟨w.heap.size,3,none⟩) (World.block_lt_of_cell? _ _ c3)).trans c3;have p4:=(hb2.cell (p:=⟨w.heap.size,4,none⟩) (World.block_lt_of_cell? _ _ c4)).trans c4;clear hb2 HB;go_wp2
     exact bodyPost_ret (v:=.bool true) (by simp [results,Tryz.results179,go_sem]) rfl ⟨rfl,HB2.out⟩
    ·have hmlI:((ml:Int)==0)=false:=by rw [beq_eq_false_iff_ne];omega
     have hmlN:(ml==0)=false:=by rw [beq_eq_false_iff_ne];exact hml
     obtain rfl:R=false:=by rw [HR.out];simp_all
     clear HR
     go_enter Tryz.func179,Tryz.ntmps179
     go_wp2_with fail
     go_quiet (fail)
     go_wp2_with fail
     refine (ch _).mono ?_;clear ch;rintro e w2 ⟨rfl,hb2⟩;have HB2:Hid (Below w.heap.size w w2):=zu (HB.out _) hb2;have p2:=(hb2.cell (p:=⟨w.heap.size,1,none⟩) (World.block_lt_of_cell? _ _ c1)).trans c1;have p3:=(hb2.cell (p:=⟨w.heap.size,3,none⟩) (World.block_lt_of_cell? _ _ c3)).trans c3;have p4:=(hb2.cell (p:=⟨w.heap.size,4,none⟩) (World.block_lt_of_cell? _ _ c4)).trans c4;clear hb2 HB;go_wp2
     exact bodyPost_ret (v:=.bool false) (by simp [results,Tryz.results179,go_sem]) rfl ⟨rfl,HB2.out⟩
   ·have hmbI:((mb:Int)==0)=false:=by rw [beq_eq_false_iff_ne];omega
    have hmbN:(mb==0)=false:=by rw [beq_eq_false_iff_ne];exact hmb
    obtain rfl:R=false:=by rw [HR.out];simp_all
    clear HR
    go_enter Tryz.func179,Tryz.ntmps179
    go_wp2_with fail
    go_quiet (fail)
    go_wp2_with fail
    refine (ch _).mono ?_;clear ch;rintro e w2 ⟨rfl,hb2⟩;have HB2:Hid (Below w.heap.size w w2):=zu (HB.out _) hb2;have p2:=(hb2.cell (p:=⟨w.heap.size,1,none⟩) (World.block_lt_of_cell? _ _ c1)).trans c1;have p3:=(hb2.cell (p:=⟨w.heap.size,3,none⟩) (World.block_lt_of_cell? _ _ c3)).trans c3;have p4:=(hb2.cell (p:=⟨w.heap.size,4,none⟩) (World.block_lt_of_cell? _ _ c4)).trans c4;clear hb2 HB;go_wp2
    exact bodyPost_ret (v:=.bool false) (by simp [results,Tryz.results179,go_sem]) rfl ⟨rfl,HB2.out⟩
  ·have hs1:(s==[])=false:=by simpa using hs
   obtain rfl:R=false:=by rw [HR.out];simp_all
   clear HR
   go_enter Tryz.func179,Tryz.ntmps179
   go_wp2_with fail
   go_quiet (fail)
   go_wp2_with fail
   refine (ch _).mono ?_;clear ch;rintro e w2 ⟨rfl,hb2⟩;have HB2:Hid (Below w.heap.size w w2):=zu (HB.out _) hb2;have p2:=(hb2.cell (p:=⟨w.heap.size,1,none⟩) (World.block_lt_of_cell? _ _ c1)).trans c1;have p3:=(hb2.cell (p:=⟨w.heap.size,3,none⟩) (World.block_lt_of_cell? _ _ c3)).trans c3;have p4:=(hb2.cell (p:=⟨w.heap.size,4,none⟩) (World.block_lt_of_cell? _ _ c4)).trans c4;clear hb2 HB;go_wp2
   exact bodyPost_ret (v:=.bool false) (by simp [results,Tryz.results179,go_sem]) rfl ⟨rfl,HB2.out⟩
end Go.Proofs.YtdgpapchkpnijaaGreatDoor
