import Derived.Test.YtpejpbbdgblbeaaGreatDoorMC8
import Derived.Test.YtpejpbbdgblbeaaGreatDoorShelf
namespace Go.Proofs.YtpejpbbdgblbeaaGreatDoor
open Go.RowKit Go.Shelf
set_option maxHeartbeats 16000000
set_option maxRecDepth 100000
def YN (k:Int) (s:List UInt8) (n:Int) (m:Nat):Bool :=
 if k=1 then s==[]&&m==0
 else if k=2 then s==[]&&m==0&&(n==0||n==1)
 else if k=3 then n==0&&m==0
 else if k=4 then n==0&&m==0
 else if k=5 then n==0
 else if k=11 then n==0
 else if k=6 then n==0&&m==1&&(s==[45]||s==[33])
 else if k=7 then n==0&&m==2&&decide (0<levelOf s)
 else if k=8 then n==0&&m==2&&s==[]
 else if k=9 then n==0&&m==1
 else if k=10 then n==0&&decide (1≤m)&&s==[]
 else false
abbrev Yi (k:Int) (s:List UInt8) (n:Int) (base:Option Addr) (m cap:Nat) (line:Int):Obj:=.cells #[.int .i64 k,.string (zb s),.int .i64 n,.slice base m cap,.int .i64 line] 45
abbrev yu (k:Int) (s:List UInt8) (n:Int) (base:Option Addr) (m cap:Nat) (line:Int):Value:=.agg #[.int .i64 k,.string (zb s),.int .i64 n,.slice base m cap,.int .i64 line]
theorem vH (s:List UInt8):levelOf s≤6:=by
 unfold levelOf
 cases h:Zh.find? fun p=>decide (p.1=s) with
 | none=>simp
 | some p =>
  have:=List.mem_of_find?_eq_some h
  simp only [Option.map_some,Option.getD_some]
  revert this
  unfold Zh
  simp only [List.mem_cons,List.not_mem_nil,or_false]
  rintro (rfl | rfl | rfl | rfl | rfl | rfl | rfl | rfl | rfl | rfl | rfl | rfl | rfl) <;> simp
theorem zl {w w2 w':World} (hb2:Below w.heap.size w w2) (h2:Below w2.heap.size w2 w'):Below w.heap.size w w':=hb2.trans (h2.mono hb2.size)
theorem zgv (s:List UInt8) (n:Int) (base:Option Addr) (m cap:Nat) (line:Int) (w:World) :
  Calls Tryz.prog 78 #[yu 1 s n base m cap line] w fun e w'=>e=.returned (.bool (s==[]&&m==0))∧Below w.heap.size w w':=by
 obtain ⟨w1,h⟩:∃w1,w1=w.alloc (Yi 1 s n base m cap line):=⟨_,rfl⟩;have y:Below w.heap.size w w1:=by rw [h];exact (Below.refl _ w).alloc (Nat.le_refl _) _
 have o:w1.heap[w.heap.size]?=some (.cells #[.int .i64 1,.string (zb s),.int .i64 n,.slice base m cap,.int .i64 line] 45 (0,0)):=by rw [h];exact World.alloc_heap_new w _
 have J:w1.cell? ⟨w.heap.size,0,none⟩=some (.int .i64 1):=by simp only [World.cell?,o];rfl
 have c1:w1.cell? ⟨w.heap.size,1,none⟩=some (.string (zb s)):=by simp only [World.cell?,o];rfl
 have c2:w1.cell? ⟨w.heap.size,2,none⟩=some (.int .i64 n):=by simp only [World.cell?,o];rfl
 have I:w1.cell? ⟨w.heap.size,3,none⟩=some (.slice base m cap):=by simp only [World.cell?,o];rfl
 have z:Hid (Below w.heap.size w w1):=y;have A:=h.symm;clear y o h
 by_cases hs:s=[]
 ·subst hs
  by_cases hm0:m=0
  ·subst hm0
   go_enter Tryz.func78,Tryz.ntmps78
   go_wp2
   exact bodyPost_ret (v:=.bool true) (by simp [results,Tryz.results78,go_sem]) rfl ⟨by simp_all,z.out⟩
  ·have D:((m:Int)==0)=false:=by rw [beq_eq_false_iff_ne];omega
   have H:(m==0)=false:=by rw [beq_eq_false_iff_ne];exact hm0
   go_enter Tryz.func78,Tryz.ntmps78
   go_wp2
   exact bodyPost_ret (v:=.bool false) (by simp [results,Tryz.results78,go_sem]) rfl ⟨by simp_all,z.out⟩
 ·have G:(s==[])=false:=by simpa using hs
  go_enter Tryz.func78,Tryz.ntmps78
  go_wp2
  exact bodyPost_ret (v:=.bool false) (by simp [results,Tryz.results78,go_sem]) rfl ⟨by simp_all,z.out⟩
theorem zgw (s:List UInt8) (n:Int) (base:Option Addr) (m cap:Nat) (line:Int) (w:World) :
  Calls Tryz.prog 78 #[yu 2 s n base m cap line] w fun e w'=>e=.returned (.bool (s==[]&&m==0&&(n==0||n==1)))∧Below w.heap.size w w':=by
 obtain ⟨w1,h⟩:∃w1,w1=w.alloc (Yi 2 s n base m cap line):=⟨_,rfl⟩;have z:Below w.heap.size w w1:=by rw [h];exact (Below.refl _ w).alloc (Nat.le_refl _) _
 have y:w1.heap[w.heap.size]?=some (.cells #[.int .i64 2,.string (zb s),.int .i64 n,.slice base m cap,.int .i64 line] 45 (0,0)):=by rw [h];exact World.alloc_heap_new w _
 have L:w1.cell? ⟨w.heap.size,0,none⟩=some (.int .i64 2):=by simp only [World.cell?,y];rfl
 have c1:w1.cell? ⟨w.heap.size,1,none⟩=some (.string (zb s)):=by simp only [World.cell?,y];rfl
 have c2:w1.cell? ⟨w.heap.size,2,none⟩=some (.int .i64 n):=by simp only [World.cell?,y];rfl
 have K:w1.cell? ⟨w.heap.size,3,none⟩=some (.slice base m cap):=by simp only [World.cell?,y];rfl
 have o:Hid (Below w.heap.size w w1):=z;have A:=h.symm;clear z y h
 by_cases hs:s=[]
 ·subst hs
  by_cases hm0:m=0
  ·subst hm0
   by_cases hn:n=0
   ·subst hn
    go_enter Tryz.func78,Tryz.ntmps78
    go_wp2
    exact bodyPost_ret (v:=.bool true) (by simp [results,Tryz.results78,go_sem]) rfl ⟨by simp_all,o.out⟩
   ·have J:(n==0)=false:=by rw [beq_eq_false_iff_ne];exact hn
    by_cases hn2:n=1
    ·subst hn2
     go_enter Tryz.func78,Tryz.ntmps78
     go_wp2
     exact bodyPost_ret (v:=.bool true) (by simp [results,Tryz.results78,go_sem]) rfl ⟨by simp_all,o.out⟩
    ·have H:(n==1)=false:=by rw [beq_eq_false_iff_ne];exact hn2
     go_enter Tryz.func78,Tryz.ntmps78
     go_wp2
     exact bodyPost_ret (v:=.bool false) (by simp [results,Tryz.results78,go_sem]) rfl ⟨by simp_all,o.out⟩
  ·have D:((m:Int)==0)=false:=by rw [beq_eq_false_iff_ne];omega
   have I:(m==0)=false:=by rw [beq_eq_false_iff_ne];exact hm0
   go_enter Tryz.func78,Tryz.ntmps78
   go_wp2
   exact bodyPost_ret (v:=.bool false) (by simp [results,Tryz.results78,go_sem]) rfl ⟨by simp_all,o.out⟩
 ·have G:(s==[])=false:=by simpa using hs
  go_enter Tryz.func78,Tryz.ntmps78
  go_wp2
  exact bodyPost_ret (v:=.bool false) (by simp [results,Tryz.results78,go_sem]) rfl ⟨by simp_all,o.out⟩
theorem zgx (s:List UInt8) (n:Int) (base:Option Addr) (m cap:Nat) (line:Int) (w:World) :
  Calls Tryz.prog 78 #[yu 3 s n base m cap line] w fun e w'=>e=.returned (.bool (n==0&&m==0))∧Below w.heap.size w w':=by
 obtain ⟨w1,h⟩:∃w1,w1=w.alloc (Yi 3 s n base m cap line):=⟨_,rfl⟩;have y:Below w.heap.size w w1:=by rw [h];exact (Below.refl _ w).alloc (Nat.le_refl _) _
 have o:w1.heap[w.heap.size]?=some (.cells #[.int .i64 3,.string (zb s),.int .i64 n,.slice base m cap,.int .i64 line] 45 (0,0)):=by rw [h];exact World.alloc_heap_new w _
 have J:w1.cell? ⟨w.heap.size,0,none⟩=some (.int .i64 3):=by simp only [World.cell?,o];rfl
 have c1:w1.cell? ⟨w.heap.size,1,none⟩=some (.string (zb s)):=by simp only [World.cell?,o];rfl
 have c2:w1.cell? ⟨w.heap.size,2,none⟩=some (.int .i64 n):=by simp only [World.cell?,o];rfl
 have I:w1.cell? ⟨w.heap.size,3,none⟩=some (.slice base m cap):=by simp only [World.cell?,o];rfl
 have z:Hid (Below w.heap.size w w1):=y;have A:=h.symm;clear y o h
 by_cases hn:n=0
 ·subst hn
  by_cases hm0:m=0
  ·subst hm0
   go_enter Tryz.func78,Tryz.ntmps78
   go_wp2
   exact bodyPost_ret (v:=.bool true) (by simp [results,Tryz.results78,go_sem]) rfl ⟨by simp_all,z.out⟩
  ·have D:((m:Int)==0)=false:=by rw [beq_eq_false_iff_ne];omega
   have G:(m==0)=false:=by rw [beq_eq_false_iff_ne];exact hm0
   go_enter Tryz.func78,Tryz.ntmps78
   go_wp2
   exact bodyPost_ret (v:=.bool false) (by simp [results,Tryz.results78,go_sem]) rfl ⟨by simp_all,z.out⟩
 ·have H:(n==0)=false:=by rw [beq_eq_false_iff_ne];exact hn
  go_enter Tryz.func78,Tryz.ntmps78
  go_wp2
  exact bodyPost_ret (v:=.bool false) (by simp [results,Tryz.results78,go_sem]) rfl ⟨by simp_all,z.out⟩
theorem zgy (s:List UInt8) (n:Int) (base:Option Addr) (m cap:Nat) (line:Int) (w:World) :
  Calls Tryz.prog 78 #[yu 4 s n base m cap line] w fun e w'=>e=.returned (.bool (n==0&&m==0))∧Below w.heap.size w w':=by
 obtain ⟨w1,h⟩:∃w1,w1=w.alloc (Yi 4 s n base m cap line):=⟨_,rfl⟩;have y:Below w.heap.size w w1:=by rw [h];exact (Below.refl _ w).alloc (Nat.le_refl _) _
 have o:w1.heap[w.heap.size]?=some (.cells #[.int .i64 4,.string (zb s),.int .i64 n,.slice base m cap,.int .i64 line] 45 (0,0)):=by rw [h];exact World.alloc_heap_new w _
 have J:w1.cell? ⟨w.heap.size,0,none⟩=some (.int .i64 4):=by simp only [World.cell?,o];rfl
 have c1:w1.cell? ⟨w.heap.size,1,none⟩=some (.string (zb s)):=by simp only [World.cell?,o];rfl
 have c2:w1.cell? ⟨w.heap.size,2,none⟩=some (.int .i64 n):=by simp only [World.cell?,o];rfl
 have I:w1.cell? ⟨w.heap.size,3,none⟩=some (.slice base m cap):=by simp only [World.cell?,o];rfl
 have z:Hid (Below w.heap.size w w1):=y;have A:=h.symm;clear y o h
 by_cases hn:n=0
 ·subst hn
  by_cases hm0:m=0
  ·subst hm0
   go_enter Tryz.func78,Tryz.ntmps78
   go_wp2
   exact bodyPost_ret (v:=.bool true) (by simp [results,Tryz.results78,go_sem]) rfl ⟨by simp_all,z.out⟩
  ·have D:((m:Int)==0)=false:=by rw [beq_eq_false_iff_ne];omega
   have G:(m==0)=false:=by rw [beq_eq_false_iff_ne];exact hm0
   go_enter Tryz.func78,Tryz.ntmps78
   go_wp2
   exact bodyPost_ret (v:=.bool false) (by simp [results,Tryz.results78,go_sem]) rfl ⟨by simp_all,z.out⟩
 ·have H:(n==0)=false:=by rw [beq_eq_false_iff_ne];exact hn
  go_enter Tryz.func78,Tryz.ntmps78
  go_wp2
  exact bodyPost_ret (v:=.bool false) (by simp [results,Tryz.results78,go_sem]) rfl ⟨by simp_all,z.out⟩
theorem zgz (s:List UInt8) (n:Int) (base:Option Addr) (m cap:Nat) (line:Int) (w:World) :
  Calls Tryz.prog 78 #[yu 5 s n base m cap line] w fun e w'=>e=.returned (.bool (n==0))∧Below w.heap.size w w':=by
 obtain ⟨w1,h⟩:∃w1,w1=w.alloc (Yi 5 s n base m cap line):=⟨_,rfl⟩;have y:Below w.heap.size w w1:=by rw [h];exact (Below.refl _ w).alloc (Nat.le_refl _) _
 have o:w1.heap[w.heap.size]?=some (.cells #[.int .i64 5,.string (zb s),.int .i64 n,.slice base m cap,.int .i64 line] 45 (0,0)):=by rw [h];exact World.alloc_heap_new w _
 have H:w1.cell? ⟨w.heap.size,0,none⟩=some (.int .i64 5):=by simp only [World.cell?,o];rfl
 have c1:w1.cell? ⟨w.heap.size,1,none⟩=some (.string (zb s)):=by simp only [World.cell?,o];rfl
 have c2:w1.cell? ⟨w.heap.size,2,none⟩=some (.int .i64 n):=by simp only [World.cell?,o];rfl
 have G:w1.cell? ⟨w.heap.size,3,none⟩=some (.slice base m cap):=by simp only [World.cell?,o];rfl
 have z:Hid (Below w.heap.size w w1):=y;have A:=h.symm;clear y o h
 by_cases hn:n=0
 ·subst hn
  go_enter Tryz.func78,Tryz.ntmps78
  go_wp2
  exact bodyPost_ret (v:=.bool true) (by simp [results,Tryz.results78,go_sem]) rfl ⟨by simp_all,z.out⟩
 ·have D:(n==0)=false:=by rw [beq_eq_false_iff_ne];exact hn
  go_enter Tryz.func78,Tryz.ntmps78
  go_wp2
  exact bodyPost_ret (v:=.bool false) (by simp [results,Tryz.results78,go_sem]) rfl ⟨by simp_all,z.out⟩
theorem zfH (s:List UInt8) (n:Int) (base:Option Addr) (m cap:Nat) (line:Int) (w:World) :
  Calls Tryz.prog 78 #[yu 11 s n base m cap line] w fun e w'=>e=.returned (.bool (n==0))∧Below w.heap.size w w':=by
 obtain ⟨w1,h⟩:∃w1,w1=w.alloc (Yi 11 s n base m cap line):=⟨_,rfl⟩;have y:Below w.heap.size w w1:=by rw [h];exact (Below.refl _ w).alloc (Nat.le_refl _) _
 have o:w1.heap[w.heap.size]?=some (.cells #[.int .i64 11,.string (zb s),.int .i64 n,.slice base m cap,.int .i64 line] 45 (0,0)):=by rw [h];exact World.alloc_heap_new w _
 have H:w1.cell? ⟨w.heap.size,0,none⟩=some (.int .i64 11):=by simp only [World.cell?,o];rfl
 have c1:w1.cell? ⟨w.heap.size,1,none⟩=some (.string (zb s)):=by simp only [World.cell?,o];rfl
 have c2:w1.cell? ⟨w.heap.size,2,none⟩=some (.int .i64 n):=by simp only [World.cell?,o];rfl
 have G:w1.cell? ⟨w.heap.size,3,none⟩=some (.slice base m cap):=by simp only [World.cell?,o];rfl
 have z:Hid (Below w.heap.size w w1):=y;have A:=h.symm;clear y o h
 by_cases hn:n=0
 ·subst hn
  go_enter Tryz.func78,Tryz.ntmps78
  go_wp2
  exact bodyPost_ret (v:=.bool true) (by simp [results,Tryz.results78,go_sem]) rfl ⟨by simp_all,z.out⟩
 ·have D:(n==0)=false:=by rw [beq_eq_false_iff_ne];exact hn
  go_enter Tryz.func78,Tryz.ntmps78
  go_wp2
  exact bodyPost_ret (v:=.bool false) (by simp [results,Tryz.results78,go_sem]) rfl ⟨by simp_all,z.out⟩
theorem zgA (s:List UInt8) (n:Int) (base:Option Addr) (m cap:Nat) (line:Int) (w:World) :
  Calls Tryz.prog 78 #[yu 6 s n base m cap line] w fun e w'=>e=.returned (.bool (n==0&&m==1&&(s==[45]||s==[33])))∧Below w.heap.size w w':=by
 obtain ⟨w1,h⟩:∃w1,w1=w.alloc (Yi 6 s n base m cap line):=⟨_,rfl⟩;have o:Below w.heap.size w w1:=by rw [h];exact (Below.refl _ w).alloc (Nat.le_refl _) _
 have y:w1.heap[w.heap.size]?=some (.cells #[.int .i64 6,.string (zb s),.int .i64 n,.slice base m cap,.int .i64 line] 45 (0,0)):=by rw [h];exact World.alloc_heap_new w _
 have N:w1.cell? ⟨w.heap.size,0,none⟩=some (.int .i64 6):=by simp only [World.cell?,y];rfl
 have c1:w1.cell? ⟨w.heap.size,1,none⟩=some (.string (zb s)):=by simp only [World.cell?,y];rfl
 have c2:w1.cell? ⟨w.heap.size,2,none⟩=some (.int .i64 n):=by simp only [World.cell?,y];rfl
 have K:w1.cell? ⟨w.heap.size,3,none⟩=some (.slice base m cap):=by simp only [World.cell?,y];rfl
 have z:Hid (Below w.heap.size w w1):=o;have D:=h.symm;clear o y h
 by_cases hn:n=0
 ·subst hn
  by_cases hm1:m=1
  ·subst hm1
   have A:=vD s w1;obtain ⟨R,G⟩:∃R,R=(s==[45]||s==[33]):=⟨_,rfl⟩;rw [←G] at A ⊢;clear G
   go_enter Tryz.func78,Tryz.ntmps78
   go_wp2_with fail
   refine A.mono ?_;rintro e L ⟨rfl,rfl⟩;clear A;go_wp2
   exact bodyPost_ret (v:=.bool R) (by simp [results,Tryz.results78,go_sem]) rfl ⟨by simp_all,z.out⟩
  ·have H:((m:Int)==1)=false:=by rw [beq_eq_false_iff_ne];omega
   have I:(m==1)=false:=by rw [beq_eq_false_iff_ne];exact hm1
   go_enter Tryz.func78,Tryz.ntmps78
   go_wp2
   exact bodyPost_ret (v:=.bool false) (by simp [results,Tryz.results78,go_sem]) rfl ⟨by simp_all,z.out⟩
 ·have J:(n==0)=false:=by rw [beq_eq_false_iff_ne];exact hn
  go_enter Tryz.func78,Tryz.ntmps78
  go_wp2
  exact bodyPost_ret (v:=.bool false) (by simp [results,Tryz.results78,go_sem]) rfl ⟨by simp_all,z.out⟩
theorem zgB (s:List UInt8) (n:Int) (base:Option Addr) (m cap:Nat) (line:Int) (w:World) (ht:Zz w) :
  Calls Tryz.prog 78 #[yu 7 s n base m cap line] w fun e w'=>e=.returned (.bool (n==0&&m==2&&decide (0<levelOf s)))∧Below w.heap.size w w':=by
 obtain ⟨w1,h⟩:∃w1,w1=w.alloc (Yi 7 s n base m cap line):=⟨_,rfl⟩;have o:Below w.heap.size w w1:=by rw [h];exact (Below.refl _ w).alloc (Nat.le_refl _) _
 have z:w1.heap[w.heap.size]?=some (.cells #[.int .i64 7,.string (zb s),.int .i64 n,.slice base m cap,.int .i64 line] 45 (0,0)):=by rw [h];exact World.alloc_heap_new w _
 have U:w1.cell? ⟨w.heap.size,0,none⟩=some (.int .i64 7):=by simp only [World.cell?,z];rfl
 have c1:w1.cell? ⟨w.heap.size,1,none⟩=some (.string (zb s)):=by simp only [World.cell?,z];rfl
 have c2:w1.cell? ⟨w.heap.size,2,none⟩=some (.int .i64 n):=by simp only [World.cell?,z];rfl
 have T:w1.cell? ⟨w.heap.size,3,none⟩=some (.slice base m cap):=by simp only [World.cell?,z];rfl
 have H:=Xd s w1 (fun j v hj=>by rw [h];exact zj (ht j v hj) _)
 have D:Hid (Below w.heap.size w w1):=o;have J:=h.symm;clear o z h ht
 by_cases hn:n=0
 ·subst hn
  by_cases hm2:m=2
  ·subst hm2
   obtain ⟨L,G⟩:∃L,L=levelOf s:=⟨_,rfl⟩;rw [←G] at H ⊢;have I:L≤6:=by rw [G];exact vH s
   clear G
   go_enter Tryz.func78,Tryz.ntmps78
   go_wp2_with fail
   refine H.mono ?_;rintro e N ⟨rfl,A⟩;clear H;have y:Hid (Below w.heap.size w N):=zl D.out A;clear A
   by_cases hL0:0<L
   ·have O:(0:Int)<(L:Int):=by omega
    go_wp2
    exact bodyPost_ret (v:=.bool true) (by simp [results,Tryz.results78,go_sem]) rfl ⟨by simp_all,y.out⟩
   ·obtain rfl:L=0:=by omega
    go_wp2
    exact bodyPost_ret (v:=.bool false) (by simp [results,Tryz.results78,go_sem]) rfl ⟨by simp_all,y.out⟩
  ·have K:((m:Int)==2)=false:=by rw [beq_eq_false_iff_ne];omega
   have Q:(m==2)=false:=by rw [beq_eq_false_iff_ne];exact hm2
   go_enter Tryz.func78,Tryz.ntmps78
   go_wp2
   exact bodyPost_ret (v:=.bool false) (by simp [results,Tryz.results78,go_sem]) rfl ⟨by simp_all,D.out⟩
 ·have R:(n==0)=false:=by rw [beq_eq_false_iff_ne];exact hn
  go_enter Tryz.func78,Tryz.ntmps78
  go_wp2
  exact bodyPost_ret (v:=.bool false) (by simp [results,Tryz.results78,go_sem]) rfl ⟨by simp_all,D.out⟩
theorem zgC (s:List UInt8) (n:Int) (base:Option Addr) (m cap:Nat) (line:Int) (w:World) :
  Calls Tryz.prog 78 #[yu 8 s n base m cap line] w fun e w'=>e=.returned (.bool (n==0&&m==2&&s==[]))∧Below w.heap.size w w':=by
 obtain ⟨w1,h⟩:∃w1,w1=w.alloc (Yi 8 s n base m cap line):=⟨_,rfl⟩;have y:Below w.heap.size w w1:=by rw [h];exact (Below.refl _ w).alloc (Nat.le_refl _) _
 have o:w1.heap[w.heap.size]?=some (.cells #[.int .i64 8,.string (zb s),.int .i64 n,.slice base m cap,.int .i64 line] 45 (0,0)):=by rw [h];exact World.alloc_heap_new w _
 have K:w1.cell? ⟨w.heap.size,0,none⟩=some (.int .i64 8):=by simp only [World.cell?,o];rfl
 have c1:w1.cell? ⟨w.heap.size,1,none⟩=some (.string (zb s)):=by simp only [World.cell?,o];rfl
 have c2:w1.cell? ⟨w.heap.size,2,none⟩=some (.int .i64 n):=by simp only [World.cell?,o];rfl
 have J:w1.cell? ⟨w.heap.size,3,none⟩=some (.slice base m cap):=by simp only [World.cell?,o];rfl
 have z:Hid (Below w.heap.size w w1):=y;have A:=h.symm;clear y o h
 by_cases hn:n=0
 ·subst hn
  by_cases hm2:m=2
  ·subst hm2
   by_cases hs:s=[]
   ·subst hs
    go_enter Tryz.func78,Tryz.ntmps78
    go_wp2
    exact bodyPost_ret (v:=.bool true) (by simp [results,Tryz.results78,go_sem]) rfl ⟨by simp_all,z.out⟩
   ·have D:(s==[])=false:=by simpa using hs
    go_enter Tryz.func78,Tryz.ntmps78
    go_wp2
    exact bodyPost_ret (v:=.bool false) (by simp [results,Tryz.results78,go_sem]) rfl ⟨by simp_all,z.out⟩
  ·have G:((m:Int)==2)=false:=by rw [beq_eq_false_iff_ne];omega
   have H:(m==2)=false:=by rw [beq_eq_false_iff_ne];exact hm2
   go_enter Tryz.func78,Tryz.ntmps78
   go_wp2
   exact bodyPost_ret (v:=.bool false) (by simp [results,Tryz.results78,go_sem]) rfl ⟨by simp_all,z.out⟩
 ·have I:(n==0)=false:=by rw [beq_eq_false_iff_ne];exact hn
  go_enter Tryz.func78,Tryz.ntmps78
  go_wp2
  exact bodyPost_ret (v:=.bool false) (by simp [results,Tryz.results78,go_sem]) rfl ⟨by simp_all,z.out⟩
theorem zgD (s:List UInt8) (n:Int) (base:Option Addr) (m cap:Nat) (line:Int) (w:World) :
  Calls Tryz.prog 78 #[yu 9 s n base m cap line] w fun e w'=>e=.returned (.bool (n==0&&m==1))∧Below w.heap.size w w':=by
 obtain ⟨w1,h⟩:∃w1,w1=w.alloc (Yi 9 s n base m cap line):=⟨_,rfl⟩;have y:Below w.heap.size w w1:=by rw [h];exact (Below.refl _ w).alloc (Nat.le_refl _) _
 have o:w1.heap[w.heap.size]?=some (.cells #[.int .i64 9,.string (zb s),.int .i64 n,.slice base m cap,.int .i64 line] 45 (0,0)):=by rw [h];exact World.alloc_heap_new w _
 have J:w1.cell? ⟨w.heap.size,0,none⟩=some (.int .i64 9):=by simp only [World.cell?,o];rfl
 have c1:w1.cell? ⟨w.heap.size,1,none⟩=some (.string (zb s)):=by simp only [World.cell?,o];rfl
 have c2:w1.cell? ⟨w.heap.size,2,none⟩=some (.int .i64 n):=by simp only [World.cell?,o];rfl
 have I:w1.cell? ⟨w.heap.size,3,none⟩=some (.slice base m cap):=by simp only [World.cell?,o];rfl
 have z:Hid (Below w.heap.size w w1):=y;have A:=h.symm;clear y o h
 by_cases hn:n=0
 ·subst hn
  by_cases hm1:m=1
  ·subst hm1
   go_enter Tryz.func78,Tryz.ntmps78
   go_wp2
   exact bodyPost_ret (v:=.bool true) (by simp [results,Tryz.results78,go_sem]) rfl ⟨by simp_all,z.out⟩
  ·have D:((m:Int)==1)=false:=by rw [beq_eq_false_iff_ne];omega
   have G:(m==1)=false:=by rw [beq_eq_false_iff_ne];exact hm1
   go_enter Tryz.func78,Tryz.ntmps78
   go_wp2
   exact bodyPost_ret (v:=.bool false) (by simp [results,Tryz.results78,go_sem]) rfl ⟨by simp_all,z.out⟩
 ·have H:(n==0)=false:=by rw [beq_eq_false_iff_ne];exact hn
  go_enter Tryz.func78,Tryz.ntmps78
  go_wp2
  exact bodyPost_ret (v:=.bool false) (by simp [results,Tryz.results78,go_sem]) rfl ⟨by simp_all,z.out⟩
theorem zfI (s:List UInt8) (n:Int) (base:Option Addr) (m cap:Nat) (line:Int) (w:World) :
  Calls Tryz.prog 78 #[yu 10 s n base m cap line] w fun e w'=>e=.returned (.bool (n==0&&decide (1≤m)&&s==[]))∧Below w.heap.size w w':=by
 obtain ⟨w1,h⟩:∃w1,w1=w.alloc (Yi 10 s n base m cap line):=⟨_,rfl⟩;have y:Below w.heap.size w w1:=by rw [h];exact (Below.refl _ w).alloc (Nat.le_refl _) _
 have o:w1.heap[w.heap.size]?=some (.cells #[.int .i64 10,.string (zb s),.int .i64 n,.slice base m cap,.int .i64 line] 45 (0,0)):=by rw [h];exact World.alloc_heap_new w _
 have J:w1.cell? ⟨w.heap.size,0,none⟩=some (.int .i64 10):=by simp only [World.cell?,o];rfl
 have c1:w1.cell? ⟨w.heap.size,1,none⟩=some (.string (zb s)):=by simp only [World.cell?,o];rfl
 have c2:w1.cell? ⟨w.heap.size,2,none⟩=some (.int .i64 n):=by simp only [World.cell?,o];rfl
 have I:w1.cell? ⟨w.heap.size,3,none⟩=some (.slice base m cap):=by simp only [World.cell?,o];rfl
 have z:Hid (Below w.heap.size w w1):=y;have A:=h.symm;clear y o h
 by_cases hn:n=0
 ·subst hn
  by_cases hm1:1≤m
  ·have G:(1:Int)≤(m:Int):=by omega
   by_cases hs:s=[]
   ·subst hs
    go_enter Tryz.func78,Tryz.ntmps78
    go_wp2
    exact bodyPost_ret (v:=.bool true) (by simp [results,Tryz.results78,go_sem]) rfl ⟨by simp_all,z.out⟩
   ·have D:(s==[])=false:=by simpa using hs
    go_enter Tryz.func78,Tryz.ntmps78
    go_wp2
    exact bodyPost_ret (v:=.bool false) (by simp [results,Tryz.results78,go_sem]) rfl ⟨by simp_all,z.out⟩
  ·obtain rfl:m=0:=by omega
   go_enter Tryz.func78,Tryz.ntmps78
   go_wp2
   exact bodyPost_ret (v:=.bool false) (by simp [results,Tryz.results78,go_sem]) rfl ⟨by simp_all,z.out⟩
 ·have H:(n==0)=false:=by rw [beq_eq_false_iff_ne];exact hn
  go_enter Tryz.func78,Tryz.ntmps78
  go_wp2
  exact bodyPost_ret (v:=.bool false) (by simp [results,Tryz.results78,go_sem]) rfl ⟨by simp_all,z.out⟩
theorem zfJ (k:Int) (s:List UInt8) (n:Int) (base:Option Addr) (m cap:Nat) (line:Int) (w:World) (h1:k≠1) (h2:k≠2) (h3:k≠3) (h4:k≠4) (h5:k≠5) (h11:k≠11) (h6:k≠6) (h7:k≠7) (h8:k≠8) (h9:k≠9) (h10:k≠10) :
  Calls Tryz.prog 78 #[yu k s n base m cap line] w fun e w'=>e=.returned (.bool false)∧Below w.heap.size w w':=by
 have h:Hid (Below w.heap.size w (w.alloc (Yi k s n base m cap line))):=show Below _ _ _ from (Below.refl _ w).alloc (Nat.le_refl _) _
 have I:(k==1)=false:=by rw [beq_eq_false_iff_ne];exact h1
 have J:(k==2)=false:=by rw [beq_eq_false_iff_ne];exact h2
 have K:(k==3)=false:=by rw [beq_eq_false_iff_ne];exact h3
 have L:(k==4)=false:=by rw [beq_eq_false_iff_ne];exact h4
 have H:(k==5)=false:=by rw [beq_eq_false_iff_ne];exact h5
 have o:(k==11)=false:=by rw [beq_eq_false_iff_ne];exact h11
 have A:(k==6)=false:=by rw [beq_eq_false_iff_ne];exact h6
 have D:(k==7)=false:=by rw [beq_eq_false_iff_ne];exact h7
 have G:(k==8)=false:=by rw [beq_eq_false_iff_ne];exact h8
 have z:(k==9)=false:=by rw [beq_eq_false_iff_ne];exact h9
 have y:(k==10)=false:=by rw [beq_eq_false_iff_ne];exact h10
 clear h1 h2 h3 h4 h5 h11 h6 h7 h8 h9 h10
 go_enter Tryz.func78,Tryz.ntmps78
 go_wp2
 exact bodyPost_ret (v:=.bool false) (by simp [results,Tryz.results78,go_sem]) rfl ⟨rfl,h.out⟩
theorem ZS (k:Int) (s:List UInt8) (n:Int) (base:Option Addr) (m cap:Nat) (line:Int) (w:World) (ht:Zz w) :
  Calls Tryz.prog 78 #[yu k s n base m cap line] w fun e w'=>e=.returned (.bool (YN k s n m))∧Below w.heap.size w w':=by
 unfold YN
 by_cases h1:k=1
 ·subst h1;exact zgv s n base m cap line w
 rw [if_neg h1]
 by_cases h2:k=2
 ·subst h2;exact zgw s n base m cap line w
 rw [if_neg h2]
 by_cases h3:k=3
 ·subst h3;exact zgx s n base m cap line w
 rw [if_neg h3]
 by_cases h4:k=4
 ·subst h4;exact zgy s n base m cap line w
 rw [if_neg h4]
 by_cases h5:k=5
 ·subst h5;exact zgz s n base m cap line w
 rw [if_neg h5]
 by_cases h11:k=11
 ·subst h11;exact zfH s n base m cap line w
 rw [if_neg h11]
 by_cases h6:k=6
 ·subst h6;exact zgA s n base m cap line w
 rw [if_neg h6]
 by_cases h7:k=7
 ·subst h7;exact zgB s n base m cap line w ht
 rw [if_neg h7]
 by_cases h8:k=8
 ·subst h8;exact zgC s n base m cap line w
 rw [if_neg h8]
 by_cases h9:k=9
 ·subst h9;exact zgD s n base m cap line w
 rw [if_neg h9]
 by_cases h10:k=10
 ·subst h10;exact zfI s n base m cap line w
 rw [if_neg h10];exact zfJ k s n base m cap line w h1 h2 h3 h4 h5 h11 h6 h7 h8 h9 h10
inductive Ez where
 | mk (k:Int) (s:List UInt8) (n:Int) (kids:List Ez) (line:Int)
inductive Zs (B:Nat) (w:World):Ez→Value→Prop where
 | mk (k:Int) (s:List UInt8) (n:Int) (kids:List Ez) (line:Int) (base:Option Addr) (cap b o:Nat) (us:List (List Value)) (hs:s.length≤100000000) (hn0:-9223372036854775808≤n) (hn1:n≤9223372036854775807)
   (hbase:kids≠[]→base=some ⟨b,o,none⟩∧b<B∧b<w.heap.size) (hlen:us.length=kids.length) (hc:kids.length≤cap) (hm:cap≤maxLen)
   (hcell:∀j u,us.flatten[j]?=some u→w.cell? ⟨b,o+j,none⟩=some u) (hfive:∀c∈us,c.length=5)
   (hk:∀(j:Nat) (x:Ez) (c:List Value),kids[j]?=some x→us[j]?=some c→Zs B w x (.agg c.toArray)) :
   Zs B w (.mk k s n kids line) (yu k s n base kids.length cap line)
theorem Zs.kept {B:Nat} {w w':World} {x:Ez} {v:Value} (h:Zs B w x v) (hb:Below B w w'):Zs B w' x v:=by
 induction h with
 | mk k s n kids line base cap b o us hs hn0 hn1 hbase hlen hc hm hcell hfive _ ih =>
  refine .mk k s n kids line base cap b o us hs hn0 hn1 (fun h=>⟨(hbase h).1,(hbase h).2.1,Nat.lt_of_lt_of_le (hbase h).2.2 hb.size⟩) hlen hc hm (fun j u hj=>?_) hfive ih
  have y:kids≠[]:=by
   rintro rfl
   have:us=[]:=List.eq_nil_of_length_eq_zero hlen
   subst this
   simp at hj
  rw [World.cell?_of_block (hb.block b (hbase y).2.1)];exact hcell j u hj
def zc (a b:Option (List UInt8)):Option (List UInt8):=match a with
 | none=>none
 | some s=>match b with
  | none=>none
  | some u=>some (s++u)
def rowO (l:List (Option (List UInt8))):Nat→Option (List UInt8)
 | 0=>some []
 | i+1=>zc (rowO l i) (zc (some (if i=0 then [] else [44,32])) ((l[i]?).getD none))
def lvE:Ez→Nat
 | .mk k s _ _ _=>if k=7 then levelOf s else if k=6 then 7 else 8
def kidO (x:Ez) (least:Nat) (u:Option (List UInt8)):Option (List UInt8):=if least≤lvE x then u else zc (some [40]) (zc u (some [41]))
def prE:Nat→Ez→Option (List UInt8)
 | 0,_=>none
 | d+1,.mk k s n kids _ =>
  if YN k s n kids.length=true then
   if k=1 then tokO 2 n []
   else if k=2 then some (if n=0 then [102,97,108,115,101] else [116,114,117,101])
   else if k=3 then tokO 3 0 s
   else if k=4 then tokO 1 0 s
   else if k=5 then zc (tokO 1 0 s) (zc (some [40]) (zc (rowO (kids.map (prE d)) kids.length) (some [41])))
   else if k=11 then zc (some [110,101,119,32]) (zc (tokO 1 0 s) (zc (some [40]) (zc (rowO (kids.map (prE d)) kids.length) (some [41]))))
   else if k=10 then zc (some [91]) (zc (rowO (kids.map (prE d)) kids.length) (some [93]))
   else if k=6 then match kids with
    | a::_=>zc (some s) (kidO a 7 (prE d a))
    | _=>none
   else if k=7 then match kids with
    | a::b::_=>zc (kidO a (levelOf s) (prE d a)) (zc (some [32]) (zc (some s) (zc (some [32]) (kidO b (levelOf s+1) (prE d b)))))
    | _=>none
   else if k=8 then match kids with
    | a::b::_=>zc (kidO a 8 (prE d a)) (zc (some [91]) (zc (prE d b) (some [93])))
    | _=>none
   else if k=9 then match kids with
    | a::_=>zc (kidO a 8 (prE d a)) (zc (some [46]) (tokO 1 0 s))
    | _=>none
   else none
  else none
theorem zk.seq {w0:World} {r:Nat} {q q1:Option Nat} {t s:List UInt8} {w w1 w2:World} {R:Option (List UInt8)} {e:Ending} (h:zP r q w q1 w1) (h2:zk w0 r q1 (t++s) w1 R e w2):zk w0 r q t w (zc (some s) R) e w2:=by
 obtain ⟨z,y,o⟩:=h2;refine ⟨z,h.trans y,?_⟩;cases R with
 | none=>exact o
 | some u=>exact ⟨o.1,by rw [←List.append_assoc];exact o.2⟩
theorem zk.stop {w0:World} {r:Nat} {q q1:Option Nat} {t:List UInt8} {w w1:World} {R:Option (List UInt8)} {e:Ending} (h:zP r q w q1 w1) (he:e=zaK):zk w0 r q t w (zc none R) e w1:=⟨q1,h,he⟩
theorem zaQ (R:Option (List UInt8)):zc (some []) R=R:=by
 cases R <;> simp [zc]
theorem VV (a b c:Option (List UInt8)):zc (zc a b) c=zc a (zc b c):=by
 cases a <;> cases b <;> cases c <;> simp [zc]
def VW (l:List UInt8):Bool:=Lib.hasPrefix l [91]&&Lib.hasSuffix l [93]
def Xo (l:List UInt8):List UInt8:=(l.drop 1).take (l.length-2)
theorem xV {l:List UInt8} (h:VW l=true):2≤l.length:=by
 unfold VW Lib.hasPrefix Lib.hasSuffix at h
 rw [Bool.and_eq_true] at h;obtain ⟨o,s⟩:=h;obtain ⟨a,rfl⟩:=List.isPrefixOf_iff_prefix.1 o;obtain ⟨b,y⟩:=List.isSuffixOf_iff_suffix.1 s;cases a with
 | nil =>
  exfalso
  have e:=congrArg List.getLast? y
  simp at e
 | cons x xs=>simp
theorem XS (l:List UInt8) (h:2≤l.length):(Xo l).length+2=l.length:=by
 unfold Xo
 rw [List.length_take,List.length_drop];omega
def YP:Nat→List UInt8→List UInt8
 | 0,l=>l
 | f+1,l=>if VW l=true then YP f (Xo l) else l
def y8 (s:List UInt8):List UInt8:=YP s.length s
theorem zcr (f:Nat):∀l,(YP f l).length≤l.length:=by
 induction f with
 | zero=>intro l;simp [YP]
 | succ f ih =>
  intro l;rw [YP]
  split
  ·rename_i h
   have:=XS l (xV h)
   have:=ih (Xo l)
   omega
  ·exact Nat.le_refl _
theorem zaR (f:Nat):∀l,l.length≤f→YP (f+1) l=YP f l:=by
 induction f with
 | zero =>
  intro l o;rw [YP,YP];rw [if_neg (fun h=>by have:=xV h;omega)]
 | succ f ih =>
  intro l o;rw [YP];rw [show YP (f+1) l=if VW l=true then YP f (Xo l) else l from rfl]
  split
  ·rename_i h
   have:=XS l (xV h)
   exact ih _ (by omega)
  ·rfl
theorem QP {f:Nat} {l:List UInt8} (hl:l.length≤f):∀k,YP (f+k) l=YP f l
 | 0=>rfl
 | k+1=>(zaR (f+k) l (by omega)).trans (QP hl k)
theorem zaS {l:List UInt8} (h:VW l=true):y8 l=y8 (Xo l):=by
 have o:=xV h;have s:=XS l o
 unfold y8
 have e:l.length=(Xo l).length+1+1:=by omega
 rw [e,YP,if_pos h];exact QP (Nat.le_refl _) 1
theorem uL {l:List UInt8} (h:VW l=false):y8 l=l:=by
 unfold y8
 cases hl:l.length with
 | zero=>rfl
 | succ n=>rw [YP,if_neg (by rw [h];decide)]
def typeO (s:List UInt8):Option (List UInt8):=zc (some (s.take ((s.length-(y8 s).length) / 2))) (zc (tokO 1 0 (y8 s)) (some (s.drop (s.length-(s.length-(y8 s).length) / 2))))
theorem U2 (w0:World) (r:Nat) (q:Option Nat) (t s:List UInt8) (w:World) (hT:ZC w0) (h:zu w0 r q t w) (hs:s.length≤100000000) :
  Calls Tryz.prog 111 #[.pointer (some ⟨r,0,none⟩),.string (zb s)] w (zk w0 r q t w (typeO s)):=by
 obtain ⟨R,hR⟩:∃R,R=typeO s:=⟨_,rfl⟩;rw [←hR];have HR:Hid (R=typeO s):=hR;have HW:Hid (zu w0 r q t w):=h;have HT:Hid (ZC w0):=hT;have af:(y8 s).length≤s.length:=zcr _ _;clear h hT hR
 go_enter Tryz.func111,Tryz.ntmps111
 go_wp2_with fail
 go_loopw [4] (fun x wr=>∃o:List UInt8,x=.string (zb o)∧o.length≤s.length∧y8 o=y8 s∧wr=w) (fun x _=>(match x with | .string b=>b.size | _=>0))
 case atStart=>exact ⟨s,rfl,Nat.le_refl _,rfl,rfl⟩
 case round =>
  obtain ⟨o,rfl,ai,I,rfl⟩:=hrel;have aj:(zb o).size=o.length:=Zb o;have c1:=fun wx=>Tryz.strings_HasPrefix (zb o) ⟨#[91]⟩ wx
  have c2:=fun wx=>Tryz.strings_HasSuffix (zb o) ⟨#[93]⟩ wx (by omega)
  obtain ⟨P,hP⟩:∃P,P=Lib.hasPrefix o [91]:=⟨_,rfl⟩;obtain ⟨S,hS⟩:∃S,S=Lib.hasSuffix o [93]:=⟨_,rfl⟩;have V:∀wx,Calls Tryz.prog 140 #[.string (zb o),.string ⟨#[91]⟩] wx fun e w'=>e=.returned (.bool P)∧w'=wx:=fun wx=>by rw [hP];exact c1 wx
  have O:∀wx,Calls Tryz.prog 141 #[.string (zb o),.string ⟨#[93]⟩] wx fun e w'=>e=.returned (.bool S)∧w'=wx:=fun wx=>by rw [hS];exact c2 wx
  have ab:Hid (VW o=(P&&S)):=show _=_ by rw [hP,hS];rfl
  clear c1 c2 hP hS;have HN:Hid (o.length≤s.length):=ai;cases P with
  | true =>
   cases S with
   | true =>
    have aa:VW o=true:=ab.out;have h2:=xV aa;have ak:=XS o h2
    have al:∀W,(Instr.slice 9 (.string (zb o)) (some (.int .i64 1)) (some (.int .i64 ((o.length:Int)-1))) none).run Tryz.prog W=.ok (.string (zb (Xo o))) W:=fun W=>by
     have:=zbt W o 1 (o.length-2) (by omega)
     rw [show (((1:Nat):Int)+((o.length-2:Nat):Int))=(o.length:Int)-1 by omega] at this
     exact this
    have HI:Hid (y8 (Xo o)=y8 s):=(zaS aa).symm.trans I;have ad:(zb (Xo o)).size=(Xo o).length:=Zb _;clear aa I
    go_wp2_with (first
     | (go_at_call 140;refine (V _).mono ?_;rintro e w1 ⟨rfl,N⟩;obtain rfl:=N.symm)
     | (go_at_call 141;refine (O _).mono ?_;rintro e w1 ⟨rfl,N⟩;obtain rfl:=N.symm))
    exact ⟨⟨Xo o,rfl,by omega,HI.out,trivial⟩,by simp only [aj,ad];omega⟩
   | false =>
    have HI:Hid (o=y8 s):=show _=_ by rw [←I];exact (uL ab.out).symm
    clear I;obtain ⟨D,hD⟩:∃D,D=(s.length-o.length) / 2:=⟨_,rfl⟩;have Z:D≤s.length:=by omega
    have hq:((s.length:Int)-(o.length:Int)).tdiv 2=(D:Int):=by
     rw [show ((s.length:Int)-(o.length:Int))=((s.length-o.length:Nat):Int) by omega,hD]
     rfl
    have ag:∀W,(Instr.slice 9 (.string (zb s)) none (some (.int .i64 (D:Int))) none).run Tryz.prog W=.ok (.string (zb (s.take D))) W:=fun W=>qo W s D Z
    have ae:∀W,(Instr.slice 9 (.string (zb s)) (some (.int .i64 ((s.length:Int)-(D:Int)))) none none).run Tryz.prog W=.ok (.string (zb (s.drop (s.length-D)))) W:=fun W=>by
     have:=xQ W s (s.length-D) (by omega)
     rw [show (((s.length-D:Nat)):Int)=(s.length:Int)-(D:Int) by omega] at this
     exact this
    have Q:R=zc (some (s.take D)) (zc (tokO 1 0 o) (some (s.drop (s.length-D)))):=by rw [HR.out,hD,HI.out];rfl
    have G:Hid (R=zc (some (s.take D)) (zc (tokO 1 0 o) (some (s.drop (s.length-D))))):=Q;have K:=zt w0 r q t (s.take D) wr HW.out (by rw [List.length_take];omega)
    have ah:(zb s).size=s.length:=Zb s;clear hD Q HR HI af
    go_wp2_with (first
     | (go_at_call 140;refine (V _).mono ?_;rintro e w1 ⟨rfl,N⟩;obtain rfl:=N.symm)
     | (go_at_call 141;refine (O _).mono ?_;rintro e w1 ⟨rfl,N⟩;obtain rfl:=N.symm)
     | fail)
    refine K.mono ?_;clear K V O;rintro e w2 ⟨q2,z,rfl,J⟩;have cn:=ym w0 r q2 (t++s.take D) o w2 HT.out J (by omega)
    have Y:Hid (zP r q wr q2 w2):=z;clear z J;generalize tokO 1 0 o=X at *;go_wp2_with fail
    refine cn.mono ?_;clear cn;rintro e w3 ⟨q3,A,U⟩;have H:Hid (zP r q wr q3 w3):=Y.out.trans A;clear A;cases X with
    | none=>subst U;obtain rfl:R=none:=G.out;exact ⟨rfl,q3,H.out,rfl⟩
    | some u =>
     obtain ⟨rfl,L⟩:=U;have K:=zt w0 r q3 (t++s.take D++u) (s.drop (s.length-D)) w3 L (by rw [List.length_drop];omega)
     clear L;go_wp2_with fail
     refine K.mono ?_;clear K;rintro e w4 ⟨q4,y,rfl,T⟩;obtain rfl:R=some (s.take D++(u++s.drop (s.length-D))):=G.out;have HP:Hid (zk w0 r q t wr (some (s.take D++(u++s.drop (s.length-D)))) (.returned (.tuple #[])) w4):=⟨q4,H.out.trans y,rfl,by simpa only [List.append_assoc] using T⟩
     clear y T H Y HW G;go_wp2
     exact bodyPost_ret (v:=.tuple #[]) (by simp [results,Tryz.results111,go_sem]) rfl HP.out
  | false =>
   have HI:Hid (o=y8 s):=show _=_ by rw [←I];exact (uL (by rw [ab.out];rfl)).symm
   clear I;obtain ⟨D,hD⟩:∃D,D=(s.length-o.length) / 2:=⟨_,rfl⟩;have Z:D≤s.length:=by omega
   have hq:((s.length:Int)-(o.length:Int)).tdiv 2=(D:Int):=by
    rw [show ((s.length:Int)-(o.length:Int))=((s.length-o.length:Nat):Int) by omega,hD]
    rfl
   have ag:∀W,(Instr.slice 9 (.string (zb s)) none (some (.int .i64 (D:Int))) none).run Tryz.prog W=.ok (.string (zb (s.take D))) W:=fun W=>qo W s D Z
   have ae:∀W,(Instr.slice 9 (.string (zb s)) (some (.int .i64 ((s.length:Int)-(D:Int)))) none none).run Tryz.prog W=.ok (.string (zb (s.drop (s.length-D)))) W:=fun W=>by
    have:=xQ W s (s.length-D) (by omega)
    rw [show (((s.length-D:Nat)):Int)=(s.length:Int)-(D:Int) by omega] at this
    exact this
   have Q:R=zc (some (s.take D)) (zc (tokO 1 0 o) (some (s.drop (s.length-D)))):=by rw [HR.out,hD,HI.out];rfl
   have G:Hid (R=zc (some (s.take D)) (zc (tokO 1 0 o) (some (s.drop (s.length-D))))):=Q;have K:=zt w0 r q t (s.take D) wr HW.out (by rw [List.length_take];omega)
   have ah:(zb s).size=s.length:=Zb s;clear hD Q HR HI af
   go_wp2_with (first
    | (go_at_call 140;refine (V _).mono ?_;rintro e w1 ⟨rfl,N⟩;obtain rfl:=N.symm)
    | (go_at_call 141;refine (O _).mono ?_;rintro e w1 ⟨rfl,N⟩;obtain rfl:=N.symm)
    | fail)
   refine K.mono ?_;clear K V O;rintro e w2 ⟨q2,z,rfl,J⟩;have cn:=ym w0 r q2 (t++s.take D) o w2 HT.out J (by omega)
   have Y:Hid (zP r q wr q2 w2):=z;clear z J;generalize tokO 1 0 o=X at *;go_wp2_with fail
   refine cn.mono ?_;clear cn;rintro e w3 ⟨q3,A,U⟩;have H:Hid (zP r q wr q3 w3):=Y.out.trans A;clear A;cases X with
   | none=>subst U;obtain rfl:R=none:=G.out;exact ⟨rfl,q3,H.out,rfl⟩
   | some u =>
    obtain ⟨rfl,L⟩:=U;have K:=zt w0 r q3 (t++s.take D++u) (s.drop (s.length-D)) w3 L (by rw [List.length_drop];omega)
    clear L;go_wp2_with fail
    refine K.mono ?_;clear K;rintro e w4 ⟨q4,y,rfl,T⟩;obtain rfl:R=some (s.take D++(u++s.drop (s.length-D))):=G.out;have HP:Hid (zk w0 r q t wr (some (s.take D++(u++s.drop (s.length-D)))) (.returned (.tuple #[])) w4):=⟨q4,H.out.trans y,rfl,by simpa only [List.append_assoc] using T⟩
    clear y T H Y HW G;go_wp2
    exact bodyPost_ret (v:=.tuple #[]) (by simp [results,Tryz.results111,go_sem]) rfl HP.out
end Go.Proofs.YtpejpbbdgblbeaaGreatDoor
