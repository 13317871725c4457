import Derived.Test.YtpejpbbdgblbeaaGreatDoorMC8
import Derived.Test.YtpejpbbdgblbeaaGreatDoorShelf
namespace Go.Proofs.YtpejpbbdgblbeaaGreatDoor
open Go.RowKit Go.Shelf
set_option maxHeartbeats 16000000
set_option maxRecDepth 100000
def yQ (k:Int) (s:List UInt8) (n:Int) (m:Nat):Bool :=
 if k=1 then s==[]&&m==0
 else if k=2 then s==[]&&m==0&&(n==0||n==1)
 else if k=3 then n==0&&m==0
 else if k=4 then n==0&&m==0
 else if k=5 then n==0
 else if k=11 then n==0
 else if k=6 then n==0&&m==1&&(s==[45]||s==[33])
 else if k=7 then n==0&&m==2&&decide (0<levelOf s)
 else if k=8 then n==0&&m==2&&s==[]
 else if k=9 then n==0&&m==1
 else if k=10 then n==0&&decide (1≤m)&&s==[]
 else false
abbrev YD (k:Int) (s:List UInt8) (n:Int) (base:Option Addr) (m cap:Nat) (line:Int):Obj:=.cells #[.int .i64 k,.string (zb s),.int .i64 n,.slice base m cap,.int .i64 line] 45
abbrev yz (k:Int) (s:List UInt8) (n:Int) (base:Option Addr) (m cap:Nat) (line:Int):Value:=.agg #[.int .i64 k,.string (zb s),.int .i64 n,.slice base m cap,.int .i64 line]
theorem YK (s:List UInt8):levelOf s≤6:=by
 unfold levelOf
 cases h:levelsL.find? fun p=>decide (p.1=s) with
 | none=>simp
 | some p =>
  have:=List.mem_of_find?_eq_some h
  simp only [Option.map_some,Option.getD_some]
  revert this
  unfold levelsL
  simp only [List.mem_cons,List.not_mem_nil,or_false]
  rintro (rfl | rfl | rfl | rfl | rfl | rfl | rfl | rfl | rfl | rfl | rfl | rfl | rfl) <;> simp
theorem zp {w w2 w':World} (hb2:Below w.heap.size w w2) (h2:Below w2.heap.size w2 w'):Below w.heap.size w w':=hb2.trans (h2.mono hb2.size)
theorem ziE (s:List UInt8) (n:Int) (base:Option Addr) (m cap:Nat) (line:Int) (w:World) :
  Calls Tryz.prog 78 #[yz 1 s n base m cap line] w fun e w'=>e=.returned (.bool (s==[]&&m==0))∧Below w.heap.size w w':=by
 obtain ⟨w1,h⟩:∃w1,w1=w.alloc (YD 1 s n base m cap line):=⟨_,rfl⟩;have y:Below w.heap.size w w1:=by rw [h];exact (Below.refl _ w).alloc (Nat.le_refl _) _
 have o:w1.heap[w.heap.size]?=some (.cells #[.int .i64 1,.string (zb s),.int .i64 n,.slice base m cap,.int .i64 line] 45 (0,0)):=by rw [h];exact World.alloc_heap_new w _
 have J:w1.cell? ⟨w.heap.size,0,none⟩=some (.int .i64 1):=by simp only [World.cell?,o];rfl
 have c1:w1.cell? ⟨w.heap.size,1,none⟩=some (.string (zb s)):=by simp only [World.cell?,o];rfl
 have c2:w1.cell? ⟨w.heap.size,2,none⟩=some (.int .i64 n):=by simp only [World.cell?,o];rfl
 have I:w1.cell? ⟨w.heap.size,3,none⟩=some (.slice base m cap):=by simp only [World.cell?,o];rfl
 have z:Hid (Below w.heap.size w w1):=y;have A:=h.symm;clear y o h
 by_cases hs:s=[]
 ·subst hs
  by_cases hm0:m=0
  ·subst hm0
   go_enter Tryz.func78,Tryz.ntmps78
   go_wp2
   exact bodyPost_ret (v:=.bool true) (by simp [results,Tryz.results78,go_sem]) rfl ⟨by simp_all,z.out⟩
  ·have D:((m:Int)==0)=false:=by rw [beq_eq_false_iff_ne];omega
   have H:(m==0)=false:=by rw [beq_eq_false_iff_ne];exact hm0
   go_enter Tryz.func78,Tryz.ntmps78
   go_wp2
   exact bodyPost_ret (v:=.bool false) (by simp [results,Tryz.results78,go_sem]) rfl ⟨by simp_all,z.out⟩
 ·have G:(s==[])=false:=by simpa using hs
  go_enter Tryz.func78,Tryz.ntmps78
  go_wp2
  exact bodyPost_ret (v:=.bool false) (by simp [results,Tryz.results78,go_sem]) rfl ⟨by simp_all,z.out⟩
theorem ziF (s:List UInt8) (n:Int) (base:Option Addr) (m cap:Nat) (line:Int) (w:World) :
  Calls Tryz.prog 78 #[yz 2 s n base m cap line] w fun e w'=>e=.returned (.bool (s==[]&&m==0&&(n==0||n==1)))∧Below w.heap.size w w':=by
 obtain ⟨w1,h⟩:∃w1,w1=w.alloc (YD 2 s n base m cap line):=⟨_,rfl⟩;have z:Below w.heap.size w w1:=by rw [h];exact (Below.refl _ w).alloc (Nat.le_refl _) _
 have y:w1.heap[w.heap.size]?=some (.cells #[.int .i64 2,.string (zb s),.int .i64 n,.slice base m cap,.int .i64 line] 45 (0,0)):=by rw [h];exact World.alloc_heap_new w _
 have N:w1.cell? ⟨w.heap.size,0,none⟩=some (.int .i64 2):=by simp only [World.cell?,y];rfl
 have c1:w1.cell? ⟨w.heap.size,1,none⟩=some (.string (zb s)):=by simp only [World.cell?,y];rfl
 have c2:w1.cell? ⟨w.heap.size,2,none⟩=some (.int .i64 n):=by simp only [World.cell?,y];rfl
 have L:w1.cell? ⟨w.heap.size,3,none⟩=some (.slice base m cap):=by simp only [World.cell?,y];rfl
 have o:Hid (Below w.heap.size w w1):=z;have A:=h.symm;clear z y h
 by_cases hs:s=[]
 ·subst hs
  by_cases hm0:m=0
  ·subst hm0
   by_cases hn:n=0
   ·subst hn
    go_enter Tryz.func78,Tryz.ntmps78
    go_wp2
    exact bodyPost_ret (v:=.bool true) (by simp [results,Tryz.results78,go_sem]) rfl ⟨by simp_all,o.out⟩
   ·have D:(n==0)=false:=by rw [beq_eq_false_iff_ne];exact hn
    by_cases hn2:n=1
    ·subst hn2
     go_enter Tryz.func78,Tryz.ntmps78
     go_wp2
     exact bodyPost_ret (v:=.bool true) (by simp [results,Tryz.results78,go_sem]) rfl ⟨by simp_all,o.out⟩
    ·have G:(n==1)=false:=by rw [beq_eq_false_iff_ne];exact hn2
     go_enter Tryz.func78,Tryz.ntmps78
     go_wp2
     exact bodyPost_ret (v:=.bool false) (by simp [results,Tryz.results78,go_sem]) rfl ⟨by simp_all,o.out⟩
  ·have H:((m:Int)==0)=false:=by rw [beq_eq_false_iff_ne];omega
   have J:(m==0)=false:=by rw [beq_eq_false_iff_ne];exact hm0
   go_enter Tryz.func78,Tryz.ntmps78
   go_wp2
   exact bodyPost_ret (v:=.bool false) (by simp [results,Tryz.results78,go_sem]) rfl ⟨by simp_all,o.out⟩
 ·have I:(s==[])=false:=by simpa using hs
  go_enter Tryz.func78,Tryz.ntmps78
  go_wp2
  exact bodyPost_ret (v:=.bool false) (by simp [results,Tryz.results78,go_sem]) rfl ⟨by simp_all,o.out⟩
theorem ziG (s:List UInt8) (n:Int) (base:Option Addr) (m cap:Nat) (line:Int) (w:World) :
  Calls Tryz.prog 78 #[yz 3 s n base m cap line] w fun e w'=>e=.returned (.bool (n==0&&m==0))∧Below w.heap.size w w':=by
 obtain ⟨w1,h⟩:∃w1,w1=w.alloc (YD 3 s n base m cap line):=⟨_,rfl⟩;have y:Below w.heap.size w w1:=by rw [h];exact (Below.refl _ w).alloc (Nat.le_refl _) _
 have o:w1.heap[w.heap.size]?=some (.cells #[.int .i64 3,.string (zb s),.int .i64 n,.slice base m cap,.int .i64 line] 45 (0,0)):=by rw [h];exact World.alloc_heap_new w _
 have J:w1.cell? ⟨w.heap.size,0,none⟩=some (.int .i64 3):=by simp only [World.cell?,o];rfl
 have c1:w1.cell? ⟨w.heap.size,1,none⟩=some (.string (zb s)):=by simp only [World.cell?,o];rfl
 have c2:w1.cell? ⟨w.heap.size,2,none⟩=some (.int .i64 n):=by simp only [World.cell?,o];rfl
 have I:w1.cell? ⟨w.heap.size,3,none⟩=some (.slice base m cap):=by simp only [World.cell?,o];rfl
 have z:Hid (Below w.heap.size w w1):=y;have A:=h.symm;clear y o h
 by_cases hn:n=0
 ·subst hn
  by_cases hm0:m=0
  ·subst hm0
   go_enter Tryz.func78,Tryz.ntmps78
   go_wp2
   exact bodyPost_ret (v:=.bool true) (by simp [results,Tryz.results78,go_sem]) rfl ⟨by simp_all,z.out⟩
  ·have G:((m:Int)==0)=false:=by rw [beq_eq_false_iff_ne];omega
   have H:(m==0)=false:=by rw [beq_eq_false_iff_ne];exact hm0
   go_enter Tryz.func78,Tryz.ntmps78
   go_wp2
   exact bodyPost_ret (v:=.bool false) (by simp [results,Tryz.results78,go_sem]) rfl ⟨by simp_all,z.out⟩
 ·have D:(n==0)=false:=by rw [beq_eq_false_iff_ne];exact hn
  go_enter Tryz.func78,Tryz.ntmps78
  go_wp2
  exact bodyPost_ret (v:=.bool false) (by simp [results,Tryz.results78,go_sem]) rfl ⟨by simp_all,z.out⟩
theorem ziH (s:List UInt8) (n:Int) (base:Option Addr) (m cap:Nat) (line:Int) (w:World) :
  Calls Tryz.prog 78 #[yz 4 s n base m cap line] w fun e w'=>e=.returned (.bool (n==0&&m==0))∧Below w.heap.size w w':=by
 obtain ⟨w1,h⟩:∃w1,w1=w.alloc (YD 4 s n base m cap line):=⟨_,rfl⟩;have y:Below w.heap.size w w1:=by rw [h];exact (Below.refl _ w).alloc (Nat.le_refl _) _
 have o:w1.heap[w.heap.size]?=some (.cells #[.int .i64 4,.string (zb s),.int .i64 n,.slice base m cap,.int .i64 line] 45 (0,0)):=by rw [h];exact World.alloc_heap_new w _
 have J:w1.cell? ⟨w.heap.size,0,none⟩=some (.int .i64 4):=by simp only [World.cell?,o];rfl
 have c1:w1.cell? ⟨w.heap.size,1,none⟩=some (.string (zb s)):=by simp only [World.cell?,o];rfl
 have c2:w1.cell? ⟨w.heap.size,2,none⟩=some (.int .i64 n):=by simp only [World.cell?,o];rfl
 have I:w1.cell? ⟨w.heap.size,3,none⟩=some (.slice base m cap):=by simp only [World.cell?,o];rfl
 have z:Hid (Below w.heap.size w w1):=y;have A:=h.symm;clear y o h
 by_cases hn:n=0
 ·subst hn
  by_cases hm0:m=0
  ·subst hm0
   go_enter Tryz.func78,Tryz.ntmps78
   go_wp2
   exact bodyPost_ret (v:=.bool true) (by simp [results,Tryz.results78,go_sem]) rfl ⟨by simp_all,z.out⟩
  ·have G:((m:Int)==0)=false:=by rw [beq_eq_false_iff_ne];omega
   have H:(m==0)=false:=by rw [beq_eq_false_iff_ne];exact hm0
   go_enter Tryz.func78,Tryz.ntmps78
   go_wp2
   exact bodyPost_ret (v:=.bool false) (by simp [results,Tryz.results78,go_sem]) rfl ⟨by simp_all,z.out⟩
 ·have D:(n==0)=false:=by rw [beq_eq_false_iff_ne];exact hn
  go_enter Tryz.func78,Tryz.ntmps78
  go_wp2
  exact bodyPost_ret (v:=.bool false) (by simp [results,Tryz.results78,go_sem]) rfl ⟨by simp_all,z.out⟩
theorem ziI (s:List UInt8) (n:Int) (base:Option Addr) (m cap:Nat) (line:Int) (w:World) :
  Calls Tryz.prog 78 #[yz 5 s n base m cap line] w fun e w'=>e=.returned (.bool (n==0))∧Below w.heap.size w w':=by
 obtain ⟨w1,h⟩:∃w1,w1=w.alloc (YD 5 s n base m cap line):=⟨_,rfl⟩;have y:Below w.heap.size w w1:=by rw [h];exact (Below.refl _ w).alloc (Nat.le_refl _) _
 have o:w1.heap[w.heap.size]?=some (.cells #[.int .i64 5,.string (zb s),.int .i64 n,.slice base m cap,.int .i64 line] 45 (0,0)):=by rw [h];exact World.alloc_heap_new w _
 have H:w1.cell? ⟨w.heap.size,0,none⟩=some (.int .i64 5):=by simp only [World.cell?,o];rfl
 have c1:w1.cell? ⟨w.heap.size,1,none⟩=some (.string (zb s)):=by simp only [World.cell?,o];rfl
 have c2:w1.cell? ⟨w.heap.size,2,none⟩=some (.int .i64 n):=by simp only [World.cell?,o];rfl
 have G:w1.cell? ⟨w.heap.size,3,none⟩=some (.slice base m cap):=by simp only [World.cell?,o];rfl
 have z:Hid (Below w.heap.size w w1):=y;have A:=h.symm;clear y o h
 by_cases hn:n=0
 ·subst hn
  go_enter Tryz.func78,Tryz.ntmps78
  go_wp2
  exact bodyPost_ret (v:=.bool true) (by simp [results,Tryz.results78,go_sem]) rfl ⟨by simp_all,z.out⟩
 ·have D:(n==0)=false:=by rw [beq_eq_false_iff_ne];exact hn
  go_enter Tryz.func78,Tryz.ntmps78
  go_wp2
  exact bodyPost_ret (v:=.bool false) (by simp [results,Tryz.results78,go_sem]) rfl ⟨by simp_all,z.out⟩
theorem zhM (s:List UInt8) (n:Int) (base:Option Addr) (m cap:Nat) (line:Int) (w:World) :
  Calls Tryz.prog 78 #[yz 11 s n base m cap line] w fun e w'=>e=.returned (.bool (n==0))∧Below w.heap.size w w':=by
 obtain ⟨w1,h⟩:∃w1,w1=w.alloc (YD 11 s n base m cap line):=⟨_,rfl⟩;have y:Below w.heap.size w w1:=by rw [h];exact (Below.refl _ w).alloc (Nat.le_refl _) _
 have o:w1.heap[w.heap.size]?=some (.cells #[.int .i64 11,.string (zb s),.int .i64 n,.slice base m cap,.int .i64 line] 45 (0,0)):=by rw [h];exact World.alloc_heap_new w _
 have H:w1.cell? ⟨w.heap.size,0,none⟩=some (.int .i64 11):=by simp only [World.cell?,o];rfl
 have c1:w1.cell? ⟨w.heap.size,1,none⟩=some (.string (zb s)):=by simp only [World.cell?,o];rfl
 have c2:w1.cell? ⟨w.heap.size,2,none⟩=some (.int .i64 n):=by simp only [World.cell?,o];rfl
 have G:w1.cell? ⟨w.heap.size,3,none⟩=some (.slice base m cap):=by simp only [World.cell?,o];rfl
 have z:Hid (Below w.heap.size w w1):=y;have A:=h.symm;clear y o h
 by_cases hn:n=0
 ·subst hn
  go_enter Tryz.func78,Tryz.ntmps78
  go_wp2
  exact bodyPost_ret (v:=.bool true) (by simp [results,Tryz.results78,go_sem]) rfl ⟨by simp_all,z.out⟩
 ·have D:(n==0)=false:=by rw [beq_eq_false_iff_ne];exact hn
  go_enter Tryz.func78,Tryz.ntmps78
  go_wp2
  exact bodyPost_ret (v:=.bool false) (by simp [results,Tryz.results78,go_sem]) rfl ⟨by simp_all,z.out⟩
theorem ziJ (s:List UInt8) (n:Int) (base:Option Addr) (m cap:Nat) (line:Int) (w:World) :
  Calls Tryz.prog 78 #[yz 6 s n base m cap line] w fun e w'=>e=.returned (.bool (n==0&&m==1&&(s==[45]||s==[33])))∧Below w.heap.size w w':=by
 obtain ⟨w1,h⟩:∃w1,w1=w.alloc (YD 6 s n base m cap line):=⟨_,rfl⟩;have o:Below w.heap.size w w1:=by rw [h];exact (Below.refl _ w).alloc (Nat.le_refl _) _
 have y:w1.heap[w.heap.size]?=some (.cells #[.int .i64 6,.string (zb s),.int .i64 n,.slice base m cap,.int .i64 line] 45 (0,0)):=by rw [h];exact World.alloc_heap_new w _
 have O:w1.cell? ⟨w.heap.size,0,none⟩=some (.int .i64 6):=by simp only [World.cell?,y];rfl
 have c1:w1.cell? ⟨w.heap.size,1,none⟩=some (.string (zb s)):=by simp only [World.cell?,y];rfl
 have c2:w1.cell? ⟨w.heap.size,2,none⟩=some (.int .i64 n):=by simp only [World.cell?,y];rfl
 have N:w1.cell? ⟨w.heap.size,3,none⟩=some (.slice base m cap):=by simp only [World.cell?,y];rfl
 have z:Hid (Below w.heap.size w w1):=o;have G:=h.symm;clear o y h
 by_cases hn:n=0
 ·subst hn
  by_cases hm1:m=1
  ·subst hm1
   have A:=Vh s w1;obtain ⟨R,D⟩:∃R,R=(s==[45]||s==[33]):=⟨_,rfl⟩;rw [←D] at A ⊢;clear D
   go_enter Tryz.func78,Tryz.ntmps78
   go_wp2_with fail
   refine A.mono ?_;rintro e L ⟨rfl,rfl⟩;clear A;go_wp2
   exact bodyPost_ret (v:=.bool R) (by simp [results,Tryz.results78,go_sem]) rfl ⟨by simp_all,z.out⟩
  ·have I:((m:Int)==1)=false:=by rw [beq_eq_false_iff_ne];omega
   have J:(m==1)=false:=by rw [beq_eq_false_iff_ne];exact hm1
   go_enter Tryz.func78,Tryz.ntmps78
   go_wp2
   exact bodyPost_ret (v:=.bool false) (by simp [results,Tryz.results78,go_sem]) rfl ⟨by simp_all,z.out⟩
 ·have H:(n==0)=false:=by rw [beq_eq_false_iff_ne];exact hn
  go_enter Tryz.func78,Tryz.ntmps78
  go_wp2
  exact bodyPost_ret (v:=.bool false) (by simp [results,Tryz.results78,go_sem]) rfl ⟨by simp_all,z.out⟩
theorem ziK (s:List UInt8) (n:Int) (base:Option Addr) (m cap:Nat) (line:Int) (w:World) (ht:ZC w) :
  Calls Tryz.prog 78 #[yz 7 s n base m cap line] w fun e w'=>e=.returned (.bool (n==0&&m==2&&decide (0<levelOf s)))∧Below w.heap.size w w':=by
 obtain ⟨w1,h⟩:∃w1,w1=w.alloc (YD 7 s n base m cap line):=⟨_,rfl⟩;have z:Below w.heap.size w w1:=by rw [h];exact (Below.refl _ w).alloc (Nat.le_refl _) _
 have A:w1.heap[w.heap.size]?=some (.cells #[.int .i64 7,.string (zb s),.int .i64 n,.slice base m cap,.int .i64 line] 45 (0,0)):=by rw [h];exact World.alloc_heap_new w _
 have V:w1.cell? ⟨w.heap.size,0,none⟩=some (.int .i64 7):=by simp only [World.cell?,A];rfl
 have c1:w1.cell? ⟨w.heap.size,1,none⟩=some (.string (zb s)):=by simp only [World.cell?,A];rfl
 have c2:w1.cell? ⟨w.heap.size,2,none⟩=some (.int .i64 n):=by simp only [World.cell?,A];rfl
 have U:w1.cell? ⟨w.heap.size,3,none⟩=some (.slice base m cap):=by simp only [World.cell?,A];rfl
 have H:=Xz s w1 (fun j v hj=>by rw [h];exact zl (ht j v hj) _)
 have G:Hid (Below w.heap.size w w1):=z;have I:=h.symm;clear z A h ht
 by_cases hn:n=0
 ·subst hn
  by_cases hm2:m=2
  ·subst hm2
   obtain ⟨L,D⟩:∃L,L=levelOf s:=⟨_,rfl⟩;rw [←D] at H ⊢;have J:L≤6:=by rw [D];exact YK s
   clear D
   go_enter Tryz.func78,Tryz.ntmps78
   go_wp2_with fail
   refine H.mono ?_;rintro e O ⟨rfl,y⟩;clear H;have o:Hid (Below w.heap.size w O):=zp G.out y;clear y
   by_cases hL0:0<L
   ·have Q:(0:Int)<(L:Int):=by omega
    go_wp2
    exact bodyPost_ret (v:=.bool true) (by simp [results,Tryz.results78,go_sem]) rfl ⟨by simp_all,o.out⟩
   ·obtain rfl:L=0:=by omega
    go_wp2
    exact bodyPost_ret (v:=.bool false) (by simp [results,Tryz.results78,go_sem]) rfl ⟨by simp_all,o.out⟩
  ·have R:((m:Int)==2)=false:=by rw [beq_eq_false_iff_ne];omega
   have T:(m==2)=false:=by rw [beq_eq_false_iff_ne];exact hm2
   go_enter Tryz.func78,Tryz.ntmps78
   go_wp2
   exact bodyPost_ret (v:=.bool false) (by simp [results,Tryz.results78,go_sem]) rfl ⟨by simp_all,G.out⟩
 ·have N:(n==0)=false:=by rw [beq_eq_false_iff_ne];exact hn
  go_enter Tryz.func78,Tryz.ntmps78
  go_wp2
  exact bodyPost_ret (v:=.bool false) (by simp [results,Tryz.results78,go_sem]) rfl ⟨by simp_all,G.out⟩
theorem ziL (s:List UInt8) (n:Int) (base:Option Addr) (m cap:Nat) (line:Int) (w:World) :
  Calls Tryz.prog 78 #[yz 8 s n base m cap line] w fun e w'=>e=.returned (.bool (n==0&&m==2&&s==[]))∧Below w.heap.size w w':=by
 obtain ⟨w1,h⟩:∃w1,w1=w.alloc (YD 8 s n base m cap line):=⟨_,rfl⟩;have y:Below w.heap.size w w1:=by rw [h];exact (Below.refl _ w).alloc (Nat.le_refl _) _
 have o:w1.heap[w.heap.size]?=some (.cells #[.int .i64 8,.string (zb s),.int .i64 n,.slice base m cap,.int .i64 line] 45 (0,0)):=by rw [h];exact World.alloc_heap_new w _
 have L:w1.cell? ⟨w.heap.size,0,none⟩=some (.int .i64 8):=by simp only [World.cell?,o];rfl
 have c1:w1.cell? ⟨w.heap.size,1,none⟩=some (.string (zb s)):=by simp only [World.cell?,o];rfl
 have c2:w1.cell? ⟨w.heap.size,2,none⟩=some (.int .i64 n):=by simp only [World.cell?,o];rfl
 have J:w1.cell? ⟨w.heap.size,3,none⟩=some (.slice base m cap):=by simp only [World.cell?,o];rfl
 have z:Hid (Below w.heap.size w w1):=y;have A:=h.symm;clear y o h
 by_cases hn:n=0
 ·subst hn
  by_cases hm2:m=2
  ·subst hm2
   by_cases hs:s=[]
   ·subst hs
    go_enter Tryz.func78,Tryz.ntmps78
    go_wp2
    exact bodyPost_ret (v:=.bool true) (by simp [results,Tryz.results78,go_sem]) rfl ⟨by simp_all,z.out⟩
   ·have H:(s==[])=false:=by simpa using hs
    go_enter Tryz.func78,Tryz.ntmps78
    go_wp2
    exact bodyPost_ret (v:=.bool false) (by simp [results,Tryz.results78,go_sem]) rfl ⟨by simp_all,z.out⟩
  ·have G:((m:Int)==2)=false:=by rw [beq_eq_false_iff_ne];omega
   have I:(m==2)=false:=by rw [beq_eq_false_iff_ne];exact hm2
   go_enter Tryz.func78,Tryz.ntmps78
   go_wp2
   exact bodyPost_ret (v:=.bool false) (by simp [results,Tryz.results78,go_sem]) rfl ⟨by simp_all,z.out⟩
 ·have D:(n==0)=false:=by rw [beq_eq_false_iff_ne];exact hn
  go_enter Tryz.func78,Tryz.ntmps78
  go_wp2
  exact bodyPost_ret (v:=.bool false) (by simp [results,Tryz.results78,go_sem]) rfl ⟨by simp_all,z.out⟩
theorem ziM (s:List UInt8) (n:Int) (base:Option Addr) (m cap:Nat) (line:Int) (w:World) :
  Calls Tryz.prog 78 #[yz 9 s n base m cap line] w fun e w'=>e=.returned (.bool (n==0&&m==1))∧Below w.heap.size w w':=by
 obtain ⟨w1,h⟩:∃w1,w1=w.alloc (YD 9 s n base m cap line):=⟨_,rfl⟩;have y:Below w.heap.size w w1:=by rw [h];exact (Below.refl _ w).alloc (Nat.le_refl _) _
 have o:w1.heap[w.heap.size]?=some (.cells #[.int .i64 9,.string (zb s),.int .i64 n,.slice base m cap,.int .i64 line] 45 (0,0)):=by rw [h];exact World.alloc_heap_new w _
 have J:w1.cell? ⟨w.heap.size,0,none⟩=some (.int .i64 9):=by simp only [World.cell?,o];rfl
 have c1:w1.cell? ⟨w.heap.size,1,none⟩=some (.string (zb s)):=by simp only [World.cell?,o];rfl
 have c2:w1.cell? ⟨w.heap.size,2,none⟩=some (.int .i64 n):=by simp only [World.cell?,o];rfl
 have I:w1.cell? ⟨w.heap.size,3,none⟩=some (.slice base m cap):=by simp only [World.cell?,o];rfl
 have z:Hid (Below w.heap.size w w1):=y;have A:=h.symm;clear y o h
 by_cases hn:n=0
 ·subst hn
  by_cases hm1:m=1
  ·subst hm1
   go_enter Tryz.func78,Tryz.ntmps78
   go_wp2
   exact bodyPost_ret (v:=.bool true) (by simp [results,Tryz.results78,go_sem]) rfl ⟨by simp_all,z.out⟩
  ·have G:((m:Int)==1)=false:=by rw [beq_eq_false_iff_ne];omega
   have H:(m==1)=false:=by rw [beq_eq_false_iff_ne];exact hm1
   go_enter Tryz.func78,Tryz.ntmps78
   go_wp2
   exact bodyPost_ret (v:=.bool false) (by simp [results,Tryz.results78,go_sem]) rfl ⟨by simp_all,z.out⟩
 ·have D:(n==0)=false:=by rw [beq_eq_false_iff_ne];exact hn
  go_enter Tryz.func78,Tryz.ntmps78
  go_wp2
  exact bodyPost_ret (v:=.bool false) (by simp [results,Tryz.results78,go_sem]) rfl ⟨by simp_all,z.out⟩
theorem zhN (s:List UInt8) (n:Int) (base:Option Addr) (m cap:Nat) (line:Int) (w:World) :
  Calls Tryz.prog 78 #[yz 10 s n base m cap line] w fun e w'=>e=.returned (.bool (n==0&&decide (1≤m)&&s==[]))∧Below w.heap.size w w':=by
 obtain ⟨w1,h⟩:∃w1,w1=w.alloc (YD 10 s n base m cap line):=⟨_,rfl⟩;have y:Below w.heap.size w w1:=by rw [h];exact (Below.refl _ w).alloc (Nat.le_refl _) _
 have o:w1.heap[w.heap.size]?=some (.cells #[.int .i64 10,.string (zb s),.int .i64 n,.slice base m cap,.int .i64 line] 45 (0,0)):=by rw [h];exact World.alloc_heap_new w _
 have J:w1.cell? ⟨w.heap.size,0,none⟩=some (.int .i64 10):=by simp only [World.cell?,o];rfl
 have c1:w1.cell? ⟨w.heap.size,1,none⟩=some (.string (zb s)):=by simp only [World.cell?,o];rfl
 have c2:w1.cell? ⟨w.heap.size,2,none⟩=some (.int .i64 n):=by simp only [World.cell?,o];rfl
 have I:w1.cell? ⟨w.heap.size,3,none⟩=some (.slice base m cap):=by simp only [World.cell?,o];rfl
 have z:Hid (Below w.heap.size w w1):=y;have A:=h.symm;clear y o h
 by_cases hn:n=0
 ·subst hn
  by_cases hm1:1≤m
  ·have G:(1:Int)≤(m:Int):=by omega
   by_cases hs:s=[]
   ·subst hs
    go_enter Tryz.func78,Tryz.ntmps78
    go_wp2
    exact bodyPost_ret (v:=.bool true) (by simp [results,Tryz.results78,go_sem]) rfl ⟨by simp_all,z.out⟩
   ·have H:(s==[])=false:=by simpa using hs
    go_enter Tryz.func78,Tryz.ntmps78
    go_wp2
    exact bodyPost_ret (v:=.bool false) (by simp [results,Tryz.results78,go_sem]) rfl ⟨by simp_all,z.out⟩
  ·obtain rfl:m=0:=by omega
   go_enter Tryz.func78,Tryz.ntmps78
   go_wp2
   exact bodyPost_ret (v:=.bool false) (by simp [results,Tryz.results78,go_sem]) rfl ⟨by simp_all,z.out⟩
 ·have D:(n==0)=false:=by rw [beq_eq_false_iff_ne];exact hn
  go_enter Tryz.func78,Tryz.ntmps78
  go_wp2
  exact bodyPost_ret (v:=.bool false) (by simp [results,Tryz.results78,go_sem]) rfl ⟨by simp_all,z.out⟩
theorem zhO (k:Int) (s:List UInt8) (n:Int) (base:Option Addr) (m cap:Nat) (line:Int) (w:World) (h1:k≠1) (h2:k≠2) (h3:k≠3) (h4:k≠4) (h5:k≠5) (h11:k≠11) (h6:k≠6) (h7:k≠7) (h8:k≠8) (h9:k≠9) (h10:k≠10) :
  Calls Tryz.prog 78 #[yz k s n base m cap line] w fun e w'=>e=.returned (.bool false)∧Below w.heap.size w w':=by
 have o:Hid (Below w.heap.size w (w.alloc (YD k s n base m cap line))):=show Below _ _ _ from (Below.refl _ w).alloc (Nat.le_refl _) _
 have A:(k==1)=false:=by rw [beq_eq_false_iff_ne];exact h1
 have J:(k==2)=false:=by rw [beq_eq_false_iff_ne];exact h2
 have G:(k==3)=false:=by rw [beq_eq_false_iff_ne];exact h3
 have I:(k==4)=false:=by rw [beq_eq_false_iff_ne];exact h4
 have z:(k==5)=false:=by rw [beq_eq_false_iff_ne];exact h5
 have y:(k==11)=false:=by rw [beq_eq_false_iff_ne];exact h11
 have H:(k==6)=false:=by rw [beq_eq_false_iff_ne];exact h6
 have N:(k==7)=false:=by rw [beq_eq_false_iff_ne];exact h7
 have D:(k==8)=false:=by rw [beq_eq_false_iff_ne];exact h8
 have L:(k==9)=false:=by rw [beq_eq_false_iff_ne];exact h9
 have h:(k==10)=false:=by rw [beq_eq_false_iff_ne];exact h10
 clear h1 h2 h3 h4 h5 h11 h6 h7 h8 h9 h10
 go_enter Tryz.func78,Tryz.ntmps78
 go_wp2
 exact bodyPost_ret (v:=.bool false) (by simp [results,Tryz.results78,go_sem]) rfl ⟨rfl,o.out⟩
theorem ZT (k:Int) (s:List UInt8) (n:Int) (base:Option Addr) (m cap:Nat) (line:Int) (w:World) (ht:ZC w) :
  Calls Tryz.prog 78 #[yz k s n base m cap line] w fun e w'=>e=.returned (.bool (yQ k s n m))∧Below w.heap.size w w':=by
 unfold yQ
 by_cases h1:k=1
 ·subst h1;exact ziE s n base m cap line w
 rw [if_neg h1]
 by_cases h2:k=2
 ·subst h2;exact ziF s n base m cap line w
 rw [if_neg h2]
 by_cases h3:k=3
 ·subst h3;exact ziG s n base m cap line w
 rw [if_neg h3]
 by_cases h4:k=4
 ·subst h4;exact ziH s n base m cap line w
 rw [if_neg h4]
 by_cases h5:k=5
 ·subst h5;exact ziI s n base m cap line w
 rw [if_neg h5]
 by_cases h11:k=11
 ·subst h11;exact zhM s n base m cap line w
 rw [if_neg h11]
 by_cases h6:k=6
 ·subst h6;exact ziJ s n base m cap line w
 rw [if_neg h6]
 by_cases h7:k=7
 ·subst h7;exact ziK s n base m cap line w ht
 rw [if_neg h7]
 by_cases h8:k=8
 ·subst h8;exact ziL s n base m cap line w
 rw [if_neg h8]
 by_cases h9:k=9
 ·subst h9;exact ziM s n base m cap line w
 rw [if_neg h9]
 by_cases h10:k=10
 ·subst h10;exact zhN s n base m cap line w
 rw [if_neg h10];exact zhO k s n base m cap line w h1 h2 h3 h4 h5 h11 h6 h7 h8 h9 h10
inductive Ez where
 | mk (k:Int) (s:List UInt8) (n:Int) (kids:List Ez) (line:Int)
inductive Zy (B:Nat) (w:World):Ez→Value→Prop where
 | mk (k:Int) (s:List UInt8) (n:Int) (kids:List Ez) (line:Int) (base:Option Addr) (cap b o:Nat) (us:List (List Value)) (hs:s.length≤100000000) (hn0:-9223372036854775808≤n) (hn1:n≤9223372036854775807)
   (hbase:kids≠[]→base=some ⟨b,o,none⟩∧b<B∧b<w.heap.size) (hlen:us.length=kids.length) (hc:kids.length≤cap) (hm:cap≤maxLen)
   (hcell:∀j u,us.flatten[j]?=some u→w.cell? ⟨b,o+j,none⟩=some u) (hfive:∀c∈us,c.length=5)
   (hk:∀(j:Nat) (x:Ez) (c:List Value),kids[j]?=some x→us[j]?=some c→Zy B w x (.agg c.toArray)) :
   Zy B w (.mk k s n kids line) (yz k s n base kids.length cap line)
theorem Zy.kept {B:Nat} {w w':World} {x:Ez} {v:Value} (h:Zy B w x v) (hb:Below B w w'):Zy B w' x v:=by
 induction h with
 | mk k s n kids line base cap b o us hs hn0 hn1 hbase hlen hc hm hcell hfive _ ih =>
  refine .mk k s n kids line base cap b o us hs hn0 hn1 (fun h=>⟨(hbase h).1,(hbase h).2.1,Nat.lt_of_lt_of_le (hbase h).2.2 hb.size⟩) hlen hc hm (fun j u hj=>?_) hfive ih
  have y:kids≠[]:=by
   rintro rfl
   have:us=[]:=List.eq_nil_of_length_eq_zero hlen
   subst this
   simp at hj
  rw [World.cell?_of_block (hb.block b (hbase y).2.1)];exact hcell j u hj
def zc (a b:Option (List UInt8)):Option (List UInt8):=match a with
 | none=>none
 | some s=>match b with
  | none=>none
  | some u=>some (s++u)
def rowO (l:List (Option (List UInt8))):Nat→Option (List UInt8)
 | 0=>some []
 | i+1=>zc (rowO l i) (zc (some (if i=0 then [] else [44,32])) ((l[i]?).getD none))
def X7:Ez→Nat
 | .mk k s _ _ _=>if k=7 then levelOf s else if k=6 then 7 else 8
def kidO (x:Ez) (least:Nat) (u:Option (List UInt8)):Option (List UInt8):=if least≤X7 x then u else zc (some [40]) (zc u (some [41]))
def prE:Nat→Ez→Option (List UInt8)
 | 0,_=>none
 | d+1,.mk k s n kids _ =>
  if yQ k s n kids.length=true then
   if k=1 then tokO 2 n []
   else if k=2 then some (if n=0 then [102,97,108,115,101] else [116,114,117,101])
   else if k=3 then tokO 3 0 s
   else if k=4 then tokO 1 0 s
   else if k=5 then zc (tokO 1 0 s) (zc (some [40]) (zc (rowO (kids.map (prE d)) kids.length) (some [41])))
   else if k=11 then zc (some [110,101,119,32]) (zc (tokO 1 0 s) (zc (some [40]) (zc (rowO (kids.map (prE d)) kids.length) (some [41]))))
   else if k=10 then zc (some [91]) (zc (rowO (kids.map (prE d)) kids.length) (some [93]))
   else if k=6 then match kids with
    | a::_=>zc (some s) (kidO a 7 (prE d a))
    | _=>none
   else if k=7 then match kids with
    | a::b::_=>zc (kidO a (levelOf s) (prE d a)) (zc (some [32]) (zc (some s) (zc (some [32]) (kidO b (levelOf s+1) (prE d b)))))
    | _=>none
   else if k=8 then match kids with
    | a::b::_=>zc (kidO a 8 (prE d a)) (zc (some [91]) (zc (prE d b) (some [93])))
    | _=>none
   else if k=9 then match kids with
    | a::_=>zc (kidO a 8 (prE d a)) (zc (some [46]) (tokO 1 0 s))
    | _=>none
   else none
  else none
theorem zo.seq {w0:World} {r:Nat} {q q1:Option Nat} {t s:List UInt8} {w w1 w2:World} {R:Option (List UInt8)} {e:Ending} (h:zT r q w q1 w1) (h2:zo w0 r q1 (t++s) w1 R e w2):zo w0 r q t w (zc (some s) R) e w2:=by
 obtain ⟨z,o,y⟩:=h2;refine ⟨z,h.trans o,?_⟩;cases R with
 | none=>exact y
 | some u=>exact ⟨y.1,by rw [←List.append_assoc];exact y.2⟩
theorem zo.stop {w0:World} {r:Nat} {q q1:Option Nat} {t:List UInt8} {w w1:World} {R:Option (List UInt8)} {e:Ending} (h:zT r q w q1 w1) (he:e=zbT):zo w0 r q t w (zc none R) e w1:=⟨q1,h,he⟩
theorem zbZ (R:Option (List UInt8)):zc (some []) R=R:=by
 cases R <;> simp [zc]
theorem uF (a b c:Option (List UInt8)):zc (zc a b) c=zc a (zc b c):=by
 cases a <;> cases b <;> cases c <;> simp [zc]
def xx (l:List UInt8):Bool:=Lib.hasPrefix l [91]&&Lib.hasSuffix l [93]
def Yq (l:List UInt8):List UInt8:=(l.drop 1).take (l.length-2)
theorem YL {l:List UInt8} (h:xx l=true):2≤l.length:=by
 unfold xx Lib.hasPrefix Lib.hasSuffix at h
 rw [Bool.and_eq_true] at h;obtain ⟨z,o⟩:=h;obtain ⟨a,rfl⟩:=List.isPrefixOf_iff_prefix.1 z;obtain ⟨b,y⟩:=List.isSuffixOf_iff_suffix.1 o;cases a with
 | nil =>
  exfalso
  have e:=congrArg List.getLast? y
  simp at e
 | cons x xs=>simp
theorem Xi (l:List UInt8) (h:2≤l.length):(Yq l).length+2=l.length:=by
 unfold Yq
 rw [List.length_take,List.length_drop];omega
def Y4:Nat→List UInt8→List UInt8
 | 0,l=>l
 | f+1,l=>if xx l=true then Y4 f (Yq l) else l
def ZF (s:List UInt8):List UInt8:=Y4 s.length s
theorem qY (f:Nat):∀l,(Y4 f l).length≤l.length:=by
 induction f with
 | zero=>intro l;simp [Y4]
 | succ f ih =>
  intro l;rw [Y4]
  split
  ·rename_i h
   have:=Xi l (YL h)
   have:=ih (Yq l)
   omega
  ·exact Nat.le_refl _
theorem zb0 (f:Nat):∀l,l.length≤f→Y4 (f+1) l=Y4 f l:=by
 induction f with
 | zero =>
  intro l o;rw [Y4,Y4];rw [if_neg (fun h=>by have:=YL h;omega)]
 | succ f ih =>
  intro l o;rw [Y4];rw [show Y4 (f+1) l=if xx l=true then Y4 f (Yq l) else l from rfl]
  split
  ·rename_i h
   have:=Xi l (YL h)
   exact ih _ (by omega)
  ·rfl
theorem zaW {f:Nat} {l:List UInt8} (hl:l.length≤f):∀k,Y4 (f+k) l=Y4 f l
 | 0=>rfl
 | k+1=>(zb0 (f+k) l (by omega)).trans (zaW hl k)
theorem Vl {l:List UInt8} (h:xx l=true):ZF l=ZF (Yq l):=by
 have o:=YL h;have y:=Xi l o
 unfold ZF
 have e:l.length=(Yq l).length+1+1:=by omega
 rw [e,Y4,if_pos h];exact zaW (Nat.le_refl _) 1
theorem XD {l:List UInt8} (h:xx l=false):ZF l=l:=by
 unfold ZF
 cases hl:l.length with
 | zero=>rfl
 | succ n=>rw [Y4,if_neg (by rw [h];decide)]
def typeO (s:List UInt8):Option (List UInt8):=zc (some (s.take ((s.length-(ZF s).length) / 2))) (zc (tokO 1 0 (ZF s)) (some (s.drop (s.length-(s.length-(ZF s).length) / 2))))
theorem qZ (w0:World) (r:Nat) (q:Option Nat) (t s:List UInt8) (w:World) (hT:ZE w0) (h:zy w0 r q t w) (hs:s.length≤100000000) :
  Calls Tryz.prog 111 #[.pointer (some ⟨r,0,none⟩),.string (zb s)] w (zo w0 r q t w (typeO s)):=by
 obtain ⟨R,hR⟩:∃R,R=typeO s:=⟨_,rfl⟩;rw [←hR];have HR:Hid (R=typeO s):=hR;have HW:Hid (zy w0 r q t w):=h;have HT:Hid (ZE w0):=hT;have ah:(ZF s).length≤s.length:=qY _ _;clear h hT hR
 go_enter Tryz.func111,Tryz.ntmps111
 go_wp2_with fail
 go_loopw [4] (fun x wr=>∃o:List UInt8,x=.string (zb o)∧o.length≤s.length∧ZF o=ZF s∧wr=w) (fun x _=>(match x with | .string b=>b.size | _=>0))
 case atStart=>exact ⟨s,rfl,Nat.le_refl _,rfl,rfl⟩
 case round =>
  obtain ⟨o,rfl,ak,I,rfl⟩:=hrel;have aj:(zb o).size=o.length:=Zh o;have c1:=fun wx=>Tryz.strings_HasPrefix (zb o) ⟨#[91]⟩ wx
  have c2:=fun wx=>Tryz.strings_HasSuffix (zb o) ⟨#[93]⟩ wx (by omega)
  obtain ⟨P,hP⟩:∃P,P=Lib.hasPrefix o [91]:=⟨_,rfl⟩;obtain ⟨S,hS⟩:∃S,S=Lib.hasSuffix o [93]:=⟨_,rfl⟩;have Z:∀wx,Calls Tryz.prog 140 #[.string (zb o),.string ⟨#[91]⟩] wx fun e w'=>e=.returned (.bool P)∧w'=wx:=fun wx=>by rw [hP];exact c1 wx
  have U:∀wx,Calls Tryz.prog 141 #[.string (zb o),.string ⟨#[93]⟩] wx fun e w'=>e=.returned (.bool S)∧w'=wx:=fun wx=>by rw [hS];exact c2 wx
  have ab:Hid (xx o=(P&&S)):=show _=_ by rw [hP,hS];rfl
  clear c1 c2 hP hS;have HN:Hid (o.length≤s.length):=ak;cases P with
  | true =>
   cases S with
   | true =>
    have ad:xx o=true:=ab.out;have h2:=YL ad;have al:=Xi o h2
    have am:∀W,(Instr.slice 9 (.string (zb o)) (some (.int .i64 1)) (some (.int .i64 ((o.length:Int)-1))) none).run Tryz.prog W=.ok (.string (zb (Yq o))) W:=fun W=>by
     have:=zcL W o 1 (o.length-2) (by omega)
     rw [show (((1:Nat):Int)+((o.length-2:Nat):Int))=(o.length:Int)-1 by omega] at this
     exact this
    have HI:Hid (ZF (Yq o)=ZF s):=(Vl ad).symm.trans I;have ag:(zb (Yq o)).size=(Yq o).length:=Zh _;clear ad I
    go_wp2_with (first
     | (go_at_call 140;refine (Z _).mono ?_;rintro e w1 ⟨rfl,Q⟩;obtain rfl:=Q.symm)
     | (go_at_call 141;refine (U _).mono ?_;rintro e w1 ⟨rfl,Q⟩;obtain rfl:=Q.symm))
    exact ⟨⟨Yq o,rfl,by omega,HI.out,trivial⟩,by simp only [aj,ag];omega⟩
   | false =>
    have HI:Hid (o=ZF s):=show _=_ by rw [←I];exact (XD ab.out).symm
    clear I;obtain ⟨D,hD⟩:∃D,D=(s.length-o.length) / 2:=⟨_,rfl⟩;have V:D≤s.length:=by omega
    have hq:((s.length:Int)-(o.length:Int)).tdiv 2=(D:Int):=by
     rw [show ((s.length:Int)-(o.length:Int))=((s.length-o.length:Nat):Int) by omega,hD]
     rfl
    have ae:∀W,(Instr.slice 9 (.string (zb s)) none (some (.int .i64 (D:Int))) none).run Tryz.prog W=.ok (.string (zb (s.take D))) W:=fun W=>Qw W s D V
    have af:∀W,(Instr.slice 9 (.string (zb s)) (some (.int .i64 ((s.length:Int)-(D:Int)))) none none).run Tryz.prog W=.ok (.string (zb (s.drop (s.length-D)))) W:=fun W=>by
     have:=Xd W s (s.length-D) (by omega)
     rw [show (((s.length-D:Nat)):Int)=(s.length:Int)-(D:Int) by omega] at this
     exact this
    have T:R=zc (some (s.take D)) (zc (tokO 1 0 o) (some (s.drop (s.length-D)))):=by rw [HR.out,hD,HI.out];rfl
    have H:Hid (R=zc (some (s.take D)) (zc (tokO 1 0 o) (some (s.drop (s.length-D))))):=T;have O:=zx w0 r q t (s.take D) wr HW.out (by rw [List.length_take];omega)
    have ai:(zb s).size=s.length:=Zh s;clear hD T HR HI ah
    go_wp2_with (first
     | (go_at_call 140;refine (Z _).mono ?_;rintro e w1 ⟨rfl,Q⟩;obtain rfl:=Q.symm)
     | (go_at_call 141;refine (U _).mono ?_;rintro e w1 ⟨rfl,Q⟩;obtain rfl:=Q.symm)
     | fail)
    refine O.mono ?_;clear O Z U;rintro e w2 ⟨q2,A,rfl,J⟩;have cn:=yx w0 r q2 (t++s.take D) o w2 HT.out J (by omega)
    have aa:Hid (zT r q wr q2 w2):=A;clear A J;generalize tokO 1 0 o=X at *;go_wp2_with fail
    refine cn.mono ?_;clear cn;rintro e w3 ⟨q3,y,N⟩;have G:Hid (zT r q wr q3 w3):=aa.out.trans y;clear y;cases X with
    | none=>subst N;obtain rfl:R=none:=H.out;exact ⟨rfl,q3,G.out,rfl⟩
    | some u =>
     obtain ⟨rfl,Y⟩:=N;have O:=zx w0 r q3 (t++s.take D++u) (s.drop (s.length-D)) w3 Y (by rw [List.length_drop];omega)
     clear Y;go_wp2_with fail
     refine O.mono ?_;clear O;rintro e w4 ⟨q4,z,rfl,L⟩;obtain rfl:R=some (s.take D++(u++s.drop (s.length-D))):=H.out;have HP:Hid (zo w0 r q t wr (some (s.take D++(u++s.drop (s.length-D)))) (.returned (.tuple #[])) w4):=⟨q4,G.out.trans z,rfl,by simpa only [List.append_assoc] using L⟩
     clear z L G aa HW H;go_wp2
     exact bodyPost_ret (v:=.tuple #[]) (by simp [results,Tryz.results111,go_sem]) rfl HP.out
  | false =>
   have HI:Hid (o=ZF s):=show _=_ by rw [←I];exact (XD (by rw [ab.out];rfl)).symm
   clear I;obtain ⟨D,hD⟩:∃D,D=(s.length-o.length) / 2:=⟨_,rfl⟩;have V:D≤s.length:=by omega
   have hq:((s.length:Int)-(o.length:Int)).tdiv 2=(D:Int):=by
    rw [show ((s.length:Int)-(o.length:Int))=((s.length-o.length:Nat):Int) by omega,hD]
    rfl
   have ae:∀W,(Instr.slice 9 (.string (zb s)) none (some (.int .i64 (D:Int))) none).run Tryz.prog W=.ok (.string (zb (s.take D))) W:=fun W=>Qw W s D V
   have af:∀W,(Instr.slice 9 (.string (zb s)) (some (.int .i64 ((s.length:Int)-(D:Int)))) none none).run Tryz.prog W=.ok (.string (zb (s.drop (s.length-D)))) W:=fun W=>by
    have:=Xd W s (s.length-D) (by omega)
    rw [show (((s.length-D:Nat)):Int)=(s.length:Int)-(D:Int) by omega] at this
    exact this
   have T:R=zc (some (s.take D)) (zc (tokO 1 0 o) (some (s.drop (s.length-D)))):=by rw [HR.out,hD,HI.out];rfl
   have H:Hid (R=zc (some (s.take D)) (zc (tokO 1 0 o) (some (s.drop (s.length-D))))):=T;have O:=zx w0 r q t (s.take D) wr HW.out (by rw [List.length_take];omega)
   have ai:(zb s).size=s.length:=Zh s;clear hD T HR HI ah
   go_wp2_with (first
    | (go_at_call 140;refine (Z _).mono ?_;rintro e w1 ⟨rfl,Q⟩;obtain rfl:=Q.symm)
    | (go_at_call 141;refine (U _).mono ?_;rintro e w1 ⟨rfl,Q⟩;obtain rfl:=Q.symm)
    | fail)
   refine O.mono ?_;clear O Z U;rintro e w2 ⟨q2,A,rfl,J⟩;have cn:=yx w0 r q2 (t++s.take D) o w2 HT.out J (by omega)
   have aa:Hid (zT r q wr q2 w2):=A;clear A J;generalize tokO 1 0 o=X at *;go_wp2_with fail
   refine cn.mono ?_;clear cn;rintro e w3 ⟨q3,y,N⟩;have G:Hid (zT r q wr q3 w3):=aa.out.trans y;clear y;cases X with
   | none=>subst N;obtain rfl:R=none:=H.out;exact ⟨rfl,q3,G.out,rfl⟩
   | some u =>
    obtain ⟨rfl,Y⟩:=N;have O:=zx w0 r q3 (t++s.take D++u) (s.drop (s.length-D)) w3 Y (by rw [List.length_drop];omega)
    clear Y;go_wp2_with fail
    refine O.mono ?_;clear O;rintro e w4 ⟨q4,z,rfl,L⟩;obtain rfl:R=some (s.take D++(u++s.drop (s.length-D))):=H.out;have HP:Hid (zo w0 r q t wr (some (s.take D++(u++s.drop (s.length-D)))) (.returned (.tuple #[])) w4):=⟨q4,G.out.trans z,rfl,by simpa only [List.append_assoc] using L⟩
    clear z L G aa HW H;go_wp2
    exact bodyPost_ret (v:=.tuple #[]) (by simp [results,Tryz.results111,go_sem]) rfl HP.out
end Go.Proofs.YtpejpbbdgblbeaaGreatDoor
