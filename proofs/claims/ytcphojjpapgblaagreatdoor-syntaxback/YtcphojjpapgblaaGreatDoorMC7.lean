import Derived.Test.YtcphojjpapgblaaGreatDoorMC6
import Derived.Test.YtcphojjpapgblaaGreatDoorShelf
namespace Go.Proofs.YtcphojjpapgblaaGreatDoor
open Go.RowKit Go.Shelf
set_option maxHeartbeats 16000000
set_option maxRecDepth 100000
def YC (k:Int) (s:List UInt8) (n:Int) (m:Nat):Bool :=
 if k=1 then s==[]&&m==0
 else if k=2 then s==[]&&m==0&&(n==0||n==1)
 else if k=3 then n==0&&m==0
 else if k=4 then n==0&&m==0
 else if k=5 then n==0
 else if k=11 then n==0
 else if k=6 then n==0&&m==1&&(s==[45]||s==[33])
 else if k=7 then n==0&&m==2&&decide (0<levelOf s)
 else if k=8 then n==0&&m==2&&s==[]
 else if k=9 then n==0&&m==1
 else if k=10 then n==0&&decide (1≤m)&&s==[]
 else false
abbrev yW (k:Int) (s:List UInt8) (n:Int) (base:Option Addr) (m cap:Nat) (line:Int):Obj:=.cells #[.int .i64 k,.string (zb s),.int .i64 n,.slice base m cap,.int .i64 line] 45
abbrev yp (k:Int) (s:List UInt8) (n:Int) (base:Option Addr) (m cap:Nat) (line:Int):Value:=.agg #[.int .i64 k,.string (zb s),.int .i64 n,.slice base m cap,.int .i64 line]
theorem YM (s:List UInt8):levelOf s≤6:=by
 unfold levelOf
 cases h:levelsL.find? fun p=>decide (p.1=s) with
 | none=>simp
 | some p =>
  have:=List.mem_of_find?_eq_some h
  simp only [Option.map_some,Option.getD_some]
  revert this
  unfold levelsL
  simp only [List.mem_cons,List.not_mem_nil,or_false]
  rintro (rfl | rfl | rfl | rfl | rfl | rfl | rfl | rfl | rfl | rfl | rfl | rfl | rfl) <;> simp
theorem zt {w w2 w':World} (hb2:Below w.heap.size w w2) (h2:Below w2.heap.size w2 w'):Below w.heap.size w w':=hb2.trans (h2.mono hb2.size)
theorem ziU (s:List UInt8) (n:Int) (base:Option Addr) (m cap:Nat) (line:Int) (w:World) :
  Calls Tryz.prog 76 #[yp 1 s n base m cap line] w fun e w'=>e=.returned (.bool (s==[]&&m==0))∧Below w.heap.size w w':=by
 obtain ⟨w1,h⟩:∃w1,w1=w.alloc (yW 1 s n base m cap line):=⟨_,rfl⟩;have y:Below w.heap.size w w1:=by rw [h];exact (Below.refl _ w).alloc (Nat.le_refl _) _
 have o:w1.heap[w.heap.size]?=some (.cells #[.int .i64 1,.string (zb s),.int .i64 n,.slice base m cap,.int .i64 line] 45 (0,0)):=by rw [h];exact World.alloc_heap_new w _
 have J:w1.cell? ⟨w.heap.size,0,none⟩=some (.int .i64 1):=by simp only [World.cell?,o];rfl
 have c1:w1.cell? ⟨w.heap.size,1,none⟩=some (.string (zb s)):=by simp only [World.cell?,o];rfl
 have c2:w1.cell? ⟨w.heap.size,2,none⟩=some (.int .i64 n):=by simp only [World.cell?,o];rfl
 have I:w1.cell? ⟨w.heap.size,3,none⟩=some (.slice base m cap):=by simp only [World.cell?,o];rfl
 have z:Hid (Below w.heap.size w w1):=y;have A:=h.symm;clear y o h
 by_cases hs:s=[]
 ·subst hs
  by_cases hm0:m=0
  ·subst hm0
   go_enter Tryz.func76,Tryz.ntmps76
   go_wp2
   exact bodyPost_ret (v:=.bool true) (by simp [results,Tryz.results76,go_sem]) rfl ⟨by simp_all,z.out⟩
  ·have D:((m:Int)==0)=false:=by rw [beq_eq_false_iff_ne];omega
   have G:(m==0)=false:=by rw [beq_eq_false_iff_ne];exact hm0
   go_enter Tryz.func76,Tryz.ntmps76
   go_wp2
   exact bodyPost_ret (v:=.bool false) (by simp [results,Tryz.results76,go_sem]) rfl ⟨by simp_all,z.out⟩
 ·have H:(s==[])=false:=by simpa using hs
  go_enter Tryz.func76,Tryz.ntmps76
  go_wp2
  exact bodyPost_ret (v:=.bool false) (by simp [results,Tryz.results76,go_sem]) rfl ⟨by simp_all,z.out⟩
theorem ziV (s:List UInt8) (n:Int) (base:Option Addr) (m cap:Nat) (line:Int) (w:World) :
  Calls Tryz.prog 76 #[yp 2 s n base m cap line] w fun e w'=>e=.returned (.bool (s==[]&&m==0&&(n==0||n==1)))∧Below w.heap.size w w':=by
 obtain ⟨w1,h⟩:∃w1,w1=w.alloc (yW 2 s n base m cap line):=⟨_,rfl⟩;have y:Below w.heap.size w w1:=by rw [h];exact (Below.refl _ w).alloc (Nat.le_refl _) _
 have o:w1.heap[w.heap.size]?=some (.cells #[.int .i64 2,.string (zb s),.int .i64 n,.slice base m cap,.int .i64 line] 45 (0,0)):=by rw [h];exact World.alloc_heap_new w _
 have N:w1.cell? ⟨w.heap.size,0,none⟩=some (.int .i64 2):=by simp only [World.cell?,o];rfl
 have c1:w1.cell? ⟨w.heap.size,1,none⟩=some (.string (zb s)):=by simp only [World.cell?,o];rfl
 have c2:w1.cell? ⟨w.heap.size,2,none⟩=some (.int .i64 n):=by simp only [World.cell?,o];rfl
 have L:w1.cell? ⟨w.heap.size,3,none⟩=some (.slice base m cap):=by simp only [World.cell?,o];rfl
 have z:Hid (Below w.heap.size w w1):=y;have A:=h.symm;clear y o h
 by_cases hs:s=[]
 ·subst hs
  by_cases hm0:m=0
  ·subst hm0
   by_cases hn:n=0
   ·subst hn
    go_enter Tryz.func76,Tryz.ntmps76
    go_wp2
    exact bodyPost_ret (v:=.bool true) (by simp [results,Tryz.results76,go_sem]) rfl ⟨by simp_all,z.out⟩
   ·have H:(n==0)=false:=by rw [beq_eq_false_iff_ne];exact hn
    by_cases hn2:n=1
    ·subst hn2
     go_enter Tryz.func76,Tryz.ntmps76
     go_wp2
     exact bodyPost_ret (v:=.bool true) (by simp [results,Tryz.results76,go_sem]) rfl ⟨by simp_all,z.out⟩
    ·have D:(n==1)=false:=by rw [beq_eq_false_iff_ne];exact hn2
     go_enter Tryz.func76,Tryz.ntmps76
     go_wp2
     exact bodyPost_ret (v:=.bool false) (by simp [results,Tryz.results76,go_sem]) rfl ⟨by simp_all,z.out⟩
  ·have G:((m:Int)==0)=false:=by rw [beq_eq_false_iff_ne];omega
   have I:(m==0)=false:=by rw [beq_eq_false_iff_ne];exact hm0
   go_enter Tryz.func76,Tryz.ntmps76
   go_wp2
   exact bodyPost_ret (v:=.bool false) (by simp [results,Tryz.results76,go_sem]) rfl ⟨by simp_all,z.out⟩
 ·have J:(s==[])=false:=by simpa using hs
  go_enter Tryz.func76,Tryz.ntmps76
  go_wp2
  exact bodyPost_ret (v:=.bool false) (by simp [results,Tryz.results76,go_sem]) rfl ⟨by simp_all,z.out⟩
theorem ziW (s:List UInt8) (n:Int) (base:Option Addr) (m cap:Nat) (line:Int) (w:World) :
  Calls Tryz.prog 76 #[yp 3 s n base m cap line] w fun e w'=>e=.returned (.bool (n==0&&m==0))∧Below w.heap.size w w':=by
 obtain ⟨w1,h⟩:∃w1,w1=w.alloc (yW 3 s n base m cap line):=⟨_,rfl⟩;have y:Below w.heap.size w w1:=by rw [h];exact (Below.refl _ w).alloc (Nat.le_refl _) _
 have o:w1.heap[w.heap.size]?=some (.cells #[.int .i64 3,.string (zb s),.int .i64 n,.slice base m cap,.int .i64 line] 45 (0,0)):=by rw [h];exact World.alloc_heap_new w _
 have J:w1.cell? ⟨w.heap.size,0,none⟩=some (.int .i64 3):=by simp only [World.cell?,o];rfl
 have c1:w1.cell? ⟨w.heap.size,1,none⟩=some (.string (zb s)):=by simp only [World.cell?,o];rfl
 have c2:w1.cell? ⟨w.heap.size,2,none⟩=some (.int .i64 n):=by simp only [World.cell?,o];rfl
 have I:w1.cell? ⟨w.heap.size,3,none⟩=some (.slice base m cap):=by simp only [World.cell?,o];rfl
 have z:Hid (Below w.heap.size w w1):=y;have A:=h.symm;clear y o h
 by_cases hn:n=0
 ·subst hn
  by_cases hm0:m=0
  ·subst hm0
   go_enter Tryz.func76,Tryz.ntmps76
   go_wp2
   exact bodyPost_ret (v:=.bool true) (by simp [results,Tryz.results76,go_sem]) rfl ⟨by simp_all,z.out⟩
  ·have D:((m:Int)==0)=false:=by rw [beq_eq_false_iff_ne];omega
   have H:(m==0)=false:=by rw [beq_eq_false_iff_ne];exact hm0
   go_enter Tryz.func76,Tryz.ntmps76
   go_wp2
   exact bodyPost_ret (v:=.bool false) (by simp [results,Tryz.results76,go_sem]) rfl ⟨by simp_all,z.out⟩
 ·have G:(n==0)=false:=by rw [beq_eq_false_iff_ne];exact hn
  go_enter Tryz.func76,Tryz.ntmps76
  go_wp2
  exact bodyPost_ret (v:=.bool false) (by simp [results,Tryz.results76,go_sem]) rfl ⟨by simp_all,z.out⟩
theorem ziX (s:List UInt8) (n:Int) (base:Option Addr) (m cap:Nat) (line:Int) (w:World) :
  Calls Tryz.prog 76 #[yp 4 s n base m cap line] w fun e w'=>e=.returned (.bool (n==0&&m==0))∧Below w.heap.size w w':=by
 obtain ⟨w1,h⟩:∃w1,w1=w.alloc (yW 4 s n base m cap line):=⟨_,rfl⟩;have y:Below w.heap.size w w1:=by rw [h];exact (Below.refl _ w).alloc (Nat.le_refl _) _
 have o:w1.heap[w.heap.size]?=some (.cells #[.int .i64 4,.string (zb s),.int .i64 n,.slice base m cap,.int .i64 line] 45 (0,0)):=by rw [h];exact World.alloc_heap_new w _
 have J:w1.cell? ⟨w.heap.size,0,none⟩=some (.int .i64 4):=by simp only [World.cell?,o];rfl
 have c1:w1.cell? ⟨w.heap.size,1,none⟩=some (.string (zb s)):=by simp only [World.cell?,o];rfl
 have c2:w1.cell? ⟨w.heap.size,2,none⟩=some (.int .i64 n):=by simp only [World.cell?,o];rfl
 have I:w1.cell? ⟨w.heap.size,3,none⟩=some (.slice base m cap):=by simp only [World.cell?,o];rfl
 have z:Hid (Below w.heap.size w w1):=y;have A:=h.symm;clear y o h
 by_cases hn:n=0
 ·subst hn
  by_cases hm0:m=0
  ·subst hm0
   go_enter Tryz.func76,Tryz.ntmps76
   go_wp2
   exact bodyPost_ret (v:=.bool true) (by simp [results,Tryz.results76,go_sem]) rfl ⟨by simp_all,z.out⟩
  ·have D:((m:Int)==0)=false:=by rw [beq_eq_false_iff_ne];omega
   have H:(m==0)=false:=by rw [beq_eq_false_iff_ne];exact hm0
   go_enter Tryz.func76,Tryz.ntmps76
   go_wp2
   exact bodyPost_ret (v:=.bool false) (by simp [results,Tryz.results76,go_sem]) rfl ⟨by simp_all,z.out⟩
 ·have G:(n==0)=false:=by rw [beq_eq_false_iff_ne];exact hn
  go_enter Tryz.func76,Tryz.ntmps76
  go_wp2
  exact bodyPost_ret (v:=.bool false) (by simp [results,Tryz.results76,go_sem]) rfl ⟨by simp_all,z.out⟩
theorem ziY (s:List UInt8) (n:Int) (base:Option Addr) (m cap:Nat) (line:Int) (w:World) :
  Calls Tryz.prog 76 #[yp 5 s n base m cap line] w fun e w'=>e=.returned (.bool (n==0))∧Below w.heap.size w w':=by
 obtain ⟨w1,h⟩:∃w1,w1=w.alloc (yW 5 s n base m cap line):=⟨_,rfl⟩;have y:Below w.heap.size w w1:=by rw [h];exact (Below.refl _ w).alloc (Nat.le_refl _) _
 have o:w1.heap[w.heap.size]?=some (.cells #[.int .i64 5,.string (zb s),.int .i64 n,.slice base m cap,.int .i64 line] 45 (0,0)):=by rw [h];exact World.alloc_heap_new w _
 have H:w1.cell? ⟨w.heap.size,0,none⟩=some (.int .i64 5):=by simp only [World.cell?,o];rfl
 have c1:w1.cell? ⟨w.heap.size,1,none⟩=some (.string (zb s)):=by simp only [World.cell?,o];rfl
 have c2:w1.cell? ⟨w.heap.size,2,none⟩=some (.int .i64 n):=by simp only [World.cell?,o];rfl
 have G:w1.cell? ⟨w.heap.size,3,none⟩=some (.slice base m cap):=by simp only [World.cell?,o];rfl
 have A:Hid (Below w.heap.size w w1):=y;have z:=h.symm;clear y o h
 by_cases hn:n=0
 ·subst hn
  go_enter Tryz.func76,Tryz.ntmps76
  go_wp2
  exact bodyPost_ret (v:=.bool true) (by simp [results,Tryz.results76,go_sem]) rfl ⟨by simp_all,A.out⟩
 ·have D:(n==0)=false:=by rw [beq_eq_false_iff_ne];exact hn
  go_enter Tryz.func76,Tryz.ntmps76
  go_wp2
  exact bodyPost_ret (v:=.bool false) (by simp [results,Tryz.results76,go_sem]) rfl ⟨by simp_all,A.out⟩
theorem zhY (s:List UInt8) (n:Int) (base:Option Addr) (m cap:Nat) (line:Int) (w:World) :
  Calls Tryz.prog 76 #[yp 11 s n base m cap line] w fun e w'=>e=.returned (.bool (n==0))∧Below w.heap.size w w':=by
 obtain ⟨w1,h⟩:∃w1,w1=w.alloc (yW 11 s n base m cap line):=⟨_,rfl⟩;have y:Below w.heap.size w w1:=by rw [h];exact (Below.refl _ w).alloc (Nat.le_refl _) _
 have o:w1.heap[w.heap.size]?=some (.cells #[.int .i64 11,.string (zb s),.int .i64 n,.slice base m cap,.int .i64 line] 45 (0,0)):=by rw [h];exact World.alloc_heap_new w _
 have H:w1.cell? ⟨w.heap.size,0,none⟩=some (.int .i64 11):=by simp only [World.cell?,o];rfl
 have c1:w1.cell? ⟨w.heap.size,1,none⟩=some (.string (zb s)):=by simp only [World.cell?,o];rfl
 have c2:w1.cell? ⟨w.heap.size,2,none⟩=some (.int .i64 n):=by simp only [World.cell?,o];rfl
 have G:w1.cell? ⟨w.heap.size,3,none⟩=some (.slice base m cap):=by simp only [World.cell?,o];rfl
 have A:Hid (Below w.heap.size w w1):=y;have z:=h.symm;clear y o h
 by_cases hn:n=0
 ·subst hn
  go_enter Tryz.func76,Tryz.ntmps76
  go_wp2
  exact bodyPost_ret (v:=.bool true) (by simp [results,Tryz.results76,go_sem]) rfl ⟨by simp_all,A.out⟩
 ·have D:(n==0)=false:=by rw [beq_eq_false_iff_ne];exact hn
  go_enter Tryz.func76,Tryz.ntmps76
  go_wp2
  exact bodyPost_ret (v:=.bool false) (by simp [results,Tryz.results76,go_sem]) rfl ⟨by simp_all,A.out⟩
theorem ziZ (s:List UInt8) (n:Int) (base:Option Addr) (m cap:Nat) (line:Int) (w:World) :
  Calls Tryz.prog 76 #[yp 6 s n base m cap line] w fun e w'=>e=.returned (.bool (n==0&&m==1&&(s==[45]||s==[33])))∧Below w.heap.size w w':=by
 obtain ⟨w1,h⟩:∃w1,w1=w.alloc (yW 6 s n base m cap line):=⟨_,rfl⟩;have o:Below w.heap.size w w1:=by rw [h];exact (Below.refl _ w).alloc (Nat.le_refl _) _
 have y:w1.heap[w.heap.size]?=some (.cells #[.int .i64 6,.string (zb s),.int .i64 n,.slice base m cap,.int .i64 line] 45 (0,0)):=by rw [h];exact World.alloc_heap_new w _
 have N:w1.cell? ⟨w.heap.size,0,none⟩=some (.int .i64 6):=by simp only [World.cell?,y];rfl
 have c1:w1.cell? ⟨w.heap.size,1,none⟩=some (.string (zb s)):=by simp only [World.cell?,y];rfl
 have c2:w1.cell? ⟨w.heap.size,2,none⟩=some (.int .i64 n):=by simp only [World.cell?,y];rfl
 have L:w1.cell? ⟨w.heap.size,3,none⟩=some (.slice base m cap):=by simp only [World.cell?,y];rfl
 have A:Hid (Below w.heap.size w w1):=o;have G:=h.symm;clear o y h
 by_cases hn:n=0
 ·subst hn
  by_cases hm1:m=1
  ·subst hm1
   have z:=Ve s w1;obtain ⟨R,D⟩:∃R,R=(s==[45]||s==[33]):=⟨_,rfl⟩;rw [←D] at z ⊢;clear D
   go_enter Tryz.func76,Tryz.ntmps76
   go_wp2_with fail
   refine z.mono ?_;rintro e O ⟨rfl,rfl⟩;clear z;go_wp2
   exact bodyPost_ret (v:=.bool R) (by simp [results,Tryz.results76,go_sem]) rfl ⟨by simp_all,A.out⟩
  ·have H:((m:Int)==1)=false:=by rw [beq_eq_false_iff_ne];omega
   have J:(m==1)=false:=by rw [beq_eq_false_iff_ne];exact hm1
   go_enter Tryz.func76,Tryz.ntmps76
   go_wp2
   exact bodyPost_ret (v:=.bool false) (by simp [results,Tryz.results76,go_sem]) rfl ⟨by simp_all,A.out⟩
 ·have I:(n==0)=false:=by rw [beq_eq_false_iff_ne];exact hn
  go_enter Tryz.func76,Tryz.ntmps76
  go_wp2
  exact bodyPost_ret (v:=.bool false) (by simp [results,Tryz.results76,go_sem]) rfl ⟨by simp_all,A.out⟩
theorem zi0 (s:List UInt8) (n:Int) (base:Option Addr) (m cap:Nat) (line:Int) (w:World) (ht:ZA w) :
  Calls Tryz.prog 76 #[yp 7 s n base m cap line] w fun e w'=>e=.returned (.bool (n==0&&m==2&&decide (0<levelOf s)))∧Below w.heap.size w w':=by
 obtain ⟨w1,h⟩:∃w1,w1=w.alloc (yW 7 s n base m cap line):=⟨_,rfl⟩;have o:Below w.heap.size w w1:=by rw [h];exact (Below.refl _ w).alloc (Nat.le_refl _) _
 have y:w1.heap[w.heap.size]?=some (.cells #[.int .i64 7,.string (zb s),.int .i64 n,.slice base m cap,.int .i64 line] 45 (0,0)):=by rw [h];exact World.alloc_heap_new w _
 have V:w1.cell? ⟨w.heap.size,0,none⟩=some (.int .i64 7):=by simp only [World.cell?,y];rfl
 have c1:w1.cell? ⟨w.heap.size,1,none⟩=some (.string (zb s)):=by simp only [World.cell?,y];rfl
 have c2:w1.cell? ⟨w.heap.size,2,none⟩=some (.int .i64 n):=by simp only [World.cell?,y];rfl
 have U:w1.cell? ⟨w.heap.size,3,none⟩=some (.slice base m cap):=by simp only [World.cell?,y];rfl
 have D:=Xy s w1 (fun j v hj=>by rw [h];exact zl (ht j v hj) _)
 have G:Hid (Below w.heap.size w w1):=o;have J:=h.symm;clear o y h ht
 by_cases hn:n=0
 ·subst hn
  by_cases hm2:m=2
  ·subst hm2
   obtain ⟨L,H⟩:∃L,L=levelOf s:=⟨_,rfl⟩;rw [←H] at D ⊢;have I:L≤6:=by rw [H];exact YM s
   clear H
   go_enter Tryz.func76,Tryz.ntmps76
   go_wp2_with fail
   refine D.mono ?_;rintro e T ⟨rfl,z⟩;clear D;have A:Hid (Below w.heap.size w T):=zt G.out z;clear z
   by_cases hL0:0<L
   ·have O:(0:Int)<(L:Int):=by omega
    go_wp2
    exact bodyPost_ret (v:=.bool true) (by simp [results,Tryz.results76,go_sem]) rfl ⟨by simp_all,A.out⟩
   ·obtain rfl:L=0:=by omega
    go_wp2
    exact bodyPost_ret (v:=.bool false) (by simp [results,Tryz.results76,go_sem]) rfl ⟨by simp_all,A.out⟩
  ·have N:((m:Int)==2)=false:=by rw [beq_eq_false_iff_ne];omega
   have R:(m==2)=false:=by rw [beq_eq_false_iff_ne];exact hm2
   go_enter Tryz.func76,Tryz.ntmps76
   go_wp2
   exact bodyPost_ret (v:=.bool false) (by simp [results,Tryz.results76,go_sem]) rfl ⟨by simp_all,G.out⟩
 ·have Q:(n==0)=false:=by rw [beq_eq_false_iff_ne];exact hn
  go_enter Tryz.func76,Tryz.ntmps76
  go_wp2
  exact bodyPost_ret (v:=.bool false) (by simp [results,Tryz.results76,go_sem]) rfl ⟨by simp_all,G.out⟩
theorem zi1 (s:List UInt8) (n:Int) (base:Option Addr) (m cap:Nat) (line:Int) (w:World) :
  Calls Tryz.prog 76 #[yp 8 s n base m cap line] w fun e w'=>e=.returned (.bool (n==0&&m==2&&s==[]))∧Below w.heap.size w w':=by
 obtain ⟨w1,h⟩:∃w1,w1=w.alloc (yW 8 s n base m cap line):=⟨_,rfl⟩;have y:Below w.heap.size w w1:=by rw [h];exact (Below.refl _ w).alloc (Nat.le_refl _) _
 have o:w1.heap[w.heap.size]?=some (.cells #[.int .i64 8,.string (zb s),.int .i64 n,.slice base m cap,.int .i64 line] 45 (0,0)):=by rw [h];exact World.alloc_heap_new w _
 have L:w1.cell? ⟨w.heap.size,0,none⟩=some (.int .i64 8):=by simp only [World.cell?,o];rfl
 have c1:w1.cell? ⟨w.heap.size,1,none⟩=some (.string (zb s)):=by simp only [World.cell?,o];rfl
 have c2:w1.cell? ⟨w.heap.size,2,none⟩=some (.int .i64 n):=by simp only [World.cell?,o];rfl
 have J:w1.cell? ⟨w.heap.size,3,none⟩=some (.slice base m cap):=by simp only [World.cell?,o];rfl
 have z:Hid (Below w.heap.size w w1):=y;have A:=h.symm;clear y o h
 by_cases hn:n=0
 ·subst hn
  by_cases hm2:m=2
  ·subst hm2
   by_cases hs:s=[]
   ·subst hs
    go_enter Tryz.func76,Tryz.ntmps76
    go_wp2
    exact bodyPost_ret (v:=.bool true) (by simp [results,Tryz.results76,go_sem]) rfl ⟨by simp_all,z.out⟩
   ·have I:(s==[])=false:=by simpa using hs
    go_enter Tryz.func76,Tryz.ntmps76
    go_wp2
    exact bodyPost_ret (v:=.bool false) (by simp [results,Tryz.results76,go_sem]) rfl ⟨by simp_all,z.out⟩
  ·have D:((m:Int)==2)=false:=by rw [beq_eq_false_iff_ne];omega
   have H:(m==2)=false:=by rw [beq_eq_false_iff_ne];exact hm2
   go_enter Tryz.func76,Tryz.ntmps76
   go_wp2
   exact bodyPost_ret (v:=.bool false) (by simp [results,Tryz.results76,go_sem]) rfl ⟨by simp_all,z.out⟩
 ·have G:(n==0)=false:=by rw [beq_eq_false_iff_ne];exact hn
  go_enter Tryz.func76,Tryz.ntmps76
  go_wp2
  exact bodyPost_ret (v:=.bool false) (by simp [results,Tryz.results76,go_sem]) rfl ⟨by simp_all,z.out⟩
theorem zi2 (s:List UInt8) (n:Int) (base:Option Addr) (m cap:Nat) (line:Int) (w:World) :
  Calls Tryz.prog 76 #[yp 9 s n base m cap line] w fun e w'=>e=.returned (.bool (n==0&&m==1))∧Below w.heap.size w w':=by
 obtain ⟨w1,h⟩:∃w1,w1=w.alloc (yW 9 s n base m cap line):=⟨_,rfl⟩;have y:Below w.heap.size w w1:=by rw [h];exact (Below.refl _ w).alloc (Nat.le_refl _) _
 have o:w1.heap[w.heap.size]?=some (.cells #[.int .i64 9,.string (zb s),.int .i64 n,.slice base m cap,.int .i64 line] 45 (0,0)):=by rw [h];exact World.alloc_heap_new w _
 have J:w1.cell? ⟨w.heap.size,0,none⟩=some (.int .i64 9):=by simp only [World.cell?,o];rfl
 have c1:w1.cell? ⟨w.heap.size,1,none⟩=some (.string (zb s)):=by simp only [World.cell?,o];rfl
 have c2:w1.cell? ⟨w.heap.size,2,none⟩=some (.int .i64 n):=by simp only [World.cell?,o];rfl
 have I:w1.cell? ⟨w.heap.size,3,none⟩=some (.slice base m cap):=by simp only [World.cell?,o];rfl
 have z:Hid (Below w.heap.size w w1):=y;have A:=h.symm;clear y o h
 by_cases hn:n=0
 ·subst hn
  by_cases hm1:m=1
  ·subst hm1
   go_enter Tryz.func76,Tryz.ntmps76
   go_wp2
   exact bodyPost_ret (v:=.bool true) (by simp [results,Tryz.results76,go_sem]) rfl ⟨by simp_all,z.out⟩
  ·have D:((m:Int)==1)=false:=by rw [beq_eq_false_iff_ne];omega
   have H:(m==1)=false:=by rw [beq_eq_false_iff_ne];exact hm1
   go_enter Tryz.func76,Tryz.ntmps76
   go_wp2
   exact bodyPost_ret (v:=.bool false) (by simp [results,Tryz.results76,go_sem]) rfl ⟨by simp_all,z.out⟩
 ·have G:(n==0)=false:=by rw [beq_eq_false_iff_ne];exact hn
  go_enter Tryz.func76,Tryz.ntmps76
  go_wp2
  exact bodyPost_ret (v:=.bool false) (by simp [results,Tryz.results76,go_sem]) rfl ⟨by simp_all,z.out⟩
theorem zhZ (s:List UInt8) (n:Int) (base:Option Addr) (m cap:Nat) (line:Int) (w:World) :
  Calls Tryz.prog 76 #[yp 10 s n base m cap line] w fun e w'=>e=.returned (.bool (n==0&&decide (1≤m)&&s==[]))∧Below w.heap.size w w':=by
 obtain ⟨w1,h⟩:∃w1,w1=w.alloc (yW 10 s n base m cap line):=⟨_,rfl⟩;have y:Below w.heap.size w w1:=by rw [h];exact (Below.refl _ w).alloc (Nat.le_refl _) _
 have o:w1.heap[w.heap.size]?=some (.cells #[.int .i64 10,.string (zb s),.int .i64 n,.slice base m cap,.int .i64 line] 45 (0,0)):=by rw [h];exact World.alloc_heap_new w _
 have J:w1.cell? ⟨w.heap.size,0,none⟩=some (.int .i64 10):=by simp only [World.cell?,o];rfl
 have c1:w1.cell? ⟨w.heap.size,1,none⟩=some (.string (zb s)):=by simp only [World.cell?,o];rfl
 have c2:w1.cell? ⟨w.heap.size,2,none⟩=some (.int .i64 n):=by simp only [World.cell?,o];rfl
 have I:w1.cell? ⟨w.heap.size,3,none⟩=some (.slice base m cap):=by simp only [World.cell?,o];rfl
 have z:Hid (Below w.heap.size w w1):=y;have A:=h.symm;clear y o h
 by_cases hn:n=0
 ·subst hn
  by_cases hm1:1≤m
  ·have D:(1:Int)≤(m:Int):=by omega
   by_cases hs:s=[]
   ·subst hs
    go_enter Tryz.func76,Tryz.ntmps76
    go_wp2
    exact bodyPost_ret (v:=.bool true) (by simp [results,Tryz.results76,go_sem]) rfl ⟨by simp_all,z.out⟩
   ·have H:(s==[])=false:=by simpa using hs
    go_enter Tryz.func76,Tryz.ntmps76
    go_wp2
    exact bodyPost_ret (v:=.bool false) (by simp [results,Tryz.results76,go_sem]) rfl ⟨by simp_all,z.out⟩
  ·obtain rfl:m=0:=by omega
   go_enter Tryz.func76,Tryz.ntmps76
   go_wp2
   exact bodyPost_ret (v:=.bool false) (by simp [results,Tryz.results76,go_sem]) rfl ⟨by simp_all,z.out⟩
 ·have G:(n==0)=false:=by rw [beq_eq_false_iff_ne];exact hn
  go_enter Tryz.func76,Tryz.ntmps76
  go_wp2
  exact bodyPost_ret (v:=.bool false) (by simp [results,Tryz.results76,go_sem]) rfl ⟨by simp_all,z.out⟩
theorem zh0 (k:Int) (s:List UInt8) (n:Int) (base:Option Addr) (m cap:Nat) (line:Int) (w:World) (h1:k≠1) (h2:k≠2) (h3:k≠3) (h4:k≠4) (h5:k≠5) (h11:k≠11) (h6:k≠6) (h7:k≠7) (h8:k≠8) (h9:k≠9) (h10:k≠10) :
  Calls Tryz.prog 76 #[yp k s n base m cap line] w fun e w'=>e=.returned (.bool false)∧Below w.heap.size w w':=by
 have y:Hid (Below w.heap.size w (w.alloc (yW k s n base m cap line))):=show Below _ _ _ from (Below.refl _ w).alloc (Nat.le_refl _) _
 have J:(k==1)=false:=by rw [beq_eq_false_iff_ne];exact h1
 have L:(k==2)=false:=by rw [beq_eq_false_iff_ne];exact h2
 have N:(k==3)=false:=by rw [beq_eq_false_iff_ne];exact h3
 have D:(k==4)=false:=by rw [beq_eq_false_iff_ne];exact h4
 have I:(k==5)=false:=by rw [beq_eq_false_iff_ne];exact h5
 have o:(k==11)=false:=by rw [beq_eq_false_iff_ne];exact h11
 have H:(k==6)=false:=by rw [beq_eq_false_iff_ne];exact h6
 have G:(k==7)=false:=by rw [beq_eq_false_iff_ne];exact h7
 have A:(k==8)=false:=by rw [beq_eq_false_iff_ne];exact h8
 have z:(k==9)=false:=by rw [beq_eq_false_iff_ne];exact h9
 have h:(k==10)=false:=by rw [beq_eq_false_iff_ne];exact h10
 clear h1 h2 h3 h4 h5 h11 h6 h7 h8 h9 h10
 go_enter Tryz.func76,Tryz.ntmps76
 go_wp2
 exact bodyPost_ret (v:=.bool false) (by simp [results,Tryz.results76,go_sem]) rfl ⟨rfl,y.out⟩
theorem ZQ (k:Int) (s:List UInt8) (n:Int) (base:Option Addr) (m cap:Nat) (line:Int) (w:World) (ht:ZA w) :
  Calls Tryz.prog 76 #[yp k s n base m cap line] w fun e w'=>e=.returned (.bool (YC k s n m))∧Below w.heap.size w w':=by
 unfold YC
 by_cases h1:k=1
 ·subst h1;exact ziU s n base m cap line w
 rw [if_neg h1]
 by_cases h2:k=2
 ·subst h2;exact ziV s n base m cap line w
 rw [if_neg h2]
 by_cases h3:k=3
 ·subst h3;exact ziW s n base m cap line w
 rw [if_neg h3]
 by_cases h4:k=4
 ·subst h4;exact ziX s n base m cap line w
 rw [if_neg h4]
 by_cases h5:k=5
 ·subst h5;exact ziY s n base m cap line w
 rw [if_neg h5]
 by_cases h11:k=11
 ·subst h11;exact zhY s n base m cap line w
 rw [if_neg h11]
 by_cases h6:k=6
 ·subst h6;exact ziZ s n base m cap line w
 rw [if_neg h6]
 by_cases h7:k=7
 ·subst h7;exact zi0 s n base m cap line w ht
 rw [if_neg h7]
 by_cases h8:k=8
 ·subst h8;exact zi1 s n base m cap line w
 rw [if_neg h8]
 by_cases h9:k=9
 ·subst h9;exact zi2 s n base m cap line w
 rw [if_neg h9]
 by_cases h10:k=10
 ·subst h10;exact zhZ s n base m cap line w
 rw [if_neg h10];exact zh0 k s n base m cap line w h1 h2 h3 h4 h5 h11 h6 h7 h8 h9 h10
inductive Ez where
 | mk (k:Int) (s:List UInt8) (n:Int) (kids:List Ez) (line:Int)
inductive Zl (B:Nat) (w:World):Ez→Value→Prop where
 | mk (k:Int) (s:List UInt8) (n:Int) (kids:List Ez) (line:Int) (base:Option Addr) (cap b o:Nat) (us:List (List Value)) (hs:s.length≤100000000) (hn0:-9223372036854775808≤n) (hn1:n≤9223372036854775807)
   (hbase:kids≠[]→base=some ⟨b,o,none⟩∧b<B∧b<w.heap.size) (hlen:us.length=kids.length) (hc:kids.length≤cap) (hm:cap≤maxLen)
   (hcell:∀j u,us.flatten[j]?=some u→w.cell? ⟨b,o+j,none⟩=some u) (hfive:∀c∈us,c.length=5)
   (hk:∀(j:Nat) (x:Ez) (c:List Value),kids[j]?=some x→us[j]?=some c→Zl B w x (.agg c.toArray)) :
   Zl B w (.mk k s n kids line) (yp k s n base kids.length cap line)
theorem Zl.kept {B:Nat} {w w':World} {x:Ez} {v:Value} (h:Zl B w x v) (hb:Below B w w'):Zl B w' x v:=by
 induction h with
 | mk k s n kids line base cap b o us hs hn0 hn1 hbase hlen hc hm hcell hfive _ ih =>
  refine .mk k s n kids line base cap b o us hs hn0 hn1 (fun h=>⟨(hbase h).1,(hbase h).2.1,Nat.lt_of_lt_of_le (hbase h).2.2 hb.size⟩) hlen hc hm (fun j u hj=>?_) hfive ih
  have y:kids≠[]:=by
   rintro rfl
   have:us=[]:=List.eq_nil_of_length_eq_zero hlen
   subst this
   simp at hj
  rw [World.cell?_of_block (hb.block b (hbase y).2.1)];exact hcell j u hj
def zd (a b:Option (List UInt8)):Option (List UInt8):=match a with
 | none=>none
 | some s=>match b with
  | none=>none
  | some u=>some (s++u)
def rowO (l:List (Option (List UInt8))):Nat→Option (List UInt8)
 | 0=>some []
 | i+1=>zd (rowO l i) (zd (some (if i=0 then [] else [44,32])) ((l[i]?).getD none))
def vJ:Ez→Nat
 | .mk k s _ _ _=>if k=7 then levelOf s else if k=6 then 7 else 8
def kidO (x:Ez) (least:Nat) (u:Option (List UInt8)):Option (List UInt8):=if least≤vJ x then u else zd (some [40]) (zd u (some [41]))
def prE:Nat→Ez→Option (List UInt8)
 | 0,_=>none
 | d+1,.mk k s n kids _ =>
  if YC k s n kids.length=true then
   if k=1 then tokO 2 n []
   else if k=2 then some (if n=0 then [102,97,108,115,101] else [116,114,117,101])
   else if k=3 then tokO 3 0 s
   else if k=4 then tokO 1 0 s
   else if k=5 then zd (tokO 1 0 s) (zd (some [40]) (zd (rowO (kids.map (prE d)) kids.length) (some [41])))
   else if k=11 then zd (some [110,101,119,32]) (zd (tokO 1 0 s) (zd (some [40]) (zd (rowO (kids.map (prE d)) kids.length) (some [41]))))
   else if k=10 then zd (some [91]) (zd (rowO (kids.map (prE d)) kids.length) (some [93]))
   else if k=6 then match kids with
    | a::_=>zd (some s) (kidO a 7 (prE d a))
    | _=>none
   else if k=7 then match kids with
    | a::b::_=>zd (kidO a (levelOf s) (prE d a)) (zd (some [32]) (zd (some s) (zd (some [32]) (kidO b (levelOf s+1) (prE d b)))))
    | _=>none
   else if k=8 then match kids with
    | a::b::_=>zd (kidO a 8 (prE d a)) (zd (some [91]) (zd (prE d b) (some [93])))
    | _=>none
   else if k=9 then match kids with
    | a::_=>zd (kidO a 8 (prE d a)) (zd (some [46]) (tokO 1 0 s))
    | _=>none
   else none
  else none
theorem zn.seq {w0:World} {r:Nat} {q q1:Option Nat} {t s:List UInt8} {w w1 w2:World} {R:Option (List UInt8)} {e:Ending} (h:zT r q w q1 w1) (h2:zn w0 r q1 (t++s) w1 R e w2):zn w0 r q t w (zd (some s) R) e w2:=by
 obtain ⟨z,y,o⟩:=h2;refine ⟨z,h.trans y,?_⟩;cases R with
 | none=>exact o
 | some u=>exact ⟨o.1,by rw [←List.append_assoc];exact o.2⟩
theorem zn.stop {w0:World} {r:Nat} {q q1:Option Nat} {t:List UInt8} {w w1:World} {R:Option (List UInt8)} {e:Ending} (h:zT r q w q1 w1) (he:e=zcc):zn w0 r q t w (zd none R) e w1:=⟨q1,h,he⟩
theorem zcj (R:Option (List UInt8)):zd (some []) R=R:=by
 cases R <;> simp [zd]
theorem uM (a b c:Option (List UInt8)):zd (zd a b) c=zd a (zd b c):=by
 cases a <;> cases b <;> cases c <;> simp [zd]
def X4 (l:List UInt8):Bool:=Lib.hasPrefix l [91]&&Lib.hasSuffix l [93]
def YG (l:List UInt8):List UInt8:=(l.drop 1).take (l.length-2)
theorem YN {l:List UInt8} (h:X4 l=true):2≤l.length:=by
 unfold X4 Lib.hasPrefix Lib.hasSuffix at h
 rw [Bool.and_eq_true] at h;obtain ⟨z,o⟩:=h;obtain ⟨a,rfl⟩:=List.isPrefixOf_iff_prefix.1 z;obtain ⟨b,y⟩:=List.isSuffixOf_iff_suffix.1 o;cases a with
 | nil =>
  exfalso
  have e:=congrArg List.getLast? y
  simp at e
 | cons x xs=>simp
theorem Xi (l:List UInt8) (h:2≤l.length):(YG l).length+2=l.length:=by
 unfold YG
 rw [List.length_take,List.length_drop];omega
def Y2:Nat→List UInt8→List UInt8
 | 0,l=>l
 | f+1,l=>if X4 l=true then Y2 f (YG l) else l
def ZR (s:List UInt8):List UInt8:=Y2 s.length s
theorem Qi (f:Nat):∀l,(Y2 f l).length≤l.length:=by
 induction f with
 | zero=>intro l;simp [Y2]
 | succ f ih =>
  intro l;rw [Y2]
  split
  ·rename_i h
   have:=Xi l (YN h)
   have:=ih (YG l)
   omega
  ·exact Nat.le_refl _
theorem zck (f:Nat):∀l,l.length≤f→Y2 (f+1) l=Y2 f l:=by
 induction f with
 | zero =>
  intro l o;rw [Y2,Y2];rw [if_neg (fun h=>by have:=YN h;omega)]
 | succ f ih =>
  intro l o;rw [Y2];rw [show Y2 (f+1) l=if X4 l=true then Y2 f (YG l) else l from rfl]
  split
  ·rename_i h
   have:=Xi l (YN h)
   exact ih _ (by omega)
  ·rfl
theorem zba {f:Nat} {l:List UInt8} (hl:l.length≤f):∀k,Y2 (f+k) l=Y2 f l
 | 0=>rfl
 | k+1=>(zck (f+k) l (by omega)).trans (zba hl k)
theorem UI {l:List UInt8} (h:X4 l=true):ZR l=ZR (YG l):=by
 have o:=YN h;have y:=Xi l o
 unfold ZR
 have e:l.length=(YG l).length+1+1:=by omega
 rw [e,Y2,if_pos h];exact zba (Nat.le_refl _) 1
theorem Vk {l:List UInt8} (h:X4 l=false):ZR l=l:=by
 unfold ZR
 cases hl:l.length with
 | zero=>rfl
 | succ n=>rw [Y2,if_neg (by rw [h];decide)]
def typeO (s:List UInt8):Option (List UInt8):=zd (some (s.take ((s.length-(ZR s).length) / 2))) (zd (tokO 1 0 (ZR s)) (some (s.drop (s.length-(s.length-(ZR s).length) / 2))))
theorem Qj (w0:World) (r:Nat) (q:Option Nat) (t s:List UInt8) (w:World) (hT:ZC w0) (h:zy w0 r q t w) (hs:s.length≤100000000) :
  Calls Tryz.prog 109 #[.pointer (some ⟨r,0,none⟩),.string (zb s)] w (zn w0 r q t w (typeO s)):=by
 obtain ⟨R,hR⟩:∃R,R=typeO s:=⟨_,rfl⟩;rw [←hR];have HR:Hid (R=typeO s):=hR;have HW:Hid (zy w0 r q t w):=h;have HT:Hid (ZC w0):=hT;have af:(ZR s).length≤s.length:=Qi _ _;clear h hT hR
 go_enter Tryz.func109,Tryz.ntmps109
 go_wp2_with fail
 go_loopw [4] (fun x wr=>∃o:List UInt8,x=.string (zb o)∧o.length≤s.length∧ZR o=ZR s∧wr=w) (fun x _=>(match x with | .string b=>b.size | _=>0))
 case atStart=>exact ⟨s,rfl,Nat.le_refl _,rfl,rfl⟩
 case round =>
  obtain ⟨o,rfl,ak,I,rfl⟩:=hrel;have aj:(zb o).size=o.length:=Zd o;have c1:=fun wx=>Tryz.strings_HasPrefix (zb o) ⟨#[91]⟩ wx
  have c2:=fun wx=>Tryz.strings_HasSuffix (zb o) ⟨#[93]⟩ wx (by omega)
  obtain ⟨P,hP⟩:∃P,P=Lib.hasPrefix o [91]:=⟨_,rfl⟩;obtain ⟨S,hS⟩:∃S,S=Lib.hasSuffix o [93]:=⟨_,rfl⟩;have J:∀wx,Calls Tryz.prog 138 #[.string (zb o),.string ⟨#[91]⟩] wx fun e w'=>e=.returned (.bool P)∧w'=wx:=fun wx=>by rw [hP];exact c1 wx
  have Q:∀wx,Calls Tryz.prog 139 #[.string (zb o),.string ⟨#[93]⟩] wx fun e w'=>e=.returned (.bool S)∧w'=wx:=fun wx=>by rw [hS];exact c2 wx
  have ad:Hid (X4 o=(P&&S)):=show _=_ by rw [hP,hS];rfl
  clear c1 c2 hP hS;have HN:Hid (o.length≤s.length):=ak;cases P with
  | true =>
   cases S with
   | true =>
    have ab:X4 o=true:=ad.out;have h2:=YN ab;have am:=Xi o h2
    have al:∀W,(Instr.slice 9 (.string (zb o)) (some (.int .i64 1)) (some (.int .i64 ((o.length:Int)-1))) none).run Tryz.prog W=.ok (.string (zb (YG o))) W:=fun W=>by
     have:=zc7 W o 1 (o.length-2) (by omega)
     rw [show (((1:Nat):Int)+((o.length-2:Nat):Int))=(o.length:Int)-1 by omega] at this
     exact this
    have HI:Hid (ZR (YG o)=ZR s):=(UI ab).symm.trans I;have ae:(zb (YG o)).size=(YG o).length:=Zd _;clear ab I
    go_wp2_with (first
     | (go_at_call 138;refine (J _).mono ?_;rintro e w1 ⟨rfl,Z⟩;obtain rfl:=Z.symm)
     | (go_at_call 139;refine (Q _).mono ?_;rintro e w1 ⟨rfl,Z⟩;obtain rfl:=Z.symm))
    exact ⟨⟨YG o,rfl,by omega,HI.out,trivial⟩,by simp only [aj,ae];omega⟩
   | false =>
    have HI:Hid (o=ZR s):=show _=_ by rw [←I];exact (Vk ad.out).symm
    clear I;obtain ⟨D,hD⟩:∃D,D=(s.length-o.length) / 2:=⟨_,rfl⟩;have U:D≤s.length:=by omega
    have hq:((s.length:Int)-(o.length:Int)).tdiv 2=(D:Int):=by
     rw [show ((s.length:Int)-(o.length:Int))=((s.length-o.length:Nat):Int) by omega,hD]
     rfl
    have ah:∀W,(Instr.slice 9 (.string (zb s)) none (some (.int .i64 (D:Int))) none).run Tryz.prog W=.ok (.string (zb (s.take D))) W:=fun W=>QN W s D U
    have ag:∀W,(Instr.slice 9 (.string (zb s)) (some (.int .i64 ((s.length:Int)-(D:Int)))) none none).run Tryz.prog W=.ok (.string (zb (s.drop (s.length-D)))) W:=fun W=>by
     have:=Xd W s (s.length-D) (by omega)
     rw [show (((s.length-D:Nat)):Int)=(s.length:Int)-(D:Int) by omega] at this
     exact this
    have aa:R=zd (some (s.take D)) (zd (tokO 1 0 o) (some (s.drop (s.length-D)))):=by rw [HR.out,hD,HI.out];rfl
    have H:Hid (R=zd (some (s.take D)) (zd (tokO 1 0 o) (some (s.drop (s.length-D))))):=aa;have L:=zw w0 r q t (s.take D) wr HW.out (by rw [List.length_take];omega)
    have ai:(zb s).size=s.length:=Zd s;clear hD aa HR HI af
    go_wp2_with (first
     | (go_at_call 138;refine (J _).mono ?_;rintro e w1 ⟨rfl,Z⟩;obtain rfl:=Z.symm)
     | (go_at_call 139;refine (Q _).mono ?_;rintro e w1 ⟨rfl,Z⟩;obtain rfl:=Z.symm)
     | fail)
    refine L.mono ?_;clear L J Q;rintro e w2 ⟨q2,A,rfl,O⟩;have cn:=yu w0 r q2 (t++s.take D) o w2 HT.out O (by omega)
    have Y:Hid (zT r q wr q2 w2):=A;clear A O;generalize tokO 1 0 o=X at *;go_wp2_with fail
    refine cn.mono ?_;clear cn;rintro e w3 ⟨q3,z,T⟩;have G:Hid (zT r q wr q3 w3):=Y.out.trans z;clear z;cases X with
    | none=>subst T;obtain rfl:R=none:=H.out;exact ⟨rfl,q3,G.out,rfl⟩
    | some u =>
     obtain ⟨rfl,V⟩:=T;have L:=zw w0 r q3 (t++s.take D++u) (s.drop (s.length-D)) w3 V (by rw [List.length_drop];omega)
     clear V;go_wp2_with fail
     refine L.mono ?_;clear L;rintro e w4 ⟨q4,y,rfl,N⟩;obtain rfl:R=some (s.take D++(u++s.drop (s.length-D))):=H.out;have HP:Hid (zn w0 r q t wr (some (s.take D++(u++s.drop (s.length-D)))) (.returned (.tuple #[])) w4):=⟨q4,G.out.trans y,rfl,by simpa only [List.append_assoc] using N⟩
     clear y N G Y HW H;go_wp2
     exact bodyPost_ret (v:=.tuple #[]) (by simp [results,Tryz.results109,go_sem]) rfl HP.out
  | false =>
   have HI:Hid (o=ZR s):=show _=_ by rw [←I];exact (Vk (by rw [ad.out];rfl)).symm
   clear I;obtain ⟨D,hD⟩:∃D,D=(s.length-o.length) / 2:=⟨_,rfl⟩;have U:D≤s.length:=by omega
   have hq:((s.length:Int)-(o.length:Int)).tdiv 2=(D:Int):=by
    rw [show ((s.length:Int)-(o.length:Int))=((s.length-o.length:Nat):Int) by omega,hD]
    rfl
   have ah:∀W,(Instr.slice 9 (.string (zb s)) none (some (.int .i64 (D:Int))) none).run Tryz.prog W=.ok (.string (zb (s.take D))) W:=fun W=>QN W s D U
   have ag:∀W,(Instr.slice 9 (.string (zb s)) (some (.int .i64 ((s.length:Int)-(D:Int)))) none none).run Tryz.prog W=.ok (.string (zb (s.drop (s.length-D)))) W:=fun W=>by
    have:=Xd W s (s.length-D) (by omega)
    rw [show (((s.length-D:Nat)):Int)=(s.length:Int)-(D:Int) by omega] at this
    exact this
   have aa:R=zd (some (s.take D)) (zd (tokO 1 0 o) (some (s.drop (s.length-D)))):=by rw [HR.out,hD,HI.out];rfl
   have H:Hid (R=zd (some (s.take D)) (zd (tokO 1 0 o) (some (s.drop (s.length-D))))):=aa;have L:=zw w0 r q t (s.take D) wr HW.out (by rw [List.length_take];omega)
   have ai:(zb s).size=s.length:=Zd s;clear hD aa HR HI af
   go_wp2_with (first
    | (go_at_call 138;refine (J _).mono ?_;rintro e w1 ⟨rfl,Z⟩;obtain rfl:=Z.symm)
    | (go_at_call 139;refine (Q _).mono ?_;rintro e w1 ⟨rfl,Z⟩;obtain rfl:=Z.symm)
    | fail)
   refine L.mono ?_;clear L J Q;rintro e w2 ⟨q2,A,rfl,O⟩;have cn:=yu w0 r q2 (t++s.take D) o w2 HT.out O (by omega)
   have Y:Hid (zT r q wr q2 w2):=A;clear A O;generalize tokO 1 0 o=X at *;go_wp2_with fail
   refine cn.mono ?_;clear cn;rintro e w3 ⟨q3,z,T⟩;have G:Hid (zT r q wr q3 w3):=Y.out.trans z;clear z;cases X with
   | none=>subst T;obtain rfl:R=none:=H.out;exact ⟨rfl,q3,G.out,rfl⟩
   | some u =>
    obtain ⟨rfl,V⟩:=T;have L:=zw w0 r q3 (t++s.take D++u) (s.drop (s.length-D)) w3 V (by rw [List.length_drop];omega)
    clear V;go_wp2_with fail
    refine L.mono ?_;clear L;rintro e w4 ⟨q4,y,rfl,N⟩;obtain rfl:R=some (s.take D++(u++s.drop (s.length-D))):=H.out;have HP:Hid (zn w0 r q t wr (some (s.take D++(u++s.drop (s.length-D)))) (.returned (.tuple #[])) w4):=⟨q4,G.out.trans y,rfl,by simpa only [List.append_assoc] using N⟩
    clear y N G Y HW H;go_wp2
    exact bodyPost_ret (v:=.tuple #[]) (by simp [results,Tryz.results109,go_sem]) rfl HP.out
end Go.Proofs.YtcphojjpapgblaaGreatDoor
