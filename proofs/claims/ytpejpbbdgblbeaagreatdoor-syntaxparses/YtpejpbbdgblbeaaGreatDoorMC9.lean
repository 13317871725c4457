import Derived.Test.YtpejpbbdgblbeaaGreatDoorMC8
import Derived.Test.YtpejpbbdgblbeaaGreatDoorShelf
namespace Go.Proofs.YtpejpbbdgblbeaaGreatDoor
open Go.RowKit Go.Shelf
set_option maxHeartbeats 16000000
set_option maxRecDepth 100000
def xR (k:Int) (s:List UInt8) (n:Int) (m:Nat):Bool :=
 if k=1 then s==[]&&m==0
 else if k=2 then s==[]&&m==0&&(n==0||n==1)
 else if k=3 then n==0&&m==0
 else if k=4 then n==0&&m==0
 else if k=5 then n==0
 else if k=11 then n==0
 else if k=6 then n==0&&m==1&&(s==[45]||s==[33])
 else if k=7 then n==0&&m==2&&decide (0<levelOf s)
 else if k=8 then n==0&&m==2&&s==[]
 else if k=9 then n==0&&m==1
 else if k=10 then n==0&&decide (1≤m)&&s==[]
 else false
abbrev Y3 (k:Int) (s:List UInt8) (n:Int) (base:Option Addr) (m cap:Nat) (line:Int):Obj:=.cells #[.int .i64 k,.string (za s),.int .i64 n,.slice base m cap,.int .i64 line] 45
abbrev Ye (k:Int) (s:List UInt8) (n:Int) (base:Option Addr) (m cap:Nat) (line:Int):Value:=.agg #[.int .i64 k,.string (za s),.int .i64 n,.slice base m cap,.int .i64 line]
theorem VW (s:List UInt8):levelOf s≤6:=by
 unfold levelOf
 cases h:levelsL.find? fun p=>decide (p.1=s) with
 | none=>simp
 | some p =>
  have:=List.mem_of_find?_eq_some h
  simp only [Option.map_some,Option.getD_some]
  revert this
  unfold levelsL
  simp only [List.mem_cons,List.not_mem_nil,or_false]
  rintro (rfl | rfl | rfl | rfl | rfl | rfl | rfl | rfl | rfl | rfl | rfl | rfl | rfl) <;> simp
theorem zi {w w2 w':World} (hb2:Below w.heap.size w w2) (h2:Below w2.heap.size w2 w'):Below w.heap.size w w':=hb2.trans (h2.mono hb2.size)
theorem zio (s:List UInt8) (n:Int) (base:Option Addr) (m cap:Nat) (line:Int) (w:World) :
  Calls Tryz.prog 78 #[Ye 1 s n base m cap line] w fun e w'=>e=.returned (.bool (s==[]&&m==0))∧Below w.heap.size w w':=by
 obtain ⟨w1,hw1⟩:∃w1,w1=w.alloc (Y3 1 s n base m cap line):=⟨_,rfl⟩;have hb1:Below w.heap.size w w1:=by rw [hw1];exact (Below.refl _ w).alloc (Nat.le_refl _) _
 have p1:w1.heap[w.heap.size]?=some (.cells #[.int .i64 1,.string (za s),.int .i64 n,.slice base m cap,.int .i64 line] 45 (0,0)):=by rw [hw1];exact World.alloc_heap_new w _
 have c0:w1.cell? ⟨w.heap.size,0,none⟩=some (.int .i64 1):=by simp only [World.cell?,p1];rfl
 have c1:w1.cell? ⟨w.heap.size,1,none⟩=some (.string (za s)):=by simp only [World.cell?,p1];rfl
 have c2:w1.cell? ⟨w.heap.size,2,none⟩=some (.int .i64 n):=by simp only [World.cell?,p1];rfl
 have c3:w1.cell? ⟨w.heap.size,3,none⟩=some (.slice base m cap):=by simp only [World.cell?,p1];rfl
 have HB:Hid (Below w.heap.size w w1):=hb1;have hw1':=hw1.symm;clear hb1 p1 hw1
 by_cases hs:s=[]
 ·subst hs
  by_cases hm0:m=0
  ·subst hm0
   go_enter Tryz.func78,Tryz.ntmps78
   go_wp2
   exact bodyPost_ret (v:=.bool true) (by simp [results,Tryz.results78,go_sem]) rfl ⟨by simp_all,HB.out⟩
  ·have hmI:((m:Int)==0)=false:=by rw [beq_eq_false_iff_ne];omega
   have hmN:(m==0)=false:=by rw [beq_eq_false_iff_ne];exact hm0
   go_enter Tryz.func78,Tryz.ntmps78
   go_wp2
   exact bodyPost_ret (v:=.bool false) (by simp [results,Tryz.results78,go_sem]) rfl ⟨by simp_all,HB.out⟩
 ·have hs1:(s==[])=false:=by simpa using hs
  go_enter Tryz.func78,Tryz.ntmps78
  go_wp2
  exact bodyPost_ret (v:=.bool false) (by simp [results,Tryz.results78,go_sem]) rfl ⟨by simp_all,HB.out⟩
theorem zip (s:List UInt8) (n:Int) (base:Option Addr) (m cap:Nat) (line:Int) (w:World) :
  Calls Tryz.prog 78 #[Ye 2 s n base m cap line] w fun e w'=>e=.returned (.bool (s==[]&&m==0&&(n==0||n==1)))∧Below w.heap.size w w':=by
 obtain ⟨w1,hw1⟩:∃w1,w1=w.alloc (Y3 2 s n base m cap line):=⟨_,rfl⟩;have hb1:Below w.heap.size w w1:=by rw [hw1];exact (Below.refl _ w).alloc (Nat.le_refl _) _
 have p1:w1.heap[w.heap.size]?=some (.cells #[.int .i64 2,.string (za s),.int .i64 n,.slice base m cap,.int .i64 line] 45 (0,0)):=by rw [hw1];exact World.alloc_heap_new w _
 have c0:w1.cell? ⟨w.heap.size,0,none⟩=some (.int .i64 2):=by simp only [World.cell?,p1];rfl
 have c1:w1.cell? ⟨w.heap.size,1,none⟩=some (.string (za s)):=by simp only [World.cell?,p1];rfl
 have c2:w1.cell? ⟨w.heap.size,2,none⟩=some (.int .i64 n):=by simp only [World.cell?,p1];rfl
 have c3:w1.cell? ⟨w.heap.size,3,none⟩=some (.slice base m cap):=by simp only [World.cell?,p1];rfl
 have HB:Hid (Below w.heap.size w w1):=hb1;have hw1':=hw1.symm;clear hb1 p1 hw1
 by_cases hs:s=[]
 ·subst hs
  by_cases hm0:m=0
  ·subst hm0
   by_cases hn:n=0
   ·subst hn
    go_enter Tryz.func78,Tryz.ntmps78
    go_wp2
    exact bodyPost_ret (v:=.bool true) (by simp [results,Tryz.results78,go_sem]) rfl ⟨by simp_all,HB.out⟩
   ·have hn1:(n==0)=false:=by rw [beq_eq_false_iff_ne];exact hn
    by_cases hn2:n=1
    ·subst hn2
     go_enter Tryz.func78,Tryz.ntmps78
     go_wp2
     exact bodyPost_ret (v:=.bool true) (by simp [results,Tryz.results78,go_sem]) rfl ⟨by simp_all,HB.out⟩
    ·have hn3:(n==1)=false:=by rw [beq_eq_false_iff_ne];exact hn2
     go_enter Tryz.func78,Tryz.ntmps78
     go_wp2
     exact bodyPost_ret (v:=.bool false) (by simp [results,Tryz.results78,go_sem]) rfl ⟨by simp_all,HB.out⟩
  ·have hmI:((m:Int)==0)=false:=by rw [beq_eq_false_iff_ne];omega
   have hmN:(m==0)=false:=by rw [beq_eq_false_iff_ne];exact hm0
   go_enter Tryz.func78,Tryz.ntmps78
   go_wp2
   exact bodyPost_ret (v:=.bool false) (by simp [results,Tryz.results78,go_sem]) rfl ⟨by simp_all,HB.out⟩
 ·have hs1:(s==[])=false:=by simpa using hs
  go_enter Tryz.func78,Tryz.ntmps78
  go_wp2
  exact bodyPost_ret (v:=.bool false) (by simp [results,Tryz.results78,go_sem]) rfl ⟨by simp_all,HB.out⟩
theorem ziq (s:List UInt8) (n:Int) (base:Option Addr) (m cap:Nat) (line:Int) (w:World) :
  Calls Tryz.prog 78 #[Ye 3 s n base m cap line] w fun e w'=>e=.returned (.bool (n==0&&m==0))∧Below w.heap.size w w':=by
 obtain ⟨w1,hw1⟩:∃w1,w1=w.alloc (Y3 3 s n base m cap line):=⟨_,rfl⟩;have hb1:Below w.heap.size w w1:=by rw [hw1];exact (Below.refl _ w).alloc (Nat.le_refl _) _
 have p1:w1.heap[w.heap.size]?=some (.cells #[.int .i64 3,.string (za s),.int .i64 n,.slice base m cap,.int .i64 line] 45 (0,0)):=by rw [hw1];exact World.alloc_heap_new w _
 have c0:w1.cell? ⟨w.heap.size,0,none⟩=some (.int .i64 3):=by simp only [World.cell?,p1];rfl
 have c1:w1.cell? ⟨w.heap.size,1,none⟩=some (.string (za s)):=by simp only [World.cell?,p1];rfl
 have c2:w1.cell? ⟨w.heap.size,2,none⟩=some (.int .i64 n):=by simp only [World.cell?,p1];rfl
 have c3:w1.cell? ⟨w.heap.size,3,none⟩=some (.slice base m cap):=by simp only [World.cell?,p1];rfl
 have HB:Hid (Below w.heap.size w w1):=hb1;have hw1':=hw1.symm;clear hb1 p1 hw1
 by_cases hn:n=0
 ·subst hn
  by_cases hm0:m=0
  ·subst hm0
   go_enter Tryz.func78,Tryz.ntmps78
   go_wp2
   exact bodyPost_ret (v:=.bool true) (by simp [results,Tryz.results78,go_sem]) rfl ⟨by simp_all,HB.out⟩
  ·have hmI:((m:Int)==0)=false:=by rw [beq_eq_false_iff_ne];omega
   have hmN:(m==0)=false:=by rw [beq_eq_false_iff_ne];exact hm0
   go_enter Tryz.func78,Tryz.ntmps78
   go_wp2
   exact bodyPost_ret (v:=.bool false) (by simp [results,Tryz.results78,go_sem]) rfl ⟨by simp_all,HB.out⟩
 ·have hn1:(n==0)=false:=by rw [beq_eq_false_iff_ne];exact hn
  go_enter Tryz.func78,Tryz.ntmps78
  go_wp2
  exact bodyPost_ret (v:=.bool false) (by simp [results,Tryz.results78,go_sem]) rfl ⟨by simp_all,HB.out⟩
theorem zir (s:List UInt8) (n:Int) (base:Option Addr) (m cap:Nat) (line:Int) (w:World) :
  Calls Tryz.prog 78 #[Ye 4 s n base m cap line] w fun e w'=>e=.returned (.bool (n==0&&m==0))∧Below w.heap.size w w':=by
 obtain ⟨w1,hw1⟩:∃w1,w1=w.alloc (Y3 4 s n base m cap line):=⟨_,rfl⟩;have hb1:Below w.heap.size w w1:=by rw [hw1];exact (Below.refl _ w).alloc (Nat.le_refl _) _
 have p1:w1.heap[w.heap.size]?=some (.cells #[.int .i64 4,.string (za s),.int .i64 n,.slice base m cap,.int .i64 line] 45 (0,0)):=by rw [hw1];exact World.alloc_heap_new w _
 have c0:w1.cell? ⟨w.heap.size,0,none⟩=some (.int .i64 4):=by simp only [World.cell?,p1];rfl
 have c1:w1.cell? ⟨w.heap.size,1,none⟩=some (.string (za s)):=by simp only [World.cell?,p1];rfl
 have c2:w1.cell? ⟨w.heap.size,2,none⟩=some (.int .i64 n):=by simp only [World.cell?,p1];rfl
 have c3:w1.cell? ⟨w.heap.size,3,none⟩=some (.slice base m cap):=by simp only [World.cell?,p1];rfl
 have HB:Hid (Below w.heap.size w w1):=hb1;have hw1':=hw1.symm;clear hb1 p1 hw1
 by_cases hn:n=0
 ·subst hn
  by_cases hm0:m=0
  ·subst hm0
   go_enter Tryz.func78,Tryz.ntmps78
   go_wp2
   exact bodyPost_ret (v:=.bool true) (by simp [results,Tryz.results78,go_sem]) rfl ⟨by simp_all,HB.out⟩
  ·have hmI:((m:Int)==0)=false:=by rw [beq_eq_false_iff_ne];omega
   have hmN:(m==0)=false:=by rw [beq_eq_false_iff_ne];exact hm0
   go_enter Tryz.func78,Tryz.ntmps78
   go_wp2
   exact bodyPost_ret (v:=.bool false) (by simp [results,Tryz.results78,go_sem]) rfl ⟨by simp_all,HB.out⟩
 ·have hn1:(n==0)=false:=by rw [beq_eq_false_iff_ne];exact hn
  go_enter Tryz.func78,Tryz.ntmps78
  go_wp2
  exact bodyPost_ret (v:=.bool false) (by simp [results,Tryz.results78,go_sem]) rfl ⟨by simp_all,HB.out⟩
theorem zis (s:List UInt8) (n:Int) (base:Option Addr) (m cap:Nat) (line:Int) (w:World) :
  Calls Tryz.prog 78 #[Ye 5 s n base m cap line] w fun e w'=>e=.returned (.bool (n==0))∧Below w.heap.size w w':=by
 obtain ⟨w1,hw1⟩:∃w1,w1=w.alloc (Y3 5 s n base m cap line):=⟨_,rfl⟩;have hb1:Below w.heap.size w w1:=by rw [hw1];exact (Below.refl _ w).alloc (Nat.le_refl _) _
 have p1:w1.heap[w.heap.size]?=some (.cells #[.int .i64 5,.string (za s),.int .i64 n,.slice base m cap,.int .i64 line] 45 (0,0)):=by rw [hw1];exact World.alloc_heap_new w _
 have c0:w1.cell? ⟨w.heap.size,0,none⟩=some (.int .i64 5):=by simp only [World.cell?,p1];rfl
 have c1:w1.cell? ⟨w.heap.size,1,none⟩=some (.string (za s)):=by simp only [World.cell?,p1];rfl
 have c2:w1.cell? ⟨w.heap.size,2,none⟩=some (.int .i64 n):=by simp only [World.cell?,p1];rfl
 have c3:w1.cell? ⟨w.heap.size,3,none⟩=some (.slice base m cap):=by simp only [World.cell?,p1];rfl
 have HB:Hid (Below w.heap.size w w1):=hb1;have hw1':=hw1.symm;clear hb1 p1 hw1
 by_cases hn:n=0
 ·subst hn
  go_enter Tryz.func78,Tryz.ntmps78
  go_wp2
  exact bodyPost_ret (v:=.bool true) (by simp [results,Tryz.results78,go_sem]) rfl ⟨by simp_all,HB.out⟩
 ·have hn1:(n==0)=false:=by rw [beq_eq_false_iff_ne];exact hn
  go_enter Tryz.func78,Tryz.ntmps78
  go_wp2
  exact bodyPost_ret (v:=.bool false) (by simp [results,Tryz.results78,go_sem]) rfl ⟨by simp_all,HB.out⟩
theorem zhA (s:List UInt8) (n:Int) (base:Option Addr) (m cap:Nat) (line:Int) (w:World) :
  Calls Tryz.prog 78 #[Ye 11 s n base m cap line] w fun e w'=>e=.returned (.bool (n==0))∧Below w.heap.size w w':=by
 obtain ⟨w1,hw1⟩:∃w1,w1=w.alloc (Y3 11 s n base m cap line):=⟨_,rfl⟩;have hb1:Below w.heap.size w w1:=by rw [hw1];exact (Below.refl _ w).alloc (Nat.le_refl _) _
 have p1:w1.heap[w.heap.size]?=some (.cells #[.int .i64 11,.string (za s),.int .i64 n,.slice base m cap,.int .i64 line] 45 (0,0)):=by rw [hw1];exact World.alloc_heap_new w _
 have c0:w1.cell? ⟨w.heap.size,0,none⟩=some (.int .i64 11):=by simp only [World.cell?,p1];rfl
 have c1:w1.cell? ⟨w.heap.size,1,none⟩=some (.string (za s)):=by simp only [World.cell?,p1];rfl
 have c2:w1.cell? ⟨w.heap.size,2,none⟩=some (.int .i64 n):=by simp only [World.cell?,p1];rfl
 have c3:w1.cell? ⟨w.heap.size,3,none⟩=some (.slice base m cap):=by simp only [World.cell?,p1];rfl
 have HB:Hid (Below w.heap.size w w1):=hb1;have hw1':=hw1.symm;clear hb1 p1 hw1
 by_cases hn:n=0
 ·subst hn
  go_enter Tryz.func78,Tryz.ntmps78
  go_wp2
  exact bodyPost_ret (v:=.bool true) (by simp [results,Tryz.results78,go_sem]) rfl ⟨by simp_all,HB.out⟩
 ·have hn1:(n==0)=false:=by rw [beq_eq_false_iff_ne];exact hn
  go_enter Tryz.func78,Tryz.ntmps78
  go_wp2
  exact bodyPost_ret (v:=.bool false) (by simp [results,Tryz.results78,go_sem]) rfl ⟨by simp_all,HB.out⟩
theorem zit (s:List UInt8) (n:Int) (base:Option Addr) (m cap:Nat) (line:Int) (w:World) :
  Calls Tryz.prog 78 #[Ye 6 s n base m cap line] w fun e w'=>e=.returned (.bool (n==0&&m==1&&(s==[45]||s==[33])))∧Below w.heap.size w w':=by
 obtain ⟨w1,hw1⟩:∃w1,w1=w.alloc (Y3 6 s n base m cap line):=⟨_,rfl⟩;have hb1:Below w.heap.size w w1:=by rw [hw1];exact (Below.refl _ w).alloc (Nat.le_refl _) _
 have p1:w1.heap[w.heap.size]?=some (.cells #[.int .i64 6,.string (za s),.int .i64 n,.slice base m cap,.int .i64 line] 45 (0,0)):=by rw [hw1];exact World.alloc_heap_new w _
 have c0:w1.cell? ⟨w.heap.size,0,none⟩=some (.int .i64 6):=by simp only [World.cell?,p1];rfl
 have c1:w1.cell? ⟨w.heap.size,1,none⟩=some (.string (za s)):=by simp only [World.cell?,p1];rfl
 have c2:w1.cell? ⟨w.heap.size,2,none⟩=some (.int .i64 n):=by simp only [World.cell?,p1];rfl
 have c3:w1.cell? ⟨w.heap.size,3,none⟩=some (.slice base m cap):=by simp only [World.cell?,p1];rfl
 have HB:Hid (Below w.heap.size w w1):=hb1;have hw1':=hw1.symm;clear hb1 p1 hw1
 by_cases hn:n=0
 ·subst hn
  by_cases hm1:m=1
  ·subst hm1
   have ca:=VS s w1;obtain ⟨R,hR⟩:∃R,R=(s==[45]||s==[33]):=⟨_,rfl⟩;rw [←hR] at ca ⊢;clear hR
   go_enter Tryz.func78,Tryz.ntmps78
   go_wp2_with fail
   refine ca.mono ?_;rintro e w2 ⟨rfl,rfl⟩;clear ca;go_wp2
   exact bodyPost_ret (v:=.bool R) (by simp [results,Tryz.results78,go_sem]) rfl ⟨by simp_all,HB.out⟩
  ·have hmI:((m:Int)==1)=false:=by rw [beq_eq_false_iff_ne];omega
   have hmN:(m==1)=false:=by rw [beq_eq_false_iff_ne];exact hm1
   go_enter Tryz.func78,Tryz.ntmps78
   go_wp2
   exact bodyPost_ret (v:=.bool false) (by simp [results,Tryz.results78,go_sem]) rfl ⟨by simp_all,HB.out⟩
 ·have hn1:(n==0)=false:=by rw [beq_eq_false_iff_ne];exact hn
  go_enter Tryz.func78,Tryz.ntmps78
  go_wp2
  exact bodyPost_ret (v:=.bool false) (by simp [results,Tryz.results78,go_sem]) rfl ⟨by simp_all,HB.out⟩
theorem ziu (s:List UInt8) (n:Int) (base:Option Addr) (m cap:Nat) (line:Int) (w:World) (ht:ZS w) :
  Calls Tryz.prog 78 #[Ye 7 s n base m cap line] w fun e w'=>e=.returned (.bool (n==0&&m==2&&decide (0<levelOf s)))∧Below w.heap.size w w':=by
 obtain ⟨w1,hw1⟩:∃w1,w1=w.alloc (Y3 7 s n base m cap line):=⟨_,rfl⟩;have hb1:Below w.heap.size w w1:=by rw [hw1];exact (Below.refl _ w).alloc (Nat.le_refl _) _
 have p1:w1.heap[w.heap.size]?=some (.cells #[.int .i64 7,.string (za s),.int .i64 n,.slice base m cap,.int .i64 line] 45 (0,0)):=by rw [hw1];exact World.alloc_heap_new w _
 have c0:w1.cell? ⟨w.heap.size,0,none⟩=some (.int .i64 7):=by simp only [World.cell?,p1];rfl
 have c1:w1.cell? ⟨w.heap.size,1,none⟩=some (.string (za s)):=by simp only [World.cell?,p1];rfl
 have c2:w1.cell? ⟨w.heap.size,2,none⟩=some (.int .i64 n):=by simp only [World.cell?,p1];rfl
 have c3:w1.cell? ⟨w.heap.size,3,none⟩=some (.slice base m cap):=by simp only [World.cell?,p1];rfl
 have cl:=vA s w1 (fun j v hj=>by rw [hw1];exact ze (ht j v hj) _)
 have HB:Hid (Below w.heap.size w w1):=hb1;have hw1':=hw1.symm;clear hb1 p1 hw1 ht
 by_cases hn:n=0
 ·subst hn
  by_cases hm2:m=2
  ·subst hm2
   obtain ⟨L,hL⟩:∃L,L=levelOf s:=⟨_,rfl⟩;rw [←hL] at cl ⊢;have hlev:L≤6:=by rw [hL];exact VW s
   clear hL
   go_enter Tryz.func78,Tryz.ntmps78
   go_wp2_with fail
   refine cl.mono ?_;rintro e w2 ⟨rfl,hb2⟩;clear cl;have HB2:Hid (Below w.heap.size w w2):=zi HB.out hb2;clear hb2
   by_cases hL0:0<L
   ·have hL1:(0:Int)<(L:Int):=by omega
    go_wp2
    exact bodyPost_ret (v:=.bool true) (by simp [results,Tryz.results78,go_sem]) rfl ⟨by simp_all,HB2.out⟩
   ·obtain rfl:L=0:=by omega
    go_wp2
    exact bodyPost_ret (v:=.bool false) (by simp [results,Tryz.results78,go_sem]) rfl ⟨by simp_all,HB2.out⟩
  ·have hmI:((m:Int)==2)=false:=by rw [beq_eq_false_iff_ne];omega
   have hmN:(m==2)=false:=by rw [beq_eq_false_iff_ne];exact hm2
   go_enter Tryz.func78,Tryz.ntmps78
   go_wp2
   exact bodyPost_ret (v:=.bool false) (by simp [results,Tryz.results78,go_sem]) rfl ⟨by simp_all,HB.out⟩
 ·have hn1:(n==0)=false:=by rw [beq_eq_false_iff_ne];exact hn
  go_enter Tryz.func78,Tryz.ntmps78
  go_wp2
  exact bodyPost_ret (v:=.bool false) (by simp [results,Tryz.results78,go_sem]) rfl ⟨by simp_all,HB.out⟩
theorem ziv (s:List UInt8) (n:Int) (base:Option Addr) (m cap:Nat) (line:Int) (w:World) :
  Calls Tryz.prog 78 #[Ye 8 s n base m cap line] w fun e w'=>e=.returned (.bool (n==0&&m==2&&s==[]))∧Below w.heap.size w w':=by
 obtain ⟨w1,hw1⟩:∃w1,w1=w.alloc (Y3 8 s n base m cap line):=⟨_,rfl⟩;have hb1:Below w.heap.size w w1:=by rw [hw1];exact (Below.refl _ w).alloc (Nat.le_refl _) _
 have p1:w1.heap[w.heap.size]?=some (.cells #[.int .i64 8,.string (za s),.int .i64 n,.slice base m cap,.int .i64 line] 45 (0,0)):=by rw [hw1];exact World.alloc_heap_new w _
 have c0:w1.cell? ⟨w.heap.size,0,none⟩=some (.int .i64 8):=by simp only [World.cell?,p1];rfl
 have c1:w1.cell? ⟨w.heap.size,1,none⟩=some (.string (za s)):=by simp only [World.cell?,p1];rfl
 have c2:w1.cell? ⟨w.heap.size,2,none⟩=some (.int .i64 n):=by simp only [World.cell?,p1];rfl
 have c3:w1.cell? ⟨w.heap.size,3,none⟩=some (.slice base m cap):=by simp only [World.cell?,p1];rfl
 have HB:Hid (Below w.heap.size w w1):=hb1;have hw1':=hw1.symm;clear hb1 p1 hw1
 by_cases hn:n=0
 ·subst hn
  by_cases hm2:m=2
  ·subst hm2
   by_cases hs:s=[]
   ·subst hs
    go_enter Tryz.func78,Tryz.ntmps78
    go_wp2
    exact bodyPost_ret (v:=.bool true) (by simp [results,Tryz.results78,go_sem]) rfl ⟨by simp_all,HB.out⟩
   ·have hs1:(s==[])=false:=by simpa using hs
    go_enter Tryz.func78,Tryz.ntmps78
    go_wp2
    exact bodyPost_ret (v:=.bool false) (by simp [results,Tryz.results78,go_sem]) rfl ⟨by simp_all,HB.out⟩
  ·have hmI:((m:Int)==2)=false:=by rw [beq_eq_false_iff_ne];omega
   have hmN:(m==2)=false:=by rw [beq_eq_false_iff_ne];exact hm2
   go_enter Tryz.func78,Tryz.ntmps78
   go_wp2
   exact bodyPost_ret (v:=.bool false) (by simp [results,Tryz.results78,go_sem]) rfl ⟨by simp_all,HB.out⟩
 ·have hn1:(n==0)=false:=by rw [beq_eq_false_iff_ne];exact hn
  go_enter Tryz.func78,Tryz.ntmps78
  go_wp2
  exact bodyPost_ret (v:=.bool false) (by simp [results,Tryz.results78,go_sem]) rfl ⟨by simp_all,HB.out⟩
theorem ziw (s:List UInt8) (n:Int) (base:Option Addr) (m cap:Nat) (line:Int) (w:World) :
  Calls Tryz.prog 78 #[Ye 9 s n base m cap line] w fun e w'=>e=.returned (.bool (n==0&&m==1))∧Below w.heap.size w w':=by
 obtain ⟨w1,hw1⟩:∃w1,w1=w.alloc (Y3 9 s n base m cap line):=⟨_,rfl⟩;have hb1:Below w.heap.size w w1:=by rw [hw1];exact (Below.refl _ w).alloc (Nat.le_refl _) _
 have p1:w1.heap[w.heap.size]?=some (.cells #[.int .i64 9,.string (za s),.int .i64 n,.slice base m cap,.int .i64 line] 45 (0,0)):=by rw [hw1];exact World.alloc_heap_new w _
 have c0:w1.cell? ⟨w.heap.size,0,none⟩=some (.int .i64 9):=by simp only [World.cell?,p1];rfl
 have c1:w1.cell? ⟨w.heap.size,1,none⟩=some (.string (za s)):=by simp only [World.cell?,p1];rfl
 have c2:w1.cell? ⟨w.heap.size,2,none⟩=some (.int .i64 n):=by simp only [World.cell?,p1];rfl
 have c3:w1.cell? ⟨w.heap.size,3,none⟩=some (.slice base m cap):=by simp only [World.cell?,p1];rfl
 have HB:Hid (Below w.heap.size w w1):=hb1;have hw1':=hw1.symm;clear hb1 p1 hw1
 by_cases hn:n=0
 ·subst hn
  by_cases hm1:m=1
  ·subst hm1
   go_enter Tryz.func78,Tryz.ntmps78
   go_wp2
   exact bodyPost_ret (v:=.bool true) (by simp [results,Tryz.results78,go_sem]) rfl ⟨by simp_all,HB.out⟩
  ·have hmI:((m:Int)==1)=false:=by rw [beq_eq_false_iff_ne];omega
   have hmN:(m==1)=false:=by rw [beq_eq_false_iff_ne];exact hm1
   go_enter Tryz.func78,Tryz.ntmps78
   go_wp2
   exact bodyPost_ret (v:=.bool false) (by simp [results,Tryz.results78,go_sem]) rfl ⟨by simp_all,HB.out⟩
 ·have hn1:(n==0)=false:=by rw [beq_eq_false_iff_ne];exact hn
  go_enter Tryz.func78,Tryz.ntmps78
  go_wp2
  exact bodyPost_ret (v:=.bool false) (by simp [results,Tryz.results78,go_sem]) rfl ⟨by simp_all,HB.out⟩
theorem zhB (s:List UInt8) (n:Int) (base:Option Addr) (m cap:Nat) (line:Int) (w:World) :
  Calls Tryz.prog 78 #[Ye 10 s n base m cap line] w fun e w'=>e=.returned (.bool (n==0&&decide (1≤m)&&s==[]))∧Below w.heap.size w w':=by
 obtain ⟨w1,hw1⟩:∃w1,w1=w.alloc (Y3 10 s n base m cap line):=⟨_,rfl⟩;have hb1:Below w.heap.size w w1:=by rw [hw1];exact (Below.refl _ w).alloc (Nat.le_refl _) _
 have p1:w1.heap[w.heap.size]?=some (.cells #[.int .i64 10,.string (za s),.int .i64 n,.slice base m cap,.int .i64 line] 45 (0,0)):=by rw [hw1];exact World.alloc_heap_new w _
 have c0:w1.cell? ⟨w.heap.size,0,none⟩=some (.int .i64 10):=by simp only [World.cell?,p1];rfl
 have c1:w1.cell? ⟨w.heap.size,1,none⟩=some (.string (za s)):=by simp only [World.cell?,p1];rfl
 have c2:w1.cell? ⟨w.heap.size,2,none⟩=some (.int .i64 n):=by simp only [World.cell?,p1];rfl
 have c3:w1.cell? ⟨w.heap.size,3,none⟩=some (.slice base m cap):=by simp only [World.cell?,p1];rfl
 have HB:Hid (Below w.heap.size w w1):=hb1;have hw1':=hw1.symm;clear hb1 p1 hw1
 by_cases hn:n=0
 ·subst hn
  by_cases hm1:1≤m
  ·have hm3:(1:Int)≤(m:Int):=by omega
   by_cases hs:s=[]
   ·subst hs
    go_enter Tryz.func78,Tryz.ntmps78
    go_wp2
    exact bodyPost_ret (v:=.bool true) (by simp [results,Tryz.results78,go_sem]) rfl ⟨by simp_all,HB.out⟩
   ·have hs1:(s==[])=false:=by simpa using hs
    go_enter Tryz.func78,Tryz.ntmps78
    go_wp2
    exact bodyPost_ret (v:=.bool false) (by simp [results,Tryz.results78,go_sem]) rfl ⟨by simp_all,HB.out⟩
  ·obtain rfl:m=0:=by omega
   go_enter Tryz.func78,Tryz.ntmps78
   go_wp2
   exact bodyPost_ret (v:=.bool false) (by simp [results,Tryz.results78,go_sem]) rfl ⟨by simp_all,HB.out⟩
 ·have hn1:(n==0)=false:=by rw [beq_eq_false_iff_ne];exact hn
  go_enter Tryz.func78,Tryz.ntmps78
  go_wp2
  exact bodyPost_ret (v:=.bool false) (by simp [results,Tryz.results78,go_sem]) rfl ⟨by simp_all,HB.out⟩
theorem zhC (k:Int) (s:List UInt8) (n:Int) (base:Option Addr) (m cap:Nat) (line:Int) (w:World) (h1:k≠1) (h2:k≠2) (h3:k≠3) (h4:k≠4) (h5:k≠5) (h11:k≠11) (h6:k≠6) (h7:k≠7) (h8:k≠8) (h9:k≠9) (h10:k≠10) :
  Calls Tryz.prog 78 #[Ye k s n base m cap line] w fun e w'=>e=.returned (.bool false)∧Below w.heap.size w w':=by
 have HB:Hid (Below w.heap.size w (w.alloc (Y3 k s n base m cap line))):=show Below _ _ _ from (Below.refl _ w).alloc (Nat.le_refl _) _
 have g1:(k==1)=false:=by rw [beq_eq_false_iff_ne];exact h1
 have g2:(k==2)=false:=by rw [beq_eq_false_iff_ne];exact h2
 have g3:(k==3)=false:=by rw [beq_eq_false_iff_ne];exact h3
 have g4:(k==4)=false:=by rw [beq_eq_false_iff_ne];exact h4
 have g5:(k==5)=false:=by rw [beq_eq_false_iff_ne];exact h5
 have g11:(k==11)=false:=by rw [beq_eq_false_iff_ne];exact h11
 have g6:(k==6)=false:=by rw [beq_eq_false_iff_ne];exact h6
 have g7:(k==7)=false:=by rw [beq_eq_false_iff_ne];exact h7
 have g8:(k==8)=false:=by rw [beq_eq_false_iff_ne];exact h8
 have g9:(k==9)=false:=by rw [beq_eq_false_iff_ne];exact h9
 have g10:(k==10)=false:=by rw [beq_eq_false_iff_ne];exact h10
 clear h1 h2 h3 h4 h5 h11 h6 h7 h8 h9 h10
 go_enter Tryz.func78,Tryz.ntmps78
 go_wp2
 exact bodyPost_ret (v:=.bool false) (by simp [results,Tryz.results78,go_sem]) rfl ⟨rfl,HB.out⟩
theorem yw (k:Int) (s:List UInt8) (n:Int) (base:Option Addr) (m cap:Nat) (line:Int) (w:World) (ht:ZS w) :
  Calls Tryz.prog 78 #[Ye k s n base m cap line] w fun e w'=>e=.returned (.bool (xR k s n m))∧Below w.heap.size w w':=by
 unfold xR
 by_cases h1:k=1
 ·subst h1;exact zio s n base m cap line w
 rw [if_neg h1]
 by_cases h2:k=2
 ·subst h2;exact zip s n base m cap line w
 rw [if_neg h2]
 by_cases h3:k=3
 ·subst h3;exact ziq s n base m cap line w
 rw [if_neg h3]
 by_cases h4:k=4
 ·subst h4;exact zir s n base m cap line w
 rw [if_neg h4]
 by_cases h5:k=5
 ·subst h5;exact zis s n base m cap line w
 rw [if_neg h5]
 by_cases h11:k=11
 ·subst h11;exact zhA s n base m cap line w
 rw [if_neg h11]
 by_cases h6:k=6
 ·subst h6;exact zit s n base m cap line w
 rw [if_neg h6]
 by_cases h7:k=7
 ·subst h7;exact ziu s n base m cap line w ht
 rw [if_neg h7]
 by_cases h8:k=8
 ·subst h8;exact ziv s n base m cap line w
 rw [if_neg h8]
 by_cases h9:k=9
 ·subst h9;exact ziw s n base m cap line w
 rw [if_neg h9]
 by_cases h10:k=10
 ·subst h10;exact zhB s n base m cap line w
 rw [if_neg h10];exact zhC k s n base m cap line w h1 h2 h3 h4 h5 h11 h6 h7 h8 h9 h10
inductive Ez where
 | mk (k:Int) (s:List UInt8) (n:Int) (kids:List Ez) (line:Int)
inductive ZJ (B:Nat) (w:World):Ez→Value→Prop where
 | mk (k:Int) (s:List UInt8) (n:Int) (kids:List Ez) (line:Int) (base:Option Addr) (cap b o:Nat) (us:List (List Value)) (hs:s.length≤100000000) (hn0:-9223372036854775808≤n) (hn1:n≤9223372036854775807)
   (hbase:kids≠[]→base=some ⟨b,o,none⟩∧b<B∧b<w.heap.size) (hlen:us.length=kids.length) (hc:kids.length≤cap) (hm:cap≤maxLen)
   (hcell:∀j u,us.flatten[j]?=some u→w.cell? ⟨b,o+j,none⟩=some u) (hfive:∀c∈us,c.length=5)
   (hk:∀(j:Nat) (x:Ez) (c:List Value),kids[j]?=some x→us[j]?=some c→ZJ B w x (.agg c.toArray)) :
   ZJ B w (.mk k s n kids line) (Ye k s n base kids.length cap line)
theorem ZJ.kept {B:Nat} {w w':World} {x:Ez} {v:Value} (h:ZJ B w x v) (hb:Below B w w'):ZJ B w' x v:=by
 induction h with
 | mk k s n kids line base cap b o us hs hn0 hn1 hbase hlen hc hm hcell hfive _ ih =>
  refine .mk k s n kids line base cap b o us hs hn0 hn1 (fun h=>⟨(hbase h).1,(hbase h).2.1,Nat.lt_of_lt_of_le (hbase h).2.2 hb.size⟩) hlen hc hm (fun j u hj=>?_) hfive ih
  have hne:kids≠[]:=by
   rintro rfl
   have:us=[]:=List.eq_nil_of_length_eq_zero hlen
   subst this
   simp at hj
  rw [World.cell?_of_block (hb.block b (hbase hne).2.1)];exact hcell j u hj
def zd (a b:Option (List UInt8)):Option (List UInt8):=match a with
 | none=>none
 | some s=>match b with
  | none=>none
  | some u=>some (s++u)
def rowO (l:List (Option (List UInt8))):Nat→Option (List UInt8)
 | 0=>some []
 | i+1=>zd (rowO l i) (zd (some (if i=0 then [] else [44,32])) ((l[i]?).getD none))
def lvE:Ez→Nat
 | .mk k s _ _ _=>if k=7 then levelOf s else if k=6 then 7 else 8
def kidO (x:Ez) (least:Nat) (u:Option (List UInt8)):Option (List UInt8):=if least≤lvE x then u else zd (some [40]) (zd u (some [41]))
def prE:Nat→Ez→Option (List UInt8)
 | 0,_=>none
 | d+1,.mk k s n kids _ =>
  if xR k s n kids.length=true then
   if k=1 then tokO 2 n []
   else if k=2 then some (if n=0 then [102,97,108,115,101] else [116,114,117,101])
   else if k=3 then tokO 3 0 s
   else if k=4 then tokO 1 0 s
   else if k=5 then zd (tokO 1 0 s) (zd (some [40]) (zd (rowO (kids.map (prE d)) kids.length) (some [41])))
   else if k=11 then zd (some [110,101,119,32]) (zd (tokO 1 0 s) (zd (some [40]) (zd (rowO (kids.map (prE d)) kids.length) (some [41]))))
   else if k=10 then zd (some [91]) (zd (rowO (kids.map (prE d)) kids.length) (some [93]))
   else if k=6 then match kids with
    | a::_=>zd (some s) (kidO a 7 (prE d a))
    | _=>none
   else if k=7 then match kids with
    | a::b::_=>zd (kidO a (levelOf s) (prE d a)) (zd (some [32]) (zd (some s) (zd (some [32]) (kidO b (levelOf s+1) (prE d b)))))
    | _=>none
   else if k=8 then match kids with
    | a::b::_=>zd (kidO a 8 (prE d a)) (zd (some [91]) (zd (prE d b) (some [93])))
    | _=>none
   else if k=9 then match kids with
    | a::_=>zd (kidO a 8 (prE d a)) (zd (some [46]) (tokO 1 0 s))
    | _=>none
   else none
  else none
theorem zr.seq {w0:World} {r:Nat} {q q1:Option Nat} {t s:List UInt8} {w w1 w2:World} {R:Option (List UInt8)} {e:Ending} (h:zX r q w q1 w1) (h2:zr w0 r q1 (t++s) w1 R e w2):zr w0 r q t w (zd (some s) R) e w2:=by
 obtain ⟨q2,hto,hp⟩:=h2;refine ⟨q2,h.trans hto,?_⟩;cases R with
 | none=>exact hp
 | some u=>exact ⟨hp.1,by rw [←List.append_assoc];exact hp.2⟩
theorem zr.stop {w0:World} {r:Nat} {q q1:Option Nat} {t:List UInt8} {w w1:World} {R:Option (List UInt8)} {e:Ending} (h:zX r q w q1 w1) (he:e=zcE):zr w0 r q t w (zd none R) e w1:=⟨q1,h,he⟩
theorem zcJ (R:Option (List UInt8)):zd (some []) R=R:=by
 cases R <;> simp [zd]
theorem Uq (a b c:Option (List UInt8)):zd (zd a b) c=zd a (zd b c):=by
 cases a <;> cases b <;> cases c <;> simp [zd]
def Ur (l:List UInt8):Bool:=Lib.hasPrefix l [91]&&Lib.hasSuffix l [93]
def vM (l:List UInt8):List UInt8:=(l.drop 1).take (l.length-2)
theorem X5 {l:List UInt8} (h:Ur l=true):2≤l.length:=by
 unfold Ur Lib.hasPrefix Lib.hasSuffix at h
 rw [Bool.and_eq_true] at h;obtain ⟨h1,h2⟩:=h;obtain ⟨a,rfl⟩:=List.isPrefixOf_iff_prefix.1 h1;obtain ⟨b,hb⟩:=List.isSuffixOf_iff_suffix.1 h2;cases a with
 | nil =>
  exfalso
  have e:=congrArg List.getLast? hb
  simp at e
 | cons x xs=>simp
theorem Vg (l:List UInt8) (h:2≤l.length):(vM l).length+2=l.length:=by
 unfold vM
 rw [List.length_take,List.length_drop];omega
def xV:Nat→List UInt8→List UInt8
 | 0,l=>l
 | f+1,l=>if Ur l=true then xV f (vM l) else l
def Y4 (s:List UInt8):List UInt8:=xV s.length s
theorem zep (f:Nat):∀l,(xV f l).length≤l.length:=by
 induction f with
 | zero=>intro l;simp [xV]
 | succ f ih =>
  intro l;rw [xV]
  split
  ·rename_i h
   have:=Vg l (X5 h)
   have:=ih (vM l)
   omega
  ·exact Nat.le_refl _
theorem zcK (f:Nat):∀l,l.length≤f→xV (f+1) l=xV f l:=by
 induction f with
 | zero =>
  intro l hl;rw [xV,xV];rw [if_neg (fun h=>by have:=X5 h;omega)]
 | succ f ih =>
  intro l hl;rw [xV];rw [show xV (f+1) l=if Ur l=true then xV f (vM l) else l from rfl]
  split
  ·rename_i h
   have:=Vg l (X5 h)
   exact ih _ (by omega)
  ·rfl
theorem zbv {f:Nat} {l:List UInt8} (hl:l.length≤f):∀k,xV (f+k) l=xV f l
 | 0=>rfl
 | k+1=>(zcK (f+k) l (by omega)).trans (zbv hl k)
theorem zcL {l:List UInt8} (h:Ur l=true):Y4 l=Y4 (vM l):=by
 have h2:=X5 h;have h1:=Vg l h2
 unfold Y4
 have e:l.length=(vM l).length+1+1:=by omega
 rw [e,xV,if_pos h];exact zbv (Nat.le_refl _) 1
theorem qi {l:List UInt8} (h:Ur l=false):Y4 l=l:=by
 unfold Y4
 cases hl:l.length with
 | zero=>rfl
 | succ n=>rw [xV,if_neg (by rw [h];decide)]
def typeO (s:List UInt8):Option (List UInt8):=zd (some (s.take ((s.length-(Y4 s).length) / 2))) (zd (tokO 1 0 (Y4 s)) (some (s.drop (s.length-(s.length-(Y4 s).length) / 2))))
theorem QQ (w0:World) (r:Nat) (q:Option Nat) (t s:List UInt8) (w:World) (hT:ZV w0) (h:zH w0 r q t w) (hs:s.length≤100000000) :
  Calls Tryz.prog 111 #[.pointer (some ⟨r,0,none⟩),.string (za s)] w (zr w0 r q t w (typeO s)):=by
 obtain ⟨R,hR⟩:∃R,R=typeO s:=⟨_,rfl⟩;rw [←hR];have HR:Hid (R=typeO s):=hR;have HW:Hid (zH w0 r q t w):=h;have HT:Hid (ZV w0):=hT;have hil:(Y4 s).length≤s.length:=zep _ _;clear h hT hR
 go_enter Tryz.func111,Tryz.ntmps111
 go_wp2_with fail
 go_loopw [4] (fun x wr=>∃nm:List UInt8,x=.string (za nm)∧nm.length≤s.length∧Y4 nm=Y4 s∧wr=w) (fun x _=>(match x with | .string b=>b.size | _=>0))
 case atStart=>exact ⟨s,rfl,Nat.le_refl _,rfl,rfl⟩
 case round =>
  obtain ⟨nm,rfl,hnl,hin,rfl⟩:=hrel;have hsz:(za nm).size=nm.length:=Zs nm;have c1:=fun wx=>Tryz.strings_HasPrefix (za nm) ⟨#[91]⟩ wx
  have c2:=fun wx=>Tryz.strings_HasSuffix (za nm) ⟨#[93]⟩ wx (by omega)
  obtain ⟨P,hP⟩:∃P,P=Lib.hasPrefix nm [91]:=⟨_,rfl⟩;obtain ⟨S,hS⟩:∃S,S=Lib.hasSuffix nm [93]:=⟨_,rfl⟩;have c1':∀wx,Calls Tryz.prog 140 #[.string (za nm),.string ⟨#[91]⟩] wx fun e w'=>e=.returned (.bool P)∧w'=wx:=fun wx=>by rw [hP];exact c1 wx
  have c2':∀wx,Calls Tryz.prog 141 #[.string (za nm),.string ⟨#[93]⟩] wx fun e w'=>e=.returned (.bool S)∧w'=wx:=fun wx=>by rw [hS];exact c2 wx
  have HPB:Hid (Ur nm=(P&&S)):=show _=_ by rw [hP,hS];rfl
  clear c1 c2 hP hS;have HN:Hid (nm.length≤s.length):=hnl;cases P with
  | true =>
   cases S with
   | true =>
    have hpb:Ur nm=true:=HPB.out;have h2:=X5 hpb;have hl1:=Vg nm h2
    have hsl:∀W,(Instr.slice 9 (.string (za nm)) (some (.int .i64 1)) (some (.int .i64 ((nm.length:Int)-1))) none).run Tryz.prog W=.ok (.string (za (vM nm))) W:=fun W=>by
     have:=vu W nm 1 (nm.length-2) (by omega)
     rw [show (((1:Nat):Int)+((nm.length-2:Nat):Int))=(nm.length:Int)-1 by omega] at this
     exact this
    have HI:Hid (Y4 (vM nm)=Y4 s):=(zcL hpb).symm.trans hin;have hsz2:(za (vM nm)).size=(vM nm).length:=Zs _;clear hpb hin
    go_wp2_with (first
     | (go_at_call 140;refine (c1' _).mono ?_;rintro e w1 ⟨rfl,hh⟩;obtain rfl:=hh.symm)
     | (go_at_call 141;refine (c2' _).mono ?_;rintro e w1 ⟨rfl,hh⟩;obtain rfl:=hh.symm))
    exact ⟨⟨vM nm,rfl,by omega,HI.out,trivial⟩,by simp only [hsz,hsz2];omega⟩
   | false =>
    have HI:Hid (nm=Y4 s):=show _=_ by rw [←hin];exact (qi HPB.out).symm
    clear hin;obtain ⟨D,hD⟩:∃D,D=(s.length-nm.length) / 2:=⟨_,rfl⟩;have hDle:D≤s.length:=by omega
    have hq:((s.length:Int)-(nm.length:Int)).tdiv 2=(D:Int):=by
     rw [show ((s.length:Int)-(nm.length:Int))=((s.length-nm.length:Nat):Int) by omega,hD]
     rfl
    have hsl1:∀W,(Instr.slice 9 (.string (za s)) none (some (.int .i64 (D:Int))) none).run Tryz.prog W=.ok (.string (za (s.take D))) W:=fun W=>zaf W s D hDle
    have hsl2:∀W,(Instr.slice 9 (.string (za s)) (some (.int .i64 ((s.length:Int)-(D:Int)))) none none).run Tryz.prog W=.ok (.string (za (s.drop (s.length-D)))) W:=fun W=>by
     have:=XW W s (s.length-D) (by omega)
     rw [show (((s.length-D:Nat)):Int)=(s.length:Int)-(D:Int) by omega] at this
     exact this
    have hR2:R=zd (some (s.take D)) (zd (tokO 1 0 nm) (some (s.drop (s.length-D)))):=by rw [HR.out,hD,HI.out];rfl
    have HR2:Hid (R=zd (some (s.take D)) (zd (tokO 1 0 nm) (some (s.drop (s.length-D))))):=hR2;have cp:=zE w0 r q t (s.take D) wr HW.out (by rw [List.length_take];omega)
    have hss:(za s).size=s.length:=Zs s;clear hD hR2 HR HI hil
    go_wp2_with (first
     | (go_at_call 140;refine (c1' _).mono ?_;rintro e w1 ⟨rfl,hh⟩;obtain rfl:=hh.symm)
     | (go_at_call 141;refine (c2' _).mono ?_;rintro e w1 ⟨rfl,hh⟩;obtain rfl:=hh.symm)
     | fail)
    refine cp.mono ?_;clear cp c1' c2';rintro e w2 ⟨q2,hto2,rfl,hw2⟩;have cn:=Yb w0 r q2 (t++s.take D) nm w2 HT.out hw2 (by omega)
    have HT2:Hid (zX r q wr q2 w2):=hto2;clear hto2 hw2;generalize tokO 1 0 nm=X at *;go_wp2_with fail
    refine cn.mono ?_;clear cn;rintro e w3 ⟨q3,hto3,hp3⟩;have HT3:Hid (zX r q wr q3 w3):=HT2.out.trans hto3;clear hto3;cases X with
    | none=>subst hp3;obtain rfl:R=none:=HR2.out;exact ⟨rfl,q3,HT3.out,rfl⟩
    | some u =>
     obtain ⟨rfl,hw3⟩:=hp3;have cp:=zE w0 r q3 (t++s.take D++u) (s.drop (s.length-D)) w3 hw3 (by rw [List.length_drop];omega)
     clear hw3;go_wp2_with fail
     refine cp.mono ?_;clear cp;rintro e w4 ⟨q4,hto4,rfl,hw4⟩;obtain rfl:R=some (s.take D++(u++s.drop (s.length-D))):=HR2.out;have HP:Hid (zr w0 r q t wr (some (s.take D++(u++s.drop (s.length-D)))) (.returned (.tuple #[])) w4):=⟨q4,HT3.out.trans hto4,rfl,by simpa only [List.append_assoc] using hw4⟩
     clear hto4 hw4 HT3 HT2 HW HR2;go_wp2
     exact bodyPost_ret (v:=.tuple #[]) (by simp [results,Tryz.results111,go_sem]) rfl HP.out
  | false =>
   have HI:Hid (nm=Y4 s):=show _=_ by rw [←hin];exact (qi (by rw [HPB.out];rfl)).symm
   clear hin;obtain ⟨D,hD⟩:∃D,D=(s.length-nm.length) / 2:=⟨_,rfl⟩;have hDle:D≤s.length:=by omega
   have hq:((s.length:Int)-(nm.length:Int)).tdiv 2=(D:Int):=by
    rw [show ((s.length:Int)-(nm.length:Int))=((s.length-nm.length:Nat):Int) by omega,hD]
    rfl
   have hsl1:∀W,(Instr.slice 9 (.string (za s)) none (some (.int .i64 (D:Int))) none).run Tryz.prog W=.ok (.string (za (s.take D))) W:=fun W=>zaf W s D hDle
   have hsl2:∀W,(Instr.slice 9 (.string (za s)) (some (.int .i64 ((s.length:Int)-(D:Int)))) none none).run Tryz.prog W=.ok (.string (za (s.drop (s.length-D)))) W:=fun W=>by
    have:=XW W s (s.length-D) (by omega)
    rw [show (((s.length-D:Nat)):Int)=(s.length:Int)-(D:Int) by omega] at this
    exact this
   have hR2:R=zd (some (s.take D)) (zd (tokO 1 0 nm) (some (s.drop (s.length-D)))):=by rw [HR.out,hD,HI.out];rfl
   have HR2:Hid (R=zd (some (s.take D)) (zd (tokO 1 0 nm) (some (s.drop (s.length-D))))):=hR2;have cp:=zE w0 r q t (s.take D) wr HW.out (by rw [List.length_take];omega)
   have hss:(za s).size=s.length:=Zs s;clear hD hR2 HR HI hil
   go_wp2_with (first
    | (go_at_call 140;refine (c1' _).mono ?_;rintro e w1 ⟨rfl,hh⟩;obtain rfl:=hh.symm)
    | (go_at_call 141;refine (c2' _).mono ?_;rintro e w1 ⟨rfl,hh⟩;obtain rfl:=hh.symm)
    | fail)
   refine cp.mono ?_;clear cp c1' c2';rintro e w2 ⟨q2,hto2,rfl,hw2⟩;have cn:=Yb w0 r q2 (t++s.take D) nm w2 HT.out hw2 (by omega)
   have HT2:Hid (zX r q wr q2 w2):=hto2;clear hto2 hw2;generalize tokO 1 0 nm=X at *;go_wp2_with fail
   refine cn.mono ?_;clear cn;rintro e w3 ⟨q3,hto3,hp3⟩;have HT3:Hid (zX r q wr q3 w3):=HT2.out.trans hto3;clear hto3;cases X with
   | none=>subst hp3;obtain rfl:R=none:=HR2.out;exact ⟨rfl,q3,HT3.out,rfl⟩
   | some u =>
    obtain ⟨rfl,hw3⟩:=hp3;have cp:=zE w0 r q3 (t++s.take D++u) (s.drop (s.length-D)) w3 hw3 (by rw [List.length_drop];omega)
    clear hw3;go_wp2_with fail
    refine cp.mono ?_;clear cp;rintro e w4 ⟨q4,hto4,rfl,hw4⟩;obtain rfl:R=some (s.take D++(u++s.drop (s.length-D))):=HR2.out;have HP:Hid (zr w0 r q t wr (some (s.take D++(u++s.drop (s.length-D)))) (.returned (.tuple #[])) w4):=⟨q4,HT3.out.trans hto4,rfl,by simpa only [List.append_assoc] using hw4⟩
    clear hto4 hw4 HT3 HT2 HW HR2;go_wp2
    exact bodyPost_ret (v:=.tuple #[]) (by simp [results,Tryz.results111,go_sem]) rfl HP.out
end Go.Proofs.YtpejpbbdgblbeaaGreatDoor
