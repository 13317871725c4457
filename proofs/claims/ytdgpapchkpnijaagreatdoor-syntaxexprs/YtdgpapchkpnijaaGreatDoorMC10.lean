import Derived.Test.YtdgpapchkpnijaaGreatDoorMC9
import Derived.Test.YtdgpapchkpnijaaGreatDoorShelf
namespace Go.Proofs.YtdgpapchkpnijaaGreatDoor
open Go.RowKit Go.Shelf
set_option maxHeartbeats 16000000
set_option maxRecDepth 100000
def YP (k:Int) (s:List UInt8) (n:Int) (m:Nat):Bool :=
 if k=1 then s==[]&&m==0
 else if k=2 then s==[]&&m==0&&(n==0||n==1)
 else if k=3 then n==0&&m==0
 else if k=4 then n==0&&m==0
 else if k=5 then n==0
 else if k=11 then n==0
 else if k=6 then n==0&&m==1&&(s==[45]||s==[33])
 else if k=7 then n==0&&m==2&&decide (0<levelOf s)
 else if k=8 then n==0&&m==2&&s==[]
 else if k=9 then n==0&&m==1
 else if k=10 then n==0&&decide (1≤m)&&s==[]
 else false
abbrev yV (k:Int) (s:List UInt8) (n:Int) (base:Option Addr) (m cap:Nat) (line:Int):Obj:=.cells #[.int .i64 k,.string (za s),.int .i64 n,.slice base m cap,.int .i64 line] 40
abbrev yv (k:Int) (s:List UInt8) (n:Int) (base:Option Addr) (m cap:Nat) (line:Int):Value:=.agg #[.int .i64 k,.string (za s),.int .i64 n,.slice base m cap,.int .i64 line]
theorem vA (s:List UInt8):levelOf s≤6:=by
 unfold levelOf
 cases h:levelsL.find? fun p=>decide (p.1=s) with
 | none=>simp
 | some p =>
  have:=List.mem_of_find?_eq_some h
  simp only [Option.map_some,Option.getD_some]
  revert this
  unfold levelsL
  simp only [List.mem_cons,List.not_mem_nil,or_false]
  rintro (rfl | rfl | rfl | rfl | rfl | rfl | rfl | rfl | rfl | rfl | rfl | rfl | rfl) <;> simp
theorem zu {w w2 w':World} (hb2:Below w.heap.size w w2) (h2:Below w2.heap.size w2 w'):Below w.heap.size w w':=hb2.trans (h2.mono hb2.size)
theorem zfq (s:List UInt8) (n:Int) (base:Option Addr) (m cap:Nat) (line:Int) (w:World) :
  Calls Tryz.prog 88 #[yv 1 s n base m cap line] w fun e w'=>e=.returned (.bool (s==[]&&m==0))∧Below w.heap.size w w':=by
 obtain ⟨w1,hw1⟩:∃w1,w1=w.alloc (yV 1 s n base m cap line):=⟨_,rfl⟩;have hb1:Below w.heap.size w w1:=by rw [hw1];exact (Below.refl _ w).alloc (Nat.le_refl _) _
 have p1:w1.heap[w.heap.size]?=some (.cells #[.int .i64 1,.string (za s),.int .i64 n,.slice base m cap,.int .i64 line] 40 (0,0)):=by rw [hw1];exact World.alloc_heap_new w _
 have c0:w1.cell? ⟨w.heap.size,0,none⟩=some (.int .i64 1):=by simp only [World.cell?,p1];rfl
 have c1:w1.cell? ⟨w.heap.size,1,none⟩=some (.string (za s)):=by simp only [World.cell?,p1];rfl
 have c2:w1.cell? ⟨w.heap.size,2,none⟩=some (.int .i64 n):=by simp only [World.cell?,p1];rfl
 have c3:w1.cell? ⟨w.heap.size,3,none⟩=some (.slice base m cap):=by simp only [World.cell?,p1];rfl
 have HB:Hid (Below w.heap.size w w1):=hb1;have hw1':=hw1.symm;clear hb1 p1 hw1
 by_cases hs:s=[]
 ·subst hs
  by_cases hm0:m=0
  ·subst hm0
   go_enter Tryz.func88,Tryz.ntmps88
   go_wp2
   exact bodyPost_ret (v:=.bool true) (by simp [results,Tryz.results88,go_sem]) rfl ⟨by simp_all,HB.out⟩
  ·have hmI:((m:Int)==0)=false:=by rw [beq_eq_false_iff_ne];omega
   have hmN:(m==0)=false:=by rw [beq_eq_false_iff_ne];exact hm0
   go_enter Tryz.func88,Tryz.ntmps88
   go_wp2
   exact bodyPost_ret (v:=.bool false) (by simp [results,Tryz.results88,go_sem]) rfl ⟨by simp_all,HB.out⟩
 ·have hs1:(s==[])=false:=by simpa using hs
  go_enter Tryz.func88,Tryz.ntmps88
  go_wp2
  exact bodyPost_ret (v:=.bool false) (by simp [results,Tryz.results88,go_sem]) rfl ⟨by simp_all,HB.out⟩
theorem zfr (s:List UInt8) (n:Int) (base:Option Addr) (m cap:Nat) (line:Int) (w:World) :
  Calls Tryz.prog 88 #[yv 2 s n base m cap line] w fun e w'=>e=.returned (.bool (s==[]&&m==0&&(n==0||n==1)))∧Below w.heap.size w w':=by
 obtain ⟨w1,hw1⟩:∃w1,w1=w.alloc (yV 2 s n base m cap line):=⟨_,rfl⟩;have hb1:Below w.heap.size w w1:=by rw [hw1];exact (Below.refl _ w).alloc (Nat.le_refl _) _
 have p1:w1.heap[w.heap.size]?=some (.cells #[.int .i64 2,.string (za s),.int .i64 n,.slice base m cap,.int .i64 line] 40 (0,0)):=by rw [hw1];exact World.alloc_heap_new w _
 have c0:w1.cell? ⟨w.heap.size,0,none⟩=some (.int .i64 2):=by simp only [World.cell?,p1];rfl
 have c1:w1.cell? ⟨w.heap.size,1,none⟩=some (.string (za s)):=by simp only [World.cell?,p1];rfl
 have c2:w1.cell? ⟨w.heap.size,2,none⟩=some (.int .i64 n):=by simp only [World.cell?,p1];rfl
 have c3:w1.cell? ⟨w.heap.size,3,none⟩=some (.slice base m cap):=by simp only [World.cell?,p1];rfl
 have HB:Hid (Below w.heap.size w w1):=hb1;have hw1':=hw1.symm;clear hb1 p1 hw1
 by_cases hs:s=[]
 ·subst hs
  by_cases hm0:m=0
  ·subst hm0
   by_cases hn:n=0
   ·subst hn
    go_enter Tryz.func88,Tryz.ntmps88
    go_wp2
    exact bodyPost_ret (v:=.bool true) (by simp [results,Tryz.results88,go_sem]) rfl ⟨by simp_all,HB.out⟩
   ·have hn1:(n==0)=false:=by rw [beq_eq_false_iff_ne];exact hn
    by_cases hn2:n=1
    ·subst hn2
     go_enter Tryz.func88,Tryz.ntmps88
     go_wp2
     exact bodyPost_ret (v:=.bool true) (by simp [results,Tryz.results88,go_sem]) rfl ⟨by simp_all,HB.out⟩
    ·have hn3:(n==1)=false:=by rw [beq_eq_false_iff_ne];exact hn2
     go_enter Tryz.func88,Tryz.ntmps88
     go_wp2
     exact bodyPost_ret (v:=.bool false) (by simp [results,Tryz.results88,go_sem]) rfl ⟨by simp_all,HB.out⟩
  ·have hmI:((m:Int)==0)=false:=by rw [beq_eq_false_iff_ne];omega
   have hmN:(m==0)=false:=by rw [beq_eq_false_iff_ne];exact hm0
   go_enter Tryz.func88,Tryz.ntmps88
   go_wp2
   exact bodyPost_ret (v:=.bool false) (by simp [results,Tryz.results88,go_sem]) rfl ⟨by simp_all,HB.out⟩
 ·have hs1:(s==[])=false:=by simpa using hs
  go_enter Tryz.func88,Tryz.ntmps88
  go_wp2
  exact bodyPost_ret (v:=.bool false) (by simp [results,Tryz.results88,go_sem]) rfl ⟨by simp_all,HB.out⟩
theorem zfs (s:List UInt8) (n:Int) (base:Option Addr) (m cap:Nat) (line:Int) (w:World) :
  Calls Tryz.prog 88 #[yv 3 s n base m cap line] w fun e w'=>e=.returned (.bool (n==0&&m==0))∧Below w.heap.size w w':=by
 obtain ⟨w1,hw1⟩:∃w1,w1=w.alloc (yV 3 s n base m cap line):=⟨_,rfl⟩;have hb1:Below w.heap.size w w1:=by rw [hw1];exact (Below.refl _ w).alloc (Nat.le_refl _) _
 have p1:w1.heap[w.heap.size]?=some (.cells #[.int .i64 3,.string (za s),.int .i64 n,.slice base m cap,.int .i64 line] 40 (0,0)):=by rw [hw1];exact World.alloc_heap_new w _
 have c0:w1.cell? ⟨w.heap.size,0,none⟩=some (.int .i64 3):=by simp only [World.cell?,p1];rfl
 have c1:w1.cell? ⟨w.heap.size,1,none⟩=some (.string (za s)):=by simp only [World.cell?,p1];rfl
 have c2:w1.cell? ⟨w.heap.size,2,none⟩=some (.int .i64 n):=by simp only [World.cell?,p1];rfl
 have c3:w1.cell? ⟨w.heap.size,3,none⟩=some (.slice base m cap):=by simp only [World.cell?,p1];rfl
 have HB:Hid (Below w.heap.size w w1):=hb1;have hw1':=hw1.symm;clear hb1 p1 hw1
 by_cases hn:n=0
 ·subst hn
  by_cases hm0:m=0
  ·subst hm0
   go_enter Tryz.func88,Tryz.ntmps88
   go_wp2
   exact bodyPost_ret (v:=.bool true) (by simp [results,Tryz.results88,go_sem]) rfl ⟨by simp_all,HB.out⟩
  ·have hmI:((m:Int)==0)=false:=by rw [beq_eq_false_iff_ne];omega
   have hmN:(m==0)=false:=by rw [beq_eq_false_iff_ne];exact hm0
   go_enter Tryz.func88,Tryz.ntmps88
   go_wp2
   exact bodyPost_ret (v:=.bool false) (by simp [results,Tryz.results88,go_sem]) rfl ⟨by simp_all,HB.out⟩
 ·have hn1:(n==0)=false:=by rw [beq_eq_false_iff_ne];exact hn
  go_enter Tryz.func88,Tryz.ntmps88
  go_wp2
  exact bodyPost_ret (v:=.bool false) (by simp [results,Tryz.results88,go_sem]) rfl ⟨by simp_all,HB.out⟩
theorem zft (s:List UInt8) (n:Int) (base:Option Addr) (m cap:Nat) (line:Int) (w:World) :
  Calls Tryz.prog 88 #[yv 4 s n base m cap line] w fun e w'=>e=.returned (.bool (n==0&&m==0))∧Below w.heap.size w w':=by
 obtain ⟨w1,hw1⟩:∃w1,w1=w.alloc (yV 4 s n base m cap line):=⟨_,rfl⟩;have hb1:Below w.heap.size w w1:=by rw [hw1];exact (Below.refl _ w).alloc (Nat.le_refl _) _
 have p1:w1.heap[w.heap.size]?=some (.cells #[.int .i64 4,.string (za s),.int .i64 n,.slice base m cap,.int .i64 line] 40 (0,0)):=by rw [hw1];exact World.alloc_heap_new w _
 have c0:w1.cell? ⟨w.heap.size,0,none⟩=some (.int .i64 4):=by simp only [World.cell?,p1];rfl
 have c1:w1.cell? ⟨w.heap.size,1,none⟩=some (.string (za s)):=by simp only [World.cell?,p1];rfl
 have c2:w1.cell? ⟨w.heap.size,2,none⟩=some (.int .i64 n):=by simp only [World.cell?,p1];rfl
 have c3:w1.cell? ⟨w.heap.size,3,none⟩=some (.slice base m cap):=by simp only [World.cell?,p1];rfl
 have HB:Hid (Below w.heap.size w w1):=hb1;have hw1':=hw1.symm;clear hb1 p1 hw1
 by_cases hn:n=0
 ·subst hn
  by_cases hm0:m=0
  ·subst hm0
   go_enter Tryz.func88,Tryz.ntmps88
   go_wp2
   exact bodyPost_ret (v:=.bool true) (by simp [results,Tryz.results88,go_sem]) rfl ⟨by simp_all,HB.out⟩
  ·have hmI:((m:Int)==0)=false:=by rw [beq_eq_false_iff_ne];omega
   have hmN:(m==0)=false:=by rw [beq_eq_false_iff_ne];exact hm0
   go_enter Tryz.func88,Tryz.ntmps88
   go_wp2
   exact bodyPost_ret (v:=.bool false) (by simp [results,Tryz.results88,go_sem]) rfl ⟨by simp_all,HB.out⟩
 ·have hn1:(n==0)=false:=by rw [beq_eq_false_iff_ne];exact hn
  go_enter Tryz.func88,Tryz.ntmps88
  go_wp2
  exact bodyPost_ret (v:=.bool false) (by simp [results,Tryz.results88,go_sem]) rfl ⟨by simp_all,HB.out⟩
theorem zfu (s:List UInt8) (n:Int) (base:Option Addr) (m cap:Nat) (line:Int) (w:World) :
  Calls Tryz.prog 88 #[yv 5 s n base m cap line] w fun e w'=>e=.returned (.bool (n==0))∧Below w.heap.size w w':=by
 obtain ⟨w1,hw1⟩:∃w1,w1=w.alloc (yV 5 s n base m cap line):=⟨_,rfl⟩;have hb1:Below w.heap.size w w1:=by rw [hw1];exact (Below.refl _ w).alloc (Nat.le_refl _) _
 have p1:w1.heap[w.heap.size]?=some (.cells #[.int .i64 5,.string (za s),.int .i64 n,.slice base m cap,.int .i64 line] 40 (0,0)):=by rw [hw1];exact World.alloc_heap_new w _
 have c0:w1.cell? ⟨w.heap.size,0,none⟩=some (.int .i64 5):=by simp only [World.cell?,p1];rfl
 have c1:w1.cell? ⟨w.heap.size,1,none⟩=some (.string (za s)):=by simp only [World.cell?,p1];rfl
 have c2:w1.cell? ⟨w.heap.size,2,none⟩=some (.int .i64 n):=by simp only [World.cell?,p1];rfl
 have c3:w1.cell? ⟨w.heap.size,3,none⟩=some (.slice base m cap):=by simp only [World.cell?,p1];rfl
 have HB:Hid (Below w.heap.size w w1):=hb1;have hw1':=hw1.symm;clear hb1 p1 hw1
 by_cases hn:n=0
 ·subst hn
  go_enter Tryz.func88,Tryz.ntmps88
  go_wp2
  exact bodyPost_ret (v:=.bool true) (by simp [results,Tryz.results88,go_sem]) rfl ⟨by simp_all,HB.out⟩
 ·have hn1:(n==0)=false:=by rw [beq_eq_false_iff_ne];exact hn
  go_enter Tryz.func88,Tryz.ntmps88
  go_wp2
  exact bodyPost_ret (v:=.bool false) (by simp [results,Tryz.results88,go_sem]) rfl ⟨by simp_all,HB.out⟩
theorem zeB (s:List UInt8) (n:Int) (base:Option Addr) (m cap:Nat) (line:Int) (w:World) :
  Calls Tryz.prog 88 #[yv 11 s n base m cap line] w fun e w'=>e=.returned (.bool (n==0))∧Below w.heap.size w w':=by
 obtain ⟨w1,hw1⟩:∃w1,w1=w.alloc (yV 11 s n base m cap line):=⟨_,rfl⟩;have hb1:Below w.heap.size w w1:=by rw [hw1];exact (Below.refl _ w).alloc (Nat.le_refl _) _
 have p1:w1.heap[w.heap.size]?=some (.cells #[.int .i64 11,.string (za s),.int .i64 n,.slice base m cap,.int .i64 line] 40 (0,0)):=by rw [hw1];exact World.alloc_heap_new w _
 have c0:w1.cell? ⟨w.heap.size,0,none⟩=some (.int .i64 11):=by simp only [World.cell?,p1];rfl
 have c1:w1.cell? ⟨w.heap.size,1,none⟩=some (.string (za s)):=by simp only [World.cell?,p1];rfl
 have c2:w1.cell? ⟨w.heap.size,2,none⟩=some (.int .i64 n):=by simp only [World.cell?,p1];rfl
 have c3:w1.cell? ⟨w.heap.size,3,none⟩=some (.slice base m cap):=by simp only [World.cell?,p1];rfl
 have HB:Hid (Below w.heap.size w w1):=hb1;have hw1':=hw1.symm;clear hb1 p1 hw1
 by_cases hn:n=0
 ·subst hn
  go_enter Tryz.func88,Tryz.ntmps88
  go_wp2
  exact bodyPost_ret (v:=.bool true) (by simp [results,Tryz.results88,go_sem]) rfl ⟨by simp_all,HB.out⟩
 ·have hn1:(n==0)=false:=by rw [beq_eq_false_iff_ne];exact hn
  go_enter Tryz.func88,Tryz.ntmps88
  go_wp2
  exact bodyPost_ret (v:=.bool false) (by simp [results,Tryz.results88,go_sem]) rfl ⟨by simp_all,HB.out⟩
theorem zfv (s:List UInt8) (n:Int) (base:Option Addr) (m cap:Nat) (line:Int) (w:World) :
  Calls Tryz.prog 88 #[yv 6 s n base m cap line] w fun e w'=>e=.returned (.bool (n==0&&m==1&&(s==[45]||s==[33])))∧Below w.heap.size w w':=by
 obtain ⟨w1,hw1⟩:∃w1,w1=w.alloc (yV 6 s n base m cap line):=⟨_,rfl⟩;have hb1:Below w.heap.size w w1:=by rw [hw1];exact (Below.refl _ w).alloc (Nat.le_refl _) _
 have p1:w1.heap[w.heap.size]?=some (.cells #[.int .i64 6,.string (za s),.int .i64 n,.slice base m cap,.int .i64 line] 40 (0,0)):=by rw [hw1];exact World.alloc_heap_new w _
 have c0:w1.cell? ⟨w.heap.size,0,none⟩=some (.int .i64 6):=by simp only [World.cell?,p1];rfl
 have c1:w1.cell? ⟨w.heap.size,1,none⟩=some (.string (za s)):=by simp only [World.cell?,p1];rfl
 have c2:w1.cell? ⟨w.heap.size,2,none⟩=some (.int .i64 n):=by simp only [World.cell?,p1];rfl
 have c3:w1.cell? ⟨w.heap.size,3,none⟩=some (.slice base m cap):=by simp only [World.cell?,p1];rfl
 have HB:Hid (Below w.heap.size w w1):=hb1;have hw1':=hw1.symm;clear hb1 p1 hw1
 by_cases hn:n=0
 ·subst hn
  by_cases hm1:m=1
  ·subst hm1
   have ca:=vw s w1;obtain ⟨R,hR⟩:∃R,R=(s==[45]||s==[33]):=⟨_,rfl⟩;rw [←hR] at ca ⊢;clear hR
   go_enter Tryz.func88,Tryz.ntmps88
   go_wp2_with fail
   refine ca.mono ?_;rintro e w2 ⟨rfl,rfl⟩;clear ca;go_wp2
   exact bodyPost_ret (v:=.bool R) (by simp [results,Tryz.results88,go_sem]) rfl ⟨by simp_all,HB.out⟩
  ·have hmI:((m:Int)==1)=false:=by rw [beq_eq_false_iff_ne];omega
   have hmN:(m==1)=false:=by rw [beq_eq_false_iff_ne];exact hm1
   go_enter Tryz.func88,Tryz.ntmps88
   go_wp2
   exact bodyPost_ret (v:=.bool false) (by simp [results,Tryz.results88,go_sem]) rfl ⟨by simp_all,HB.out⟩
 ·have hn1:(n==0)=false:=by rw [beq_eq_false_iff_ne];exact hn
  go_enter Tryz.func88,Tryz.ntmps88
  go_wp2
  exact bodyPost_ret (v:=.bool false) (by simp [results,Tryz.results88,go_sem]) rfl ⟨by simp_all,HB.out⟩
theorem zfw (s:List UInt8) (n:Int) (base:Option Addr) (m cap:Nat) (line:Int) (w:World) (ht:Zy w) :
  Calls Tryz.prog 88 #[yv 7 s n base m cap line] w fun e w'=>e=.returned (.bool (n==0&&m==2&&decide (0<levelOf s)))∧Below w.heap.size w w':=by
 obtain ⟨w1,hw1⟩:∃w1,w1=w.alloc (yV 7 s n base m cap line):=⟨_,rfl⟩;have hb1:Below w.heap.size w w1:=by rw [hw1];exact (Below.refl _ w).alloc (Nat.le_refl _) _
 have p1:w1.heap[w.heap.size]?=some (.cells #[.int .i64 7,.string (za s),.int .i64 n,.slice base m cap,.int .i64 line] 40 (0,0)):=by rw [hw1];exact World.alloc_heap_new w _
 have c0:w1.cell? ⟨w.heap.size,0,none⟩=some (.int .i64 7):=by simp only [World.cell?,p1];rfl
 have c1:w1.cell? ⟨w.heap.size,1,none⟩=some (.string (za s)):=by simp only [World.cell?,p1];rfl
 have c2:w1.cell? ⟨w.heap.size,2,none⟩=some (.int .i64 n):=by simp only [World.cell?,p1];rfl
 have c3:w1.cell? ⟨w.heap.size,3,none⟩=some (.slice base m cap):=by simp only [World.cell?,p1];rfl
 have cl:=Xk s w1 (fun j v hj=>by rw [hw1];exact zj (ht j v hj) _)
 have HB:Hid (Below w.heap.size w w1):=hb1;have hw1':=hw1.symm;clear hb1 p1 hw1 ht
 by_cases hn:n=0
 ·subst hn
  by_cases hm2:m=2
  ·subst hm2
   obtain ⟨L,hL⟩:∃L,L=levelOf s:=⟨_,rfl⟩;rw [←hL] at cl ⊢;have hlev:L≤6:=by rw [hL];exact vA s
   clear hL
   go_enter Tryz.func88,Tryz.ntmps88
   go_wp2_with fail
   refine cl.mono ?_;rintro e w2 ⟨rfl,hb2⟩;clear cl;have HB2:Hid (Below w.heap.size w w2):=zu HB.out hb2;clear hb2
   by_cases hL0:0<L
   ·have hL1:(0:Int)<(L:Int):=by omega
    go_wp2
    exact bodyPost_ret (v:=.bool true) (by simp [results,Tryz.results88,go_sem]) rfl ⟨by simp_all,HB2.out⟩
   ·obtain rfl:L=0:=by omega
    go_wp2
    exact bodyPost_ret (v:=.bool false) (by simp [results,Tryz.results88,go_sem]) rfl ⟨by simp_all,HB2.out⟩
  ·have hmI:((m:Int)==2)=false:=by rw [beq_eq_false_iff_ne];omega
   have hmN:(m==2)=false:=by rw [beq_eq_false_iff_ne];exact hm2
   go_enter Tryz.func88,Tryz.ntmps88
   go_wp2
   exact bodyPost_ret (v:=.bool false) (by simp [results,Tryz.results88,go_sem]) rfl ⟨by simp_all,HB.out⟩
 ·have hn1:(n==0)=false:=by rw [beq_eq_false_iff_ne];exact hn
  go_enter Tryz.func88,Tryz.ntmps88
  go_wp2
  exact bodyPost_ret (v:=.bool false) (by simp [results,Tryz.results88,go_sem]) rfl ⟨by simp_all,HB.out⟩
theorem zfx (s:List UInt8) (n:Int) (base:Option Addr) (m cap:Nat) (line:Int) (w:World) :
  Calls Tryz.prog 88 #[yv 8 s n base m cap line] w fun e w'=>e=.returned (.bool (n==0&&m==2&&s==[]))∧Below w.heap.size w w':=by
 obtain ⟨w1,hw1⟩:∃w1,w1=w.alloc (yV 8 s n base m cap line):=⟨_,rfl⟩;have hb1:Below w.heap.size w w1:=by rw [hw1];exact (Below.refl _ w).alloc (Nat.le_refl _) _
 have p1:w1.heap[w.heap.size]?=some (.cells #[.int .i64 8,.string (za s),.int .i64 n,.slice base m cap,.int .i64 line] 40 (0,0)):=by rw [hw1];exact World.alloc_heap_new w _
 have c0:w1.cell? ⟨w.heap.size,0,none⟩=some (.int .i64 8):=by simp only [World.cell?,p1];rfl
 have c1:w1.cell? ⟨w.heap.size,1,none⟩=some (.string (za s)):=by simp only [World.cell?,p1];rfl
 have c2:w1.cell? ⟨w.heap.size,2,none⟩=some (.int .i64 n):=by simp only [World.cell?,p1];rfl
 have c3:w1.cell? ⟨w.heap.size,3,none⟩=some (.slice base m cap):=by simp only [World.cell?,p1];rfl
 have HB:Hid (Below w.heap.size w w1):=hb1;have hw1':=hw1.symm;clear hb1 p1 hw1
 by_cases hn:n=0
 ·subst hn
  by_cases hm2:m=2
  ·subst hm2
   by_cases hs:s=[]
   ·subst hs
    go_enter Tryz.func88,Tryz.ntmps88
    go_wp2
    exact bodyPost_ret (v:=.bool true) (by simp [results,Tryz.results88,go_sem]) rfl ⟨by simp_all,HB.out⟩
   ·have hs1:(s==[])=false:=by simpa using hs
    go_enter Tryz.func88,Tryz.ntmps88
    go_wp2
    exact bodyPost_ret (v:=.bool false) (by simp [results,Tryz.results88,go_sem]) rfl ⟨by simp_all,HB.out⟩
  ·have hmI:((m:Int)==2)=false:=by rw [beq_eq_false_iff_ne];omega
   have hmN:(m==2)=false:=by rw [beq_eq_false_iff_ne];exact hm2
   go_enter Tryz.func88,Tryz.ntmps88
   go_wp2
   exact bodyPost_ret (v:=.bool false) (by simp [results,Tryz.results88,go_sem]) rfl ⟨by simp_all,HB.out⟩
 ·have hn1:(n==0)=false:=by rw [beq_eq_false_iff_ne];exact hn
  go_enter Tryz.func88,Tryz.ntmps88
  go_wp2
  exact bodyPost_ret (v:=.bool false) (by simp [results,Tryz.results88,go_sem]) rfl ⟨by simp_all,HB.out⟩
theorem zfy (s:List UInt8) (n:Int) (base:Option Addr) (m cap:Nat) (line:Int) (w:World) :
  Calls Tryz.prog 88 #[yv 9 s n base m cap line] w fun e w'=>e=.returned (.bool (n==0&&m==1))∧Below w.heap.size w w':=by
 obtain ⟨w1,hw1⟩:∃w1,w1=w.alloc (yV 9 s n base m cap line):=⟨_,rfl⟩;have hb1:Below w.heap.size w w1:=by rw [hw1];exact (Below.refl _ w).alloc (Nat.le_refl _) _
 have p1:w1.heap[w.heap.size]?=some (.cells #[.int .i64 9,.string (za s),.int .i64 n,.slice base m cap,.int .i64 line] 40 (0,0)):=by rw [hw1];exact World.alloc_heap_new w _
 have c0:w1.cell? ⟨w.heap.size,0,none⟩=some (.int .i64 9):=by simp only [World.cell?,p1];rfl
 have c1:w1.cell? ⟨w.heap.size,1,none⟩=some (.string (za s)):=by simp only [World.cell?,p1];rfl
 have c2:w1.cell? ⟨w.heap.size,2,none⟩=some (.int .i64 n):=by simp only [World.cell?,p1];rfl
 have c3:w1.cell? ⟨w.heap.size,3,none⟩=some (.slice base m cap):=by simp only [World.cell?,p1];rfl
 have HB:Hid (Below w.heap.size w w1):=hb1;have hw1':=hw1.symm;clear hb1 p1 hw1
 by_cases hn:n=0
 ·subst hn
  by_cases hm1:m=1
  ·subst hm1
   go_enter Tryz.func88,Tryz.ntmps88
   go_wp2
   exact bodyPost_ret (v:=.bool true) (by simp [results,Tryz.results88,go_sem]) rfl ⟨by simp_all,HB.out⟩
  ·have hmI:((m:Int)==1)=false:=by rw [beq_eq_false_iff_ne];omega
   have hmN:(m==1)=false:=by rw [beq_eq_false_iff_ne];exact hm1
   go_enter Tryz.func88,Tryz.ntmps88
   go_wp2
   exact bodyPost_ret (v:=.bool false) (by simp [results,Tryz.results88,go_sem]) rfl ⟨by simp_all,HB.out⟩
 ·have hn1:(n==0)=false:=by rw [beq_eq_false_iff_ne];exact hn
  go_enter Tryz.func88,Tryz.ntmps88
  go_wp2
  exact bodyPost_ret (v:=.bool false) (by simp [results,Tryz.results88,go_sem]) rfl ⟨by simp_all,HB.out⟩
theorem zeC (s:List UInt8) (n:Int) (base:Option Addr) (m cap:Nat) (line:Int) (w:World) :
  Calls Tryz.prog 88 #[yv 10 s n base m cap line] w fun e w'=>e=.returned (.bool (n==0&&decide (1≤m)&&s==[]))∧Below w.heap.size w w':=by
 obtain ⟨w1,hw1⟩:∃w1,w1=w.alloc (yV 10 s n base m cap line):=⟨_,rfl⟩;have hb1:Below w.heap.size w w1:=by rw [hw1];exact (Below.refl _ w).alloc (Nat.le_refl _) _
 have p1:w1.heap[w.heap.size]?=some (.cells #[.int .i64 10,.string (za s),.int .i64 n,.slice base m cap,.int .i64 line] 40 (0,0)):=by rw [hw1];exact World.alloc_heap_new w _
 have c0:w1.cell? ⟨w.heap.size,0,none⟩=some (.int .i64 10):=by simp only [World.cell?,p1];rfl
 have c1:w1.cell? ⟨w.heap.size,1,none⟩=some (.string (za s)):=by simp only [World.cell?,p1];rfl
 have c2:w1.cell? ⟨w.heap.size,2,none⟩=some (.int .i64 n):=by simp only [World.cell?,p1];rfl
 have c3:w1.cell? ⟨w.heap.size,3,none⟩=some (.slice base m cap):=by simp only [World.cell?,p1];rfl
 have HB:Hid (Below w.heap.size w w1):=hb1;have hw1':=hw1.symm;clear hb1 p1 hw1
 by_cases hn:n=0
 ·subst hn
  by_cases hm1:1≤m
  ·have hm3:(1:Int)≤(m:Int):=by omega
   by_cases hs:s=[]
   ·subst hs
    go_enter Tryz.func88,Tryz.ntmps88
    go_wp2
    exact bodyPost_ret (v:=.bool true) (by simp [results,Tryz.results88,go_sem]) rfl ⟨by simp_all,HB.out⟩
   ·have hs1:(s==[])=false:=by simpa using hs
    go_enter Tryz.func88,Tryz.ntmps88
    go_wp2
    exact bodyPost_ret (v:=.bool false) (by simp [results,Tryz.results88,go_sem]) rfl ⟨by simp_all,HB.out⟩
  ·obtain rfl:m=0:=by omega
   go_enter Tryz.func88,Tryz.ntmps88
   go_wp2
   exact bodyPost_ret (v:=.bool false) (by simp [results,Tryz.results88,go_sem]) rfl ⟨by simp_all,HB.out⟩
 ·have hn1:(n==0)=false:=by rw [beq_eq_false_iff_ne];exact hn
  go_enter Tryz.func88,Tryz.ntmps88
  go_wp2
  exact bodyPost_ret (v:=.bool false) (by simp [results,Tryz.results88,go_sem]) rfl ⟨by simp_all,HB.out⟩
theorem zeD (k:Int) (s:List UInt8) (n:Int) (base:Option Addr) (m cap:Nat) (line:Int) (w:World) (h1:k≠1) (h2:k≠2) (h3:k≠3) (h4:k≠4) (h5:k≠5) (h11:k≠11) (h6:k≠6) (h7:k≠7) (h8:k≠8) (h9:k≠9) (h10:k≠10) :
  Calls Tryz.prog 88 #[yv k s n base m cap line] w fun e w'=>e=.returned (.bool false)∧Below w.heap.size w w':=by
 have HB:Hid (Below w.heap.size w (w.alloc (yV k s n base m cap line))):=show Below _ _ _ from (Below.refl _ w).alloc (Nat.le_refl _) _
 have g1:(k==1)=false:=by rw [beq_eq_false_iff_ne];exact h1
 have g2:(k==2)=false:=by rw [beq_eq_false_iff_ne];exact h2
 have g3:(k==3)=false:=by rw [beq_eq_false_iff_ne];exact h3
 have g4:(k==4)=false:=by rw [beq_eq_false_iff_ne];exact h4
 have g5:(k==5)=false:=by rw [beq_eq_false_iff_ne];exact h5
 have g11:(k==11)=false:=by rw [beq_eq_false_iff_ne];exact h11
 have g6:(k==6)=false:=by rw [beq_eq_false_iff_ne];exact h6
 have g7:(k==7)=false:=by rw [beq_eq_false_iff_ne];exact h7
 have g8:(k==8)=false:=by rw [beq_eq_false_iff_ne];exact h8
 have g9:(k==9)=false:=by rw [beq_eq_false_iff_ne];exact h9
 have g10:(k==10)=false:=by rw [beq_eq_false_iff_ne];exact h10
 clear h1 h2 h3 h4 h5 h11 h6 h7 h8 h9 h10
 go_enter Tryz.func88,Tryz.ntmps88
 go_wp2
 exact bodyPost_ret (v:=.bool false) (by simp [results,Tryz.results88,go_sem]) rfl ⟨rfl,HB.out⟩
theorem ZV (k:Int) (s:List UInt8) (n:Int) (base:Option Addr) (m cap:Nat) (line:Int) (w:World) (ht:Zy w) :
  Calls Tryz.prog 88 #[yv k s n base m cap line] w fun e w'=>e=.returned (.bool (YP k s n m))∧Below w.heap.size w w':=by
 unfold YP
 by_cases h1:k=1
 ·subst h1;exact zfq s n base m cap line w
 rw [if_neg h1]
 by_cases h2:k=2
 ·subst h2;exact zfr s n base m cap line w
 rw [if_neg h2]
 by_cases h3:k=3
 ·subst h3;exact zfs s n base m cap line w
 rw [if_neg h3]
 by_cases h4:k=4
 ·subst h4;exact zft s n base m cap line w
 rw [if_neg h4]
 by_cases h5:k=5
 ·subst h5;exact zfu s n base m cap line w
 rw [if_neg h5]
 by_cases h11:k=11
 ·subst h11;exact zeB s n base m cap line w
 rw [if_neg h11]
 by_cases h6:k=6
 ·subst h6;exact zfv s n base m cap line w
 rw [if_neg h6]
 by_cases h7:k=7
 ·subst h7;exact zfw s n base m cap line w ht
 rw [if_neg h7]
 by_cases h8:k=8
 ·subst h8;exact zfx s n base m cap line w
 rw [if_neg h8]
 by_cases h9:k=9
 ·subst h9;exact zfy s n base m cap line w
 rw [if_neg h9]
 by_cases h10:k=10
 ·subst h10;exact zeC s n base m cap line w
 rw [if_neg h10];exact zeD k s n base m cap line w h1 h2 h3 h4 h5 h11 h6 h7 h8 h9 h10
inductive Ez where
 | mk (k:Int) (s:List UInt8) (n:Int) (kids:List Ez) (line:Int)
inductive Zs (B:Nat) (w:World):Ez→Value→Prop where
 | mk (k:Int) (s:List UInt8) (n:Int) (kids:List Ez) (line:Int) (base:Option Addr) (cap b o:Nat) (us:List (List Value)) (hs:s.length≤100000000) (hn0:-9223372036854775808≤n) (hn1:n≤9223372036854775807)
   (hbase:kids≠[]→base=some ⟨b,o,none⟩∧b<B∧b<w.heap.size) (hlen:us.length=kids.length) (hc:kids.length≤cap) (hm:cap≤maxLen)
   (hcell:∀j u,us.flatten[j]?=some u→w.cell? ⟨b,o+j,none⟩=some u) (hfive:∀c∈us,c.length=5)
   (hk:∀(j:Nat) (x:Ez) (c:List Value),kids[j]?=some x→us[j]?=some c→Zs B w x (.agg c.toArray)) :
   Zs B w (.mk k s n kids line) (yv k s n base kids.length cap line)
theorem Zs.kept {B:Nat} {w w':World} {x:Ez} {v:Value} (h:Zs B w x v) (hb:Below B w w'):Zs B w' x v:=by
 induction h with
 | mk k s n kids line base cap b o us hs hn0 hn1 hbase hlen hc hm hcell hfive _ ih =>
  refine .mk k s n kids line base cap b o us hs hn0 hn1 (fun h=>⟨(hbase h).1,(hbase h).2.1,Nat.lt_of_lt_of_le (hbase h).2.2 hb.size⟩) hlen hc hm (fun j u hj=>?_) hfive ih
  have hne:kids≠[]:=by
   rintro rfl
   have:us=[]:=List.eq_nil_of_length_eq_zero hlen
   subst this
   simp at hj
  rw [World.cell?_of_block (hb.block b (hbase hne).2.1)];exact hcell j u hj
def zc (a b:Option (List UInt8)):Option (List UInt8):=match a with
 | none=>none
 | some s=>match b with
  | none=>none
  | some u=>some (s++u)
def rowO (l:List (Option (List UInt8))):Nat→Option (List UInt8)
 | 0=>some []
 | i+1=>zc (rowO l i) (zc (some (if i=0 then [] else [44,32])) ((l[i]?).getD none))
def lvE:Ez→Nat
 | .mk k s _ _ _=>if k=7 then levelOf s else if k=6 then 7 else 8
def kidO (x:Ez) (least:Nat) (u:Option (List UInt8)):Option (List UInt8):=if least≤lvE x then u else zc (some [40]) (zc u (some [41]))
def prE:Nat→Ez→Option (List UInt8)
 | 0,_=>none
 | d+1,.mk k s n kids _ =>
  if YP k s n kids.length=true then
   if k=1 then tokO 2 n []
   else if k=2 then some (if n=0 then [102,97,108,115,101] else [116,114,117,101])
   else if k=3 then tokO 3 0 s
   else if k=4 then tokO 1 0 s
   else if k=5 then zc (tokO 1 0 s) (zc (some [40]) (zc (rowO (kids.map (prE d)) kids.length) (some [41])))
   else if k=11 then zc (some [110,101,119,32]) (zc (tokO 1 0 s) (zc (some [40]) (zc (rowO (kids.map (prE d)) kids.length) (some [41]))))
   else if k=10 then zc (some [91]) (zc (rowO (kids.map (prE d)) kids.length) (some [93]))
   else if k=6 then match kids with
    | a::_=>zc (some s) (kidO a 7 (prE d a))
    | _=>none
   else if k=7 then match kids with
    | a::b::_=>zc (kidO a (levelOf s) (prE d a)) (zc (some [32]) (zc (some s) (zc (some [32]) (kidO b (levelOf s+1) (prE d b)))))
    | _=>none
   else if k=8 then match kids with
    | a::b::_=>zc (kidO a 8 (prE d a)) (zc (some [91]) (zc (prE d b) (some [93])))
    | _=>none
   else if k=9 then match kids with
    | a::_=>zc (kidO a 8 (prE d a)) (zc (some [46]) (tokO 1 0 s))
    | _=>none
   else none
  else none
theorem zm.seq {w0:World} {r:Nat} {q q1:Option Nat} {t s:List UInt8} {w w1 w2:World} {R:Option (List UInt8)} {e:Ending} (h:zN r q w q1 w1) (h2:zm w0 r q1 (t++s) w1 R e w2):zm w0 r q t w (zc (some s) R) e w2:=by
 obtain ⟨q2,hto,hp⟩:=h2;refine ⟨q2,h.trans hto,?_⟩;cases R with
 | none=>exact hp
 | some u=>exact ⟨hp.1,by rw [←List.append_assoc];exact hp.2⟩
theorem zm.stop {w0:World} {r:Nat} {q q1:Option Nat} {t:List UInt8} {w w1:World} {R:Option (List UInt8)} {e:Ending} (h:zN r q w q1 w1) (he:e=zat):zm w0 r q t w (zc none R) e w1:=⟨q1,h,he⟩
theorem zaz (R:Option (List UInt8)):zc (some []) R=R:=by
 cases R <;> simp [zc]
theorem VI (a b c:Option (List UInt8)):zc (zc a b) c=zc a (zc b c):=by
 cases a <;> cases b <;> cases c <;> simp [zc]
def VJ (l:List UInt8):Bool:=Lib.hasPrefix l [91]&&Lib.hasSuffix l [93]
def Xt (l:List UInt8):List UInt8:=(l.drop 1).take (l.length-2)
theorem xV {l:List UInt8} (h:VJ l=true):2≤l.length:=by
 unfold VJ Lib.hasPrefix Lib.hasSuffix at h
 rw [Bool.and_eq_true] at h;obtain ⟨h1,h2⟩:=h;obtain ⟨a,rfl⟩:=List.isPrefixOf_iff_prefix.1 h1;obtain ⟨b,hb⟩:=List.isSuffixOf_iff_suffix.1 h2;cases a with
 | nil =>
  exfalso
  have e:=congrArg List.getLast? hb
  simp at e
 | cons x xs=>simp
theorem XO (l:List UInt8) (h:2≤l.length):(Xt l).length+2=l.length:=by
 unfold Xt
 rw [List.length_take,List.length_drop];omega
def YT:Nat→List UInt8→List UInt8
 | 0,l=>l
 | f+1,l=>if VJ l=true then YT f (Xt l) else l
def Ya (s:List UInt8):List UInt8:=YT s.length s
theorem zbY (f:Nat):∀l,(YT f l).length≤l.length:=by
 induction f with
 | zero=>intro l;simp [YT]
 | succ f ih =>
  intro l;rw [YT]
  split
  ·rename_i h
   have:=XO l (xV h)
   have:=ih (Xt l)
   omega
  ·exact Nat.le_refl _
theorem zaA (f:Nat):∀l,l.length≤f→YT (f+1) l=YT f l:=by
 induction f with
 | zero =>
  intro l hl;rw [YT,YT];rw [if_neg (fun h=>by have:=xV h;omega)]
 | succ f ih =>
  intro l hl;rw [YT];rw [show YT (f+1) l=if VJ l=true then YT f (Xt l) else l from rfl]
  split
  ·rename_i h
   have:=XO l (xV h)
   exact ih _ (by omega)
  ·rfl
theorem Qv {f:Nat} {l:List UInt8} (hl:l.length≤f):∀k,YT (f+k) l=YT f l
 | 0=>rfl
 | k+1=>(zaA (f+k) l (by omega)).trans (Qv hl k)
theorem zaB {l:List UInt8} (h:VJ l=true):Ya l=Ya (Xt l):=by
 have h2:=xV h;have h1:=XO l h2
 unfold Ya
 have e:l.length=(Xt l).length+1+1:=by omega
 rw [e,YT,if_pos h];exact Qv (Nat.le_refl _) 1
theorem uw {l:List UInt8} (h:VJ l=false):Ya l=l:=by
 unfold Ya
 cases hl:l.length with
 | zero=>rfl
 | succ n=>rw [YT,if_neg (by rw [h];decide)]
def typeO (s:List UInt8):Option (List UInt8):=zc (some (s.take ((s.length-(Ya s).length) / 2))) (zc (tokO 1 0 (Ya s)) (some (s.drop (s.length-(s.length-(Ya s).length) / 2))))
theorem UL (w0:World) (r:Nat) (q:Option Nat) (t s:List UInt8) (w:World) (hT:ZA w0) (h:zx w0 r q t w) (hs:s.length≤100000000) :
  Calls Tryz.prog 120 #[.pointer (some ⟨r,0,none⟩),.string (za s)] w (zm w0 r q t w (typeO s)):=by
 obtain ⟨R,hR⟩:∃R,R=typeO s:=⟨_,rfl⟩;rw [←hR];have HR:Hid (R=typeO s):=hR;have HW:Hid (zx w0 r q t w):=h;have HT:Hid (ZA w0):=hT;have hil:(Ya s).length≤s.length:=zbY _ _;clear h hT hR
 go_enter Tryz.func120,Tryz.ntmps120
 go_wp2_with fail
 go_loopw [4] (fun x wr=>∃nm:List UInt8,x=.string (za nm)∧nm.length≤s.length∧Ya nm=Ya s∧wr=w) (fun x _=>(match x with | .string b=>b.size | _=>0))
 case atStart=>exact ⟨s,rfl,Nat.le_refl _,rfl,rfl⟩
 case round =>
  obtain ⟨nm,rfl,hnl,hin,rfl⟩:=hrel;have hsz:(za nm).size=nm.length:=Zd nm;have c1:=fun wx=>Tryz.strings_HasPrefix (za nm) ⟨#[91]⟩ wx
  have c2:=fun wx=>Tryz.strings_HasSuffix (za nm) ⟨#[93]⟩ wx (by omega)
  obtain ⟨P,hP⟩:∃P,P=Lib.hasPrefix nm [91]:=⟨_,rfl⟩;obtain ⟨S,hS⟩:∃S,S=Lib.hasSuffix nm [93]:=⟨_,rfl⟩;have c1':∀wx,Calls Tryz.prog 147 #[.string (za nm),.string ⟨#[91]⟩] wx fun e w'=>e=.returned (.bool P)∧w'=wx:=fun wx=>by rw [hP];exact c1 wx
  have c2':∀wx,Calls Tryz.prog 148 #[.string (za nm),.string ⟨#[93]⟩] wx fun e w'=>e=.returned (.bool S)∧w'=wx:=fun wx=>by rw [hS];exact c2 wx
  have HPB:Hid (VJ nm=(P&&S)):=show _=_ by rw [hP,hS];rfl
  clear c1 c2 hP hS;have HN:Hid (nm.length≤s.length):=hnl;cases P with
  | true =>
   cases S with
   | true =>
    have hpb:VJ nm=true:=HPB.out;have h2:=xV hpb;have hl1:=XO nm h2
    have hsl:∀W,(Instr.slice 9 (.string (za nm)) (some (.int .i64 1)) (some (.int .i64 ((nm.length:Int)-1))) none).run Tryz.prog W=.ok (.string (za (Xt nm))) W:=fun W=>by
     have:=Xf W nm 1 (nm.length-2) (by omega)
     rw [show (((1:Nat):Int)+((nm.length-2:Nat):Int))=(nm.length:Int)-1 by omega] at this
     exact this
    have HI:Hid (Ya (Xt nm)=Ya s):=(zaB hpb).symm.trans hin;have hsz2:(za (Xt nm)).size=(Xt nm).length:=Zd _;clear hpb hin
    go_wp2_with (first
     | (go_at_call 147;refine (c1' _).mono ?_;rintro e w1 ⟨rfl,hh⟩;obtain rfl:=hh.symm)
     | (go_at_call 148;refine (c2' _).mono ?_;rintro e w1 ⟨rfl,hh⟩;obtain rfl:=hh.symm))
    exact ⟨⟨Xt nm,rfl,by omega,HI.out,trivial⟩,by simp only [hsz,hsz2];omega⟩
   | false =>
    have HI:Hid (nm=Ya s):=show _=_ by rw [←hin];exact (uw HPB.out).symm
    clear hin;obtain ⟨D,hD⟩:∃D,D=(s.length-nm.length) / 2:=⟨_,rfl⟩;have hDle:D≤s.length:=by omega
    have hq:((s.length:Int)-(nm.length:Int)).tdiv 2=(D:Int):=by
     rw [show ((s.length:Int)-(nm.length:Int))=((s.length-nm.length:Nat):Int) by omega,hD]
     rfl
    have hsl1:∀W,(Instr.slice 9 (.string (za s)) none (some (.int .i64 (D:Int))) none).run Tryz.prog W=.ok (.string (za (s.take D))) W:=fun W=>U0 W s D hDle
    have hsl2:∀W,(Instr.slice 9 (.string (za s)) (some (.int .i64 ((s.length:Int)-(D:Int)))) none none).run Tryz.prog W=.ok (.string (za (s.drop (s.length-D)))) W:=fun W=>by
     have:=xQ W s (s.length-D) (by omega)
     rw [show (((s.length-D:Nat)):Int)=(s.length:Int)-(D:Int) by omega] at this
     exact this
    have hR2:R=zc (some (s.take D)) (zc (tokO 1 0 nm) (some (s.drop (s.length-D)))):=by rw [HR.out,hD,HI.out];rfl
    have HR2:Hid (R=zc (some (s.take D)) (zc (tokO 1 0 nm) (some (s.drop (s.length-D))))):=hR2;have cp:=zw w0 r q t (s.take D) wr HW.out (by rw [List.length_take];omega)
    have hss:(za s).size=s.length:=Zd s;clear hD hR2 HR HI hil
    go_wp2_with (first
     | (go_at_call 147;refine (c1' _).mono ?_;rintro e w1 ⟨rfl,hh⟩;obtain rfl:=hh.symm)
     | (go_at_call 148;refine (c2' _).mono ?_;rintro e w1 ⟨rfl,hh⟩;obtain rfl:=hh.symm)
     | fail)
    refine cp.mono ?_;clear cp c1' c2';rintro e w2 ⟨q2,hto2,rfl,hw2⟩;have cn:=yr w0 r q2 (t++s.take D) nm w2 HT.out hw2 (by omega)
    have HT2:Hid (zN r q wr q2 w2):=hto2;clear hto2 hw2;generalize tokO 1 0 nm=X at *;go_wp2_with fail
    refine cn.mono ?_;clear cn;rintro e w3 ⟨q3,hto3,hp3⟩;have HT3:Hid (zN r q wr q3 w3):=HT2.out.trans hto3;clear hto3;cases X with
    | none=>subst hp3;obtain rfl:R=none:=HR2.out;exact ⟨rfl,q3,HT3.out,rfl⟩
    | some u =>
     obtain ⟨rfl,hw3⟩:=hp3;have cp:=zw w0 r q3 (t++s.take D++u) (s.drop (s.length-D)) w3 hw3 (by rw [List.length_drop];omega)
     clear hw3;go_wp2_with fail
     refine cp.mono ?_;clear cp;rintro e w4 ⟨q4,hto4,rfl,hw4⟩;obtain rfl:R=some (s.take D++(u++s.drop (s.length-D))):=HR2.out;have HP:Hid (zm w0 r q t wr (some (s.take D++(u++s.drop (s.length-D)))) (.returned (.tuple #[])) w4):=⟨q4,HT3.out.trans hto4,rfl,by simpa only [List.append_assoc] using hw4⟩
     clear hto4 hw4 HT3 HT2 HW HR2;go_wp2
     exact bodyPost_ret (v:=.tuple #[]) (by simp [results,Tryz.results120,go_sem]) rfl HP.out
  | false =>
   have HI:Hid (nm=Ya s):=show _=_ by rw [←hin];exact (uw (by rw [HPB.out];rfl)).symm
   clear hin;obtain ⟨D,hD⟩:∃D,D=(s.length-nm.length) / 2:=⟨_,rfl⟩;have hDle:D≤s.length:=by omega
   have hq:((s.length:Int)-(nm.length:Int)).tdiv 2=(D:Int):=by
    rw [show ((s.length:Int)-(nm.length:Int))=((s.length-nm.length:Nat):Int) by omega,hD]
    rfl
   have hsl1:∀W,(Instr.slice 9 (.string (za s)) none (some (.int .i64 (D:Int))) none).run Tryz.prog W=.ok (.string (za (s.take D))) W:=fun W=>U0 W s D hDle
   have hsl2:∀W,(Instr.slice 9 (.string (za s)) (some (.int .i64 ((s.length:Int)-(D:Int)))) none none).run Tryz.prog W=.ok (.string (za (s.drop (s.length-D)))) W:=fun W=>by
    have:=xQ W s (s.length-D) (by omega)
    rw [show (((s.length-D:Nat)):Int)=(s.length:Int)-(D:Int) by omega] at this
    exact this
   have hR2:R=zc (some (s.take D)) (zc (tokO 1 0 nm) (some (s.drop (s.length-D)))):=by rw [HR.out,hD,HI.out];rfl
   have HR2:Hid (R=zc (some (s.take D)) (zc (tokO 1 0 nm) (some (s.drop (s.length-D))))):=hR2;have cp:=zw w0 r q t (s.take D) wr HW.out (by rw [List.length_take];omega)
   have hss:(za s).size=s.length:=Zd s;clear hD hR2 HR HI hil
   go_wp2_with (first
    | (go_at_call 147;refine (c1' _).mono ?_;rintro e w1 ⟨rfl,hh⟩;obtain rfl:=hh.symm)
    | (go_at_call 148;refine (c2' _).mono ?_;rintro e w1 ⟨rfl,hh⟩;obtain rfl:=hh.symm)
    | fail)
   refine cp.mono ?_;clear cp c1' c2';rintro e w2 ⟨q2,hto2,rfl,hw2⟩;have cn:=yr w0 r q2 (t++s.take D) nm w2 HT.out hw2 (by omega)
   have HT2:Hid (zN r q wr q2 w2):=hto2;clear hto2 hw2;generalize tokO 1 0 nm=X at *;go_wp2_with fail
   refine cn.mono ?_;clear cn;rintro e w3 ⟨q3,hto3,hp3⟩;have HT3:Hid (zN r q wr q3 w3):=HT2.out.trans hto3;clear hto3;cases X with
   | none=>subst hp3;obtain rfl:R=none:=HR2.out;exact ⟨rfl,q3,HT3.out,rfl⟩
   | some u =>
    obtain ⟨rfl,hw3⟩:=hp3;have cp:=zw w0 r q3 (t++s.take D++u) (s.drop (s.length-D)) w3 hw3 (by rw [List.length_drop];omega)
    clear hw3;go_wp2_with fail
    refine cp.mono ?_;clear cp;rintro e w4 ⟨q4,hto4,rfl,hw4⟩;obtain rfl:R=some (s.take D++(u++s.drop (s.length-D))):=HR2.out;have HP:Hid (zm w0 r q t wr (some (s.take D++(u++s.drop (s.length-D)))) (.returned (.tuple #[])) w4):=⟨q4,HT3.out.trans hto4,rfl,by simpa only [List.append_assoc] using hw4⟩
    clear hto4 hw4 HT3 HT2 HW HR2;go_wp2
    exact bodyPost_ret (v:=.tuple #[]) (by simp [results,Tryz.results120,go_sem]) rfl HP.out
end Go.Proofs.YtdgpapchkpnijaaGreatDoor
