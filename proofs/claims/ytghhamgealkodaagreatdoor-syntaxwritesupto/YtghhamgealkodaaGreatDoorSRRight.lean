import Derived.Test.YtghhamgealkodaaGreatDoorMC45
import Derived.Test.YtghhamgealkodaaGreatDoorMC9
import Derived.Test.YtghhamgealkodaaGreatDoorMC46
namespace Go.Proofs.YtghhamgealkodaaGreatDoor
open Go.RowKit Go.Shelf
set_option maxRecDepth 100000
theorem dpE_kid {k:Int} {s:List UInt8} {n:Int} {kids:List Ez} {line:Int} {N i:Nat} {y:Ez} (h:dpE (.mk k s n kids line)≤N+1) (hy:kids[i]?=some y):dpE y≤N:=by
 rw [dpE] at h
 exact (dpL_mem (d:=N)).1 (by omega) y (List.mem_of_getElem? hy)
theorem rgL_false {l:List Ez} {i:Nat} {y:Ez} (hy:l[i]?=some y) (h:rgE y=false):rgL l=false:=by
 cases hl:rgL l with
 | false=>rfl
 | true=>rw [rgL_mem.1 hl y (List.mem_of_getElem? hy)] at h;cases h
set_option maxHeartbeats 16000000 in
theorem rightK1 (s:List UInt8) (n:Int) (kids:List Ez) (line:Int) (base:Option Addr) (cap:Nat) (w:World) (hs:s.length≤100000000) (_hn1:n≤9223372036854775807) (hc:kids.length≤cap) (hmx:cap≤maxLen) (HKW:Hid (∀i y,kids[i]?=some y→∀W,Below w.heap.size w W→∃b o a1 a2 a3 a4 a5 a6 a7,base=some ⟨b,o,none⟩∧W.cell? ⟨b,o+i*5,none⟩=some (.int .i64 a1)∧W.cell? ⟨b,o+i*5+1,none⟩=some (.string (strB a2))∧W.cell? ⟨b,o+i*5+2,none⟩=some (.int .i64 a3)∧W.cell? ⟨b,o+i*5+3,none⟩=some (.slice a4 a5 a6)∧W.cell? ⟨b,o+i*5+4,none⟩=some (.int .i64 a7)∧Calls Tryz.prog 54 #[ezV a1 a2 a3 a4 a5 a6 a7] W fun e w'=>e=.returned (.bool (rgE y))∧Below W.heap.size W w')) :
  Calls Tryz.prog 54 #[ezV 1 s n base kids.length cap line] w fun e w'=>e=.returned (.bool (rgE (.mk 1 s n kids line)))∧Below w.heap.size w w':=by
  obtain ⟨m,hm⟩:∃m,m=kids.length:=⟨_,rfl⟩
  rw [←hm] at hc ⊢
  have hlen:m≤9223372036854775807:=by unfold maxLen at hmx;omega
  obtain ⟨R,hR⟩:∃R,R=rgE (.mk 1 s n kids line):=⟨_,rfl⟩
  rw [←hR]
  have HR:Hid (R=(rgL kids&&rgK 1 s n m)):=show _=_ by rw [hR,hm];rfl
  obtain ⟨w1,hw1⟩:∃w1,w1=w.alloc (ezO 1 s n base m cap line):=⟨_,rfl⟩
  have hb1:Below w.heap.size w w1:=by rw [hw1];exact (Below.refl _ w).alloc (Nat.le_refl _) _
  have p1:w1.heap[w.heap.size]?=some (ezO 1 s n base m cap line):=by rw [hw1];exact World.alloc_heap_new w _
  have hsz1:w1.heap.size=w.heap.size+1:=by rw [hw1];simp
  have HK:Hid (∀i y,kids[i]?=some y→∀W,Below w1.heap.size w1 W→∃b o a1 a2 a3 a4 a5 a6 a7,base=some ⟨b,o,none⟩∧W.cell? ⟨b,o+i*5,none⟩=some (.int .i64 a1)∧W.cell? ⟨b,o+i*5+1,none⟩=some (.string (strB a2))∧W.cell? ⟨b,o+i*5+2,none⟩=some (.int .i64 a3)∧W.cell? ⟨b,o+i*5+3,none⟩=some (.slice a4 a5 a6)∧W.cell? ⟨b,o+i*5+4,none⟩=some (.int .i64 a7)∧Calls Tryz.prog 54 #[ezV a1 a2 a3 a4 a5 a6 a7] W fun e w'=>e=.returned (.bool (rgE y))∧Below W.heap.size W w'):=fun i y hy W hW=>HKW.out i y hy W (below_via' hb1 hW)
  clear HKW
  have HP1:Hid (w1.heap[w.heap.size]?=some (ezO 1 s n base m cap line)):=p1
  have HB1:Hid (Below w.heap.size w w1):=hb1
  have HM:Hid (m=kids.length):=hm
  obtain ⟨c0,c1,c2,c3,c4⟩:=cellsZ p1
  have hw1':=hw1.symm
  clear hR hb1 p1 hw1 hm hc hmx
  go_enter Tryz.func54,Tryz.ntmps54
  go_wp2_with fail
  go_loopw [4] (fun vi wr=>∃i:Nat,i≤m∧vi=.int .i64 (i:Int)∧Below w1.heap.size w1 wr∧∀j y,j<i→kids[j]?=some y→rgE y=true) (fun vi _=>m-(intOf vi).toNat)
  case atStart=>exact ⟨0,Nat.zero_le _,rfl,Below.refl _ _,fun j y hj=>absurd hj (Nat.not_lt_zero _)⟩
  case round =>
   obtain ⟨i,hi,rfl,hbr,hall⟩:=hrel
   clear c0 c1 c2 c3 c4
   obtain ⟨c0,c1,c2,c3,c4⟩:=cellsZ ((hbr.block w.heap.size (by omega)).trans HP1.out)
   have HBR:Hid (Below w1.heap.size w1 wr):=hbr
   have HALL:Hid (∀j y,j<i→kids[j]?=some y→rgE y=true):=hall
   clear hbr hall
   by_cases hlt:i<m
   ·have hlt':(i:Int)<(m:Int):=by omega
    obtain ⟨y,hy⟩:∃y,kids[i]?=some y:=⟨kids[i]'(by rw [←HM.out];exact hlt),List.getElem?_eq_getElem (by rw [←HM.out];exact hlt)⟩
    obtain ⟨b,o,a1,a2,a3,a4,a5,a6,a7,rfl,m0,m1,m2,m3,m4,ck⟩:=HK.out i y hy wr HBR.out
    have HF:Hid (rgE y=false→R=false):=fun h9=>by rw [HR.out,rgL_false hy h9];rfl
    have HT:Hid (rgE y=true→∀j z,j<i+1→kids[j]?=some z→rgE z=true):=fun h9 j z hj hz=>by
     rcases Nat.lt_or_ge j i with h8 | h8
     ·exact HALL.out j z h8 hz
     ·obtain rfl:j=i:=by omega
      rw [hy] at hz
      cases hz
      exact h9
    clear hy HK HALL
    generalize rgE y=B at *
    go_wp2_with fail
    refine ck.mono ?_
    clear ck m0 m1 m2 m3 m4 c0 c1 c2 c3 c4
    rintro e w2 ⟨rfl,hb2⟩
    have HB2:Hid (Below w1.heap.size w1 w2):=below_via' HBR.out hb2
    have HBW:Hid (Below w.heap.size w w2):=below_via' HB1.out HB2.out
    clear hb2 HBR
    cases B with
    | false =>
     obtain rfl:=HF.out rfl
     go_wp2
     exact bodyPost_ret (v:=.bool false) (by simp [results,Tryz.results54,go_sem]) rfl ⟨rfl,HBW.out⟩
    | true =>
     go_wp2
     exact ⟨⟨i+1,by omega,by go_num,HB2.out,HT.out trivial⟩,by simp [intOf];omega⟩
   ·obtain rfl:i=m:=by omega
    have hlt':¬ (i:Int)<(i:Int):=by omega
    have hrl:rgL kids=true:=rgL_mem.2 fun y hy=>by
     obtain ⟨j,hj,rfl⟩:=List.getElem_of_mem hy
     exact HALL.out j _ (by rw [HM.out];exact hj) (List.getElem?_eq_getElem hj)
    have HV:Hid (R=rgK 1 s n i):=show _=_ by rw [HR.out,hrl];rfl
    have HBW:Hid (Below w.heap.size w wr):=below_via' HB1.out HBR.out
    have HPW:Hid (wr.heap[w.heap.size]?=some (ezO 1 s n base i cap line)):=(HBR.out.block w.heap.size (by omega)).trans HP1.out
    have HZW:Hid (w.heap.size<wr.heap.size):=Nat.lt_of_lt_of_le (by omega) HBR.out.size
    clear hrl HR HALL HK HBR HB1 HM HP1
    have HP3:=HPW
    have HP2:=HZW
    clear HPW HZW
    by_cases hg:0≤n
    ·skip
     by_cases hs1:s=[]
     ·subst hs1
      by_cases hm0:i=0
      ·subst hm0
       obtain rfl:R=true:=by rw [HV.out];simp [rgK,hg]
       clear HV
       go_wp2
       exact bodyPost_ret (v:=.bool true) (by simp [results,Tryz.results54,go_sem]) rfl ⟨rfl,HBW.out⟩
      ·have hmI:((i:Int)==0)=false:=by rw [beq_eq_false_iff_ne];omega
       have hmN:(i==0)=false:=by rw [beq_eq_false_iff_ne];exact hm0
       obtain rfl:R=false:=by rw [HV.out];simp [rgK,hg,hm0]
       clear HV
       go_wp2
       exact bodyPost_ret (v:=.bool false) (by simp [results,Tryz.results54,go_sem]) rfl ⟨rfl,HBW.out⟩
     ·have hs2:(s==[])=false:=by simpa using hs1
      obtain rfl:R=false:=by rw [HV.out];simp [rgK,hg,hs1]
      clear HV
      go_wp2
      exact bodyPost_ret (v:=.bool false) (by simp [results,Tryz.results54,go_sem]) rfl ⟨rfl,HBW.out⟩
    ·skip
     obtain rfl:R=false:=by rw [HV.out];simp [rgK,hg]
     clear HV
     go_wp2
     exact bodyPost_ret (v:=.bool false) (by simp [results,Tryz.results54,go_sem]) rfl ⟨rfl,HBW.out⟩
set_option maxHeartbeats 16000000 in
theorem rightK2 (s:List UInt8) (n:Int) (kids:List Ez) (line:Int) (base:Option Addr) (cap:Nat) (w:World) (hs:s.length≤100000000) (_hn1:n≤9223372036854775807) (hc:kids.length≤cap) (hmx:cap≤maxLen) (HKW:Hid (∀i y,kids[i]?=some y→∀W,Below w.heap.size w W→∃b o a1 a2 a3 a4 a5 a6 a7,base=some ⟨b,o,none⟩∧W.cell? ⟨b,o+i*5,none⟩=some (.int .i64 a1)∧W.cell? ⟨b,o+i*5+1,none⟩=some (.string (strB a2))∧W.cell? ⟨b,o+i*5+2,none⟩=some (.int .i64 a3)∧W.cell? ⟨b,o+i*5+3,none⟩=some (.slice a4 a5 a6)∧W.cell? ⟨b,o+i*5+4,none⟩=some (.int .i64 a7)∧Calls Tryz.prog 54 #[ezV a1 a2 a3 a4 a5 a6 a7] W fun e w'=>e=.returned (.bool (rgE y))∧Below W.heap.size W w')) :
  Calls Tryz.prog 54 #[ezV 2 s n base kids.length cap line] w fun e w'=>e=.returned (.bool (rgE (.mk 2 s n kids line)))∧Below w.heap.size w w':=by
  obtain ⟨m,hm⟩:∃m,m=kids.length:=⟨_,rfl⟩
  rw [←hm] at hc ⊢
  have hlen:m≤9223372036854775807:=by unfold maxLen at hmx;omega
  obtain ⟨R,hR⟩:∃R,R=rgE (.mk 2 s n kids line):=⟨_,rfl⟩
  rw [←hR]
  have HR:Hid (R=(rgL kids&&rgK 2 s n m)):=show _=_ by rw [hR,hm];rfl
  obtain ⟨w1,hw1⟩:∃w1,w1=w.alloc (ezO 2 s n base m cap line):=⟨_,rfl⟩
  have hb1:Below w.heap.size w w1:=by rw [hw1];exact (Below.refl _ w).alloc (Nat.le_refl _) _
  have p1:w1.heap[w.heap.size]?=some (ezO 2 s n base m cap line):=by rw [hw1];exact World.alloc_heap_new w _
  have hsz1:w1.heap.size=w.heap.size+1:=by rw [hw1];simp
  have HK:Hid (∀i y,kids[i]?=some y→∀W,Below w1.heap.size w1 W→∃b o a1 a2 a3 a4 a5 a6 a7,base=some ⟨b,o,none⟩∧W.cell? ⟨b,o+i*5,none⟩=some (.int .i64 a1)∧W.cell? ⟨b,o+i*5+1,none⟩=some (.string (strB a2))∧W.cell? ⟨b,o+i*5+2,none⟩=some (.int .i64 a3)∧W.cell? ⟨b,o+i*5+3,none⟩=some (.slice a4 a5 a6)∧W.cell? ⟨b,o+i*5+4,none⟩=some (.int .i64 a7)∧Calls Tryz.prog 54 #[ezV a1 a2 a3 a4 a5 a6 a7] W fun e w'=>e=.returned (.bool (rgE y))∧Below W.heap.size W w'):=fun i y hy W hW=>HKW.out i y hy W (below_via' hb1 hW)
  clear HKW
  have HP1:Hid (w1.heap[w.heap.size]?=some (ezO 2 s n base m cap line)):=p1
  have HB1:Hid (Below w.heap.size w w1):=hb1
  have HM:Hid (m=kids.length):=hm
  obtain ⟨c0,c1,c2,c3,c4⟩:=cellsZ p1
  have hw1':=hw1.symm
  clear hR hb1 p1 hw1 hm hc hmx
  go_enter Tryz.func54,Tryz.ntmps54
  go_wp2_with fail
  go_loopw [4] (fun vi wr=>∃i:Nat,i≤m∧vi=.int .i64 (i:Int)∧Below w1.heap.size w1 wr∧∀j y,j<i→kids[j]?=some y→rgE y=true) (fun vi _=>m-(intOf vi).toNat)
  case atStart=>exact ⟨0,Nat.zero_le _,rfl,Below.refl _ _,fun j y hj=>absurd hj (Nat.not_lt_zero _)⟩
  case round =>
   obtain ⟨i,hi,rfl,hbr,hall⟩:=hrel
   clear c0 c1 c2 c3 c4
   obtain ⟨c0,c1,c2,c3,c4⟩:=cellsZ ((hbr.block w.heap.size (by omega)).trans HP1.out)
   have HBR:Hid (Below w1.heap.size w1 wr):=hbr
   have HALL:Hid (∀j y,j<i→kids[j]?=some y→rgE y=true):=hall
   clear hbr hall
   by_cases hlt:i<m
   ·have hlt':(i:Int)<(m:Int):=by omega
    obtain ⟨y,hy⟩:∃y,kids[i]?=some y:=⟨kids[i]'(by rw [←HM.out];exact hlt),List.getElem?_eq_getElem (by rw [←HM.out];exact hlt)⟩
    obtain ⟨b,o,a1,a2,a3,a4,a5,a6,a7,rfl,m0,m1,m2,m3,m4,ck⟩:=HK.out i y hy wr HBR.out
    have HF:Hid (rgE y=false→R=false):=fun h9=>by rw [HR.out,rgL_false hy h9];rfl
    have HT:Hid (rgE y=true→∀j z,j<i+1→kids[j]?=some z→rgE z=true):=fun h9 j z hj hz=>by
     rcases Nat.lt_or_ge j i with h8 | h8
     ·exact HALL.out j z h8 hz
     ·obtain rfl:j=i:=by omega
      rw [hy] at hz
      cases hz
      exact h9
    clear hy HK HALL
    generalize rgE y=B at *
    go_wp2_with fail
    refine ck.mono ?_
    clear ck m0 m1 m2 m3 m4 c0 c1 c2 c3 c4
    rintro e w2 ⟨rfl,hb2⟩
    have HB2:Hid (Below w1.heap.size w1 w2):=below_via' HBR.out hb2
    have HBW:Hid (Below w.heap.size w w2):=below_via' HB1.out HB2.out
    clear hb2 HBR
    cases B with
    | false =>
     obtain rfl:=HF.out rfl
     go_wp2
     exact bodyPost_ret (v:=.bool false) (by simp [results,Tryz.results54,go_sem]) rfl ⟨rfl,HBW.out⟩
    | true =>
     go_wp2
     exact ⟨⟨i+1,by omega,by go_num,HB2.out,HT.out trivial⟩,by simp [intOf];omega⟩
   ·obtain rfl:i=m:=by omega
    have hlt':¬ (i:Int)<(i:Int):=by omega
    have hrl:rgL kids=true:=rgL_mem.2 fun y hy=>by
     obtain ⟨j,hj,rfl⟩:=List.getElem_of_mem hy
     exact HALL.out j _ (by rw [HM.out];exact hj) (List.getElem?_eq_getElem hj)
    have HV:Hid (R=rgK 2 s n i):=show _=_ by rw [HR.out,hrl];rfl
    have HBW:Hid (Below w.heap.size w wr):=below_via' HB1.out HBR.out
    have HPW:Hid (wr.heap[w.heap.size]?=some (ezO 2 s n base i cap line)):=(HBR.out.block w.heap.size (by omega)).trans HP1.out
    have HZW:Hid (w.heap.size<wr.heap.size):=Nat.lt_of_lt_of_le (by omega) HBR.out.size
    clear hrl HR HALL HK HBR HB1 HM HP1
    have HP3:=HPW
    have HP2:=HZW
    clear HPW HZW
    by_cases hn:n=0
    ·subst hn
     by_cases hs1:s=[]
     ·subst hs1
      by_cases hm0:i=0
      ·subst hm0
       obtain rfl:R=true:=by rw [HV.out];simp [rgK]
       clear HV
       go_wp2
       exact bodyPost_ret (v:=.bool true) (by simp [results,Tryz.results54,go_sem]) rfl ⟨rfl,HBW.out⟩
      ·have hmI:((i:Int)==0)=false:=by rw [beq_eq_false_iff_ne];omega
       have hmN:(i==0)=false:=by rw [beq_eq_false_iff_ne];exact hm0
       obtain rfl:R=false:=by rw [HV.out];simp [rgK,hm0]
       clear HV
       go_wp2
       exact bodyPost_ret (v:=.bool false) (by simp [results,Tryz.results54,go_sem]) rfl ⟨rfl,HBW.out⟩
     ·have hs2:(s==[])=false:=by simpa using hs1
      obtain rfl:R=false:=by rw [HV.out];simp [rgK,hs1]
      clear HV
      go_wp2
      exact bodyPost_ret (v:=.bool false) (by simp [results,Tryz.results54,go_sem]) rfl ⟨rfl,HBW.out⟩
    ·have hn2:(n==0)=false:=by simpa using hn
     by_cases hn3:n=1
     ·subst hn3
      by_cases hs1:s=[]
      ·subst hs1
       by_cases hm0:i=0
       ·subst hm0
        obtain rfl:R=true:=by rw [HV.out];simp [rgK]
        clear HV
        go_wp2
        exact bodyPost_ret (v:=.bool true) (by simp [results,Tryz.results54,go_sem]) rfl ⟨rfl,HBW.out⟩
       ·have hmI:((i:Int)==0)=false:=by rw [beq_eq_false_iff_ne];omega
        have hmN:(i==0)=false:=by rw [beq_eq_false_iff_ne];exact hm0
        obtain rfl:R=false:=by rw [HV.out];simp [rgK,hm0]
        clear HV
        go_wp2
        exact bodyPost_ret (v:=.bool false) (by simp [results,Tryz.results54,go_sem]) rfl ⟨rfl,HBW.out⟩
      ·have hs2:(s==[])=false:=by simpa using hs1
       obtain rfl:R=false:=by rw [HV.out];simp [rgK,hs1]
       clear HV
       go_wp2
       exact bodyPost_ret (v:=.bool false) (by simp [results,Tryz.results54,go_sem]) rfl ⟨rfl,HBW.out⟩
     ·have hn4:(n==1)=false:=by simpa using hn3
      obtain rfl:R=false:=by rw [HV.out];simp [rgK,hn,hn3]
      clear HV
      go_wp2
      exact bodyPost_ret (v:=.bool false) (by simp [results,Tryz.results54,go_sem]) rfl ⟨rfl,HBW.out⟩
set_option maxHeartbeats 16000000 in
theorem rightK3 (s:List UInt8) (n:Int) (kids:List Ez) (line:Int) (base:Option Addr) (cap:Nat) (w:World) (hs:s.length≤100000000) (_hn1:n≤9223372036854775807) (hc:kids.length≤cap) (hmx:cap≤maxLen) (HKW:Hid (∀i y,kids[i]?=some y→∀W,Below w.heap.size w W→∃b o a1 a2 a3 a4 a5 a6 a7,base=some ⟨b,o,none⟩∧W.cell? ⟨b,o+i*5,none⟩=some (.int .i64 a1)∧W.cell? ⟨b,o+i*5+1,none⟩=some (.string (strB a2))∧W.cell? ⟨b,o+i*5+2,none⟩=some (.int .i64 a3)∧W.cell? ⟨b,o+i*5+3,none⟩=some (.slice a4 a5 a6)∧W.cell? ⟨b,o+i*5+4,none⟩=some (.int .i64 a7)∧Calls Tryz.prog 54 #[ezV a1 a2 a3 a4 a5 a6 a7] W fun e w'=>e=.returned (.bool (rgE y))∧Below W.heap.size W w')) :
  Calls Tryz.prog 54 #[ezV 3 s n base kids.length cap line] w fun e w'=>e=.returned (.bool (rgE (.mk 3 s n kids line)))∧Below w.heap.size w w':=by
  obtain ⟨m,hm⟩:∃m,m=kids.length:=⟨_,rfl⟩
  rw [←hm] at hc ⊢
  have hlen:m≤9223372036854775807:=by unfold maxLen at hmx;omega
  obtain ⟨R,hR⟩:∃R,R=rgE (.mk 3 s n kids line):=⟨_,rfl⟩
  rw [←hR]
  have HR:Hid (R=(rgL kids&&rgK 3 s n m)):=show _=_ by rw [hR,hm];rfl
  obtain ⟨w1,hw1⟩:∃w1,w1=w.alloc (ezO 3 s n base m cap line):=⟨_,rfl⟩
  have hb1:Below w.heap.size w w1:=by rw [hw1];exact (Below.refl _ w).alloc (Nat.le_refl _) _
  have p1:w1.heap[w.heap.size]?=some (ezO 3 s n base m cap line):=by rw [hw1];exact World.alloc_heap_new w _
  have hsz1:w1.heap.size=w.heap.size+1:=by rw [hw1];simp
  have HK:Hid (∀i y,kids[i]?=some y→∀W,Below w1.heap.size w1 W→∃b o a1 a2 a3 a4 a5 a6 a7,base=some ⟨b,o,none⟩∧W.cell? ⟨b,o+i*5,none⟩=some (.int .i64 a1)∧W.cell? ⟨b,o+i*5+1,none⟩=some (.string (strB a2))∧W.cell? ⟨b,o+i*5+2,none⟩=some (.int .i64 a3)∧W.cell? ⟨b,o+i*5+3,none⟩=some (.slice a4 a5 a6)∧W.cell? ⟨b,o+i*5+4,none⟩=some (.int .i64 a7)∧Calls Tryz.prog 54 #[ezV a1 a2 a3 a4 a5 a6 a7] W fun e w'=>e=.returned (.bool (rgE y))∧Below W.heap.size W w'):=fun i y hy W hW=>HKW.out i y hy W (below_via' hb1 hW)
  clear HKW
  have HP1:Hid (w1.heap[w.heap.size]?=some (ezO 3 s n base m cap line)):=p1
  have HB1:Hid (Below w.heap.size w w1):=hb1
  have HM:Hid (m=kids.length):=hm
  obtain ⟨c0,c1,c2,c3,c4⟩:=cellsZ p1
  have hw1':=hw1.symm
  clear hR hb1 p1 hw1 hm hc hmx
  go_enter Tryz.func54,Tryz.ntmps54
  go_wp2_with fail
  go_loopw [4] (fun vi wr=>∃i:Nat,i≤m∧vi=.int .i64 (i:Int)∧Below w1.heap.size w1 wr∧∀j y,j<i→kids[j]?=some y→rgE y=true) (fun vi _=>m-(intOf vi).toNat)
  case atStart=>exact ⟨0,Nat.zero_le _,rfl,Below.refl _ _,fun j y hj=>absurd hj (Nat.not_lt_zero _)⟩
  case round =>
   obtain ⟨i,hi,rfl,hbr,hall⟩:=hrel
   clear c0 c1 c2 c3 c4
   obtain ⟨c0,c1,c2,c3,c4⟩:=cellsZ ((hbr.block w.heap.size (by omega)).trans HP1.out)
   have HBR:Hid (Below w1.heap.size w1 wr):=hbr
   have HALL:Hid (∀j y,j<i→kids[j]?=some y→rgE y=true):=hall
   clear hbr hall
   by_cases hlt:i<m
   ·have hlt':(i:Int)<(m:Int):=by omega
    obtain ⟨y,hy⟩:∃y,kids[i]?=some y:=⟨kids[i]'(by rw [←HM.out];exact hlt),List.getElem?_eq_getElem (by rw [←HM.out];exact hlt)⟩
    obtain ⟨b,o,a1,a2,a3,a4,a5,a6,a7,rfl,m0,m1,m2,m3,m4,ck⟩:=HK.out i y hy wr HBR.out
    have HF:Hid (rgE y=false→R=false):=fun h9=>by rw [HR.out,rgL_false hy h9];rfl
    have HT:Hid (rgE y=true→∀j z,j<i+1→kids[j]?=some z→rgE z=true):=fun h9 j z hj hz=>by
     rcases Nat.lt_or_ge j i with h8 | h8
     ·exact HALL.out j z h8 hz
     ·obtain rfl:j=i:=by omega
      rw [hy] at hz
      cases hz
      exact h9
    clear hy HK HALL
    generalize rgE y=B at *
    go_wp2_with fail
    refine ck.mono ?_
    clear ck m0 m1 m2 m3 m4 c0 c1 c2 c3 c4
    rintro e w2 ⟨rfl,hb2⟩
    have HB2:Hid (Below w1.heap.size w1 w2):=below_via' HBR.out hb2
    have HBW:Hid (Below w.heap.size w w2):=below_via' HB1.out HB2.out
    clear hb2 HBR
    cases B with
    | false =>
     obtain rfl:=HF.out rfl
     go_wp2
     exact bodyPost_ret (v:=.bool false) (by simp [results,Tryz.results54,go_sem]) rfl ⟨rfl,HBW.out⟩
    | true =>
     go_wp2
     exact ⟨⟨i+1,by omega,by go_num,HB2.out,HT.out trivial⟩,by simp [intOf];omega⟩
   ·obtain rfl:i=m:=by omega
    have hlt':¬ (i:Int)<(i:Int):=by omega
    have hrl:rgL kids=true:=rgL_mem.2 fun y hy=>by
     obtain ⟨j,hj,rfl⟩:=List.getElem_of_mem hy
     exact HALL.out j _ (by rw [HM.out];exact hj) (List.getElem?_eq_getElem hj)
    have HV:Hid (R=rgK 3 s n i):=show _=_ by rw [HR.out,hrl];rfl
    have HBW:Hid (Below w.heap.size w wr):=below_via' HB1.out HBR.out
    have HPW:Hid (wr.heap[w.heap.size]?=some (ezO 3 s n base i cap line)):=(HBR.out.block w.heap.size (by omega)).trans HP1.out
    have HZW:Hid (w.heap.size<wr.heap.size):=Nat.lt_of_lt_of_le (by omega) HBR.out.size
    clear hrl HR HALL HK HBR HB1 HM HP1
    have HP3:=HPW
    have HP2:=HZW
    clear HPW HZW
    have cP:=refPlain_any s wr hs
    have HV2:Hid (R=(plainQ s&&n==0&&i==0)):=HV.out
    clear HV
    have HV:=HV2
    clear HV2
    generalize plainQ s=Q at *
    cases Q with
    | false =>
     obtain rfl:R=false:=by rw [HV.out];simp
     clear HV
     go_wp2_with fail
     refine cP.mono ?_
     clear cP
     rintro e w2 ⟨rfl,rfl⟩
     have HB2:=HBW
     go_wp2
     exact bodyPost_ret (v:=.bool false) (by simp [results,Tryz.results54,go_sem]) rfl ⟨rfl,HB2.out⟩
    | true =>
     by_cases hn:n=0
     ·subst hn
      by_cases hm0:i=0
      ·subst hm0
       obtain rfl:R=true:=by rw [HV.out];simp
       clear HV
       go_wp2_with fail
       refine cP.mono ?_
       clear cP
       rintro e w2 ⟨rfl,rfl⟩
       have HB2:=HBW
       go_wp2
       exact bodyPost_ret (v:=.bool true) (by simp [results,Tryz.results54,go_sem]) rfl ⟨rfl,HB2.out⟩
      ·have hmI:((i:Int)==0)=false:=by rw [beq_eq_false_iff_ne];omega
       have hmN:(i==0)=false:=by rw [beq_eq_false_iff_ne];exact hm0
       obtain rfl:R=false:=by rw [HV.out];simp [hm0]
       clear HV
       go_wp2_with fail
       refine cP.mono ?_
       clear cP
       rintro e w2 ⟨rfl,rfl⟩
       have HB2:=HBW
       go_wp2
       exact bodyPost_ret (v:=.bool false) (by simp [results,Tryz.results54,go_sem]) rfl ⟨rfl,HB2.out⟩
     ·have hn2:(n==0)=false:=by simpa using hn
      obtain rfl:R=false:=by rw [HV.out];simp [hn]
      clear HV
      go_wp2_with fail
      refine cP.mono ?_
      clear cP
      rintro e w2 ⟨rfl,rfl⟩
      have HB2:=HBW
      go_wp2
      exact bodyPost_ret (v:=.bool false) (by simp [results,Tryz.results54,go_sem]) rfl ⟨rfl,HB2.out⟩
set_option maxHeartbeats 16000000 in
theorem rightK4 (s:List UInt8) (n:Int) (kids:List Ez) (line:Int) (base:Option Addr) (cap:Nat) (w:World) (hs:s.length≤100000000) (_hn1:n≤9223372036854775807) (hc:kids.length≤cap) (hmx:cap≤maxLen) (HKW:Hid (∀i y,kids[i]?=some y→∀W,Below w.heap.size w W→∃b o a1 a2 a3 a4 a5 a6 a7,base=some ⟨b,o,none⟩∧W.cell? ⟨b,o+i*5,none⟩=some (.int .i64 a1)∧W.cell? ⟨b,o+i*5+1,none⟩=some (.string (strB a2))∧W.cell? ⟨b,o+i*5+2,none⟩=some (.int .i64 a3)∧W.cell? ⟨b,o+i*5+3,none⟩=some (.slice a4 a5 a6)∧W.cell? ⟨b,o+i*5+4,none⟩=some (.int .i64 a7)∧Calls Tryz.prog 54 #[ezV a1 a2 a3 a4 a5 a6 a7] W fun e w'=>e=.returned (.bool (rgE y))∧Below W.heap.size W w')) :
  Calls Tryz.prog 54 #[ezV 4 s n base kids.length cap line] w fun e w'=>e=.returned (.bool (rgE (.mk 4 s n kids line)))∧Below w.heap.size w w':=by
  obtain ⟨m,hm⟩:∃m,m=kids.length:=⟨_,rfl⟩
  rw [←hm] at hc ⊢
  have hlen:m≤9223372036854775807:=by unfold maxLen at hmx;omega
  obtain ⟨R,hR⟩:∃R,R=rgE (.mk 4 s n kids line):=⟨_,rfl⟩
  rw [←hR]
  have HR:Hid (R=(rgL kids&&rgK 4 s n m)):=show _=_ by rw [hR,hm];rfl
  obtain ⟨w1,hw1⟩:∃w1,w1=w.alloc (ezO 4 s n base m cap line):=⟨_,rfl⟩
  have hb1:Below w.heap.size w w1:=by rw [hw1];exact (Below.refl _ w).alloc (Nat.le_refl _) _
  have p1:w1.heap[w.heap.size]?=some (ezO 4 s n base m cap line):=by rw [hw1];exact World.alloc_heap_new w _
  have hsz1:w1.heap.size=w.heap.size+1:=by rw [hw1];simp
  have HK:Hid (∀i y,kids[i]?=some y→∀W,Below w1.heap.size w1 W→∃b o a1 a2 a3 a4 a5 a6 a7,base=some ⟨b,o,none⟩∧W.cell? ⟨b,o+i*5,none⟩=some (.int .i64 a1)∧W.cell? ⟨b,o+i*5+1,none⟩=some (.string (strB a2))∧W.cell? ⟨b,o+i*5+2,none⟩=some (.int .i64 a3)∧W.cell? ⟨b,o+i*5+3,none⟩=some (.slice a4 a5 a6)∧W.cell? ⟨b,o+i*5+4,none⟩=some (.int .i64 a7)∧Calls Tryz.prog 54 #[ezV a1 a2 a3 a4 a5 a6 a7] W fun e w'=>e=.returned (.bool (rgE y))∧Below W.heap.size W w'):=fun i y hy W hW=>HKW.out i y hy W (below_via' hb1 hW)
  clear HKW
  have HP1:Hid (w1.heap[w.heap.size]?=some (ezO 4 s n base m cap line)):=p1
  have HB1:Hid (Below w.heap.size w w1):=hb1
  have HM:Hid (m=kids.length):=hm
  obtain ⟨c0,c1,c2,c3,c4⟩:=cellsZ p1
  have hw1':=hw1.symm
  clear hR hb1 p1 hw1 hm hc hmx
  go_enter Tryz.func54,Tryz.ntmps54
  go_wp2_with fail
  go_loopw [4] (fun vi wr=>∃i:Nat,i≤m∧vi=.int .i64 (i:Int)∧Below w1.heap.size w1 wr∧∀j y,j<i→kids[j]?=some y→rgE y=true) (fun vi _=>m-(intOf vi).toNat)
  case atStart=>exact ⟨0,Nat.zero_le _,rfl,Below.refl _ _,fun j y hj=>absurd hj (Nat.not_lt_zero _)⟩
  case round =>
   obtain ⟨i,hi,rfl,hbr,hall⟩:=hrel
   clear c0 c1 c2 c3 c4
   obtain ⟨c0,c1,c2,c3,c4⟩:=cellsZ ((hbr.block w.heap.size (by omega)).trans HP1.out)
   have HBR:Hid (Below w1.heap.size w1 wr):=hbr
   have HALL:Hid (∀j y,j<i→kids[j]?=some y→rgE y=true):=hall
   clear hbr hall
   by_cases hlt:i<m
   ·have hlt':(i:Int)<(m:Int):=by omega
    obtain ⟨y,hy⟩:∃y,kids[i]?=some y:=⟨kids[i]'(by rw [←HM.out];exact hlt),List.getElem?_eq_getElem (by rw [←HM.out];exact hlt)⟩
    obtain ⟨b,o,a1,a2,a3,a4,a5,a6,a7,rfl,m0,m1,m2,m3,m4,ck⟩:=HK.out i y hy wr HBR.out
    have HF:Hid (rgE y=false→R=false):=fun h9=>by rw [HR.out,rgL_false hy h9];rfl
    have HT:Hid (rgE y=true→∀j z,j<i+1→kids[j]?=some z→rgE z=true):=fun h9 j z hj hz=>by
     rcases Nat.lt_or_ge j i with h8 | h8
     ·exact HALL.out j z h8 hz
     ·obtain rfl:j=i:=by omega
      rw [hy] at hz
      cases hz
      exact h9
    clear hy HK HALL
    generalize rgE y=B at *
    go_wp2_with fail
    refine ck.mono ?_
    clear ck m0 m1 m2 m3 m4 c0 c1 c2 c3 c4
    rintro e w2 ⟨rfl,hb2⟩
    have HB2:Hid (Below w1.heap.size w1 w2):=below_via' HBR.out hb2
    have HBW:Hid (Below w.heap.size w w2):=below_via' HB1.out HB2.out
    clear hb2 HBR
    cases B with
    | false =>
     obtain rfl:=HF.out rfl
     go_wp2
     exact bodyPost_ret (v:=.bool false) (by simp [results,Tryz.results54,go_sem]) rfl ⟨rfl,HBW.out⟩
    | true =>
     go_wp2
     exact ⟨⟨i+1,by omega,by go_num,HB2.out,HT.out trivial⟩,by simp [intOf];omega⟩
   ·obtain rfl:i=m:=by omega
    have hlt':¬ (i:Int)<(i:Int):=by omega
    have hrl:rgL kids=true:=rgL_mem.2 fun y hy=>by
     obtain ⟨j,hj,rfl⟩:=List.getElem_of_mem hy
     exact HALL.out j _ (by rw [HM.out];exact hj) (List.getElem?_eq_getElem hj)
    have HV:Hid (R=rgK 4 s n i):=show _=_ by rw [HR.out,hrl];rfl
    have HBW:Hid (Below w.heap.size w wr):=below_via' HB1.out HBR.out
    have HPW:Hid (wr.heap[w.heap.size]?=some (ezO 4 s n base i cap line)):=(HBR.out.block w.heap.size (by omega)).trans HP1.out
    have HZW:Hid (w.heap.size<wr.heap.size):=Nat.lt_of_lt_of_le (by omega) HBR.out.size
    clear hrl HR HALL HK HBR HB1 HM HP1
    have HP3:=HPW
    have HP2:=HZW
    clear HPW HZW
    have cN:=refName_any s wr hs
    have HV2:Hid (R=(nameQ s&&n==0&&i==0)):=HV.out
    clear HV
    have HV:=HV2
    clear HV2
    generalize nameQ s=Q at *
    cases Q with
    | false =>
     obtain rfl:R=false:=by rw [HV.out];simp
     clear HV
     go_wp2_with fail
     refine cN.mono ?_
     clear cN
     rintro e w2 ⟨rfl,hb2⟩
     have HB2:Hid (Below w.heap.size w w2):=below_via' HBW.out hb2
     obtain ⟨c0,c1,c2,c3,c4⟩:=cellsZ ((hb2.block w.heap.size (by have:=HP2.out;omega)).trans HP3.out)
     clear hb2
     go_wp2
     exact bodyPost_ret (v:=.bool false) (by simp [results,Tryz.results54,go_sem]) rfl ⟨rfl,HB2.out⟩
    | true =>
     by_cases hn:n=0
     ·subst hn
      by_cases hm0:i=0
      ·subst hm0
       obtain rfl:R=true:=by rw [HV.out];simp
       clear HV
       go_wp2_with fail
       refine cN.mono ?_
       clear cN
       rintro e w2 ⟨rfl,hb2⟩
       have HB2:Hid (Below w.heap.size w w2):=below_via' HBW.out hb2
       obtain ⟨c0,c1,c2,c3,c4⟩:=cellsZ ((hb2.block w.heap.size (by have:=HP2.out;omega)).trans HP3.out)
       clear hb2
       go_wp2
       exact bodyPost_ret (v:=.bool true) (by simp [results,Tryz.results54,go_sem]) rfl ⟨rfl,HB2.out⟩
      ·have hmI:((i:Int)==0)=false:=by rw [beq_eq_false_iff_ne];omega
       have hmN:(i==0)=false:=by rw [beq_eq_false_iff_ne];exact hm0
       obtain rfl:R=false:=by rw [HV.out];simp [hm0]
       clear HV
       go_wp2_with fail
       refine cN.mono ?_
       clear cN
       rintro e w2 ⟨rfl,hb2⟩
       have HB2:Hid (Below w.heap.size w w2):=below_via' HBW.out hb2
       obtain ⟨c0,c1,c2,c3,c4⟩:=cellsZ ((hb2.block w.heap.size (by have:=HP2.out;omega)).trans HP3.out)
       clear hb2
       go_wp2
       exact bodyPost_ret (v:=.bool false) (by simp [results,Tryz.results54,go_sem]) rfl ⟨rfl,HB2.out⟩
     ·have hn2:(n==0)=false:=by simpa using hn
      obtain rfl:R=false:=by rw [HV.out];simp [hn]
      clear HV
      go_wp2_with fail
      refine cN.mono ?_
      clear cN
      rintro e w2 ⟨rfl,hb2⟩
      have HB2:Hid (Below w.heap.size w w2):=below_via' HBW.out hb2
      obtain ⟨c0,c1,c2,c3,c4⟩:=cellsZ ((hb2.block w.heap.size (by have:=HP2.out;omega)).trans HP3.out)
      clear hb2
      go_wp2
      exact bodyPost_ret (v:=.bool false) (by simp [results,Tryz.results54,go_sem]) rfl ⟨rfl,HB2.out⟩
set_option maxHeartbeats 16000000 in
theorem rightK5 (s:List UInt8) (n:Int) (kids:List Ez) (line:Int) (base:Option Addr) (cap:Nat) (w:World) (hs:s.length≤100000000) (_hn1:n≤9223372036854775807) (hc:kids.length≤cap) (hmx:cap≤maxLen) (HKW:Hid (∀i y,kids[i]?=some y→∀W,Below w.heap.size w W→∃b o a1 a2 a3 a4 a5 a6 a7,base=some ⟨b,o,none⟩∧W.cell? ⟨b,o+i*5,none⟩=some (.int .i64 a1)∧W.cell? ⟨b,o+i*5+1,none⟩=some (.string (strB a2))∧W.cell? ⟨b,o+i*5+2,none⟩=some (.int .i64 a3)∧W.cell? ⟨b,o+i*5+3,none⟩=some (.slice a4 a5 a6)∧W.cell? ⟨b,o+i*5+4,none⟩=some (.int .i64 a7)∧Calls Tryz.prog 54 #[ezV a1 a2 a3 a4 a5 a6 a7] W fun e w'=>e=.returned (.bool (rgE y))∧Below W.heap.size W w')) :
  Calls Tryz.prog 54 #[ezV 5 s n base kids.length cap line] w fun e w'=>e=.returned (.bool (rgE (.mk 5 s n kids line)))∧Below w.heap.size w w':=by
  obtain ⟨m,hm⟩:∃m,m=kids.length:=⟨_,rfl⟩
  rw [←hm] at hc ⊢
  have hlen:m≤9223372036854775807:=by unfold maxLen at hmx;omega
  obtain ⟨R,hR⟩:∃R,R=rgE (.mk 5 s n kids line):=⟨_,rfl⟩
  rw [←hR]
  have HR:Hid (R=(rgL kids&&rgK 5 s n m)):=show _=_ by rw [hR,hm];rfl
  obtain ⟨w1,hw1⟩:∃w1,w1=w.alloc (ezO 5 s n base m cap line):=⟨_,rfl⟩
  have hb1:Below w.heap.size w w1:=by rw [hw1];exact (Below.refl _ w).alloc (Nat.le_refl _) _
  have p1:w1.heap[w.heap.size]?=some (ezO 5 s n base m cap line):=by rw [hw1];exact World.alloc_heap_new w _
  have hsz1:w1.heap.size=w.heap.size+1:=by rw [hw1];simp
  have HK:Hid (∀i y,kids[i]?=some y→∀W,Below w1.heap.size w1 W→∃b o a1 a2 a3 a4 a5 a6 a7,base=some ⟨b,o,none⟩∧W.cell? ⟨b,o+i*5,none⟩=some (.int .i64 a1)∧W.cell? ⟨b,o+i*5+1,none⟩=some (.string (strB a2))∧W.cell? ⟨b,o+i*5+2,none⟩=some (.int .i64 a3)∧W.cell? ⟨b,o+i*5+3,none⟩=some (.slice a4 a5 a6)∧W.cell? ⟨b,o+i*5+4,none⟩=some (.int .i64 a7)∧Calls Tryz.prog 54 #[ezV a1 a2 a3 a4 a5 a6 a7] W fun e w'=>e=.returned (.bool (rgE y))∧Below W.heap.size W w'):=fun i y hy W hW=>HKW.out i y hy W (below_via' hb1 hW)
  clear HKW
  have HP1:Hid (w1.heap[w.heap.size]?=some (ezO 5 s n base m cap line)):=p1
  have HB1:Hid (Below w.heap.size w w1):=hb1
  have HM:Hid (m=kids.length):=hm
  obtain ⟨c0,c1,c2,c3,c4⟩:=cellsZ p1
  have hw1':=hw1.symm
  clear hR hb1 p1 hw1 hm hc hmx
  go_enter Tryz.func54,Tryz.ntmps54
  go_wp2_with fail
  go_loopw [4] (fun vi wr=>∃i:Nat,i≤m∧vi=.int .i64 (i:Int)∧Below w1.heap.size w1 wr∧∀j y,j<i→kids[j]?=some y→rgE y=true) (fun vi _=>m-(intOf vi).toNat)
  case atStart=>exact ⟨0,Nat.zero_le _,rfl,Below.refl _ _,fun j y hj=>absurd hj (Nat.not_lt_zero _)⟩
  case round =>
   obtain ⟨i,hi,rfl,hbr,hall⟩:=hrel
   clear c0 c1 c2 c3 c4
   obtain ⟨c0,c1,c2,c3,c4⟩:=cellsZ ((hbr.block w.heap.size (by omega)).trans HP1.out)
   have HBR:Hid (Below w1.heap.size w1 wr):=hbr
   have HALL:Hid (∀j y,j<i→kids[j]?=some y→rgE y=true):=hall
   clear hbr hall
   by_cases hlt:i<m
   ·have hlt':(i:Int)<(m:Int):=by omega
    obtain ⟨y,hy⟩:∃y,kids[i]?=some y:=⟨kids[i]'(by rw [←HM.out];exact hlt),List.getElem?_eq_getElem (by rw [←HM.out];exact hlt)⟩
    obtain ⟨b,o,a1,a2,a3,a4,a5,a6,a7,rfl,m0,m1,m2,m3,m4,ck⟩:=HK.out i y hy wr HBR.out
    have HF:Hid (rgE y=false→R=false):=fun h9=>by rw [HR.out,rgL_false hy h9];rfl
    have HT:Hid (rgE y=true→∀j z,j<i+1→kids[j]?=some z→rgE z=true):=fun h9 j z hj hz=>by
     rcases Nat.lt_or_ge j i with h8 | h8
     ·exact HALL.out j z h8 hz
     ·obtain rfl:j=i:=by omega
      rw [hy] at hz
      cases hz
      exact h9
    clear hy HK HALL
    generalize rgE y=B at *
    go_wp2_with fail
    refine ck.mono ?_
    clear ck m0 m1 m2 m3 m4 c0 c1 c2 c3 c4
    rintro e w2 ⟨rfl,hb2⟩
    have HB2:Hid (Below w1.heap.size w1 w2):=below_via' HBR.out hb2
    have HBW:Hid (Below w.heap.size w w2):=below_via' HB1.out HB2.out
    clear hb2 HBR
    cases B with
    | false =>
     obtain rfl:=HF.out rfl
     go_wp2
     exact bodyPost_ret (v:=.bool false) (by simp [results,Tryz.results54,go_sem]) rfl ⟨rfl,HBW.out⟩
    | true =>
     go_wp2
     exact ⟨⟨i+1,by omega,by go_num,HB2.out,HT.out trivial⟩,by simp [intOf];omega⟩
   ·obtain rfl:i=m:=by omega
    have hlt':¬ (i:Int)<(i:Int):=by omega
    have hrl:rgL kids=true:=rgL_mem.2 fun y hy=>by
     obtain ⟨j,hj,rfl⟩:=List.getElem_of_mem hy
     exact HALL.out j _ (by rw [HM.out];exact hj) (List.getElem?_eq_getElem hj)
    have HV:Hid (R=rgK 5 s n i):=show _=_ by rw [HR.out,hrl];rfl
    have HBW:Hid (Below w.heap.size w wr):=below_via' HB1.out HBR.out
    have HPW:Hid (wr.heap[w.heap.size]?=some (ezO 5 s n base i cap line)):=(HBR.out.block w.heap.size (by omega)).trans HP1.out
    have HZW:Hid (w.heap.size<wr.heap.size):=Nat.lt_of_lt_of_le (by omega) HBR.out.size
    clear hrl HR HALL HK HBR HB1 HM HP1
    have HP3:=HPW
    have HP2:=HZW
    clear HPW HZW
    have cN:=refName_any s wr hs
    have HV2:Hid (R=(nameQ s&&n==0)):=HV.out
    clear HV
    have HV:=HV2
    clear HV2
    generalize nameQ s=Q at *
    cases Q with
    | false =>
     obtain rfl:R=false:=by rw [HV.out];simp
     clear HV
     go_wp2_with fail
     refine cN.mono ?_
     clear cN
     rintro e w2 ⟨rfl,hb2⟩
     have HB2:Hid (Below w.heap.size w w2):=below_via' HBW.out hb2
     obtain ⟨c0,c1,c2,c3,c4⟩:=cellsZ ((hb2.block w.heap.size (by have:=HP2.out;omega)).trans HP3.out)
     clear hb2
     go_wp2
     exact bodyPost_ret (v:=.bool false) (by simp [results,Tryz.results54,go_sem]) rfl ⟨rfl,HB2.out⟩
    | true =>
     by_cases hn:n=0
     ·subst hn
      obtain rfl:R=true:=by rw [HV.out];simp
      clear HV
      go_wp2_with fail
      refine cN.mono ?_
      clear cN
      rintro e w2 ⟨rfl,hb2⟩
      have HB2:Hid (Below w.heap.size w w2):=below_via' HBW.out hb2
      obtain ⟨c0,c1,c2,c3,c4⟩:=cellsZ ((hb2.block w.heap.size (by have:=HP2.out;omega)).trans HP3.out)
      clear hb2
      go_wp2
      exact bodyPost_ret (v:=.bool true) (by simp [results,Tryz.results54,go_sem]) rfl ⟨rfl,HB2.out⟩
     ·have hn2:(n==0)=false:=by simpa using hn
      obtain rfl:R=false:=by rw [HV.out];simp [hn]
      clear HV
      go_wp2_with fail
      refine cN.mono ?_
      clear cN
      rintro e w2 ⟨rfl,hb2⟩
      have HB2:Hid (Below w.heap.size w w2):=below_via' HBW.out hb2
      obtain ⟨c0,c1,c2,c3,c4⟩:=cellsZ ((hb2.block w.heap.size (by have:=HP2.out;omega)).trans HP3.out)
      clear hb2
      go_wp2
      exact bodyPost_ret (v:=.bool false) (by simp [results,Tryz.results54,go_sem]) rfl ⟨rfl,HB2.out⟩
set_option maxHeartbeats 16000000 in
theorem rightK11 (s:List UInt8) (n:Int) (kids:List Ez) (line:Int) (base:Option Addr) (cap:Nat) (w:World) (hs:s.length≤100000000) (_hn1:n≤9223372036854775807) (hc:kids.length≤cap) (hmx:cap≤maxLen) (HKW:Hid (∀i y,kids[i]?=some y→∀W,Below w.heap.size w W→∃b o a1 a2 a3 a4 a5 a6 a7,base=some ⟨b,o,none⟩∧W.cell? ⟨b,o+i*5,none⟩=some (.int .i64 a1)∧W.cell? ⟨b,o+i*5+1,none⟩=some (.string (strB a2))∧W.cell? ⟨b,o+i*5+2,none⟩=some (.int .i64 a3)∧W.cell? ⟨b,o+i*5+3,none⟩=some (.slice a4 a5 a6)∧W.cell? ⟨b,o+i*5+4,none⟩=some (.int .i64 a7)∧Calls Tryz.prog 54 #[ezV a1 a2 a3 a4 a5 a6 a7] W fun e w'=>e=.returned (.bool (rgE y))∧Below W.heap.size W w')) :
  Calls Tryz.prog 54 #[ezV 11 s n base kids.length cap line] w fun e w'=>e=.returned (.bool (rgE (.mk 11 s n kids line)))∧Below w.heap.size w w':=by
  obtain ⟨m,hm⟩:∃m,m=kids.length:=⟨_,rfl⟩
  rw [←hm] at hc ⊢
  have hlen:m≤9223372036854775807:=by unfold maxLen at hmx;omega
  obtain ⟨R,hR⟩:∃R,R=rgE (.mk 11 s n kids line):=⟨_,rfl⟩
  rw [←hR]
  have HR:Hid (R=(rgL kids&&rgK 11 s n m)):=show _=_ by rw [hR,hm];rfl
  obtain ⟨w1,hw1⟩:∃w1,w1=w.alloc (ezO 11 s n base m cap line):=⟨_,rfl⟩
  have hb1:Below w.heap.size w w1:=by rw [hw1];exact (Below.refl _ w).alloc (Nat.le_refl _) _
  have p1:w1.heap[w.heap.size]?=some (ezO 11 s n base m cap line):=by rw [hw1];exact World.alloc_heap_new w _
  have hsz1:w1.heap.size=w.heap.size+1:=by rw [hw1];simp
  have HK:Hid (∀i y,kids[i]?=some y→∀W,Below w1.heap.size w1 W→∃b o a1 a2 a3 a4 a5 a6 a7,base=some ⟨b,o,none⟩∧W.cell? ⟨b,o+i*5,none⟩=some (.int .i64 a1)∧W.cell? ⟨b,o+i*5+1,none⟩=some (.string (strB a2))∧W.cell? ⟨b,o+i*5+2,none⟩=some (.int .i64 a3)∧W.cell? ⟨b,o+i*5+3,none⟩=some (.slice a4 a5 a6)∧W.cell? ⟨b,o+i*5+4,none⟩=some (.int .i64 a7)∧Calls Tryz.prog 54 #[ezV a1 a2 a3 a4 a5 a6 a7] W fun e w'=>e=.returned (.bool (rgE y))∧Below W.heap.size W w'):=fun i y hy W hW=>HKW.out i y hy W (below_via' hb1 hW)
  clear HKW
  have HP1:Hid (w1.heap[w.heap.size]?=some (ezO 11 s n base m cap line)):=p1
  have HB1:Hid (Below w.heap.size w w1):=hb1
  have HM:Hid (m=kids.length):=hm
  obtain ⟨c0,c1,c2,c3,c4⟩:=cellsZ p1
  have hw1':=hw1.symm
  clear hR hb1 p1 hw1 hm hc hmx
  go_enter Tryz.func54,Tryz.ntmps54
  go_wp2_with fail
  go_loopw [4] (fun vi wr=>∃i:Nat,i≤m∧vi=.int .i64 (i:Int)∧Below w1.heap.size w1 wr∧∀j y,j<i→kids[j]?=some y→rgE y=true) (fun vi _=>m-(intOf vi).toNat)
  case atStart=>exact ⟨0,Nat.zero_le _,rfl,Below.refl _ _,fun j y hj=>absurd hj (Nat.not_lt_zero _)⟩
  case round =>
   obtain ⟨i,hi,rfl,hbr,hall⟩:=hrel
   clear c0 c1 c2 c3 c4
   obtain ⟨c0,c1,c2,c3,c4⟩:=cellsZ ((hbr.block w.heap.size (by omega)).trans HP1.out)
   have HBR:Hid (Below w1.heap.size w1 wr):=hbr
   have HALL:Hid (∀j y,j<i→kids[j]?=some y→rgE y=true):=hall
   clear hbr hall
   by_cases hlt:i<m
   ·have hlt':(i:Int)<(m:Int):=by omega
    obtain ⟨y,hy⟩:∃y,kids[i]?=some y:=⟨kids[i]'(by rw [←HM.out];exact hlt),List.getElem?_eq_getElem (by rw [←HM.out];exact hlt)⟩
    obtain ⟨b,o,a1,a2,a3,a4,a5,a6,a7,rfl,m0,m1,m2,m3,m4,ck⟩:=HK.out i y hy wr HBR.out
    have HF:Hid (rgE y=false→R=false):=fun h9=>by rw [HR.out,rgL_false hy h9];rfl
    have HT:Hid (rgE y=true→∀j z,j<i+1→kids[j]?=some z→rgE z=true):=fun h9 j z hj hz=>by
     rcases Nat.lt_or_ge j i with h8 | h8
     ·exact HALL.out j z h8 hz
     ·obtain rfl:j=i:=by omega
      rw [hy] at hz
      cases hz
      exact h9
    clear hy HK HALL
    generalize rgE y=B at *
    go_wp2_with fail
    refine ck.mono ?_
    clear ck m0 m1 m2 m3 m4 c0 c1 c2 c3 c4
    rintro e w2 ⟨rfl,hb2⟩
    have HB2:Hid (Below w1.heap.size w1 w2):=below_via' HBR.out hb2
    have HBW:Hid (Below w.heap.size w w2):=below_via' HB1.out HB2.out
    clear hb2 HBR
    cases B with
    | false =>
     obtain rfl:=HF.out rfl
     go_wp2
     exact bodyPost_ret (v:=.bool false) (by simp [results,Tryz.results54,go_sem]) rfl ⟨rfl,HBW.out⟩
    | true =>
     go_wp2
     exact ⟨⟨i+1,by omega,by go_num,HB2.out,HT.out trivial⟩,by simp [intOf];omega⟩
   ·obtain rfl:i=m:=by omega
    have hlt':¬ (i:Int)<(i:Int):=by omega
    have hrl:rgL kids=true:=rgL_mem.2 fun y hy=>by
     obtain ⟨j,hj,rfl⟩:=List.getElem_of_mem hy
     exact HALL.out j _ (by rw [HM.out];exact hj) (List.getElem?_eq_getElem hj)
    have HV:Hid (R=rgK 11 s n i):=show _=_ by rw [HR.out,hrl];rfl
    have HBW:Hid (Below w.heap.size w wr):=below_via' HB1.out HBR.out
    have HPW:Hid (wr.heap[w.heap.size]?=some (ezO 11 s n base i cap line)):=(HBR.out.block w.heap.size (by omega)).trans HP1.out
    have HZW:Hid (w.heap.size<wr.heap.size):=Nat.lt_of_lt_of_le (by omega) HBR.out.size
    clear hrl HR HALL HK HBR HB1 HM HP1
    have HP3:=HPW
    have HP2:=HZW
    clear HPW HZW
    have cN:=refName_any s wr hs
    have HV2:Hid (R=(nameQ s&&n==0)):=HV.out
    clear HV
    have HV:=HV2
    clear HV2
    generalize nameQ s=Q at *
    cases Q with
    | false =>
     obtain rfl:R=false:=by rw [HV.out];simp
     clear HV
     go_wp2_with fail
     refine cN.mono ?_
     clear cN
     rintro e w2 ⟨rfl,hb2⟩
     have HB2:Hid (Below w.heap.size w w2):=below_via' HBW.out hb2
     obtain ⟨c0,c1,c2,c3,c4⟩:=cellsZ ((hb2.block w.heap.size (by have:=HP2.out;omega)).trans HP3.out)
     clear hb2
     go_wp2
     exact bodyPost_ret (v:=.bool false) (by simp [results,Tryz.results54,go_sem]) rfl ⟨rfl,HB2.out⟩
    | true =>
     by_cases hn:n=0
     ·subst hn
      obtain rfl:R=true:=by rw [HV.out];simp
      clear HV
      go_wp2_with fail
      refine cN.mono ?_
      clear cN
      rintro e w2 ⟨rfl,hb2⟩
      have HB2:Hid (Below w.heap.size w w2):=below_via' HBW.out hb2
      obtain ⟨c0,c1,c2,c3,c4⟩:=cellsZ ((hb2.block w.heap.size (by have:=HP2.out;omega)).trans HP3.out)
      clear hb2
      go_wp2
      exact bodyPost_ret (v:=.bool true) (by simp [results,Tryz.results54,go_sem]) rfl ⟨rfl,HB2.out⟩
     ·have hn2:(n==0)=false:=by simpa using hn
      obtain rfl:R=false:=by rw [HV.out];simp [hn]
      clear HV
      go_wp2_with fail
      refine cN.mono ?_
      clear cN
      rintro e w2 ⟨rfl,hb2⟩
      have HB2:Hid (Below w.heap.size w w2):=below_via' HBW.out hb2
      obtain ⟨c0,c1,c2,c3,c4⟩:=cellsZ ((hb2.block w.heap.size (by have:=HP2.out;omega)).trans HP3.out)
      clear hb2
      go_wp2
      exact bodyPost_ret (v:=.bool false) (by simp [results,Tryz.results54,go_sem]) rfl ⟨rfl,HB2.out⟩
set_option maxHeartbeats 16000000 in
theorem rightK6 (s:List UInt8) (n:Int) (kids:List Ez) (line:Int) (base:Option Addr) (cap:Nat) (w:World) (hs:s.length≤100000000) (_hn1:n≤9223372036854775807) (hc:kids.length≤cap) (hmx:cap≤maxLen) (HKW:Hid (∀i y,kids[i]?=some y→∀W,Below w.heap.size w W→∃b o a1 a2 a3 a4 a5 a6 a7,base=some ⟨b,o,none⟩∧W.cell? ⟨b,o+i*5,none⟩=some (.int .i64 a1)∧W.cell? ⟨b,o+i*5+1,none⟩=some (.string (strB a2))∧W.cell? ⟨b,o+i*5+2,none⟩=some (.int .i64 a3)∧W.cell? ⟨b,o+i*5+3,none⟩=some (.slice a4 a5 a6)∧W.cell? ⟨b,o+i*5+4,none⟩=some (.int .i64 a7)∧Calls Tryz.prog 54 #[ezV a1 a2 a3 a4 a5 a6 a7] W fun e w'=>e=.returned (.bool (rgE y))∧Below W.heap.size W w')) :
  Calls Tryz.prog 54 #[ezV 6 s n base kids.length cap line] w fun e w'=>e=.returned (.bool (rgE (.mk 6 s n kids line)))∧Below w.heap.size w w':=by
  obtain ⟨m,hm⟩:∃m,m=kids.length:=⟨_,rfl⟩
  rw [←hm] at hc ⊢
  have hlen:m≤9223372036854775807:=by unfold maxLen at hmx;omega
  obtain ⟨R,hR⟩:∃R,R=rgE (.mk 6 s n kids line):=⟨_,rfl⟩
  rw [←hR]
  have HR:Hid (R=(rgL kids&&rgK 6 s n m)):=show _=_ by rw [hR,hm];rfl
  obtain ⟨w1,hw1⟩:∃w1,w1=w.alloc (ezO 6 s n base m cap line):=⟨_,rfl⟩
  have hb1:Below w.heap.size w w1:=by rw [hw1];exact (Below.refl _ w).alloc (Nat.le_refl _) _
  have p1:w1.heap[w.heap.size]?=some (ezO 6 s n base m cap line):=by rw [hw1];exact World.alloc_heap_new w _
  have hsz1:w1.heap.size=w.heap.size+1:=by rw [hw1];simp
  have HK:Hid (∀i y,kids[i]?=some y→∀W,Below w1.heap.size w1 W→∃b o a1 a2 a3 a4 a5 a6 a7,base=some ⟨b,o,none⟩∧W.cell? ⟨b,o+i*5,none⟩=some (.int .i64 a1)∧W.cell? ⟨b,o+i*5+1,none⟩=some (.string (strB a2))∧W.cell? ⟨b,o+i*5+2,none⟩=some (.int .i64 a3)∧W.cell? ⟨b,o+i*5+3,none⟩=some (.slice a4 a5 a6)∧W.cell? ⟨b,o+i*5+4,none⟩=some (.int .i64 a7)∧Calls Tryz.prog 54 #[ezV a1 a2 a3 a4 a5 a6 a7] W fun e w'=>e=.returned (.bool (rgE y))∧Below W.heap.size W w'):=fun i y hy W hW=>HKW.out i y hy W (below_via' hb1 hW)
  clear HKW
  have HP1:Hid (w1.heap[w.heap.size]?=some (ezO 6 s n base m cap line)):=p1
  have HB1:Hid (Below w.heap.size w w1):=hb1
  have HM:Hid (m=kids.length):=hm
  obtain ⟨c0,c1,c2,c3,c4⟩:=cellsZ p1
  have hw1':=hw1.symm
  clear hR hb1 p1 hw1 hm hc hmx
  go_enter Tryz.func54,Tryz.ntmps54
  go_wp2_with fail
  go_loopw [4] (fun vi wr=>∃i:Nat,i≤m∧vi=.int .i64 (i:Int)∧Below w1.heap.size w1 wr∧∀j y,j<i→kids[j]?=some y→rgE y=true) (fun vi _=>m-(intOf vi).toNat)
  case atStart=>exact ⟨0,Nat.zero_le _,rfl,Below.refl _ _,fun j y hj=>absurd hj (Nat.not_lt_zero _)⟩
  case round =>
   obtain ⟨i,hi,rfl,hbr,hall⟩:=hrel
   clear c0 c1 c2 c3 c4
   obtain ⟨c0,c1,c2,c3,c4⟩:=cellsZ ((hbr.block w.heap.size (by omega)).trans HP1.out)
   have HBR:Hid (Below w1.heap.size w1 wr):=hbr
   have HALL:Hid (∀j y,j<i→kids[j]?=some y→rgE y=true):=hall
   clear hbr hall
   by_cases hlt:i<m
   ·have hlt':(i:Int)<(m:Int):=by omega
    obtain ⟨y,hy⟩:∃y,kids[i]?=some y:=⟨kids[i]'(by rw [←HM.out];exact hlt),List.getElem?_eq_getElem (by rw [←HM.out];exact hlt)⟩
    obtain ⟨b,o,a1,a2,a3,a4,a5,a6,a7,rfl,m0,m1,m2,m3,m4,ck⟩:=HK.out i y hy wr HBR.out
    have HF:Hid (rgE y=false→R=false):=fun h9=>by rw [HR.out,rgL_false hy h9];rfl
    have HT:Hid (rgE y=true→∀j z,j<i+1→kids[j]?=some z→rgE z=true):=fun h9 j z hj hz=>by
     rcases Nat.lt_or_ge j i with h8 | h8
     ·exact HALL.out j z h8 hz
     ·obtain rfl:j=i:=by omega
      rw [hy] at hz
      cases hz
      exact h9
    clear hy HK HALL
    generalize rgE y=B at *
    go_wp2_with fail
    refine ck.mono ?_
    clear ck m0 m1 m2 m3 m4 c0 c1 c2 c3 c4
    rintro e w2 ⟨rfl,hb2⟩
    have HB2:Hid (Below w1.heap.size w1 w2):=below_via' HBR.out hb2
    have HBW:Hid (Below w.heap.size w w2):=below_via' HB1.out HB2.out
    clear hb2 HBR
    cases B with
    | false =>
     obtain rfl:=HF.out rfl
     go_wp2
     exact bodyPost_ret (v:=.bool false) (by simp [results,Tryz.results54,go_sem]) rfl ⟨rfl,HBW.out⟩
    | true =>
     go_wp2
     exact ⟨⟨i+1,by omega,by go_num,HB2.out,HT.out trivial⟩,by simp [intOf];omega⟩
   ·obtain rfl:i=m:=by omega
    have hlt':¬ (i:Int)<(i:Int):=by omega
    have hrl:rgL kids=true:=rgL_mem.2 fun y hy=>by
     obtain ⟨j,hj,rfl⟩:=List.getElem_of_mem hy
     exact HALL.out j _ (by rw [HM.out];exact hj) (List.getElem?_eq_getElem hj)
    have HV:Hid (R=rgK 6 s n i):=show _=_ by rw [HR.out,hrl];rfl
    have HBW:Hid (Below w.heap.size w wr):=below_via' HB1.out HBR.out
    have HPW:Hid (wr.heap[w.heap.size]?=some (ezO 6 s n base i cap line)):=(HBR.out.block w.heap.size (by omega)).trans HP1.out
    have HZW:Hid (w.heap.size<wr.heap.size):=Nat.lt_of_lt_of_le (by omega) HBR.out.size
    clear hrl HR HALL HK HBR HB1 HM HP1
    have HP3:=HPW
    have HP2:=HZW
    clear HPW HZW
    by_cases hs1:s=[45]
    ·subst hs1
     by_cases hn:n=0
     ·subst hn
      by_cases hm1:i=1
      ·subst hm1
       obtain rfl:R=true:=by rw [HV.out];simp [rgK]
       clear HV
       go_wp2
       exact bodyPost_ret (v:=.bool true) (by simp [results,Tryz.results54,go_sem]) rfl ⟨rfl,HBW.out⟩
      ·have hmI:((i:Int)==1)=false:=by rw [beq_eq_false_iff_ne];omega
       have hmN:(i==1)=false:=by rw [beq_eq_false_iff_ne];exact hm1
       obtain rfl:R=false:=by rw [HV.out];simp [rgK,hm1]
       clear HV
       go_wp2
       exact bodyPost_ret (v:=.bool false) (by simp [results,Tryz.results54,go_sem]) rfl ⟨rfl,HBW.out⟩
     ·have hn2:(n==0)=false:=by simpa using hn
      obtain rfl:R=false:=by rw [HV.out];simp [rgK,hn]
      clear HV
      go_wp2
      exact bodyPost_ret (v:=.bool false) (by simp [results,Tryz.results54,go_sem]) rfl ⟨rfl,HBW.out⟩
    ·have hs2:(s==[45])=false:=by simpa using hs1
     by_cases hs3:s=[33]
     ·subst hs3
      by_cases hn:n=0
      ·subst hn
       by_cases hm1:i=1
       ·subst hm1
        obtain rfl:R=true:=by rw [HV.out];simp [rgK]
        clear HV
        go_wp2
        exact bodyPost_ret (v:=.bool true) (by simp [results,Tryz.results54,go_sem]) rfl ⟨rfl,HBW.out⟩
       ·have hmI:((i:Int)==1)=false:=by rw [beq_eq_false_iff_ne];omega
        have hmN:(i==1)=false:=by rw [beq_eq_false_iff_ne];exact hm1
        obtain rfl:R=false:=by rw [HV.out];simp [rgK,hm1]
        clear HV
        go_wp2
        exact bodyPost_ret (v:=.bool false) (by simp [results,Tryz.results54,go_sem]) rfl ⟨rfl,HBW.out⟩
      ·have hn2:(n==0)=false:=by simpa using hn
       obtain rfl:R=false:=by rw [HV.out];simp [rgK,hn]
       clear HV
       go_wp2
       exact bodyPost_ret (v:=.bool false) (by simp [results,Tryz.results54,go_sem]) rfl ⟨rfl,HBW.out⟩
     ·have hs4:(s==[33])=false:=by simpa using hs3
      obtain rfl:R=false:=by rw [HV.out];simp [rgK,hs1,hs3]
      clear HV
      go_wp2
      exact bodyPost_ret (v:=.bool false) (by simp [results,Tryz.results54,go_sem]) rfl ⟨rfl,HBW.out⟩
set_option maxHeartbeats 16000000 in
theorem rightK7 (s:List UInt8) (n:Int) (kids:List Ez) (line:Int) (base:Option Addr) (cap:Nat) (w:World) (_hs:s.length≤100000000) (_hn1:n≤9223372036854775807) (hc:kids.length≤cap) (hmx:cap≤maxLen) (HKW:Hid (∀i y,kids[i]?=some y→∀W,Below w.heap.size w W→∃b o a1 a2 a3 a4 a5 a6 a7,base=some ⟨b,o,none⟩∧W.cell? ⟨b,o+i*5,none⟩=some (.int .i64 a1)∧W.cell? ⟨b,o+i*5+1,none⟩=some (.string (strB a2))∧W.cell? ⟨b,o+i*5+2,none⟩=some (.int .i64 a3)∧W.cell? ⟨b,o+i*5+3,none⟩=some (.slice a4 a5 a6)∧W.cell? ⟨b,o+i*5+4,none⟩=some (.int .i64 a7)∧Calls Tryz.prog 54 #[ezV a1 a2 a3 a4 a5 a6 a7] W fun e w'=>e=.returned (.bool (rgE y))∧Below W.heap.size W w')) :
  Calls Tryz.prog 54 #[ezV 7 s n base kids.length cap line] w fun e w'=>e=.returned (.bool (rgE (.mk 7 s n kids line)))∧Below w.heap.size w w':=by
  obtain ⟨m,hm⟩:∃m,m=kids.length:=⟨_,rfl⟩
  rw [←hm] at hc ⊢
  have hlen:m≤9223372036854775807:=by unfold maxLen at hmx;omega
  obtain ⟨R,hR⟩:∃R,R=rgE (.mk 7 s n kids line):=⟨_,rfl⟩
  rw [←hR]
  have HR:Hid (R=(rgL kids&&rgK 7 s n m)):=show _=_ by rw [hR,hm];rfl
  obtain ⟨w1,hw1⟩:∃w1,w1=w.alloc (ezO 7 s n base m cap line):=⟨_,rfl⟩
  have hb1:Below w.heap.size w w1:=by rw [hw1];exact (Below.refl _ w).alloc (Nat.le_refl _) _
  have p1:w1.heap[w.heap.size]?=some (ezO 7 s n base m cap line):=by rw [hw1];exact World.alloc_heap_new w _
  have hsz1:w1.heap.size=w.heap.size+1:=by rw [hw1];simp
  have HK:Hid (∀i y,kids[i]?=some y→∀W,Below w1.heap.size w1 W→∃b o a1 a2 a3 a4 a5 a6 a7,base=some ⟨b,o,none⟩∧W.cell? ⟨b,o+i*5,none⟩=some (.int .i64 a1)∧W.cell? ⟨b,o+i*5+1,none⟩=some (.string (strB a2))∧W.cell? ⟨b,o+i*5+2,none⟩=some (.int .i64 a3)∧W.cell? ⟨b,o+i*5+3,none⟩=some (.slice a4 a5 a6)∧W.cell? ⟨b,o+i*5+4,none⟩=some (.int .i64 a7)∧Calls Tryz.prog 54 #[ezV a1 a2 a3 a4 a5 a6 a7] W fun e w'=>e=.returned (.bool (rgE y))∧Below W.heap.size W w'):=fun i y hy W hW=>HKW.out i y hy W (below_via' hb1 hW)
  clear HKW
  have HP1:Hid (w1.heap[w.heap.size]?=some (ezO 7 s n base m cap line)):=p1
  have HB1:Hid (Below w.heap.size w w1):=hb1
  have HM:Hid (m=kids.length):=hm
  obtain ⟨c0,c1,c2,c3,c4⟩:=cellsZ p1
  have hw1':=hw1.symm
  clear hR hb1 p1 hw1 hm hc hmx
  go_enter Tryz.func54,Tryz.ntmps54
  go_wp2_with fail
  go_loopw [4] (fun vi wr=>∃i:Nat,i≤m∧vi=.int .i64 (i:Int)∧Below w1.heap.size w1 wr∧∀j y,j<i→kids[j]?=some y→rgE y=true) (fun vi _=>m-(intOf vi).toNat)
  case atStart=>exact ⟨0,Nat.zero_le _,rfl,Below.refl _ _,fun j y hj=>absurd hj (Nat.not_lt_zero _)⟩
  case round =>
   obtain ⟨i,hi,rfl,hbr,hall⟩:=hrel
   clear c0 c1 c2 c3 c4
   obtain ⟨c0,c1,c2,c3,c4⟩:=cellsZ ((hbr.block w.heap.size (by omega)).trans HP1.out)
   have HBR:Hid (Below w1.heap.size w1 wr):=hbr
   have HALL:Hid (∀j y,j<i→kids[j]?=some y→rgE y=true):=hall
   clear hbr hall
   by_cases hlt:i<m
   ·have hlt':(i:Int)<(m:Int):=by omega
    obtain ⟨y,hy⟩:∃y,kids[i]?=some y:=⟨kids[i]'(by rw [←HM.out];exact hlt),List.getElem?_eq_getElem (by rw [←HM.out];exact hlt)⟩
    obtain ⟨b,o,a1,a2,a3,a4,a5,a6,a7,rfl,m0,m1,m2,m3,m4,ck⟩:=HK.out i y hy wr HBR.out
    have HF:Hid (rgE y=false→R=false):=fun h9=>by rw [HR.out,rgL_false hy h9];rfl
    have HT:Hid (rgE y=true→∀j z,j<i+1→kids[j]?=some z→rgE z=true):=fun h9 j z hj hz=>by
     rcases Nat.lt_or_ge j i with h8 | h8
     ·exact HALL.out j z h8 hz
     ·obtain rfl:j=i:=by omega
      rw [hy] at hz
      cases hz
      exact h9
    clear hy HK HALL
    generalize rgE y=B at *
    go_wp2_with fail
    refine ck.mono ?_
    clear ck m0 m1 m2 m3 m4 c0 c1 c2 c3 c4
    rintro e w2 ⟨rfl,hb2⟩
    have HB2:Hid (Below w1.heap.size w1 w2):=below_via' HBR.out hb2
    have HBW:Hid (Below w.heap.size w w2):=below_via' HB1.out HB2.out
    clear hb2 HBR
    cases B with
    | false =>
     obtain rfl:=HF.out rfl
     go_wp2
     exact bodyPost_ret (v:=.bool false) (by simp [results,Tryz.results54,go_sem]) rfl ⟨rfl,HBW.out⟩
    | true =>
     go_wp2
     exact ⟨⟨i+1,by omega,by go_num,HB2.out,HT.out trivial⟩,by simp [intOf];omega⟩
   ·obtain rfl:i=m:=by omega
    have hlt':¬ (i:Int)<(i:Int):=by omega
    have hrl:rgL kids=true:=rgL_mem.2 fun y hy=>by
     obtain ⟨j,hj,rfl⟩:=List.getElem_of_mem hy
     exact HALL.out j _ (by rw [HM.out];exact hj) (List.getElem?_eq_getElem hj)
    have HV:Hid (R=rgK 7 s n i):=show _=_ by rw [HR.out,hrl];rfl
    have HBW:Hid (Below w.heap.size w wr):=below_via' HB1.out HBR.out
    have HPW:Hid (wr.heap[w.heap.size]?=some (ezO 7 s n base i cap line)):=(HBR.out.block w.heap.size (by omega)).trans HP1.out
    have HZW:Hid (w.heap.size<wr.heap.size):=Nat.lt_of_lt_of_le (by omega) HBR.out.size
    clear hrl HR HALL HK HBR HB1 HM HP1
    have HP3:=HPW
    have HP2:=HZW
    clear HPW HZW
    have cL:=refLine_any s wr
    have HV2:Hid (R=(decide (0<levelOf s)&&n==0&&i==2)):=HV.out
    clear HV
    have HV:=HV2
    clear HV2
    have hL6:=levelOf_le s
    generalize levelOf s=L at *
    by_cases hL:0<L
    ·have hL2:(0:Int)≤(L:Int)-1:=by omega
     by_cases hn:n=0
     ·subst hn
      by_cases hm2:i=2
      ·subst hm2
       obtain rfl:R=true:=by rw [HV.out];simp [hL]
       clear HV
       go_wp2_with fail
       refine cL.mono ?_
       clear cL
       rintro e w2 ⟨rfl,hb2⟩
       have HB2:Hid (Below w.heap.size w w2):=below_via' HBW.out hb2
       obtain ⟨c0,c1,c2,c3,c4⟩:=cellsZ ((hb2.block w.heap.size (by have:=HP2.out;omega)).trans HP3.out)
       clear hb2
       go_wp2
       exact bodyPost_ret (v:=.bool true) (by simp [results,Tryz.results54,go_sem]) rfl ⟨rfl,HB2.out⟩
      ·have hmI:((i:Int)==2)=false:=by rw [beq_eq_false_iff_ne];omega
       have hmN:(i==2)=false:=by rw [beq_eq_false_iff_ne];exact hm2
       obtain rfl:R=false:=by rw [HV.out];simp [hL,hm2]
       clear HV
       go_wp2_with fail
       refine cL.mono ?_
       clear cL
       rintro e w2 ⟨rfl,hb2⟩
       have HB2:Hid (Below w.heap.size w w2):=below_via' HBW.out hb2
       obtain ⟨c0,c1,c2,c3,c4⟩:=cellsZ ((hb2.block w.heap.size (by have:=HP2.out;omega)).trans HP3.out)
       clear hb2
       go_wp2
       exact bodyPost_ret (v:=.bool false) (by simp [results,Tryz.results54,go_sem]) rfl ⟨rfl,HB2.out⟩
     ·have hn2:(n==0)=false:=by simpa using hn
      obtain rfl:R=false:=by rw [HV.out];simp [hL,hn]
      clear HV
      go_wp2_with fail
      refine cL.mono ?_
      clear cL
      rintro e w2 ⟨rfl,hb2⟩
      have HB2:Hid (Below w.heap.size w w2):=below_via' HBW.out hb2
      obtain ⟨c0,c1,c2,c3,c4⟩:=cellsZ ((hb2.block w.heap.size (by have:=HP2.out;omega)).trans HP3.out)
      clear hb2
      go_wp2
      exact bodyPost_ret (v:=.bool false) (by simp [results,Tryz.results54,go_sem]) rfl ⟨rfl,HB2.out⟩
    ·obtain rfl:L=0:=by omega
     obtain rfl:R=false:=by rw [HV.out];simp
     clear HV
     go_wp2_with fail
     refine cL.mono ?_
     clear cL
     rintro e w2 ⟨rfl,hb2⟩
     have HB2:Hid (Below w.heap.size w w2):=below_via' HBW.out hb2
     obtain ⟨c0,c1,c2,c3,c4⟩:=cellsZ ((hb2.block w.heap.size (by have:=HP2.out;omega)).trans HP3.out)
     clear hb2
     go_wp2
     exact bodyPost_ret (v:=.bool false) (by simp [results,Tryz.results54,go_sem]) rfl ⟨rfl,HB2.out⟩
set_option maxHeartbeats 16000000 in
theorem rightK8 (s:List UInt8) (n:Int) (kids:List Ez) (line:Int) (base:Option Addr) (cap:Nat) (w:World) (hs:s.length≤100000000) (_hn1:n≤9223372036854775807) (hc:kids.length≤cap) (hmx:cap≤maxLen) (HKW:Hid (∀i y,kids[i]?=some y→∀W,Below w.heap.size w W→∃b o a1 a2 a3 a4 a5 a6 a7,base=some ⟨b,o,none⟩∧W.cell? ⟨b,o+i*5,none⟩=some (.int .i64 a1)∧W.cell? ⟨b,o+i*5+1,none⟩=some (.string (strB a2))∧W.cell? ⟨b,o+i*5+2,none⟩=some (.int .i64 a3)∧W.cell? ⟨b,o+i*5+3,none⟩=some (.slice a4 a5 a6)∧W.cell? ⟨b,o+i*5+4,none⟩=some (.int .i64 a7)∧Calls Tryz.prog 54 #[ezV a1 a2 a3 a4 a5 a6 a7] W fun e w'=>e=.returned (.bool (rgE y))∧Below W.heap.size W w')) :
  Calls Tryz.prog 54 #[ezV 8 s n base kids.length cap line] w fun e w'=>e=.returned (.bool (rgE (.mk 8 s n kids line)))∧Below w.heap.size w w':=by
  obtain ⟨m,hm⟩:∃m,m=kids.length:=⟨_,rfl⟩
  rw [←hm] at hc ⊢
  have hlen:m≤9223372036854775807:=by unfold maxLen at hmx;omega
  obtain ⟨R,hR⟩:∃R,R=rgE (.mk 8 s n kids line):=⟨_,rfl⟩
  rw [←hR]
  have HR:Hid (R=(rgL kids&&rgK 8 s n m)):=show _=_ by rw [hR,hm];rfl
  obtain ⟨w1,hw1⟩:∃w1,w1=w.alloc (ezO 8 s n base m cap line):=⟨_,rfl⟩
  have hb1:Below w.heap.size w w1:=by rw [hw1];exact (Below.refl _ w).alloc (Nat.le_refl _) _
  have p1:w1.heap[w.heap.size]?=some (ezO 8 s n base m cap line):=by rw [hw1];exact World.alloc_heap_new w _
  have hsz1:w1.heap.size=w.heap.size+1:=by rw [hw1];simp
  have HK:Hid (∀i y,kids[i]?=some y→∀W,Below w1.heap.size w1 W→∃b o a1 a2 a3 a4 a5 a6 a7,base=some ⟨b,o,none⟩∧W.cell? ⟨b,o+i*5,none⟩=some (.int .i64 a1)∧W.cell? ⟨b,o+i*5+1,none⟩=some (.string (strB a2))∧W.cell? ⟨b,o+i*5+2,none⟩=some (.int .i64 a3)∧W.cell? ⟨b,o+i*5+3,none⟩=some (.slice a4 a5 a6)∧W.cell? ⟨b,o+i*5+4,none⟩=some (.int .i64 a7)∧Calls Tryz.prog 54 #[ezV a1 a2 a3 a4 a5 a6 a7] W fun e w'=>e=.returned (.bool (rgE y))∧Below W.heap.size W w'):=fun i y hy W hW=>HKW.out i y hy W (below_via' hb1 hW)
  clear HKW
  have HP1:Hid (w1.heap[w.heap.size]?=some (ezO 8 s n base m cap line)):=p1
  have HB1:Hid (Below w.heap.size w w1):=hb1
  have HM:Hid (m=kids.length):=hm
  obtain ⟨c0,c1,c2,c3,c4⟩:=cellsZ p1
  have hw1':=hw1.symm
  clear hR hb1 p1 hw1 hm hc hmx
  go_enter Tryz.func54,Tryz.ntmps54
  go_wp2_with fail
  go_loopw [4] (fun vi wr=>∃i:Nat,i≤m∧vi=.int .i64 (i:Int)∧Below w1.heap.size w1 wr∧∀j y,j<i→kids[j]?=some y→rgE y=true) (fun vi _=>m-(intOf vi).toNat)
  case atStart=>exact ⟨0,Nat.zero_le _,rfl,Below.refl _ _,fun j y hj=>absurd hj (Nat.not_lt_zero _)⟩
  case round =>
   obtain ⟨i,hi,rfl,hbr,hall⟩:=hrel
   clear c0 c1 c2 c3 c4
   obtain ⟨c0,c1,c2,c3,c4⟩:=cellsZ ((hbr.block w.heap.size (by omega)).trans HP1.out)
   have HBR:Hid (Below w1.heap.size w1 wr):=hbr
   have HALL:Hid (∀j y,j<i→kids[j]?=some y→rgE y=true):=hall
   clear hbr hall
   by_cases hlt:i<m
   ·have hlt':(i:Int)<(m:Int):=by omega
    obtain ⟨y,hy⟩:∃y,kids[i]?=some y:=⟨kids[i]'(by rw [←HM.out];exact hlt),List.getElem?_eq_getElem (by rw [←HM.out];exact hlt)⟩
    obtain ⟨b,o,a1,a2,a3,a4,a5,a6,a7,rfl,m0,m1,m2,m3,m4,ck⟩:=HK.out i y hy wr HBR.out
    have HF:Hid (rgE y=false→R=false):=fun h9=>by rw [HR.out,rgL_false hy h9];rfl
    have HT:Hid (rgE y=true→∀j z,j<i+1→kids[j]?=some z→rgE z=true):=fun h9 j z hj hz=>by
     rcases Nat.lt_or_ge j i with h8 | h8
     ·exact HALL.out j z h8 hz
     ·obtain rfl:j=i:=by omega
      rw [hy] at hz
      cases hz
      exact h9
    clear hy HK HALL
    generalize rgE y=B at *
    go_wp2_with fail
    refine ck.mono ?_
    clear ck m0 m1 m2 m3 m4 c0 c1 c2 c3 c4
    rintro e w2 ⟨rfl,hb2⟩
    have HB2:Hid (Below w1.heap.size w1 w2):=below_via' HBR.out hb2
    have HBW:Hid (Below w.heap.size w w2):=below_via' HB1.out HB2.out
    clear hb2 HBR
    cases B with
    | false =>
     obtain rfl:=HF.out rfl
     go_wp2
     exact bodyPost_ret (v:=.bool false) (by simp [results,Tryz.results54,go_sem]) rfl ⟨rfl,HBW.out⟩
    | true =>
     go_wp2
     exact ⟨⟨i+1,by omega,by go_num,HB2.out,HT.out trivial⟩,by simp [intOf];omega⟩
   ·obtain rfl:i=m:=by omega
    have hlt':¬ (i:Int)<(i:Int):=by omega
    have hrl:rgL kids=true:=rgL_mem.2 fun y hy=>by
     obtain ⟨j,hj,rfl⟩:=List.getElem_of_mem hy
     exact HALL.out j _ (by rw [HM.out];exact hj) (List.getElem?_eq_getElem hj)
    have HV:Hid (R=rgK 8 s n i):=show _=_ by rw [HR.out,hrl];rfl
    have HBW:Hid (Below w.heap.size w wr):=below_via' HB1.out HBR.out
    have HPW:Hid (wr.heap[w.heap.size]?=some (ezO 8 s n base i cap line)):=(HBR.out.block w.heap.size (by omega)).trans HP1.out
    have HZW:Hid (w.heap.size<wr.heap.size):=Nat.lt_of_lt_of_le (by omega) HBR.out.size
    clear hrl HR HALL HK HBR HB1 HM HP1
    have HP3:=HPW
    have HP2:=HZW
    clear HPW HZW
    by_cases hs1:s=[]
    ·subst hs1
     by_cases hn:n=0
     ·subst hn
      by_cases hm2:i=2
      ·subst hm2
       obtain rfl:R=true:=by rw [HV.out];simp [rgK]
       clear HV
       go_wp2
       exact bodyPost_ret (v:=.bool true) (by simp [results,Tryz.results54,go_sem]) rfl ⟨rfl,HBW.out⟩
      ·have hmI:((i:Int)==2)=false:=by rw [beq_eq_false_iff_ne];omega
       have hmN:(i==2)=false:=by rw [beq_eq_false_iff_ne];exact hm2
       obtain rfl:R=false:=by rw [HV.out];simp [rgK,hm2]
       clear HV
       go_wp2
       exact bodyPost_ret (v:=.bool false) (by simp [results,Tryz.results54,go_sem]) rfl ⟨rfl,HBW.out⟩
     ·have hn2:(n==0)=false:=by simpa using hn
      obtain rfl:R=false:=by rw [HV.out];simp [rgK,hn]
      clear HV
      go_wp2
      exact bodyPost_ret (v:=.bool false) (by simp [results,Tryz.results54,go_sem]) rfl ⟨rfl,HBW.out⟩
    ·have hs2:(s==[])=false:=by simpa using hs1
     obtain rfl:R=false:=by rw [HV.out];simp [rgK,hs1]
     clear HV
     go_wp2
     exact bodyPost_ret (v:=.bool false) (by simp [results,Tryz.results54,go_sem]) rfl ⟨rfl,HBW.out⟩
set_option maxHeartbeats 16000000 in
theorem rightK9 (s:List UInt8) (n:Int) (kids:List Ez) (line:Int) (base:Option Addr) (cap:Nat) (w:World) (hs:s.length≤100000000) (_hn1:n≤9223372036854775807) (hc:kids.length≤cap) (hmx:cap≤maxLen) (HKW:Hid (∀i y,kids[i]?=some y→∀W,Below w.heap.size w W→∃b o a1 a2 a3 a4 a5 a6 a7,base=some ⟨b,o,none⟩∧W.cell? ⟨b,o+i*5,none⟩=some (.int .i64 a1)∧W.cell? ⟨b,o+i*5+1,none⟩=some (.string (strB a2))∧W.cell? ⟨b,o+i*5+2,none⟩=some (.int .i64 a3)∧W.cell? ⟨b,o+i*5+3,none⟩=some (.slice a4 a5 a6)∧W.cell? ⟨b,o+i*5+4,none⟩=some (.int .i64 a7)∧Calls Tryz.prog 54 #[ezV a1 a2 a3 a4 a5 a6 a7] W fun e w'=>e=.returned (.bool (rgE y))∧Below W.heap.size W w')) :
  Calls Tryz.prog 54 #[ezV 9 s n base kids.length cap line] w fun e w'=>e=.returned (.bool (rgE (.mk 9 s n kids line)))∧Below w.heap.size w w':=by
  obtain ⟨m,hm⟩:∃m,m=kids.length:=⟨_,rfl⟩
  rw [←hm] at hc ⊢
  have hlen:m≤9223372036854775807:=by unfold maxLen at hmx;omega
  obtain ⟨R,hR⟩:∃R,R=rgE (.mk 9 s n kids line):=⟨_,rfl⟩
  rw [←hR]
  have HR:Hid (R=(rgL kids&&rgK 9 s n m)):=show _=_ by rw [hR,hm];rfl
  obtain ⟨w1,hw1⟩:∃w1,w1=w.alloc (ezO 9 s n base m cap line):=⟨_,rfl⟩
  have hb1:Below w.heap.size w w1:=by rw [hw1];exact (Below.refl _ w).alloc (Nat.le_refl _) _
  have p1:w1.heap[w.heap.size]?=some (ezO 9 s n base m cap line):=by rw [hw1];exact World.alloc_heap_new w _
  have hsz1:w1.heap.size=w.heap.size+1:=by rw [hw1];simp
  have HK:Hid (∀i y,kids[i]?=some y→∀W,Below w1.heap.size w1 W→∃b o a1 a2 a3 a4 a5 a6 a7,base=some ⟨b,o,none⟩∧W.cell? ⟨b,o+i*5,none⟩=some (.int .i64 a1)∧W.cell? ⟨b,o+i*5+1,none⟩=some (.string (strB a2))∧W.cell? ⟨b,o+i*5+2,none⟩=some (.int .i64 a3)∧W.cell? ⟨b,o+i*5+3,none⟩=some (.slice a4 a5 a6)∧W.cell? ⟨b,o+i*5+4,none⟩=some (.int .i64 a7)∧Calls Tryz.prog 54 #[ezV a1 a2 a3 a4 a5 a6 a7] W fun e w'=>e=.returned (.bool (rgE y))∧Below W.heap.size W w'):=fun i y hy W hW=>HKW.out i y hy W (below_via' hb1 hW)
  clear HKW
  have HP1:Hid (w1.heap[w.heap.size]?=some (ezO 9 s n base m cap line)):=p1
  have HB1:Hid (Below w.heap.size w w1):=hb1
  have HM:Hid (m=kids.length):=hm
  obtain ⟨c0,c1,c2,c3,c4⟩:=cellsZ p1
  have hw1':=hw1.symm
  clear hR hb1 p1 hw1 hm hc hmx
  go_enter Tryz.func54,Tryz.ntmps54
  go_wp2_with fail
  go_loopw [4] (fun vi wr=>∃i:Nat,i≤m∧vi=.int .i64 (i:Int)∧Below w1.heap.size w1 wr∧∀j y,j<i→kids[j]?=some y→rgE y=true) (fun vi _=>m-(intOf vi).toNat)
  case atStart=>exact ⟨0,Nat.zero_le _,rfl,Below.refl _ _,fun j y hj=>absurd hj (Nat.not_lt_zero _)⟩
  case round =>
   obtain ⟨i,hi,rfl,hbr,hall⟩:=hrel
   clear c0 c1 c2 c3 c4
   obtain ⟨c0,c1,c2,c3,c4⟩:=cellsZ ((hbr.block w.heap.size (by omega)).trans HP1.out)
   have HBR:Hid (Below w1.heap.size w1 wr):=hbr
   have HALL:Hid (∀j y,j<i→kids[j]?=some y→rgE y=true):=hall
   clear hbr hall
   by_cases hlt:i<m
   ·have hlt':(i:Int)<(m:Int):=by omega
    obtain ⟨y,hy⟩:∃y,kids[i]?=some y:=⟨kids[i]'(by rw [←HM.out];exact hlt),List.getElem?_eq_getElem (by rw [←HM.out];exact hlt)⟩
    obtain ⟨b,o,a1,a2,a3,a4,a5,a6,a7,rfl,m0,m1,m2,m3,m4,ck⟩:=HK.out i y hy wr HBR.out
    have HF:Hid (rgE y=false→R=false):=fun h9=>by rw [HR.out,rgL_false hy h9];rfl
    have HT:Hid (rgE y=true→∀j z,j<i+1→kids[j]?=some z→rgE z=true):=fun h9 j z hj hz=>by
     rcases Nat.lt_or_ge j i with h8 | h8
     ·exact HALL.out j z h8 hz
     ·obtain rfl:j=i:=by omega
      rw [hy] at hz
      cases hz
      exact h9
    clear hy HK HALL
    generalize rgE y=B at *
    go_wp2_with fail
    refine ck.mono ?_
    clear ck m0 m1 m2 m3 m4 c0 c1 c2 c3 c4
    rintro e w2 ⟨rfl,hb2⟩
    have HB2:Hid (Below w1.heap.size w1 w2):=below_via' HBR.out hb2
    have HBW:Hid (Below w.heap.size w w2):=below_via' HB1.out HB2.out
    clear hb2 HBR
    cases B with
    | false =>
     obtain rfl:=HF.out rfl
     go_wp2
     exact bodyPost_ret (v:=.bool false) (by simp [results,Tryz.results54,go_sem]) rfl ⟨rfl,HBW.out⟩
    | true =>
     go_wp2
     exact ⟨⟨i+1,by omega,by go_num,HB2.out,HT.out trivial⟩,by simp [intOf];omega⟩
   ·obtain rfl:i=m:=by omega
    have hlt':¬ (i:Int)<(i:Int):=by omega
    have hrl:rgL kids=true:=rgL_mem.2 fun y hy=>by
     obtain ⟨j,hj,rfl⟩:=List.getElem_of_mem hy
     exact HALL.out j _ (by rw [HM.out];exact hj) (List.getElem?_eq_getElem hj)
    have HV:Hid (R=rgK 9 s n i):=show _=_ by rw [HR.out,hrl];rfl
    have HBW:Hid (Below w.heap.size w wr):=below_via' HB1.out HBR.out
    have HPW:Hid (wr.heap[w.heap.size]?=some (ezO 9 s n base i cap line)):=(HBR.out.block w.heap.size (by omega)).trans HP1.out
    have HZW:Hid (w.heap.size<wr.heap.size):=Nat.lt_of_lt_of_le (by omega) HBR.out.size
    clear hrl HR HALL HK HBR HB1 HM HP1
    have HP3:=HPW
    have HP2:=HZW
    clear HPW HZW
    have cN:=refName_any s wr hs
    have HV2:Hid (R=(nameQ s&&n==0&&i==1)):=HV.out
    clear HV
    have HV:=HV2
    clear HV2
    generalize nameQ s=Q at *
    cases Q with
    | false =>
     obtain rfl:R=false:=by rw [HV.out];simp
     clear HV
     go_wp2_with fail
     refine cN.mono ?_
     clear cN
     rintro e w2 ⟨rfl,hb2⟩
     have HB2:Hid (Below w.heap.size w w2):=below_via' HBW.out hb2
     obtain ⟨c0,c1,c2,c3,c4⟩:=cellsZ ((hb2.block w.heap.size (by have:=HP2.out;omega)).trans HP3.out)
     clear hb2
     go_wp2
     exact bodyPost_ret (v:=.bool false) (by simp [results,Tryz.results54,go_sem]) rfl ⟨rfl,HB2.out⟩
    | true =>
     by_cases hn:n=0
     ·subst hn
      by_cases hm1:i=1
      ·subst hm1
       obtain rfl:R=true:=by rw [HV.out];simp
       clear HV
       go_wp2_with fail
       refine cN.mono ?_
       clear cN
       rintro e w2 ⟨rfl,hb2⟩
       have HB2:Hid (Below w.heap.size w w2):=below_via' HBW.out hb2
       obtain ⟨c0,c1,c2,c3,c4⟩:=cellsZ ((hb2.block w.heap.size (by have:=HP2.out;omega)).trans HP3.out)
       clear hb2
       go_wp2
       exact bodyPost_ret (v:=.bool true) (by simp [results,Tryz.results54,go_sem]) rfl ⟨rfl,HB2.out⟩
      ·have hmI:((i:Int)==1)=false:=by rw [beq_eq_false_iff_ne];omega
       have hmN:(i==1)=false:=by rw [beq_eq_false_iff_ne];exact hm1
       obtain rfl:R=false:=by rw [HV.out];simp [hm1]
       clear HV
       go_wp2_with fail
       refine cN.mono ?_
       clear cN
       rintro e w2 ⟨rfl,hb2⟩
       have HB2:Hid (Below w.heap.size w w2):=below_via' HBW.out hb2
       obtain ⟨c0,c1,c2,c3,c4⟩:=cellsZ ((hb2.block w.heap.size (by have:=HP2.out;omega)).trans HP3.out)
       clear hb2
       go_wp2
       exact bodyPost_ret (v:=.bool false) (by simp [results,Tryz.results54,go_sem]) rfl ⟨rfl,HB2.out⟩
     ·have hn2:(n==0)=false:=by simpa using hn
      obtain rfl:R=false:=by rw [HV.out];simp [hn]
      clear HV
      go_wp2_with fail
      refine cN.mono ?_
      clear cN
      rintro e w2 ⟨rfl,hb2⟩
      have HB2:Hid (Below w.heap.size w w2):=below_via' HBW.out hb2
      obtain ⟨c0,c1,c2,c3,c4⟩:=cellsZ ((hb2.block w.heap.size (by have:=HP2.out;omega)).trans HP3.out)
      clear hb2
      go_wp2
      exact bodyPost_ret (v:=.bool false) (by simp [results,Tryz.results54,go_sem]) rfl ⟨rfl,HB2.out⟩
set_option maxHeartbeats 16000000 in
theorem rightK10 (s:List UInt8) (n:Int) (kids:List Ez) (line:Int) (base:Option Addr) (cap:Nat) (w:World) (hs:s.length≤100000000) (_hn1:n≤9223372036854775807) (hc:kids.length≤cap) (hmx:cap≤maxLen) (HKW:Hid (∀i y,kids[i]?=some y→∀W,Below w.heap.size w W→∃b o a1 a2 a3 a4 a5 a6 a7,base=some ⟨b,o,none⟩∧W.cell? ⟨b,o+i*5,none⟩=some (.int .i64 a1)∧W.cell? ⟨b,o+i*5+1,none⟩=some (.string (strB a2))∧W.cell? ⟨b,o+i*5+2,none⟩=some (.int .i64 a3)∧W.cell? ⟨b,o+i*5+3,none⟩=some (.slice a4 a5 a6)∧W.cell? ⟨b,o+i*5+4,none⟩=some (.int .i64 a7)∧Calls Tryz.prog 54 #[ezV a1 a2 a3 a4 a5 a6 a7] W fun e w'=>e=.returned (.bool (rgE y))∧Below W.heap.size W w')) :
  Calls Tryz.prog 54 #[ezV 10 s n base kids.length cap line] w fun e w'=>e=.returned (.bool (rgE (.mk 10 s n kids line)))∧Below w.heap.size w w':=by
  obtain ⟨m,hm⟩:∃m,m=kids.length:=⟨_,rfl⟩
  rw [←hm] at hc ⊢
  have hlen:m≤9223372036854775807:=by unfold maxLen at hmx;omega
  obtain ⟨R,hR⟩:∃R,R=rgE (.mk 10 s n kids line):=⟨_,rfl⟩
  rw [←hR]
  have HR:Hid (R=(rgL kids&&rgK 10 s n m)):=show _=_ by rw [hR,hm];rfl
  obtain ⟨w1,hw1⟩:∃w1,w1=w.alloc (ezO 10 s n base m cap line):=⟨_,rfl⟩
  have hb1:Below w.heap.size w w1:=by rw [hw1];exact (Below.refl _ w).alloc (Nat.le_refl _) _
  have p1:w1.heap[w.heap.size]?=some (ezO 10 s n base m cap line):=by rw [hw1];exact World.alloc_heap_new w _
  have hsz1:w1.heap.size=w.heap.size+1:=by rw [hw1];simp
  have HK:Hid (∀i y,kids[i]?=some y→∀W,Below w1.heap.size w1 W→∃b o a1 a2 a3 a4 a5 a6 a7,base=some ⟨b,o,none⟩∧W.cell? ⟨b,o+i*5,none⟩=some (.int .i64 a1)∧W.cell? ⟨b,o+i*5+1,none⟩=some (.string (strB a2))∧W.cell? ⟨b,o+i*5+2,none⟩=some (.int .i64 a3)∧W.cell? ⟨b,o+i*5+3,none⟩=some (.slice a4 a5 a6)∧W.cell? ⟨b,o+i*5+4,none⟩=some (.int .i64 a7)∧Calls Tryz.prog 54 #[ezV a1 a2 a3 a4 a5 a6 a7] W fun e w'=>e=.returned (.bool (rgE y))∧Below W.heap.size W w'):=fun i y hy W hW=>HKW.out i y hy W (below_via' hb1 hW)
  clear HKW
  have HP1:Hid (w1.heap[w.heap.size]?=some (ezO 10 s n base m cap line)):=p1
  have HB1:Hid (Below w.heap.size w w1):=hb1
  have HM:Hid (m=kids.length):=hm
  obtain ⟨c0,c1,c2,c3,c4⟩:=cellsZ p1
  have hw1':=hw1.symm
  clear hR hb1 p1 hw1 hm hc hmx
  go_enter Tryz.func54,Tryz.ntmps54
  go_wp2_with fail
  go_loopw [4] (fun vi wr=>∃i:Nat,i≤m∧vi=.int .i64 (i:Int)∧Below w1.heap.size w1 wr∧∀j y,j<i→kids[j]?=some y→rgE y=true) (fun vi _=>m-(intOf vi).toNat)
  case atStart=>exact ⟨0,Nat.zero_le _,rfl,Below.refl _ _,fun j y hj=>absurd hj (Nat.not_lt_zero _)⟩
  case round =>
   obtain ⟨i,hi,rfl,hbr,hall⟩:=hrel
   clear c0 c1 c2 c3 c4
   obtain ⟨c0,c1,c2,c3,c4⟩:=cellsZ ((hbr.block w.heap.size (by omega)).trans HP1.out)
   have HBR:Hid (Below w1.heap.size w1 wr):=hbr
   have HALL:Hid (∀j y,j<i→kids[j]?=some y→rgE y=true):=hall
   clear hbr hall
   by_cases hlt:i<m
   ·have hlt':(i:Int)<(m:Int):=by omega
    obtain ⟨y,hy⟩:∃y,kids[i]?=some y:=⟨kids[i]'(by rw [←HM.out];exact hlt),List.getElem?_eq_getElem (by rw [←HM.out];exact hlt)⟩
    obtain ⟨b,o,a1,a2,a3,a4,a5,a6,a7,rfl,m0,m1,m2,m3,m4,ck⟩:=HK.out i y hy wr HBR.out
    have HF:Hid (rgE y=false→R=false):=fun h9=>by rw [HR.out,rgL_false hy h9];rfl
    have HT:Hid (rgE y=true→∀j z,j<i+1→kids[j]?=some z→rgE z=true):=fun h9 j z hj hz=>by
     rcases Nat.lt_or_ge j i with h8 | h8
     ·exact HALL.out j z h8 hz
     ·obtain rfl:j=i:=by omega
      rw [hy] at hz
      cases hz
      exact h9
    clear hy HK HALL
    generalize rgE y=B at *
    go_wp2_with fail
    refine ck.mono ?_
    clear ck m0 m1 m2 m3 m4 c0 c1 c2 c3 c4
    rintro e w2 ⟨rfl,hb2⟩
    have HB2:Hid (Below w1.heap.size w1 w2):=below_via' HBR.out hb2
    have HBW:Hid (Below w.heap.size w w2):=below_via' HB1.out HB2.out
    clear hb2 HBR
    cases B with
    | false =>
     obtain rfl:=HF.out rfl
     go_wp2
     exact bodyPost_ret (v:=.bool false) (by simp [results,Tryz.results54,go_sem]) rfl ⟨rfl,HBW.out⟩
    | true =>
     go_wp2
     exact ⟨⟨i+1,by omega,by go_num,HB2.out,HT.out trivial⟩,by simp [intOf];omega⟩
   ·obtain rfl:i=m:=by omega
    have hlt':¬ (i:Int)<(i:Int):=by omega
    have hrl:rgL kids=true:=rgL_mem.2 fun y hy=>by
     obtain ⟨j,hj,rfl⟩:=List.getElem_of_mem hy
     exact HALL.out j _ (by rw [HM.out];exact hj) (List.getElem?_eq_getElem hj)
    have HV:Hid (R=rgK 10 s n i):=show _=_ by rw [HR.out,hrl];rfl
    have HBW:Hid (Below w.heap.size w wr):=below_via' HB1.out HBR.out
    have HPW:Hid (wr.heap[w.heap.size]?=some (ezO 10 s n base i cap line)):=(HBR.out.block w.heap.size (by omega)).trans HP1.out
    have HZW:Hid (w.heap.size<wr.heap.size):=Nat.lt_of_lt_of_le (by omega) HBR.out.size
    clear hrl HR HALL HK HBR HB1 HM HP1
    have HP3:=HPW
    have HP2:=HZW
    clear HPW HZW
    by_cases hs1:s=[]
    ·subst hs1
     by_cases hn:n=0
     ·subst hn
      by_cases hm0:0<i
      ·have hm2:(0:Int)<(i:Int):=by omega
       obtain rfl:R=true:=by rw [HV.out];simp [rgK,hm0]
       clear HV
       go_wp2
       exact bodyPost_ret (v:=.bool true) (by simp [results,Tryz.results54,go_sem]) rfl ⟨rfl,HBW.out⟩
      ·obtain rfl:i=0:=by omega
       obtain rfl:R=false:=by rw [HV.out];simp [rgK]
       clear HV
       go_wp2
       exact bodyPost_ret (v:=.bool false) (by simp [results,Tryz.results54,go_sem]) rfl ⟨rfl,HBW.out⟩
     ·have hn2:(n==0)=false:=by simpa using hn
      obtain rfl:R=false:=by rw [HV.out];simp [rgK,hn]
      clear HV
      go_wp2
      exact bodyPost_ret (v:=.bool false) (by simp [results,Tryz.results54,go_sem]) rfl ⟨rfl,HBW.out⟩
    ·have hs2:(s==[])=false:=by simpa using hs1
     obtain rfl:R=false:=by rw [HV.out];simp [rgK,hs1]
     clear HV
     go_wp2
     exact bodyPost_ret (v:=.bool false) (by simp [results,Tryz.results54,go_sem]) rfl ⟨rfl,HBW.out⟩
set_option maxHeartbeats 16000000 in
theorem rightKX (k:Int) (s:List UInt8) (n:Int) (kids:List Ez) (line:Int) (base:Option Addr) (cap:Nat) (w:World) (_hs:s.length≤100000000) (_hn1:n≤9223372036854775807) (hc:kids.length≤cap) (hmx:cap≤maxLen) (HKW:Hid (∀i y,kids[i]?=some y→∀W,Below w.heap.size w W→∃b o a1 a2 a3 a4 a5 a6 a7,base=some ⟨b,o,none⟩∧W.cell? ⟨b,o+i*5,none⟩=some (.int .i64 a1)∧W.cell? ⟨b,o+i*5+1,none⟩=some (.string (strB a2))∧W.cell? ⟨b,o+i*5+2,none⟩=some (.int .i64 a3)∧W.cell? ⟨b,o+i*5+3,none⟩=some (.slice a4 a5 a6)∧W.cell? ⟨b,o+i*5+4,none⟩=some (.int .i64 a7)∧Calls Tryz.prog 54 #[ezV a1 a2 a3 a4 a5 a6 a7] W fun e w'=>e=.returned (.bool (rgE y))∧Below W.heap.size W w')) (hk1:k≠1) (hk2:k≠2) (hk3:k≠3) (hk4:k≠4) (hk5:k≠5) (hk11:k≠11) (hk6:k≠6) (hk7:k≠7) (hk8:k≠8) (hk9:k≠9) (hk10:k≠10) :
  Calls Tryz.prog 54 #[ezV k s n base kids.length cap line] w fun e w'=>e=.returned (.bool (rgE (.mk k s n kids line)))∧Below w.heap.size w w':=by
  obtain ⟨m,hm⟩:∃m,m=kids.length:=⟨_,rfl⟩
  rw [←hm] at hc ⊢
  have hlen:m≤9223372036854775807:=by unfold maxLen at hmx;omega
  obtain ⟨R,hR⟩:∃R,R=rgE (.mk k s n kids line):=⟨_,rfl⟩
  rw [←hR]
  have HR:Hid (R=(rgL kids&&rgK k s n m)):=show _=_ by rw [hR,hm];rfl
  obtain ⟨w1,hw1⟩:∃w1,w1=w.alloc (ezO k s n base m cap line):=⟨_,rfl⟩
  have hb1:Below w.heap.size w w1:=by rw [hw1];exact (Below.refl _ w).alloc (Nat.le_refl _) _
  have p1:w1.heap[w.heap.size]?=some (ezO k s n base m cap line):=by rw [hw1];exact World.alloc_heap_new w _
  have hsz1:w1.heap.size=w.heap.size+1:=by rw [hw1];simp
  have HK:Hid (∀i y,kids[i]?=some y→∀W,Below w1.heap.size w1 W→∃b o a1 a2 a3 a4 a5 a6 a7,base=some ⟨b,o,none⟩∧W.cell? ⟨b,o+i*5,none⟩=some (.int .i64 a1)∧W.cell? ⟨b,o+i*5+1,none⟩=some (.string (strB a2))∧W.cell? ⟨b,o+i*5+2,none⟩=some (.int .i64 a3)∧W.cell? ⟨b,o+i*5+3,none⟩=some (.slice a4 a5 a6)∧W.cell? ⟨b,o+i*5+4,none⟩=some (.int .i64 a7)∧Calls Tryz.prog 54 #[ezV a1 a2 a3 a4 a5 a6 a7] W fun e w'=>e=.returned (.bool (rgE y))∧Below W.heap.size W w'):=fun i y hy W hW=>HKW.out i y hy W (below_via' hb1 hW)
  clear HKW
  have HP1:Hid (w1.heap[w.heap.size]?=some (ezO k s n base m cap line)):=p1
  have HB1:Hid (Below w.heap.size w w1):=hb1
  have HM:Hid (m=kids.length):=hm
  obtain ⟨c0,c1,c2,c3,c4⟩:=cellsZ p1
  have hw1':=hw1.symm
  clear hR hb1 p1 hw1 hm hc hmx
  go_enter Tryz.func54,Tryz.ntmps54
  go_wp2_with fail
  go_loopw [4] (fun vi wr=>∃i:Nat,i≤m∧vi=.int .i64 (i:Int)∧Below w1.heap.size w1 wr∧∀j y,j<i→kids[j]?=some y→rgE y=true) (fun vi _=>m-(intOf vi).toNat)
  case atStart=>exact ⟨0,Nat.zero_le _,rfl,Below.refl _ _,fun j y hj=>absurd hj (Nat.not_lt_zero _)⟩
  case round =>
   obtain ⟨i,hi,rfl,hbr,hall⟩:=hrel
   clear c0 c1 c2 c3 c4
   obtain ⟨c0,c1,c2,c3,c4⟩:=cellsZ ((hbr.block w.heap.size (by omega)).trans HP1.out)
   have HBR:Hid (Below w1.heap.size w1 wr):=hbr
   have HALL:Hid (∀j y,j<i→kids[j]?=some y→rgE y=true):=hall
   clear hbr hall
   by_cases hlt:i<m
   ·have hlt':(i:Int)<(m:Int):=by omega
    obtain ⟨y,hy⟩:∃y,kids[i]?=some y:=⟨kids[i]'(by rw [←HM.out];exact hlt),List.getElem?_eq_getElem (by rw [←HM.out];exact hlt)⟩
    obtain ⟨b,o,a1,a2,a3,a4,a5,a6,a7,rfl,m0,m1,m2,m3,m4,ck⟩:=HK.out i y hy wr HBR.out
    have HF:Hid (rgE y=false→R=false):=fun h9=>by rw [HR.out,rgL_false hy h9];rfl
    have HT:Hid (rgE y=true→∀j z,j<i+1→kids[j]?=some z→rgE z=true):=fun h9 j z hj hz=>by
     rcases Nat.lt_or_ge j i with h8 | h8
     ·exact HALL.out j z h8 hz
     ·obtain rfl:j=i:=by omega
      rw [hy] at hz
      cases hz
      exact h9
    clear hy HK HALL
    generalize rgE y=B at *
    go_wp2_with fail
    refine ck.mono ?_
    clear ck m0 m1 m2 m3 m4 c0 c1 c2 c3 c4
    rintro e w2 ⟨rfl,hb2⟩
    have HB2:Hid (Below w1.heap.size w1 w2):=below_via' HBR.out hb2
    have HBW:Hid (Below w.heap.size w w2):=below_via' HB1.out HB2.out
    clear hb2 HBR
    cases B with
    | false =>
     obtain rfl:=HF.out rfl
     go_wp2
     exact bodyPost_ret (v:=.bool false) (by simp [results,Tryz.results54,go_sem]) rfl ⟨rfl,HBW.out⟩
    | true =>
     go_wp2
     exact ⟨⟨i+1,by omega,by go_num,HB2.out,HT.out trivial⟩,by simp [intOf];omega⟩
   ·obtain rfl:i=m:=by omega
    have hlt':¬ (i:Int)<(i:Int):=by omega
    have hrl:rgL kids=true:=rgL_mem.2 fun y hy=>by
     obtain ⟨j,hj,rfl⟩:=List.getElem_of_mem hy
     exact HALL.out j _ (by rw [HM.out];exact hj) (List.getElem?_eq_getElem hj)
    have HV:Hid (R=rgK k s n i):=show _=_ by rw [HR.out,hrl];rfl
    have HBW:Hid (Below w.heap.size w wr):=below_via' HB1.out HBR.out
    have HPW:Hid (wr.heap[w.heap.size]?=some (ezO k s n base i cap line)):=(HBR.out.block w.heap.size (by omega)).trans HP1.out
    have HZW:Hid (w.heap.size<wr.heap.size):=Nat.lt_of_lt_of_le (by omega) HBR.out.size
    clear hrl HR HALL HK HBR HB1 HM HP1
    have HP3:=HPW
    have HP2:=HZW
    clear HPW HZW
    have f1:(k==1)=false:=by simpa using hk1
    have f2:(k==2)=false:=by simpa using hk2
    have f3:(k==3)=false:=by simpa using hk3
    have f4:(k==4)=false:=by simpa using hk4
    have f5:(k==5)=false:=by simpa using hk5
    have f11:(k==11)=false:=by simpa using hk11
    have f6:(k==6)=false:=by simpa using hk6
    have f7:(k==7)=false:=by simpa using hk7
    have f8:(k==8)=false:=by simpa using hk8
    have f9:(k==9)=false:=by simpa using hk9
    have f10:(k==10)=false:=by simpa using hk10
    obtain rfl:R=false:=by rw [HV.out];simp [rgK,hk1,hk2,hk3,hk4,hk5,hk11,hk6,hk7,hk8,hk9,hk10]
    clear hk1 hk2 hk3 hk4 hk5 hk11 hk6 hk7 hk8 hk9 hk10 HV
    go_wp2
    exact bodyPost_ret (v:=.bool false) (by simp [results,Tryz.results54,go_sem]) rfl ⟨rfl,HBW.out⟩
theorem right_any:∀(N:Nat) (x:Ez) (v:Value) (w:World),dpE x≤N→EzIn w.heap.size w x v →
  Calls Tryz.prog 54 #[v] w fun e w'=>e=.returned (.bool (rgE x))∧Below w.heap.size w w'
 | 0,.mk k s n kids line,v,w,hd,_=>by rw [dpE] at hd;omega
 | N+1,.mk k s n kids line,v,w,hd,hx=>by
  obtain ⟨base,cap,rfl,hc,hmx,hs,hn0,hn1,hkid⟩:=hx.kid
  have HK:Hid (∀i y,kids[i]?=some y→∀W,Below w.heap.size w W→∃b o a1 a2 a3 a4 a5 a6 a7,base=some ⟨b,o,none⟩∧W.cell? ⟨b,o+i*5,none⟩=some (.int .i64 a1)∧W.cell? ⟨b,o+i*5+1,none⟩=some (.string (strB a2))∧W.cell? ⟨b,o+i*5+2,none⟩=some (.int .i64 a3)∧W.cell? ⟨b,o+i*5+3,none⟩=some (.slice a4 a5 a6)∧W.cell? ⟨b,o+i*5+4,none⟩=some (.int .i64 a7)∧Calls Tryz.prog 54 #[ezV a1 a2 a3 a4 a5 a6 a7] W fun e w'=>e=.returned (.bool (rgE y))∧Below W.heap.size W w'):=fun i y hy W hbW=>by
   obtain ⟨b,o,a1,a2,a3,a4,a5,a6,a7,e,hb,hlt,hxy,m0,m1,m2,m3,m4⟩:=hkid i y hy
   exact ⟨b,o,a1,a2,a3,a4,a5,a6,a7,e,(hbW.cell (p:=⟨b,o+i*5,none⟩) hlt).trans m0,(hbW.cell (p:=⟨b,o+i*5+1,none⟩) hlt).trans m1,(hbW.cell (p:=⟨b,o+i*5+2,none⟩) hlt).trans m2,(hbW.cell (p:=⟨b,o+i*5+3,none⟩) hlt).trans m3,(hbW.cell (p:=⟨b,o+i*5+4,none⟩) hlt).trans m4,
    right_any N y _ W (dpE_kid hd hy) ((hxy.kept hbW).wide hbW.size)⟩
  by_cases hk1:k=1
  ·subst hk1;exact rightK1 s n kids line base cap w hs hn1 hc hmx HK
  by_cases hk2:k=2
  ·subst hk2;exact rightK2 s n kids line base cap w hs hn1 hc hmx HK
  by_cases hk3:k=3
  ·subst hk3;exact rightK3 s n kids line base cap w hs hn1 hc hmx HK
  by_cases hk4:k=4
  ·subst hk4;exact rightK4 s n kids line base cap w hs hn1 hc hmx HK
  by_cases hk5:k=5
  ·subst hk5;exact rightK5 s n kids line base cap w hs hn1 hc hmx HK
  by_cases hk11:k=11
  ·subst hk11;exact rightK11 s n kids line base cap w hs hn1 hc hmx HK
  by_cases hk6:k=6
  ·subst hk6;exact rightK6 s n kids line base cap w hs hn1 hc hmx HK
  by_cases hk7:k=7
  ·subst hk7;exact rightK7 s n kids line base cap w hs hn1 hc hmx HK
  by_cases hk8:k=8
  ·subst hk8;exact rightK8 s n kids line base cap w hs hn1 hc hmx HK
  by_cases hk9:k=9
  ·subst hk9;exact rightK9 s n kids line base cap w hs hn1 hc hmx HK
  by_cases hk10:k=10
  ·subst hk10;exact rightK10 s n kids line base cap w hs hn1 hc hmx HK
  exact rightKX k s n kids line base cap w hs hn1 hc hmx HK hk1 hk2 hk3 hk4 hk5 hk11 hk6 hk7 hk8 hk9 hk10
end Go.Proofs.YtghhamgealkodaaGreatDoor
