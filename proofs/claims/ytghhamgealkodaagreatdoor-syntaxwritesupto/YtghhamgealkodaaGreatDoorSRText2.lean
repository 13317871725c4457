import Derived.Test.YtghhamgealkodaaGreatDoorMC46
import Derived.Test.YtghhamgealkodaaGreatDoorMC27
namespace Go.Proofs.YtghhamgealkodaaGreatDoor
open Go.RowKit Go.Shelf
set_option maxRecDepth 100000
theorem kidR {N:Nat} (hT:TextW N) {kids:List Ez} {base:Option Addr} {w w1:World} (hb1:Below w.heap.size w w1) (hd:dpL kids≤N) (hr:rgL kids=true) (hln:lnL kids≤1000000000000) (htl:∀y∈kids,(txE y).length≤lnE y) (hkid:∀i x,kids[i]?=some x→∃b o a1 a2 a3 a4 a5 a6 a7,base=some ⟨b,o,none⟩∧b<w.heap.size∧b<w.heap.size∧EzIn w.heap.size w x (ezV a1 a2 a3 a4 a5 a6 a7)∧w.cell? ⟨b,o+i*5,none⟩=some (.int .i64 a1)∧w.cell? ⟨b,o+i*5+1,none⟩=some (.string (strB a2))∧w.cell? ⟨b,o+i*5+2,none⟩=some (.int .i64 a3)∧w.cell? ⟨b,o+i*5+3,none⟩=some (.slice a4 a5 a6)∧w.cell? ⟨b,o+i*5+4,none⟩=some (.int .i64 a7)) (i:Nat) (y:Ez) (hy:kids[i]?=some y) :
  ∃b o a1 a2 a3 a4 a5 a6 a7,base=some ⟨b,o,none⟩∧(∀W,Below w1.heap.size w1 W→W.cell? ⟨b,o+i*5,none⟩=some (.int .i64 a1)∧W.cell? ⟨b,o+i*5+1,none⟩=some (.string (strB a2))∧W.cell? ⟨b,o+i*5+2,none⟩=some (.int .i64 a3)∧W.cell? ⟨b,o+i*5+3,none⟩=some (.slice a4 a5 a6)∧W.cell? ⟨b,o+i*5+4,none⟩=some (.int .i64 a7))∧(txE y).length≤1000000000000 ∧
   (∀W,Below w1.heap.size w1 W→Calls Tryz.prog 55 #[ezV a1 a2 a3 a4 a5 a6 a7] W fun e w'=>e=.returned (.string (strB (txE y)))∧Below W.heap.size W w') ∧
   (∀W (least:Nat) (lst:Int),Below w1.heap.size w1 W→lst=(least:Int)-1→least≤9→Calls Tryz.prog 100 #[ezV a1 a2 a3 a4 a5 a6 a7,.int .i64 lst] W fun e w'=>e=.returned (.string (strB (withinT y least (txE y))))∧Below W.heap.size W w'):=by
 obtain ⟨b,o,a1,a2,a3,a4,a5,a6,a7,e,hb,hlt,hxy,m0,m1,m2,m3,m4⟩:=hkid i y hy
 have hym:=List.mem_of_getElem? hy
 have hyl:lnE y≤1000000000000:=by have:=lnL_get hy;omega
 refine ⟨b,o,a1,a2,a3,a4,a5,a6,a7,e,fun W hW=>?_,Nat.le_trans (htl y hym) hyl,fun W hW=>?_,fun W least lst hW hl h9=>?_⟩
 ·have hbW:=below_via' hb1 hW
  exact ⟨(hbW.cell (p:=⟨b,o+i*5,none⟩) hlt).trans m0,(hbW.cell (p:=⟨b,o+i*5+1,none⟩) hlt).trans m1,(hbW.cell (p:=⟨b,o+i*5+2,none⟩) hlt).trans m2,(hbW.cell (p:=⟨b,o+i*5+3,none⟩) hlt).trans m3,(hbW.cell (p:=⟨b,o+i*5+4,none⟩) hlt).trans m4⟩
 ·have hbW:=below_via' hb1 hW
  exact hT y _ W (dpL_mem.1 hd y hym) (rgL_mem.1 hr y hym) hyl ((hxy.kept hbW).wide hbW.size)
 ·have hbW:=below_via' hb1 hW
  exact withinR_any N hT y _ W (dpL_mem.1 hd y hym) (rgL_mem.1 hr y hym) hyl (htl y hym) ((hxy.kept hbW).wide hbW.size) least lst hl h9
set_option maxHeartbeats 8000000 in
theorem textK1 (N:Nat) (_hT:TextW N) (s:List UInt8) (n:Int) (kids:List Ez) (line:Int) (base:Option Addr) (cap:Nat) (w:World) (_hs:s.length≤100000000) (hn1:n≤9223372036854775807) (_hc:kids.length≤cap) (_hmx:cap≤maxLen) (_hd:dpL kids≤N) (_hr:rgL kids=true) (_hln:lnL kids≤1000000000000) (_htl:∀y∈kids,(txE y).length≤lnE y) (_hkid:∀i x,kids[i]?=some x→∃b o a1 a2 a3 a4 a5 a6 a7,base=some ⟨b,o,none⟩∧b<w.heap.size∧b<w.heap.size∧EzIn w.heap.size w x (ezV a1 a2 a3 a4 a5 a6 a7)∧w.cell? ⟨b,o+i*5,none⟩=some (.int .i64 a1)∧w.cell? ⟨b,o+i*5+1,none⟩=some (.string (strB a2))∧w.cell? ⟨b,o+i*5+2,none⟩=some (.int .i64 a3)∧w.cell? ⟨b,o+i*5+3,none⟩=some (.slice a4 a5 a6)∧w.cell? ⟨b,o+i*5+4,none⟩=some (.int .i64 a7)) (hrk:rgK 1 s n kids.length=true) :
  Calls Tryz.prog 55 #[ezV 1 s n base kids.length cap line] w fun e w'=>e=.returned (.string (strB (txK 1 s n kids (txL kids))))∧Below w.heap.size w w':=by
 obtain ⟨w1,hw1⟩:∃w1,w1=w.alloc (ezO 1 s n base kids.length cap line):=⟨_,rfl⟩
 have hb1:Below w.heap.size w w1:=by rw [hw1];exact (Below.refl _ w).alloc (Nat.le_refl _) _
 have p1:w1.heap[w.heap.size]?=some (ezO 1 s n base kids.length cap line):=by rw [hw1];exact World.alloc_heap_new w _
 have hsz1:w1.heap.size=w.heap.size+1:=by rw [hw1];simp
 obtain ⟨c0,c1,c2,c3,c4⟩:=cellsZ p1
 have HB1:Hid (Below w.heap.size w w1):=hb1
 have HP1:Hid (w1.heap[w.heap.size]?=some (ezO 1 s n base kids.length cap line)):=p1
 have hw1':=hw1.symm
 have h1:kids.length=0∧0≤n:=by
  simp [rgK] at hrk
  exact ⟨by simpa using hrk.2,hrk.1.1⟩
 obtain ⟨u,rfl⟩:∃u:Nat,n=(u:Int):=⟨n.toNat,by omega⟩
 have cd:=refDigits_any u w1 (by omega)
 have HV:Hid (txK 1 s (u:Int) kids (txL kids)=Lib.decDigits u):=show _=_ by simp [txK]
 generalize txK 1 s (u:Int) kids (txL kids)=R at *
 generalize kids.length=m at *
 clear hb1 p1 hw1 _hc _hmx _hd _hr _htl _hkid hrk _hT hsz1 h1 HP1
 go_enter Tryz.func55,Tryz.ntmps55
 go_wp2_with fail
 refine cd.mono ?_
 clear cd c0 c1 c2 c3 c4
 rintro e w2 ⟨rfl,hb2⟩
 have HB2:Hid (Below w.heap.size w w2):=below_via' HB1.out hb2
 clear hb2
 go_wp2
 exact bodyPost_ret (v:=.string (strB (Lib.decDigits u))) (by simp [results,Tryz.results55,go_sem]) rfl ⟨by rw [HV.out],HB2.out⟩
set_option maxHeartbeats 8000000 in
theorem textK2 (N:Nat) (_hT:TextW N) (s:List UInt8) (n:Int) (kids:List Ez) (line:Int) (base:Option Addr) (cap:Nat) (w:World) (_hs:s.length≤100000000) (hn1:n≤9223372036854775807) (_hc:kids.length≤cap) (_hmx:cap≤maxLen) (_hd:dpL kids≤N) (_hr:rgL kids=true) (_hln:lnL kids≤1000000000000) (_htl:∀y∈kids,(txE y).length≤lnE y) (_hkid:∀i x,kids[i]?=some x→∃b o a1 a2 a3 a4 a5 a6 a7,base=some ⟨b,o,none⟩∧b<w.heap.size∧b<w.heap.size∧EzIn w.heap.size w x (ezV a1 a2 a3 a4 a5 a6 a7)∧w.cell? ⟨b,o+i*5,none⟩=some (.int .i64 a1)∧w.cell? ⟨b,o+i*5+1,none⟩=some (.string (strB a2))∧w.cell? ⟨b,o+i*5+2,none⟩=some (.int .i64 a3)∧w.cell? ⟨b,o+i*5+3,none⟩=some (.slice a4 a5 a6)∧w.cell? ⟨b,o+i*5+4,none⟩=some (.int .i64 a7)) (hrk:rgK 2 s n kids.length=true) :
  Calls Tryz.prog 55 #[ezV 2 s n base kids.length cap line] w fun e w'=>e=.returned (.string (strB (txK 2 s n kids (txL kids))))∧Below w.heap.size w w':=by
 obtain ⟨w1,hw1⟩:∃w1,w1=w.alloc (ezO 2 s n base kids.length cap line):=⟨_,rfl⟩
 have hb1:Below w.heap.size w w1:=by rw [hw1];exact (Below.refl _ w).alloc (Nat.le_refl _) _
 have p1:w1.heap[w.heap.size]?=some (ezO 2 s n base kids.length cap line):=by rw [hw1];exact World.alloc_heap_new w _
 have hsz1:w1.heap.size=w.heap.size+1:=by rw [hw1];simp
 obtain ⟨c0,c1,c2,c3,c4⟩:=cellsZ p1
 have HB1:Hid (Below w.heap.size w w1):=hb1
 have HP1:Hid (w1.heap[w.heap.size]?=some (ezO 2 s n base kids.length cap line)):=p1
 have hw1':=hw1.symm
 have h1:n=0∨n=1:=by
  simp [rgK] at hrk
  exact hrk.1.1
 have HV:Hid (txK 2 s n kids (txL kids)=if n=1 then [116,114,117,101] else [102,97,108,115,101]):=show _=_ by simp [txK]
 generalize txK 2 s n kids (txL kids)=R at *
 generalize kids.length=m at *
 clear hb1 p1 hw1 _hc _hmx _hd _hr _htl _hkid hrk _hT hsz1 HP1
 rcases h1 with rfl | rfl
 ·obtain rfl:R=[102,97,108,115,101]:=by rw [HV.out];simp
  go_enter Tryz.func55,Tryz.ntmps55
  go_wp2
  exact bodyPost_ret (v:=.string ⟨#[102,97,108,115,101]⟩) (by simp [results,Tryz.results55,go_sem]) rfl ⟨rfl,HB1.out⟩
 ·obtain rfl:R=[116,114,117,101]:=by rw [HV.out];simp
  go_enter Tryz.func55,Tryz.ntmps55
  go_wp2
  exact bodyPost_ret (v:=.string ⟨#[116,114,117,101]⟩) (by simp [results,Tryz.results55,go_sem]) rfl ⟨rfl,HB1.out⟩
set_option maxHeartbeats 8000000 in
theorem textK3 (N:Nat) (_hT:TextW N) (s:List UInt8) (n:Int) (kids:List Ez) (line:Int) (base:Option Addr) (cap:Nat) (w:World) (hs:s.length≤100000000) (_hn1:n≤9223372036854775807) (_hc:kids.length≤cap) (_hmx:cap≤maxLen) (_hd:dpL kids≤N) (_hr:rgL kids=true) (_hln:lnL kids≤1000000000000) (_htl:∀y∈kids,(txE y).length≤lnE y) (_hkid:∀i x,kids[i]?=some x→∃b o a1 a2 a3 a4 a5 a6 a7,base=some ⟨b,o,none⟩∧b<w.heap.size∧b<w.heap.size∧EzIn w.heap.size w x (ezV a1 a2 a3 a4 a5 a6 a7)∧w.cell? ⟨b,o+i*5,none⟩=some (.int .i64 a1)∧w.cell? ⟨b,o+i*5+1,none⟩=some (.string (strB a2))∧w.cell? ⟨b,o+i*5+2,none⟩=some (.int .i64 a3)∧w.cell? ⟨b,o+i*5+3,none⟩=some (.slice a4 a5 a6)∧w.cell? ⟨b,o+i*5+4,none⟩=some (.int .i64 a7)) (_hrk:rgK 3 s n kids.length=true) :
  Calls Tryz.prog 55 #[ezV 3 s n base kids.length cap line] w fun e w'=>e=.returned (.string (strB (txK 3 s n kids (txL kids))))∧Below w.heap.size w w':=by
 obtain ⟨w1,hw1⟩:∃w1,w1=w.alloc (ezO 3 s n base kids.length cap line):=⟨_,rfl⟩
 have hb1:Below w.heap.size w w1:=by rw [hw1];exact (Below.refl _ w).alloc (Nat.le_refl _) _
 have p1:w1.heap[w.heap.size]?=some (ezO 3 s n base kids.length cap line):=by rw [hw1];exact World.alloc_heap_new w _
 have hsz1:w1.heap.size=w.heap.size+1:=by rw [hw1];simp
 obtain ⟨c0,c1,c2,c3,c4⟩:=cellsZ p1
 have HB1:Hid (Below w.heap.size w w1):=hb1
 have HP1:Hid (w1.heap[w.heap.size]?=some (ezO 3 s n base kids.length cap line)):=p1
 have hw1':=hw1.symm
 have cd:=refQuote_any s w1 hs
 have HV:Hid (txK 3 s n kids (txL kids)=quoteB s):=show _=_ by simp [txK]
 generalize txK 3 s n kids (txL kids)=R at *
 generalize kids.length=m at *
 clear hb1 p1 hw1 _hc _hmx _hd _hr _htl _hkid _hrk _hT hsz1 HP1
 go_enter Tryz.func55,Tryz.ntmps55
 go_wp2_with fail
 refine cd.mono ?_
 clear cd c0 c1 c2 c3 c4
 rintro e w2 ⟨rfl,hb2⟩
 have HB2:Hid (Below w.heap.size w w2):=below_via' HB1.out hb2
 clear hb2
 go_wp2
 exact bodyPost_ret (v:=.string (strB (quoteB s))) (by simp [results,Tryz.results55,go_sem]) rfl ⟨by rw [HV.out],HB2.out⟩
set_option maxHeartbeats 8000000 in
theorem textK4 (N:Nat) (_hT:TextW N) (s:List UInt8) (n:Int) (kids:List Ez) (line:Int) (base:Option Addr) (cap:Nat) (w:World) (_hs:s.length≤100000000) (_hn1:n≤9223372036854775807) (_hc:kids.length≤cap) (_hmx:cap≤maxLen) (_hd:dpL kids≤N) (_hr:rgL kids=true) (_hln:lnL kids≤1000000000000) (_htl:∀y∈kids,(txE y).length≤lnE y) (_hkid:∀i x,kids[i]?=some x→∃b o a1 a2 a3 a4 a5 a6 a7,base=some ⟨b,o,none⟩∧b<w.heap.size∧b<w.heap.size∧EzIn w.heap.size w x (ezV a1 a2 a3 a4 a5 a6 a7)∧w.cell? ⟨b,o+i*5,none⟩=some (.int .i64 a1)∧w.cell? ⟨b,o+i*5+1,none⟩=some (.string (strB a2))∧w.cell? ⟨b,o+i*5+2,none⟩=some (.int .i64 a3)∧w.cell? ⟨b,o+i*5+3,none⟩=some (.slice a4 a5 a6)∧w.cell? ⟨b,o+i*5+4,none⟩=some (.int .i64 a7)) (_hrk:rgK 4 s n kids.length=true) :
  Calls Tryz.prog 55 #[ezV 4 s n base kids.length cap line] w fun e w'=>e=.returned (.string (strB (txK 4 s n kids (txL kids))))∧Below w.heap.size w w':=by
 obtain ⟨w1,hw1⟩:∃w1,w1=w.alloc (ezO 4 s n base kids.length cap line):=⟨_,rfl⟩
 have hb1:Below w.heap.size w w1:=by rw [hw1];exact (Below.refl _ w).alloc (Nat.le_refl _) _
 have p1:w1.heap[w.heap.size]?=some (ezO 4 s n base kids.length cap line):=by rw [hw1];exact World.alloc_heap_new w _
 have hsz1:w1.heap.size=w.heap.size+1:=by rw [hw1];simp
 obtain ⟨c0,c1,c2,c3,c4⟩:=cellsZ p1
 have HB1:Hid (Below w.heap.size w w1):=hb1
 have HP1:Hid (w1.heap[w.heap.size]?=some (ezO 4 s n base kids.length cap line)):=p1
 have hw1':=hw1.symm
 have HV:Hid (txK 4 s n kids (txL kids)=s):=show _=_ by simp [txK]
 generalize txK 4 s n kids (txL kids)=R at *
 generalize kids.length=m at *
 clear hb1 p1 hw1 _hc _hmx _hd _hr _htl _hkid _hrk _hT hsz1 HP1
 go_enter Tryz.func55,Tryz.ntmps55
 go_wp2
 exact bodyPost_ret (v:=.string (strB s)) (by simp [results,Tryz.results55,go_sem]) rfl ⟨by rw [HV.out],HB1.out⟩
set_option maxHeartbeats 8000000 in
theorem textK10 (N:Nat) (hT:TextW N) (s:List UInt8) (n:Int) (kids:List Ez) (line:Int) (base:Option Addr) (cap:Nat) (w:World) (_hs:s.length≤100000000) (_hn1:n≤9223372036854775807) (hc:kids.length≤cap) (hmx:cap≤maxLen) (hd:dpL kids≤N) (hr:rgL kids=true) (hln:lnL kids≤1000000000000) (htl:∀y∈kids,(txE y).length≤lnE y) (hkid:∀i x,kids[i]?=some x→∃b o a1 a2 a3 a4 a5 a6 a7,base=some ⟨b,o,none⟩∧b<w.heap.size∧b<w.heap.size∧EzIn w.heap.size w x (ezV a1 a2 a3 a4 a5 a6 a7)∧w.cell? ⟨b,o+i*5,none⟩=some (.int .i64 a1)∧w.cell? ⟨b,o+i*5+1,none⟩=some (.string (strB a2))∧w.cell? ⟨b,o+i*5+2,none⟩=some (.int .i64 a3)∧w.cell? ⟨b,o+i*5+3,none⟩=some (.slice a4 a5 a6)∧w.cell? ⟨b,o+i*5+4,none⟩=some (.int .i64 a7)) (_hrk:rgK 10 s n kids.length=true) :
  Calls Tryz.prog 55 #[ezV 10 s n base kids.length cap line] w fun e w'=>e=.returned (.string (strB (txK 10 s n kids (txL kids))))∧Below w.heap.size w w':=by
 obtain ⟨w1,hw1⟩:∃w1,w1=w.alloc (ezO 10 s n base kids.length cap line):=⟨_,rfl⟩
 have hb1:Below w.heap.size w w1:=by rw [hw1];exact (Below.refl _ w).alloc (Nat.le_refl _) _
 have p1:w1.heap[w.heap.size]?=some (ezO 10 s n base kids.length cap line):=by rw [hw1];exact World.alloc_heap_new w _
 have hsz1:w1.heap.size=w.heap.size+1:=by rw [hw1];simp
 obtain ⟨c0,c1,c2,c3,c4⟩:=cellsZ p1
 have HB1:Hid (Below w.heap.size w w1):=hb1
 have HP1:Hid (w1.heap[w.heap.size]?=some (ezO 10 s n base kids.length cap line)):=p1
 have hw1':=hw1.symm
 have HC:Hid (∀W,Below w1.heap.size w1 W→Calls Tryz.prog 99 #[.slice base kids.length cap] W fun e w'=>e=.returned (.string (strB (joinT (txL kids))))∧Below W.heap.size W w'):=fun W hW=>by
  have hbW:=below_via' hb1 hW
  refine listR_any N hT kids base cap W hc hmx hd hr hln htl fun i x hx=>?_
  obtain ⟨b,o,a1,a2,a3,a4,a5,a6,a7,e,hb,hlt,hxy,m0,m1,m2,m3,m4⟩:=hkid i x hx
  have hlt2:b<W.heap.size:=Nat.lt_of_lt_of_le hlt hbW.size
  exact ⟨b,o,a1,a2,a3,a4,a5,a6,a7,e,hlt2,hlt2,(hxy.kept hbW).wide hbW.size,(hbW.cell (p:=⟨b,o+i*5,none⟩) hlt).trans m0,(hbW.cell (p:=⟨b,o+i*5+1,none⟩) hlt).trans m1,(hbW.cell (p:=⟨b,o+i*5+2,none⟩) hlt).trans m2,(hbW.cell (p:=⟨b,o+i*5+3,none⟩) hlt).trans m3,(hbW.cell (p:=⟨b,o+i*5+4,none⟩) hlt).trans m4⟩
 have hJ:(joinT (txL kids)).length≤1000000000000:=by
  have:=joinT_len kids htl (txL kids).length
  rw [List.take_length] at this
  omega
 have HV:Hid (txK 10 s n kids (txL kids)=[91]++joinT (txL kids)++[93]):=show _=_ by simp [txK]
 have HLT:Hid (w.heap.size<w1.heap.size):=show _<_ by omega
 generalize txK 10 s n kids (txL kids)=R at *
 generalize joinT (txL kids)=J at *
 generalize kids.length=m at *
 clear hb1 p1 hw1 hc hmx hd hr htl hkid _hrk hT hsz1 hln
 have cl:=HC.out w1 (Below.refl _ _)
 clear HC HP1 HLT
 go_enter Tryz.func55,Tryz.ntmps55
 go_wp2_with fail
 refine cl.mono ?_
 clear cl c0 c1 c2 c3 c4
 rintro e w2 ⟨rfl,hb2⟩
 have HB2:Hid (Below w.heap.size w w2):=below_via' HB1.out hb2
 clear hb2
 go_wp2
 exact bodyPost_ret (v:=.string (⟨#[91]⟩++strB J++⟨#[93]⟩)) (by simp [results,Tryz.results55,go_sem]) rfl ⟨by rw [HV.out];exact congrArg (fun b=>Ending.returned (.string b)) (by apply ByteArray.ext;unfold strB;simp),HB2.out⟩
set_option maxHeartbeats 8000000 in
theorem textK5 (N:Nat) (hT:TextW N) (s:List UInt8) (n:Int) (kids:List Ez) (line:Int) (base:Option Addr) (cap:Nat) (w:World) (hs:s.length≤100000000) (_hn1:n≤9223372036854775807) (hc:kids.length≤cap) (hmx:cap≤maxLen) (hd:dpL kids≤N) (hr:rgL kids=true) (hln:lnL kids≤1000000000000) (htl:∀y∈kids,(txE y).length≤lnE y) (hkid:∀i x,kids[i]?=some x→∃b o a1 a2 a3 a4 a5 a6 a7,base=some ⟨b,o,none⟩∧b<w.heap.size∧b<w.heap.size∧EzIn w.heap.size w x (ezV a1 a2 a3 a4 a5 a6 a7)∧w.cell? ⟨b,o+i*5,none⟩=some (.int .i64 a1)∧w.cell? ⟨b,o+i*5+1,none⟩=some (.string (strB a2))∧w.cell? ⟨b,o+i*5+2,none⟩=some (.int .i64 a3)∧w.cell? ⟨b,o+i*5+3,none⟩=some (.slice a4 a5 a6)∧w.cell? ⟨b,o+i*5+4,none⟩=some (.int .i64 a7)) (_hrk:rgK 5 s n kids.length=true) :
  Calls Tryz.prog 55 #[ezV 5 s n base kids.length cap line] w fun e w'=>e=.returned (.string (strB (txK 5 s n kids (txL kids))))∧Below w.heap.size w w':=by
 obtain ⟨w1,hw1⟩:∃w1,w1=w.alloc (ezO 5 s n base kids.length cap line):=⟨_,rfl⟩
 have hb1:Below w.heap.size w w1:=by rw [hw1];exact (Below.refl _ w).alloc (Nat.le_refl _) _
 have p1:w1.heap[w.heap.size]?=some (ezO 5 s n base kids.length cap line):=by rw [hw1];exact World.alloc_heap_new w _
 have hsz1:w1.heap.size=w.heap.size+1:=by rw [hw1];simp
 obtain ⟨c0,c1,c2,c3,c4⟩:=cellsZ p1
 have HB1:Hid (Below w.heap.size w w1):=hb1
 have HP1:Hid (w1.heap[w.heap.size]?=some (ezO 5 s n base kids.length cap line)):=p1
 have hw1':=hw1.symm
 have HC:Hid (∀W,Below w1.heap.size w1 W→Calls Tryz.prog 99 #[.slice base kids.length cap] W fun e w'=>e=.returned (.string (strB (joinT (txL kids))))∧Below W.heap.size W w'):=fun W hW=>by
  have hbW:=below_via' hb1 hW
  refine listR_any N hT kids base cap W hc hmx hd hr hln htl fun i x hx=>?_
  obtain ⟨b,o,a1,a2,a3,a4,a5,a6,a7,e,hb,hlt,hxy,m0,m1,m2,m3,m4⟩:=hkid i x hx
  have hlt2:b<W.heap.size:=Nat.lt_of_lt_of_le hlt hbW.size
  exact ⟨b,o,a1,a2,a3,a4,a5,a6,a7,e,hlt2,hlt2,(hxy.kept hbW).wide hbW.size,(hbW.cell (p:=⟨b,o+i*5,none⟩) hlt).trans m0,(hbW.cell (p:=⟨b,o+i*5+1,none⟩) hlt).trans m1,(hbW.cell (p:=⟨b,o+i*5+2,none⟩) hlt).trans m2,(hbW.cell (p:=⟨b,o+i*5+3,none⟩) hlt).trans m3,(hbW.cell (p:=⟨b,o+i*5+4,none⟩) hlt).trans m4⟩
 have hJ:(joinT (txL kids)).length≤1000000000000:=by
  have:=joinT_len kids htl (txL kids).length
  rw [List.take_length] at this
  omega
 have HV:Hid (txK 5 s n kids (txL kids)=s++[40]++joinT (txL kids)++[41]):=show _=_ by simp [txK]
 have HLT:Hid (w.heap.size<w1.heap.size):=show _<_ by omega
 generalize txK 5 s n kids (txL kids)=R at *
 generalize joinT (txL kids)=J at *
 generalize kids.length=m at *
 clear hb1 p1 hw1 hc hmx hd hr htl hkid _hrk hT hsz1 hln
 have HD:Hid (Below w1.heap.size w1 w1.drew):=(Below.refl _ _).drew
 go_enter Tryz.func55,Tryz.ntmps55
 go_wp2_with fail
 have z1:∀c:ClsP (fun W=>Below w1.heap.size w1 W),c.1.cell? ⟨w.heap.size,1,none⟩=some (.string (strB s)):=fun c=>(cellsZ ((c.2.block w.heap.size HLT.out).trans HP1.out)).2.1
 have z3:∀c:ClsP (fun W=>Below w1.heap.size w1 W),c.1.cell? ⟨w.heap.size,3,none⟩=some (.slice base m cap):=fun c=>(cellsZ ((c.2.block w.heap.size HLT.out).trans HP1.out)).2.2.2.1
 refine mix_begin (n:=9) (S:=fun w'=>∃c:ClsP (fun W=>Below w1.heap.size w1 W),w'=c.1) (by kernel_rfl) rfl rfl ?_
 refine mix_seg (fuel:=4) (fuel':=9) (idx:=[0,1,2,3,4]) (by decide +kernel) rfl rfl rfl (fun _ _ _ _ _ h=>h) ⟨⟨w1.drew,HD.out⟩,rfl⟩ ?_
 show wpQuiet _ _ _ _ [_,_,_,_,_] _
 iterate 5 (go_big_quiet_step (exact rfl))
 refine wpQuiet_nil ?_
 refine mix_loud (fuel:=3) (fuel':=4) (i:=5) rfl (by decide +kernel) rfl rfl (by rfl) ?_
 intro K hK
 go_simp
 refine (HC.out w1.drew HD.out).mono ?_
 rintro e w2 ⟨rfl,hb2⟩
 have HE2:Hid (Below w1.heap.size w1 w2):=below_via' HD.out hb2
 clear hb2
 (try go_simp)
 refine hK.out _ _ ⟨⟨w2,HE2.out⟩,rfl⟩ ?_
 clear hK K
 refine mix_seg (fuel:=0) (fuel':=3) (idx:=[6,7,8]) (by decide +kernel) rfl rfl rfl (fun _ _ _ _ _ h=>h) ⟨⟨w2,HE2.out⟩,rfl⟩ ?_
 show wpQuiet _ _ _ _ [_,_,_] _
 iterate 3 (go_big_quiet_step (exact rfl))
 refine wpQuiet_nil ?_
 refine mix_done (by decide +kernel) ?_
 have HBZ:Hid (Below w.heap.size w w2):=below_via' HB1.out HE2.out
 clear z1 z3 HC HP1 HLT HD HE2 c0 c1 c2 c3 c4
 go_wp2
 exact bodyPost_ret (v:=.string (strB s++⟨#[40]⟩++strB J++⟨#[41]⟩)) (by simp [results,Tryz.results55,go_sem]) rfl ⟨by rw [HV.out];exact congrArg (fun b=>Ending.returned (.string b)) (by apply ByteArray.ext;unfold strB;simp),HBZ.out⟩
set_option maxHeartbeats 8000000 in
theorem textK11 (N:Nat) (hT:TextW N) (s:List UInt8) (n:Int) (kids:List Ez) (line:Int) (base:Option Addr) (cap:Nat) (w:World) (hs:s.length≤100000000) (_hn1:n≤9223372036854775807) (hc:kids.length≤cap) (hmx:cap≤maxLen) (hd:dpL kids≤N) (hr:rgL kids=true) (hln:lnL kids≤1000000000000) (htl:∀y∈kids,(txE y).length≤lnE y) (hkid:∀i x,kids[i]?=some x→∃b o a1 a2 a3 a4 a5 a6 a7,base=some ⟨b,o,none⟩∧b<w.heap.size∧b<w.heap.size∧EzIn w.heap.size w x (ezV a1 a2 a3 a4 a5 a6 a7)∧w.cell? ⟨b,o+i*5,none⟩=some (.int .i64 a1)∧w.cell? ⟨b,o+i*5+1,none⟩=some (.string (strB a2))∧w.cell? ⟨b,o+i*5+2,none⟩=some (.int .i64 a3)∧w.cell? ⟨b,o+i*5+3,none⟩=some (.slice a4 a5 a6)∧w.cell? ⟨b,o+i*5+4,none⟩=some (.int .i64 a7)) (_hrk:rgK 11 s n kids.length=true) :
  Calls Tryz.prog 55 #[ezV 11 s n base kids.length cap line] w fun e w'=>e=.returned (.string (strB (txK 11 s n kids (txL kids))))∧Below w.heap.size w w':=by
 obtain ⟨w1,hw1⟩:∃w1,w1=w.alloc (ezO 11 s n base kids.length cap line):=⟨_,rfl⟩
 have hb1:Below w.heap.size w w1:=by rw [hw1];exact (Below.refl _ w).alloc (Nat.le_refl _) _
 have p1:w1.heap[w.heap.size]?=some (ezO 11 s n base kids.length cap line):=by rw [hw1];exact World.alloc_heap_new w _
 have hsz1:w1.heap.size=w.heap.size+1:=by rw [hw1];simp
 obtain ⟨c0,c1,c2,c3,c4⟩:=cellsZ p1
 have HB1:Hid (Below w.heap.size w w1):=hb1
 have HP1:Hid (w1.heap[w.heap.size]?=some (ezO 11 s n base kids.length cap line)):=p1
 have hw1':=hw1.symm
 have HC:Hid (∀W,Below w1.heap.size w1 W→Calls Tryz.prog 99 #[.slice base kids.length cap] W fun e w'=>e=.returned (.string (strB (joinT (txL kids))))∧Below W.heap.size W w'):=fun W hW=>by
  have hbW:=below_via' hb1 hW
  refine listR_any N hT kids base cap W hc hmx hd hr hln htl fun i x hx=>?_
  obtain ⟨b,o,a1,a2,a3,a4,a5,a6,a7,e,hb,hlt,hxy,m0,m1,m2,m3,m4⟩:=hkid i x hx
  have hlt2:b<W.heap.size:=Nat.lt_of_lt_of_le hlt hbW.size
  exact ⟨b,o,a1,a2,a3,a4,a5,a6,a7,e,hlt2,hlt2,(hxy.kept hbW).wide hbW.size,(hbW.cell (p:=⟨b,o+i*5,none⟩) hlt).trans m0,(hbW.cell (p:=⟨b,o+i*5+1,none⟩) hlt).trans m1,(hbW.cell (p:=⟨b,o+i*5+2,none⟩) hlt).trans m2,(hbW.cell (p:=⟨b,o+i*5+3,none⟩) hlt).trans m3,(hbW.cell (p:=⟨b,o+i*5+4,none⟩) hlt).trans m4⟩
 have hJ:(joinT (txL kids)).length≤1000000000000:=by
  have:=joinT_len kids htl (txL kids).length
  rw [List.take_length] at this
  omega
 have HV:Hid (txK 11 s n kids (txL kids)=[110,101,119,32]++s++[40]++joinT (txL kids)++[41]):=show _=_ by simp [txK]
 have HLT:Hid (w.heap.size<w1.heap.size):=show _<_ by omega
 generalize txK 11 s n kids (txL kids)=R at *
 generalize joinT (txL kids)=J at *
 generalize kids.length=m at *
 clear hb1 p1 hw1 hc hmx hd hr htl hkid _hrk hT hsz1 hln
 have HD:Hid (Below w1.heap.size w1 w1.drew):=(Below.refl _ _).drew
 go_enter Tryz.func55,Tryz.ntmps55
 go_wp2_with fail
 have z1:∀c:ClsP (fun W=>Below w1.heap.size w1 W),c.1.cell? ⟨w.heap.size,1,none⟩=some (.string (strB s)):=fun c=>(cellsZ ((c.2.block w.heap.size HLT.out).trans HP1.out)).2.1
 have z3:∀c:ClsP (fun W=>Below w1.heap.size w1 W),c.1.cell? ⟨w.heap.size,3,none⟩=some (.slice base m cap):=fun c=>(cellsZ ((c.2.block w.heap.size HLT.out).trans HP1.out)).2.2.2.1
 refine mix_begin (n:=10) (S:=fun w'=>∃c:ClsP (fun W=>Below w1.heap.size w1 W),w'=c.1) (by kernel_rfl) rfl rfl ?_
 refine mix_seg (fuel:=4) (fuel':=10) (idx:=[0,1,2,3,4,5]) (by decide +kernel) rfl rfl rfl (fun _ _ _ _ _ h=>h) ⟨⟨w1.drew,HD.out⟩,rfl⟩ ?_
 show wpQuiet _ _ _ _ [_,_,_,_,_,_] _
 iterate 6 (go_big_quiet_step (exact rfl))
 refine wpQuiet_nil ?_
 refine mix_loud (fuel:=3) (fuel':=4) (i:=6) rfl (by decide +kernel) rfl rfl (by rfl) ?_
 intro K hK
 go_simp
 refine (HC.out w1.drew HD.out).mono ?_
 rintro e w2 ⟨rfl,hb2⟩
 have HE2:Hid (Below w1.heap.size w1 w2):=below_via' HD.out hb2
 clear hb2
 (try go_simp)
 refine hK.out _ _ ⟨⟨w2,HE2.out⟩,rfl⟩ ?_
 clear hK K
 refine mix_seg (fuel:=0) (fuel':=3) (idx:=[7,8,9]) (by decide +kernel) rfl rfl rfl (fun _ _ _ _ _ h=>h) ⟨⟨w2,HE2.out⟩,rfl⟩ ?_
 show wpQuiet _ _ _ _ [_,_,_] _
 iterate 3 (go_big_quiet_step (exact rfl))
 refine wpQuiet_nil ?_
 refine mix_done (by decide +kernel) ?_
 have HBZ:Hid (Below w.heap.size w w2):=below_via' HB1.out HE2.out
 clear z1 z3 HC HP1 HLT HD HE2 c0 c1 c2 c3 c4
 go_wp2
 exact bodyPost_ret (v:=.string (⟨#[110,101,119,32]⟩++strB s++⟨#[40]⟩++strB J++⟨#[41]⟩)) (by simp [results,Tryz.results55,go_sem]) rfl ⟨by rw [HV.out];exact congrArg (fun b=>Ending.returned (.string b)) (by apply ByteArray.ext;unfold strB;simp),HBZ.out⟩
set_option maxHeartbeats 8000000 in
theorem textK6 (N:Nat) (hT:TextW N) (s:List UInt8) (n:Int) (kids:List Ez) (line:Int) (base:Option Addr) (cap:Nat) (w:World) (hs:s.length≤100000000) (_hn1:n≤9223372036854775807) (hc:kids.length≤cap) (_hmx:cap≤maxLen) (hd:dpL kids≤N) (hr:rgL kids=true) (hln:lnL kids≤1000000000000) (htl:∀y∈kids,(txE y).length≤lnE y) (hkid:∀i x,kids[i]?=some x→∃b o a1 a2 a3 a4 a5 a6 a7,base=some ⟨b,o,none⟩∧b<w.heap.size∧b<w.heap.size∧EzIn w.heap.size w x (ezV a1 a2 a3 a4 a5 a6 a7)∧w.cell? ⟨b,o+i*5,none⟩=some (.int .i64 a1)∧w.cell? ⟨b,o+i*5+1,none⟩=some (.string (strB a2))∧w.cell? ⟨b,o+i*5+2,none⟩=some (.int .i64 a3)∧w.cell? ⟨b,o+i*5+3,none⟩=some (.slice a4 a5 a6)∧w.cell? ⟨b,o+i*5+4,none⟩=some (.int .i64 a7)) (hrk:rgK 6 s n kids.length=true) :
  Calls Tryz.prog 55 #[ezV 6 s n base kids.length cap line] w fun e w'=>e=.returned (.string (strB (txK 6 s n kids (txL kids))))∧Below w.heap.size w w':=by
 obtain ⟨w1,hw1⟩:∃w1,w1=w.alloc (ezO 6 s n base kids.length cap line):=⟨_,rfl⟩
 have hb1:Below w.heap.size w w1:=by rw [hw1];exact (Below.refl _ w).alloc (Nat.le_refl _) _
 have p1:w1.heap[w.heap.size]?=some (ezO 6 s n base kids.length cap line):=by rw [hw1];exact World.alloc_heap_new w _
 have hsz1:w1.heap.size=w.heap.size+1:=by rw [hw1];simp
 obtain ⟨c0,c1,c2,c3,c4⟩:=cellsZ p1
 have HB1:Hid (Below w.heap.size w w1):=hb1
 have HP1:Hid (w1.heap[w.heap.size]?=some (ezO 6 s n base kids.length cap line)):=p1
 have hw1':=hw1.symm
 have hm:kids.length=1:=by
  simp [rgK] at hrk
  first | exact hrk.2 | exact hrk.1.2
 obtain ⟨x,rfl⟩:=List.length_eq_one_iff.1 hm
 obtain ⟨b,o,g01,g02,g03,g04,g05,g06,g07,hbase0,hcl0,htl0,ct0,cw0⟩:=kidR hT hb1 hd hr hln htl hkid 0 x rfl
 subst hbase0
 have HV:Hid (txK 6 s n [x] (txL [x])=s++withinT x 7 (txE x)):=show _=_ by simp [txK,txL]
 have HLT:Hid (w.heap.size<w1.heap.size):=show _<_ by omega
 have HCL0:Hid (∀W,Below w1.heap.size w1 W→W.cell? ⟨b,o+0*5,none⟩=some (.int .i64 g01)∧W.cell? ⟨b,o+0*5+1,none⟩=some (.string (strB g02))∧W.cell? ⟨b,o+0*5+2,none⟩=some (.int .i64 g03)∧W.cell? ⟨b,o+0*5+3,none⟩=some (.slice g04 g05 g06)∧W.cell? ⟨b,o+0*5+4,none⟩=some (.int .i64 g07)):=hcl0
 have HW0:Hid (∀W,Below w1.heap.size w1 W→Calls Tryz.prog 100 #[ezV g01 g02 g03 g04 g05 g06 g07,.int .i64 (6)] W fun e w'=>e=.returned (.string (strB (withinT x (7) (txE x))))∧Below W.heap.size W w'):=fun W hW=>cw0 W (7) (6) hW (by omega) (by omega)
 have hq0:(withinT x (7) (txE x)).length≤1000000000010:=Nat.le_trans (withinT_len _ _ _) (by omega)
 generalize withinT x (7) (txE x)=X0 at *
 have hw1x:w.alloc (ezO 6 s n (some ⟨b,o,none⟩) 1 cap line)=w1:=hw1'
 clear hw1'
 clear hb1 p1 hw1 hc _hmx hd hr htl hkid hrk hT hsz1 hln hm hcl0 ct0 cw0
 have HD:Hid (Below w1.heap.size w1 w1.drew):=(Below.refl _ _).drew
 go_enter Tryz.func55,Tryz.ntmps55
 go_wp2_with fail
 have z1:∀c:ClsP (fun W=>Below w1.heap.size w1 W),c.1.cell? ⟨w.heap.size,1,none⟩=some (.string (strB s)):=fun c=>(cellsZ ((c.2.block w.heap.size HLT.out).trans HP1.out)).2.1
 have z3:∀c:ClsP (fun W=>Below w1.heap.size w1 W),c.1.cell? ⟨w.heap.size,3,none⟩=some (.slice (some ⟨b,o,none⟩) 1 cap):=fun c=>(cellsZ ((c.2.block w.heap.size HLT.out).trans HP1.out)).2.2.2.1
 have y00:∀c:ClsP (fun W=>Below w1.heap.size w1 W),c.1.cell? ⟨b,o,none⟩=some (.int .i64 g01):=fun c=>by have:=(HCL0.out c.1 c.2).1;simpa using this
 have y01:∀c:ClsP (fun W=>Below w1.heap.size w1 W),c.1.cell? ⟨b,o+1,none⟩=some (.string (strB g02)):=fun c=>by have:=(HCL0.out c.1 c.2).2.1;simpa using this
 have y02:∀c:ClsP (fun W=>Below w1.heap.size w1 W),c.1.cell? ⟨b,o+2,none⟩=some (.int .i64 g03):=fun c=>by have:=(HCL0.out c.1 c.2).2.2.1;simpa using this
 have y03:∀c:ClsP (fun W=>Below w1.heap.size w1 W),c.1.cell? ⟨b,o+3,none⟩=some (.slice g04 g05 g06):=fun c=>by have:=(HCL0.out c.1 c.2).2.2.2.1;simpa using this
 have y04:∀c:ClsP (fun W=>Below w1.heap.size w1 W),c.1.cell? ⟨b,o+4,none⟩=some (.int .i64 g07):=fun c=>by have:=(HCL0.out c.1 c.2).2.2.2.2;simpa using this
 refine mix_begin (n:=9) (S:=fun w'=>∃c:ClsP (fun W=>Below w1.heap.size w1 W),w'=c.1) (by kernel_rfl) rfl rfl ?_
 refine mix_seg (fuel:=3) (fuel':=9) (idx:=[0,1,2,3,4,5]) (by decide +kernel) rfl rfl rfl (fun _ _ _ _ _ h=>h) ⟨⟨w1.drew,HD.out⟩,rfl⟩ ?_
 show wpQuiet _ _ _ _ [_,_,_,_,_,_] _
 iterate 6 (go_big_quiet_step (exact rfl))
 refine wpQuiet_nil ?_
 refine mix_loud (fuel:=2) (fuel':=3) (i:=6) rfl (by decide +kernel) rfl rfl (by rfl) ?_
 intro K hK
 go_simp
 refine (HW0.out w1.drew HD.out).mono ?_
 rintro e w2 ⟨rfl,hb2⟩
 have HE2:Hid (Below w1.heap.size w1 w2):=below_via' HD.out hb2
 clear hb2
 (try go_simp)
 refine hK.out _ _ ⟨⟨w2,HE2.out⟩,rfl⟩ ?_
 clear hK K
 refine mix_seg (fuel:=0) (fuel':=2) (idx:=[7,8]) (by decide +kernel) rfl rfl rfl (fun _ _ _ _ _ h=>h) ⟨⟨w2,HE2.out⟩,rfl⟩ ?_
 show wpQuiet _ _ _ _ [_,_] _
 iterate 2 (go_big_quiet_step (exact rfl))
 refine wpQuiet_nil ?_
 refine mix_done (by decide +kernel) ?_
 have HBZ:Hid (Below w.heap.size w w2):=below_via' HB1.out HE2.out
 clear z1 z3 y00 y01 y02 y03 y04 HW0 HCL0 HP1 HLT HD HE2 c0 c1 c2 c3 c4
 go_wp2
 exact bodyPost_ret (v:=.string (strB s++strB X0)) (by simp [results,Tryz.results55,go_sem]) rfl ⟨by rw [HV.out];exact congrArg (fun b=>Ending.returned (.string b)) (by apply ByteArray.ext;unfold strB;simp),HBZ.out⟩
set_option maxHeartbeats 8000000 in
theorem textK9 (N:Nat) (hT:TextW N) (s:List UInt8) (n:Int) (kids:List Ez) (line:Int) (base:Option Addr) (cap:Nat) (w:World) (hs:s.length≤100000000) (_hn1:n≤9223372036854775807) (hc:kids.length≤cap) (_hmx:cap≤maxLen) (hd:dpL kids≤N) (hr:rgL kids=true) (hln:lnL kids≤1000000000000) (htl:∀y∈kids,(txE y).length≤lnE y) (hkid:∀i x,kids[i]?=some x→∃b o a1 a2 a3 a4 a5 a6 a7,base=some ⟨b,o,none⟩∧b<w.heap.size∧b<w.heap.size∧EzIn w.heap.size w x (ezV a1 a2 a3 a4 a5 a6 a7)∧w.cell? ⟨b,o+i*5,none⟩=some (.int .i64 a1)∧w.cell? ⟨b,o+i*5+1,none⟩=some (.string (strB a2))∧w.cell? ⟨b,o+i*5+2,none⟩=some (.int .i64 a3)∧w.cell? ⟨b,o+i*5+3,none⟩=some (.slice a4 a5 a6)∧w.cell? ⟨b,o+i*5+4,none⟩=some (.int .i64 a7)) (hrk:rgK 9 s n kids.length=true) :
  Calls Tryz.prog 55 #[ezV 9 s n base kids.length cap line] w fun e w'=>e=.returned (.string (strB (txK 9 s n kids (txL kids))))∧Below w.heap.size w w':=by
 obtain ⟨w1,hw1⟩:∃w1,w1=w.alloc (ezO 9 s n base kids.length cap line):=⟨_,rfl⟩
 have hb1:Below w.heap.size w w1:=by rw [hw1];exact (Below.refl _ w).alloc (Nat.le_refl _) _
 have p1:w1.heap[w.heap.size]?=some (ezO 9 s n base kids.length cap line):=by rw [hw1];exact World.alloc_heap_new w _
 have hsz1:w1.heap.size=w.heap.size+1:=by rw [hw1];simp
 obtain ⟨c0,c1,c2,c3,c4⟩:=cellsZ p1
 have HB1:Hid (Below w.heap.size w w1):=hb1
 have HP1:Hid (w1.heap[w.heap.size]?=some (ezO 9 s n base kids.length cap line)):=p1
 have hw1':=hw1.symm
 have hm:kids.length=1:=by
  simp [rgK] at hrk
  first | exact hrk.2 | exact hrk.1.2
 obtain ⟨x,rfl⟩:=List.length_eq_one_iff.1 hm
 obtain ⟨b,o,g01,g02,g03,g04,g05,g06,g07,hbase0,hcl0,htl0,ct0,cw0⟩:=kidR hT hb1 hd hr hln htl hkid 0 x rfl
 subst hbase0
 have HV:Hid (txK 9 s n [x] (txL [x])=withinT x 8 (txE x)++[46]++s):=show _=_ by simp [txK,txL]
 have HLT:Hid (w.heap.size<w1.heap.size):=show _<_ by omega
 have HCL0:Hid (∀W,Below w1.heap.size w1 W→W.cell? ⟨b,o+0*5,none⟩=some (.int .i64 g01)∧W.cell? ⟨b,o+0*5+1,none⟩=some (.string (strB g02))∧W.cell? ⟨b,o+0*5+2,none⟩=some (.int .i64 g03)∧W.cell? ⟨b,o+0*5+3,none⟩=some (.slice g04 g05 g06)∧W.cell? ⟨b,o+0*5+4,none⟩=some (.int .i64 g07)):=hcl0
 have HW0:Hid (∀W,Below w1.heap.size w1 W→Calls Tryz.prog 100 #[ezV g01 g02 g03 g04 g05 g06 g07,.int .i64 (7)] W fun e w'=>e=.returned (.string (strB (withinT x (8) (txE x))))∧Below W.heap.size W w'):=fun W hW=>cw0 W (8) (7) hW (by omega) (by omega)
 have hq0:(withinT x (8) (txE x)).length≤1000000000010:=Nat.le_trans (withinT_len _ _ _) (by omega)
 generalize withinT x (8) (txE x)=X0 at *
 have hw1x:w.alloc (ezO 9 s n (some ⟨b,o,none⟩) 1 cap line)=w1:=hw1'
 clear hw1'
 clear hb1 p1 hw1 hc _hmx hd hr htl hkid hrk hT hsz1 hln hm hcl0 ct0 cw0
 have HD:Hid (Below w1.heap.size w1 w1.drew):=(Below.refl _ _).drew
 go_enter Tryz.func55,Tryz.ntmps55
 go_wp2_with fail
 have z1:∀c:ClsP (fun W=>Below w1.heap.size w1 W),c.1.cell? ⟨w.heap.size,1,none⟩=some (.string (strB s)):=fun c=>(cellsZ ((c.2.block w.heap.size HLT.out).trans HP1.out)).2.1
 have z3:∀c:ClsP (fun W=>Below w1.heap.size w1 W),c.1.cell? ⟨w.heap.size,3,none⟩=some (.slice (some ⟨b,o,none⟩) 1 cap):=fun c=>(cellsZ ((c.2.block w.heap.size HLT.out).trans HP1.out)).2.2.2.1
 have y00:∀c:ClsP (fun W=>Below w1.heap.size w1 W),c.1.cell? ⟨b,o,none⟩=some (.int .i64 g01):=fun c=>by have:=(HCL0.out c.1 c.2).1;simpa using this
 have y01:∀c:ClsP (fun W=>Below w1.heap.size w1 W),c.1.cell? ⟨b,o+1,none⟩=some (.string (strB g02)):=fun c=>by have:=(HCL0.out c.1 c.2).2.1;simpa using this
 have y02:∀c:ClsP (fun W=>Below w1.heap.size w1 W),c.1.cell? ⟨b,o+2,none⟩=some (.int .i64 g03):=fun c=>by have:=(HCL0.out c.1 c.2).2.2.1;simpa using this
 have y03:∀c:ClsP (fun W=>Below w1.heap.size w1 W),c.1.cell? ⟨b,o+3,none⟩=some (.slice g04 g05 g06):=fun c=>by have:=(HCL0.out c.1 c.2).2.2.2.1;simpa using this
 have y04:∀c:ClsP (fun W=>Below w1.heap.size w1 W),c.1.cell? ⟨b,o+4,none⟩=some (.int .i64 g07):=fun c=>by have:=(HCL0.out c.1 c.2).2.2.2.2;simpa using this
 refine mix_begin (n:=10) (S:=fun w'=>∃c:ClsP (fun W=>Below w1.heap.size w1 W),w'=c.1) (by kernel_rfl) rfl rfl ?_
 refine mix_seg (fuel:=4) (fuel':=10) (idx:=[0,1,2,3,6,7]) (by decide +kernel) rfl rfl rfl (fun _ _ _ _ _ h=>h) ⟨⟨w1.drew,HD.out⟩,rfl⟩ ?_
 show wpQuiet _ _ _ _ [_,_,_,_,_,_] _
 iterate 6 (go_big_quiet_step (exact rfl))
 refine wpQuiet_nil ?_
 refine mix_loud (fuel:=3) (fuel':=4) (i:=4) rfl (by decide +kernel) rfl rfl (by rfl) ?_
 intro K hK
 go_simp
 refine (HW0.out w1.drew HD.out).mono ?_
 rintro e w2 ⟨rfl,hb2⟩
 have HE2:Hid (Below w1.heap.size w1 w2):=below_via' HD.out hb2
 clear hb2
 (try go_simp)
 refine hK.out _ _ ⟨⟨w2,HE2.out⟩,rfl⟩ ?_
 clear hK K
 refine mix_seg (fuel:=0) (fuel':=3) (idx:=[5,8,9]) (by decide +kernel) rfl rfl rfl (fun _ _ _ _ _ h=>h) ⟨⟨w2,HE2.out⟩,rfl⟩ ?_
 show wpQuiet _ _ _ _ [_,_,_] _
 iterate 3 (go_big_quiet_step (exact rfl))
 refine wpQuiet_nil ?_
 refine mix_done (by decide +kernel) ?_
 have HBZ:Hid (Below w.heap.size w w2):=below_via' HB1.out HE2.out
 clear z1 z3 y00 y01 y02 y03 y04 HW0 HCL0 HP1 HLT HD HE2 c0 c1 c2 c3 c4
 go_wp2
 exact bodyPost_ret (v:=.string (strB X0++⟨#[46]⟩++strB s)) (by simp [results,Tryz.results55,go_sem]) rfl ⟨by rw [HV.out];exact congrArg (fun b=>Ending.returned (.string b)) (by apply ByteArray.ext;unfold strB;simp),HBZ.out⟩
set_option maxHeartbeats 8000000 in
theorem textK8 (N:Nat) (hT:TextW N) (s:List UInt8) (n:Int) (kids:List Ez) (line:Int) (base:Option Addr) (cap:Nat) (w:World) (_hs:s.length≤100000000) (_hn1:n≤9223372036854775807) (hc:kids.length≤cap) (_hmx:cap≤maxLen) (hd:dpL kids≤N) (hr:rgL kids=true) (hln:lnL kids≤1000000000000) (htl:∀y∈kids,(txE y).length≤lnE y) (hkid:∀i x,kids[i]?=some x→∃b o a1 a2 a3 a4 a5 a6 a7,base=some ⟨b,o,none⟩∧b<w.heap.size∧b<w.heap.size∧EzIn w.heap.size w x (ezV a1 a2 a3 a4 a5 a6 a7)∧w.cell? ⟨b,o+i*5,none⟩=some (.int .i64 a1)∧w.cell? ⟨b,o+i*5+1,none⟩=some (.string (strB a2))∧w.cell? ⟨b,o+i*5+2,none⟩=some (.int .i64 a3)∧w.cell? ⟨b,o+i*5+3,none⟩=some (.slice a4 a5 a6)∧w.cell? ⟨b,o+i*5+4,none⟩=some (.int .i64 a7)) (hrk:rgK 8 s n kids.length=true) :
  Calls Tryz.prog 55 #[ezV 8 s n base kids.length cap line] w fun e w'=>e=.returned (.string (strB (txK 8 s n kids (txL kids))))∧Below w.heap.size w w':=by
 obtain ⟨w1,hw1⟩:∃w1,w1=w.alloc (ezO 8 s n base kids.length cap line):=⟨_,rfl⟩
 have hb1:Below w.heap.size w w1:=by rw [hw1];exact (Below.refl _ w).alloc (Nat.le_refl _) _
 have p1:w1.heap[w.heap.size]?=some (ezO 8 s n base kids.length cap line):=by rw [hw1];exact World.alloc_heap_new w _
 have hsz1:w1.heap.size=w.heap.size+1:=by rw [hw1];simp
 obtain ⟨c0,c1,c2,c3,c4⟩:=cellsZ p1
 have HB1:Hid (Below w.heap.size w w1):=hb1
 have HP1:Hid (w1.heap[w.heap.size]?=some (ezO 8 s n base kids.length cap line)):=p1
 have hw1':=hw1.symm
 have hm:kids.length=2:=by
  simp [rgK] at hrk
  first | exact hrk.2 | exact hrk.1.2
 obtain ⟨x,y,rfl⟩:∃x y,kids=[x,y]:=by match kids,hm with | [x,y],_=>exact ⟨x,y,rfl⟩
 obtain ⟨b,o,g01,g02,g03,g04,g05,g06,g07,hbase0,hcl0,htl0,ct0,cw0⟩:=kidR hT hb1 hd hr hln htl hkid 0 x rfl
 obtain ⟨b1,o1,g11,g12,g13,g14,g15,g16,g17,hbase1,hcl1,htl1,ct1,cw1⟩:=kidR hT hb1 hd hr hln htl hkid 1 y rfl
 rw [hbase0] at hbase1
 cases hbase1
 subst hbase0
 have HV:Hid (txK 8 s n [x,y] (txL [x,y])=withinT x 8 (txE x)++[91]++txE y++[93]):=show _=_ by simp [txK,txL]
 have HLT:Hid (w.heap.size<w1.heap.size):=show _<_ by omega
 have HCL0:Hid (∀W,Below w1.heap.size w1 W→W.cell? ⟨b,o+0*5,none⟩=some (.int .i64 g01)∧W.cell? ⟨b,o+0*5+1,none⟩=some (.string (strB g02))∧W.cell? ⟨b,o+0*5+2,none⟩=some (.int .i64 g03)∧W.cell? ⟨b,o+0*5+3,none⟩=some (.slice g04 g05 g06)∧W.cell? ⟨b,o+0*5+4,none⟩=some (.int .i64 g07)):=hcl0
 have HCL1:Hid (∀W,Below w1.heap.size w1 W→W.cell? ⟨b,o+1*5,none⟩=some (.int .i64 g11)∧W.cell? ⟨b,o+1*5+1,none⟩=some (.string (strB g12))∧W.cell? ⟨b,o+1*5+2,none⟩=some (.int .i64 g13)∧W.cell? ⟨b,o+1*5+3,none⟩=some (.slice g14 g15 g16)∧W.cell? ⟨b,o+1*5+4,none⟩=some (.int .i64 g17)):=hcl1
 have HW0:Hid (∀W,Below w1.heap.size w1 W→Calls Tryz.prog 100 #[ezV g01 g02 g03 g04 g05 g06 g07,.int .i64 (7)] W fun e w'=>e=.returned (.string (strB (withinT x (8) (txE x))))∧Below W.heap.size W w'):=fun W hW=>cw0 W (8) (7) hW (by omega) (by omega)
 have hq0:(withinT x (8) (txE x)).length≤1000000000010:=Nat.le_trans (withinT_len _ _ _) (by omega)
 generalize withinT x (8) (txE x)=X0 at *
 have HW1:Hid (∀W,Below w1.heap.size w1 W→Calls Tryz.prog 55 #[ezV g11 g12 g13 g14 g15 g16 g17] W fun e w'=>e=.returned (.string (strB (txE y)))∧Below W.heap.size W w'):=ct1
 generalize txE y=X1 at *
 have hw1x:w.alloc (ezO 8 s n (some ⟨b,o,none⟩) 2 cap line)=w1:=hw1'
 clear hw1'
 clear hb1 p1 hw1 hc _hmx hd hr htl hkid hrk hT hsz1 hln hm hcl0 ct0 cw0 hcl1 ct1 cw1
 have HD:Hid (Below w1.heap.size w1 w1.drew):=(Below.refl _ _).drew
 go_enter Tryz.func55,Tryz.ntmps55
 go_wp2_with fail
 have z1:∀c:ClsP (fun W=>Below w1.heap.size w1 W),c.1.cell? ⟨w.heap.size,1,none⟩=some (.string (strB s)):=fun c=>(cellsZ ((c.2.block w.heap.size HLT.out).trans HP1.out)).2.1
 have z3:∀c:ClsP (fun W=>Below w1.heap.size w1 W),c.1.cell? ⟨w.heap.size,3,none⟩=some (.slice (some ⟨b,o,none⟩) 2 cap):=fun c=>(cellsZ ((c.2.block w.heap.size HLT.out).trans HP1.out)).2.2.2.1
 have y00:∀c:ClsP (fun W=>Below w1.heap.size w1 W),c.1.cell? ⟨b,o,none⟩=some (.int .i64 g01):=fun c=>by have:=(HCL0.out c.1 c.2).1;simpa using this
 have y01:∀c:ClsP (fun W=>Below w1.heap.size w1 W),c.1.cell? ⟨b,o+1,none⟩=some (.string (strB g02)):=fun c=>by have:=(HCL0.out c.1 c.2).2.1;simpa using this
 have y02:∀c:ClsP (fun W=>Below w1.heap.size w1 W),c.1.cell? ⟨b,o+2,none⟩=some (.int .i64 g03):=fun c=>by have:=(HCL0.out c.1 c.2).2.2.1;simpa using this
 have y03:∀c:ClsP (fun W=>Below w1.heap.size w1 W),c.1.cell? ⟨b,o+3,none⟩=some (.slice g04 g05 g06):=fun c=>by have:=(HCL0.out c.1 c.2).2.2.2.1;simpa using this
 have y04:∀c:ClsP (fun W=>Below w1.heap.size w1 W),c.1.cell? ⟨b,o+4,none⟩=some (.int .i64 g07):=fun c=>by have:=(HCL0.out c.1 c.2).2.2.2.2;simpa using this
 have y10:∀c:ClsP (fun W=>Below w1.heap.size w1 W),c.1.cell? ⟨b,o+5,none⟩=some (.int .i64 g11):=fun c=>by have:=(HCL1.out c.1 c.2).1;simpa using this
 have y11:∀c:ClsP (fun W=>Below w1.heap.size w1 W),c.1.cell? ⟨b,o+5+1,none⟩=some (.string (strB g12)):=fun c=>by have:=(HCL1.out c.1 c.2).2.1;simpa using this
 have y12:∀c:ClsP (fun W=>Below w1.heap.size w1 W),c.1.cell? ⟨b,o+5+2,none⟩=some (.int .i64 g13):=fun c=>by have:=(HCL1.out c.1 c.2).2.2.1;simpa using this
 have y13:∀c:ClsP (fun W=>Below w1.heap.size w1 W),c.1.cell? ⟨b,o+5+3,none⟩=some (.slice g14 g15 g16):=fun c=>by have:=(HCL1.out c.1 c.2).2.2.2.1;simpa using this
 have y14:∀c:ClsP (fun W=>Below w1.heap.size w1 W),c.1.cell? ⟨b,o+5+4,none⟩=some (.int .i64 g17):=fun c=>by have:=(HCL1.out c.1 c.2).2.2.2.2;simpa using this
 refine mix_begin (n:=14) (S:=fun w'=>∃c:ClsP (fun W=>Below w1.heap.size w1 W),w'=c.1) (by kernel_rfl) rfl rfl ?_
 refine mix_seg (fuel:=6) (fuel':=14) (idx:=[0,1,2,3,6,7,8,9]) (by decide +kernel) rfl rfl rfl (fun _ _ _ _ _ h=>h) ⟨⟨w1.drew,HD.out⟩,rfl⟩ ?_
 show wpQuiet _ _ _ _ [_,_,_,_,_,_,_,_] _
 iterate 8 (go_big_quiet_step (exact rfl))
 refine wpQuiet_nil ?_
 refine mix_loud (fuel:=5) (fuel':=6) (i:=4) rfl (by decide +kernel) rfl rfl (by rfl) ?_
 intro K hK
 go_simp
 refine (HW0.out w1.drew HD.out).mono ?_
 rintro e w2 ⟨rfl,hb2⟩
 have HE2:Hid (Below w1.heap.size w1 w2):=below_via' HD.out hb2
 clear hb2
 (try go_simp)
 refine hK.out _ _ ⟨⟨w2,HE2.out⟩,rfl⟩ ?_
 clear hK K
 refine mix_seg (fuel:=4) (fuel':=5) (idx:=[5]) (by decide +kernel) rfl rfl rfl (fun _ _ _ _ _ h=>h) ⟨⟨w2,HE2.out⟩,rfl⟩ ?_
 show wpQuiet _ _ _ _ [_] _
 iterate 1 (go_big_quiet_step (exact rfl))
 refine wpQuiet_nil ?_
 refine mix_loud (fuel:=3) (fuel':=4) (i:=10) rfl (by decide +kernel) rfl rfl (by rfl) ?_
 intro K hK
 go_simp
 refine (HW1.out w2 HE2.out).mono ?_
 rintro e w3 ⟨rfl,hb3⟩
 have HE3:Hid (Below w1.heap.size w1 w3):=below_via' HE2.out hb3
 clear hb3
 (try go_simp)
 refine hK.out _ _ ⟨⟨w3,HE3.out⟩,rfl⟩ ?_
 clear hK K
 refine mix_seg (fuel:=0) (fuel':=3) (idx:=[11,12,13]) (by decide +kernel) rfl rfl rfl (fun _ _ _ _ _ h=>h) ⟨⟨w3,HE3.out⟩,rfl⟩ ?_
 show wpQuiet _ _ _ _ [_,_,_] _
 iterate 3 (go_big_quiet_step (exact rfl))
 refine wpQuiet_nil ?_
 refine mix_done (by decide +kernel) ?_
 have HBZ:Hid (Below w.heap.size w w3):=below_via' HB1.out HE3.out
 clear z1 z3 y00 y01 y02 y03 y04 y10 y11 y12 y13 y14 HW0 HW1 HCL0 HCL1 HP1 HLT HD HE2 HE3 c0 c1 c2 c3 c4
 go_wp2
 exact bodyPost_ret (v:=.string (strB X0++⟨#[91]⟩++strB X1++⟨#[93]⟩)) (by simp [results,Tryz.results55,go_sem]) rfl ⟨by rw [HV.out];exact congrArg (fun b=>Ending.returned (.string b)) (by apply ByteArray.ext;unfold strB;simp),HBZ.out⟩
set_option maxHeartbeats 8000000 in
theorem textK7 (N:Nat) (hT:TextW N) (s:List UInt8) (n:Int) (kids:List Ez) (line:Int) (base:Option Addr) (cap:Nat) (w:World) (hs:s.length≤100000000) (_hn1:n≤9223372036854775807) (hc:kids.length≤cap) (_hmx:cap≤maxLen) (hd:dpL kids≤N) (hr:rgL kids=true) (hln:lnL kids≤1000000000000) (htl:∀y∈kids,(txE y).length≤lnE y) (hkid:∀i x,kids[i]?=some x→∃b o a1 a2 a3 a4 a5 a6 a7,base=some ⟨b,o,none⟩∧b<w.heap.size∧b<w.heap.size∧EzIn w.heap.size w x (ezV a1 a2 a3 a4 a5 a6 a7)∧w.cell? ⟨b,o+i*5,none⟩=some (.int .i64 a1)∧w.cell? ⟨b,o+i*5+1,none⟩=some (.string (strB a2))∧w.cell? ⟨b,o+i*5+2,none⟩=some (.int .i64 a3)∧w.cell? ⟨b,o+i*5+3,none⟩=some (.slice a4 a5 a6)∧w.cell? ⟨b,o+i*5+4,none⟩=some (.int .i64 a7)) (hrk:rgK 7 s n kids.length=true) :
  Calls Tryz.prog 55 #[ezV 7 s n base kids.length cap line] w fun e w'=>e=.returned (.string (strB (txK 7 s n kids (txL kids))))∧Below w.heap.size w w':=by
 obtain ⟨w1,hw1⟩:∃w1,w1=w.alloc (ezO 7 s n base kids.length cap line):=⟨_,rfl⟩
 have hb1:Below w.heap.size w w1:=by rw [hw1];exact (Below.refl _ w).alloc (Nat.le_refl _) _
 have p1:w1.heap[w.heap.size]?=some (ezO 7 s n base kids.length cap line):=by rw [hw1];exact World.alloc_heap_new w _
 have hsz1:w1.heap.size=w.heap.size+1:=by rw [hw1];simp
 obtain ⟨c0,c1,c2,c3,c4⟩:=cellsZ p1
 have HB1:Hid (Below w.heap.size w w1):=hb1
 have HP1:Hid (w1.heap[w.heap.size]?=some (ezO 7 s n base kids.length cap line)):=p1
 have hw1':=hw1.symm
 have hm:kids.length=2:=by
  simp [rgK] at hrk
  first | exact hrk.2 | exact hrk.1.2
 obtain ⟨x,y,rfl⟩:∃x y,kids=[x,y]:=by match kids,hm with | [x,y],_=>exact ⟨x,y,rfl⟩
 obtain ⟨b,o,g01,g02,g03,g04,g05,g06,g07,hbase0,hcl0,htl0,ct0,cw0⟩:=kidR hT hb1 hd hr hln htl hkid 0 x rfl
 obtain ⟨b1,o1,g11,g12,g13,g14,g15,g16,g17,hbase1,hcl1,htl1,ct1,cw1⟩:=kidR hT hb1 hd hr hln htl hkid 1 y rfl
 rw [hbase0] at hbase1
 cases hbase1
 subst hbase0
 have HV:Hid (txK 7 s n [x,y] (txL [x,y])=withinT x (levelOf s) (txE x)++[32]++s++[32]++withinT y (levelOf s+1) (txE y)):=show _=_ by simp [txK,txL]
 have HLT:Hid (w.heap.size<w1.heap.size):=show _<_ by omega
 have HCL0:Hid (∀W,Below w1.heap.size w1 W→W.cell? ⟨b,o+0*5,none⟩=some (.int .i64 g01)∧W.cell? ⟨b,o+0*5+1,none⟩=some (.string (strB g02))∧W.cell? ⟨b,o+0*5+2,none⟩=some (.int .i64 g03)∧W.cell? ⟨b,o+0*5+3,none⟩=some (.slice g04 g05 g06)∧W.cell? ⟨b,o+0*5+4,none⟩=some (.int .i64 g07)):=hcl0
 have HCL1:Hid (∀W,Below w1.heap.size w1 W→W.cell? ⟨b,o+1*5,none⟩=some (.int .i64 g11)∧W.cell? ⟨b,o+1*5+1,none⟩=some (.string (strB g12))∧W.cell? ⟨b,o+1*5+2,none⟩=some (.int .i64 g13)∧W.cell? ⟨b,o+1*5+3,none⟩=some (.slice g14 g15 g16)∧W.cell? ⟨b,o+1*5+4,none⟩=some (.int .i64 g17)):=hcl1
 have hL6:=levelOf_le s
 have cl:=refLine_any s w1
 have HW0:Hid (∀W,Below w1.heap.size w1 W→Calls Tryz.prog 100 #[ezV g01 g02 g03 g04 g05 g06 g07,.int .i64 ((levelOf s:Int)-1)] W fun e w'=>e=.returned (.string (strB (withinT x (levelOf s) (txE x))))∧Below W.heap.size W w'):=fun W hW=>cw0 W (levelOf s) ((levelOf s:Int)-1) hW (by omega) (by omega)
 have hq0:(withinT x (levelOf s) (txE x)).length≤1000000000010:=Nat.le_trans (withinT_len _ _ _) (by omega)
 generalize withinT x (levelOf s) (txE x)=X0 at *
 have HW1:Hid (∀W,Below w1.heap.size w1 W→Calls Tryz.prog 100 #[ezV g11 g12 g13 g14 g15 g16 g17,.int .i64 ((levelOf s:Int)-1+1)] W fun e w'=>e=.returned (.string (strB (withinT y (levelOf s+1) (txE y))))∧Below W.heap.size W w'):=fun W hW=>cw1 W (levelOf s+1) ((levelOf s:Int)-1+1) hW (by omega) (by omega)
 have hq1:(withinT y (levelOf s+1) (txE y)).length≤1000000000010:=Nat.le_trans (withinT_len _ _ _) (by omega)
 generalize withinT y (levelOf s+1) (txE y)=X1 at *
 obtain ⟨D,hD⟩:∃D:Int,D=(levelOf s:Int)-1:=⟨_,rfl⟩
 have hD0:-1≤D:=by omega
 have hD5:D≤5:=by omega
 rw [←hD] at cl HW0 HW1
 clear hD hL6
 have hw1x:w.alloc (ezO 7 s n (some ⟨b,o,none⟩) 2 cap line)=w1:=hw1'
 clear hw1'
 clear hb1 p1 hw1 hc _hmx hd hr htl hkid hrk hT hsz1 hln hm hcl0 ct0 cw0 hcl1 ct1 cw1
 have HD0:Hid (Below w1.heap.size w1 w1):=Below.refl _ _
 go_enter Tryz.func55,Tryz.ntmps55
 go_wp2_with fail
 refine cl.mono ?_
 clear cl c0 c1 c2 c3 c4
 rintro e wL ⟨rfl,hbL⟩
 have HD:Hid (Below w1.heap.size w1 wL.drew):=hbL.drew
 clear hbL
 go_wp2_with fail
 have z1:∀c:ClsP (fun W=>Below w1.heap.size w1 W),c.1.cell? ⟨w.heap.size,1,none⟩=some (.string (strB s)):=fun c=>(cellsZ ((c.2.block w.heap.size HLT.out).trans HP1.out)).2.1
 have z3:∀c:ClsP (fun W=>Below w1.heap.size w1 W),c.1.cell? ⟨w.heap.size,3,none⟩=some (.slice (some ⟨b,o,none⟩) 2 cap):=fun c=>(cellsZ ((c.2.block w.heap.size HLT.out).trans HP1.out)).2.2.2.1
 have y00:∀c:ClsP (fun W=>Below w1.heap.size w1 W),c.1.cell? ⟨b,o,none⟩=some (.int .i64 g01):=fun c=>by have:=(HCL0.out c.1 c.2).1;simpa using this
 have y01:∀c:ClsP (fun W=>Below w1.heap.size w1 W),c.1.cell? ⟨b,o+1,none⟩=some (.string (strB g02)):=fun c=>by have:=(HCL0.out c.1 c.2).2.1;simpa using this
 have y02:∀c:ClsP (fun W=>Below w1.heap.size w1 W),c.1.cell? ⟨b,o+2,none⟩=some (.int .i64 g03):=fun c=>by have:=(HCL0.out c.1 c.2).2.2.1;simpa using this
 have y03:∀c:ClsP (fun W=>Below w1.heap.size w1 W),c.1.cell? ⟨b,o+3,none⟩=some (.slice g04 g05 g06):=fun c=>by have:=(HCL0.out c.1 c.2).2.2.2.1;simpa using this
 have y04:∀c:ClsP (fun W=>Below w1.heap.size w1 W),c.1.cell? ⟨b,o+4,none⟩=some (.int .i64 g07):=fun c=>by have:=(HCL0.out c.1 c.2).2.2.2.2;simpa using this
 have y10:∀c:ClsP (fun W=>Below w1.heap.size w1 W),c.1.cell? ⟨b,o+5,none⟩=some (.int .i64 g11):=fun c=>by have:=(HCL1.out c.1 c.2).1;simpa using this
 have y11:∀c:ClsP (fun W=>Below w1.heap.size w1 W),c.1.cell? ⟨b,o+5+1,none⟩=some (.string (strB g12)):=fun c=>by have:=(HCL1.out c.1 c.2).2.1;simpa using this
 have y12:∀c:ClsP (fun W=>Below w1.heap.size w1 W),c.1.cell? ⟨b,o+5+2,none⟩=some (.int .i64 g13):=fun c=>by have:=(HCL1.out c.1 c.2).2.2.1;simpa using this
 have y13:∀c:ClsP (fun W=>Below w1.heap.size w1 W),c.1.cell? ⟨b,o+5+3,none⟩=some (.slice g14 g15 g16):=fun c=>by have:=(HCL1.out c.1 c.2).2.2.2.1;simpa using this
 have y14:∀c:ClsP (fun W=>Below w1.heap.size w1 W),c.1.cell? ⟨b,o+5+4,none⟩=some (.int .i64 g17):=fun c=>by have:=(HCL1.out c.1 c.2).2.2.2.2;simpa using this
 refine mix_begin (n:=20) (S:=fun w'=>∃c:ClsP (fun W=>Below w1.heap.size w1 W),w'=c.1) (by kernel_rfl) rfl rfl ?_
 refine mix_seg (fuel:=7) (fuel':=20) (idx:=[0,1,2,3,4,7,8,11,12,13,14,15,16]) (by decide +kernel) rfl rfl rfl (fun _ _ _ _ _ h=>h) ⟨⟨wL.drew,HD.out⟩,rfl⟩ ?_
 show wpQuiet _ _ _ _ [_,_,_,_,_,_,_,_,_,_,_,_,_] _
 iterate 13 (go_big_quiet_step (exact rfl))
 refine wpQuiet_nil ?_
 refine mix_loud (fuel:=6) (fuel':=7) (i:=5) rfl (by decide +kernel) rfl rfl (by rfl) ?_
 intro K hK
 go_simp
 refine (HW0.out wL.drew HD.out).mono ?_
 rintro e w2 ⟨rfl,hb2⟩
 have HE2:Hid (Below w1.heap.size w1 w2):=below_via' HD.out hb2
 clear hb2
 (try go_simp)
 refine hK.out _ _ ⟨⟨w2,HE2.out⟩,rfl⟩ ?_
 clear hK K
 refine mix_seg (fuel:=3) (fuel':=6) (idx:=[6,9,10]) (by decide +kernel) rfl rfl rfl (fun _ _ _ _ _ h=>h) ⟨⟨w2,HE2.out⟩,rfl⟩ ?_
 show wpQuiet _ _ _ _ [_,_,_] _
 iterate 3 (go_big_quiet_step (exact rfl))
 refine wpQuiet_nil ?_
 refine mix_loud (fuel:=2) (fuel':=3) (i:=17) rfl (by decide +kernel) rfl rfl (by rfl) ?_
 intro K hK
 go_simp
 refine (HW1.out w2 HE2.out).mono ?_
 rintro e w3 ⟨rfl,hb3⟩
 have HE3:Hid (Below w1.heap.size w1 w3):=below_via' HE2.out hb3
 clear hb3
 (try go_simp)
 refine hK.out _ _ ⟨⟨w3,HE3.out⟩,rfl⟩ ?_
 clear hK K
 refine mix_seg (fuel:=0) (fuel':=2) (idx:=[18,19]) (by decide +kernel) rfl rfl rfl (fun _ _ _ _ _ h=>h) ⟨⟨w3,HE3.out⟩,rfl⟩ ?_
 show wpQuiet _ _ _ _ [_,_] _
 iterate 2 (go_big_quiet_step (exact rfl))
 refine wpQuiet_nil ?_
 refine mix_done (by decide +kernel) ?_
 have HBZ:Hid (Below w.heap.size w w3):=below_via' HB1.out HE3.out
 clear z1 z3 y00 y01 y02 y03 y04 y10 y11 y12 y13 y14 HW0 HW1 HCL0 HCL1 HP1 HLT HD HD0 HE2 HE3
 go_wp2
 exact bodyPost_ret (v:=.string (strB X0++⟨#[32]⟩++strB s++⟨#[32]⟩++strB X1)) (by simp [results,Tryz.results55,go_sem]) rfl ⟨by rw [HV.out];exact congrArg (fun b=>Ending.returned (.string b)) (by apply ByteArray.ext;unfold strB;simp),HBZ.out⟩
end Go.Proofs.YtghhamgealkodaaGreatDoor
