import Derived.Test.YtghhamgealkodaaGreatDoorMC45
import Derived.Test.YtghhamgealkodaaGreatDoorMC6
import Derived.Test.YtghhamgealkodaaGreatDoorMC9
import Derived.Test.YtghhamgealkodaaGreatDoorSRText2
import Derived.Test.YtghhamgealkodaaGreatDoorSRRight
import Derived.Test.YtghhamgealkodaaGreatDoorMC42
namespace Go.Proofs.YtghhamgealkodaaGreatDoor
open Go.RowKit Go.Shelf
set_option maxRecDepth 100000
theorem dpL_take (l:List Ez):∀i y,l[i]?=some y→dpL (l.take (i+1))=max (dpL (l.take i)) (dpE y):=by
 induction l with
 | nil=>intro i y h;simp at h
 | cons x xs ih =>
  intro i y h
  cases i with
  | zero =>
   simp only [List.getElem?_cons_zero,Option.some.injEq] at h
   subst h
   simp [dpL]
  | succ i =>
   have:=ih i y (by simpa using h)
   rw [List.take_succ_cons,List.take_succ_cons,dpL,dpL,this,Nat.max_assoc]
theorem dpE_kid' {k:Int} {s:List UInt8} {n:Int} {kids:List Ez} {line:Int} {N i:Nat} {y:Ez} (h:dpE (.mk k s n kids line)≤N+1) (hy:kids[i]?=some y):dpE y≤N:=by
 rw [dpE] at h
 exact (dpL_mem (d:=N)).1 (by omega) y (List.mem_of_getElem? hy)
theorem dpL_take_le (l:List Ez) (i:Nat):dpL (l.take i)≤dpL l:=by
 refine dpL_mem.2 fun y hy=>dpL_mem.1 (Nat.le_refl _) y (List.mem_of_mem_take hy)
set_option maxHeartbeats 8000000 in
theorem depthR_any:∀(N:Nat) (x:Ez) (v:Value) (w:World),N≤4611686018427387904→dpE x≤N→EzIn w.heap.size w x v →
  Calls Tryz.prog 40 #[v] w fun e w'=>e=.returned (.int .i64 (dpE x:Int))∧Below w.heap.size w w'
 | 0,.mk k s n kids line,v,w,_,hd,_=>by rw [dpE] at hd;omega
 | N+1,.mk k s n kids line,v,w,hN,hd,hx=>by
  obtain ⟨base,cap,rfl,hc,hmx,hs,hn0,hn1,hkid⟩:=hx.kid
  obtain ⟨m,hm⟩:∃m,m=kids.length:=⟨_,rfl⟩
  rw [←hm] at hc ⊢
  have hlen:m≤9223372036854775807:=by unfold maxLen at hmx;omega
  obtain ⟨R,hR⟩:∃R,R=dpE (.mk k s n kids line):=⟨_,rfl⟩
  rw [←hR]
  have HR:Hid (R=dpL kids+1):=hR
  have hRN:dpL kids≤N:=by rw [dpE] at hd;omega
  obtain ⟨w1,hw1⟩:∃w1,w1=w.alloc (ezO k s n base m cap line):=⟨_,rfl⟩
  have hb1:Below w.heap.size w w1:=by rw [hw1];exact (Below.refl _ w).alloc (Nat.le_refl _) _
  have p1:w1.heap[w.heap.size]?=some (ezO k s n base m cap line):=by rw [hw1];exact World.alloc_heap_new w _
  have hsz1:w1.heap.size=w.heap.size+1:=by rw [hw1];simp
  have HK:Hid (∀i y,kids[i]?=some y→∀W,Below w1.heap.size w1 W→∃b o a1 a2 a3 a4 a5 a6 a7,base=some ⟨b,o,none⟩∧W.cell? ⟨b,o+i*5,none⟩=some (.int .i64 a1)∧W.cell? ⟨b,o+i*5+1,none⟩=some (.string (strB a2))∧W.cell? ⟨b,o+i*5+2,none⟩=some (.int .i64 a3)∧W.cell? ⟨b,o+i*5+3,none⟩=some (.slice a4 a5 a6)∧W.cell? ⟨b,o+i*5+4,none⟩=some (.int .i64 a7) ∧
    Calls Tryz.prog 40 #[ezV a1 a2 a3 a4 a5 a6 a7] W fun e w'=>e=.returned (.int .i64 (dpE y:Int))∧Below W.heap.size W w'):=fun i y hy W hW=>by
   obtain ⟨b,o,a1,a2,a3,a4,a5,a6,a7,e,hb,hlt,hxy,m0,m1,m2,m3,m4⟩:=hkid i y hy
   have hbW:Below w.heap.size w W:=below_via' hb1 hW
   have hz:w.heap.size≤W.heap.size:=hbW.size
   exact ⟨b,o,a1,a2,a3,a4,a5,a6,a7,e,(hbW.cell (p:=⟨b,o+i*5,none⟩) hlt).trans m0,(hbW.cell (p:=⟨b,o+i*5+1,none⟩) hlt).trans m1,(hbW.cell (p:=⟨b,o+i*5+2,none⟩) hlt).trans m2,(hbW.cell (p:=⟨b,o+i*5+3,none⟩) hlt).trans m3,(hbW.cell (p:=⟨b,o+i*5+4,none⟩) hlt).trans m4,
    depthR_any N y _ W (by omega) (dpE_kid' hd hy) ((hxy.kept hbW).wide hz)⟩
  have HP1:Hid (w1.heap[w.heap.size]?=some (ezO k s n base m cap line)):=p1
  have HB1:Hid (Below w.heap.size w w1):=hb1
  have HM:Hid (m=kids.length):=hm
  have HN:Hid (dpL kids≤N):=hRN
  obtain ⟨c0,c1,c2,c3,c4⟩:=cellsZ p1
  have hw1':=hw1.symm
  clear hx hkid hR hb1 p1 hw1 hm hd hc hmx hRN
  go_enter Tryz.func40,Tryz.ntmps40
  go_wp2_with fail
  go_loopw [3,4] (fun vn vi wr=>∃(i D:Nat),i≤m∧vi=.int .i64 (i:Int)∧vn=.int .i64 (D:Int)∧D=dpL (kids.take i)∧Below w1.heap.size w1 wr) (fun _ vi _=>m-(intOf vi).toNat)
  case atStart=>exact ⟨0,0,Nat.zero_le _,rfl,rfl,by simp [dpL],Below.refl _ _⟩
  case round =>
   obtain ⟨i,D,hi,rfl,rfl,hD,hbr⟩:=hrel
   clear c0 c1 c2 c3 c4
   obtain ⟨c0,c1,c2,c3,c4⟩:=cellsZ ((hbr.block w.heap.size (by omega)).trans HP1.out)
   have HBR:Hid (Below w1.heap.size w1 wr):=hbr
   have hDN:D≤N:=by rw [hD];exact Nat.le_trans (dpL_take_le kids i) HN.out
   have HD:Hid (D=dpL (kids.take i)):=hD
   clear hbr hD
   by_cases hlt:i<m
   ·have hlt':(i:Int)<(m:Int):=by omega
    obtain ⟨y,hy⟩:∃y,kids[i]?=some y:=⟨kids[i]'(by rw [←HM.out];exact hlt),List.getElem?_eq_getElem (by rw [←HM.out];exact hlt)⟩
    obtain ⟨b,o,a1,a2,a3,a4,a5,a6,a7,rfl,m0,m1,m2,m3,m4,ck⟩:=HK.out i y hy wr HBR.out
    have HNX:Hid (max D (dpE y)=dpL (kids.take (i+1))):=show _=_ by rw [dpL_take kids i y hy,HD.out]
    have hyN:dpE y≤N:=by
     have:=dpL_mem.1 HN.out y (List.mem_of_getElem? hy)
     exact this
    clear hy HK HD
    generalize dpE y=Y at *
    go_wp2_with fail
    refine ck.mono ?_
    clear ck m0 m1 m2 m3 m4 c0 c1 c2 c3 c4
    rintro e w2 ⟨rfl,hb2⟩
    have HB2:Hid (Below w1.heap.size w1 w2):=below_via' HBR.out hb2
    clear hb2 HBR
    go_wp2
    exact ⟨⟨i+1,max D Y,by omega,by go_num,by go_num,HNX.out,HB2.out⟩,by simp [intOf];omega⟩
   ·obtain rfl:i=m:=by omega
    have hlt':¬ (i:Int)<(i:Int):=by omega
    have HV:Hid ((R:Int)=(D:Int)+1):=show _=_ by
     rw [HR.out,HD.out,HM.out,List.take_length]
     omega
    have HBW:Hid (Below w.heap.size w wr):=below_via' HB1.out HBR.out
    clear HR HK HBR HB1 HM HP1 HD HN
    go_wp2
    exact bodyPost_ret (v:=.int .i64 ((D:Int)+1)) (by simp [results,Tryz.results40,go_sem]) rfl ⟨by rw [HV.out],HBW.out⟩
abbrev smO (n:Int):Obj:=.cells #[.int .i64 n] 93 (0,0)
def SmTo (c:Nat) (w w':World):Prop:=Kept c w w'∧∃n,w'.heap[c]?=some (smO n)
theorem Kept.toBelow {c B:Nat} {w w':World} (h:Kept c w w') (hB:B≤c) (hw:B≤w.heap.size):Below B w w':=⟨h.os,h.tape,h.output,h.size,fun k hk=>h.block k (by omega) (by omega)⟩
def MoreP (c:Nat) (D:Int) (w:World) (e:Ending) (w':World):Prop:=(∃b,e=.returned (.bool b)∧(b=true→D≤48))∧SmTo c w w'
def SmlP (c:Nat) (w:World) (e:Ending) (w':World):Prop:=(∃b,e=.returned (.bool b))∧SmTo c w w'
set_option maxHeartbeats 2000000 in
theorem more_any (c:Nat) (n D:Int) (w:World) (hc:w.heap[c]?=some (smO n)) :
  Calls Tryz.prog 43 #[.pointer (some ⟨c,0,none⟩),.int .i64 D] w (MoreP c D w):=by
 have c0:w.cell? ⟨c,0,none⟩=some (.int .i64 n):=cells1 hc
 have hfz:w.frozen? ⟨c,0,none⟩=false:=by simp only [World.frozen?,hc];rfl
 have HS:Hid (∀v,SmTo c w (w.setCell ⟨c,0,none⟩ (.int .i64 v))):=fun v=>by
  refine ⟨⟨rfl,rfl,rfl,by simp,fun k _ hk=>Below.heap_setCell _ _ _ _ (by simpa using hk)⟩,v,?_⟩
  rw [setW_block _ hc]
  rfl
 have hf:∀v,(w.setCell ⟨c,0,none⟩ v).cell? ⟨c,0,none⟩=some v:=fun v=>by
  have:=setW_block (j:=0) v hc
  simp only [World.cell?,this]
  rfl
 clear hc
 obtain ⟨V,hV⟩:∃V,V=wrap64 (n+1):=⟨_,rfl⟩
 by_cases h1:V≤4096
 ·rw [hV] at h1
  by_cases h2:D≤48
  ·go_enter Tryz.func43,Tryz.ntmps43
   go_wp2
   exact bodyPost_ret (v:=.bool true) (by simp [results,Tryz.results43,go_sem]) rfl ⟨⟨true,rfl,fun _=>h2⟩,HS.out _⟩
  ·go_enter Tryz.func43,Tryz.ntmps43
   go_wp2
   exact bodyPost_ret (v:=.bool false) (by simp [results,Tryz.results43,go_sem]) rfl ⟨⟨false,rfl,fun h=>by cases h⟩,HS.out _⟩
 ·rw [hV] at h1
  go_enter Tryz.func43,Tryz.ntmps43
  go_wp2
  exact bodyPost_ret (v:=.bool false) (by simp [results,Tryz.results43,go_sem]) rfl ⟨⟨false,rfl,fun h=>by cases h⟩,HS.out _⟩
set_option maxHeartbeats 8000000 in
theorem smallE_any (c B:Nat) (hB:B≤c):∀(N:Nat) (x:Ez) (v:Value) (n D:Int) (w:World),dpE x≤N→-100≤D→B≤w.heap.size→EzIn B w x v→w.heap[c]?=some (smO n) →
  Calls Tryz.prog 51 #[.pointer (some ⟨c,0,none⟩),v,.int .i64 D] w (SmlP c w)
 | 0,.mk k s n kids line,v,_,_,w,hd,_,_,_,_=>by rw [dpE] at hd;omega
 | N+1,.mk k s n kids line,v,nc,D,w,hd,hD0,hBw,hx,hcn=>by
  obtain ⟨base,cap,rfl,hc,hmx,hs,hn0,hn1,hkid⟩:=hx.kid
  obtain ⟨m,hm⟩:∃m,m=kids.length:=⟨_,rfl⟩
  rw [←hm] at hc ⊢
  have hlen:m≤9223372036854775807:=by unfold maxLen at hmx;omega
  have hclt:c<w.heap.size:=(Array.getElem?_eq_some_iff.1 hcn).1
  obtain ⟨w1,hw1⟩:∃w1,w1=w.alloc (ezO k s n base m cap line):=⟨_,rfl⟩
  have hb1:Below w.heap.size w w1:=by rw [hw1];exact (Below.refl _ w).alloc (Nat.le_refl _) _
  have p1:w1.heap[w.heap.size]?=some (ezO k s n base m cap line):=by rw [hw1];exact World.alloc_heap_new w _
  have hsz1:w1.heap.size=w.heap.size+1:=by rw [hw1];simp
  have pc1:w1.heap[c]?=some (smO nc):=(hb1.block c hclt).trans hcn
  have HK:Hid (∀i y,kids[i]?=some y→∀W nW,Kept c w1 W→W.heap[c]?=some (smO nW)→D≤48→∃b o a1 a2 a3 a4 a5 a6 a7,base=some ⟨b,o,none⟩∧W.cell? ⟨b,o+i*5,none⟩=some (.int .i64 a1)∧W.cell? ⟨b,o+i*5+1,none⟩=some (.string (strB a2))∧W.cell? ⟨b,o+i*5+2,none⟩=some (.int .i64 a3)∧W.cell? ⟨b,o+i*5+3,none⟩=some (.slice a4 a5 a6)∧W.cell? ⟨b,o+i*5+4,none⟩=some (.int .i64 a7) ∧
    Calls Tryz.prog 51 #[.pointer (some ⟨c,0,none⟩),ezV a1 a2 a3 a4 a5 a6 a7,.int .i64 (D+1)] W (SmlP c W)):=fun i y hy W nW hW hcW hD=>by
   obtain ⟨b,o,a1,a2,a3,a4,a5,a6,a7,e,hb,hlt,hxy,m0,m1,m2,m3,m4⟩:=hkid i y hy
   have hbW:Below B w W:=(hb1.mono hBw).trans (hW.toBelow hB (by omega))
   have hz:B≤W.heap.size:=Nat.le_trans hBw (Nat.le_trans hb1.size hW.size)
   exact ⟨b,o,a1,a2,a3,a4,a5,a6,a7,e,(hbW.cell (p:=⟨b,o+i*5,none⟩) hb).trans m0,(hbW.cell (p:=⟨b,o+i*5+1,none⟩) hb).trans m1,(hbW.cell (p:=⟨b,o+i*5+2,none⟩) hb).trans m2,(hbW.cell (p:=⟨b,o+i*5+3,none⟩) hb).trans m3,(hbW.cell (p:=⟨b,o+i*5+4,none⟩) hb).trans m4,
    smallE_any c B hB N y _ nW (D+1) W (dpE_kid' hd hy) (by omega) hz (hxy.kept hbW) hcW⟩
  have HP1:Hid (w1.heap[w.heap.size]?=some (ezO k s n base m cap line)):=p1
  have HK1:Hid (Kept c w w1):=Kept.of hb1
  have HM:Hid (m=kids.length):=hm
  have cm:=more_any c nc D w1 pc1
  obtain ⟨c0,c1,c2,c3,c4⟩:=cellsZ p1
  have hw1':=hw1.symm
  clear hx hkid hb1 p1 hw1 hm hd hc hmx pc1 hcn
  go_enter Tryz.func51,Tryz.ntmps51
  go_wp2_with fail
  refine cm.mono ?_
  clear cm c0 c1 c2 c3 c4
  rintro e w2 ⟨⟨b,rfl,hbD⟩,hk2,n2,hc2⟩
  cases b with
  | false =>
   have HP:Hid (SmlP c w (.returned (.bool false)) w2):=⟨⟨false,rfl⟩,HK1.out.trans hk2,n2,hc2⟩
   clear hbD hk2 hc2 HK
   go_wp2
   exact bodyPost_ret (v:=.bool false) (by simp [results,Tryz.results51,go_sem]) rfl HP.out
  | true =>
   have hD48:D≤48:=hbD rfl
   have HK2:Hid (Kept c w1 w2):=hk2
   have HC2:Hid (w2.heap[c]?=some (smO n2)):=hc2
   clear hbD hk2 hc2
   go_wp2_with fail
   go_loopw [7] (fun vi wr=>∃(i:Nat) (nr:Int),i≤m∧vi=.int .i64 (i:Int)∧Kept c w1 wr∧wr.heap[c]?=some (smO nr)) (fun vi _=>m-(intOf vi).toNat)
   case atStart=>exact ⟨0,n2,Nat.zero_le _,rfl,HK2.out,HC2.out⟩
   case round =>
    obtain ⟨i,nr,hi,rfl,hkr,hcr⟩:=hrel
    clear HK2 HC2
    obtain ⟨c0,c1,c2,c3,c4⟩:=cellsZ ((hkr.block w.heap.size (by omega) (by omega)).trans HP1.out)
    have HKR:Hid (Kept c w1 wr):=hkr
    have HCR:Hid (wr.heap[c]?=some (smO nr)):=hcr
    clear hkr hcr
    by_cases hlt:i<m
    ·have hlt':(i:Int)<(m:Int):=by omega
     obtain ⟨y,hy⟩:∃y,kids[i]?=some y:=⟨kids[i]'(by rw [←HM.out];exact hlt),List.getElem?_eq_getElem (by rw [←HM.out];exact hlt)⟩
     obtain ⟨b,o,a1,a2,a3,a4,a5,a6,a7,rfl,m0,m1,m2,m3,m4,ck⟩:=HK.out i y hy wr nr HKR.out HCR.out hD48
     clear hy HK HCR
     go_wp2_with fail
     refine ck.mono ?_
     clear ck m0 m1 m2 m3 m4 c0 c1 c2 c3 c4
     rintro e w3 ⟨⟨b,rfl⟩,hk3,n3,hc3⟩
     have HK3:Hid (Kept c w1 w3):=HKR.out.trans hk3
     have HC3:Hid (w3.heap[c]?=some (smO n3)):=hc3
     clear hk3 hc3 HKR
     cases b with
     | false =>
      have HP:Hid (SmlP c w (.returned (.bool false)) w3):=⟨⟨false,rfl⟩,HK1.out.trans HK3.out,n3,HC3.out⟩
      go_wp2
      exact bodyPost_ret (v:=.bool false) (by simp [results,Tryz.results51,go_sem]) rfl HP.out
     | true =>
      go_wp2
      exact ⟨⟨i+1,n3,by omega,by go_num,HK3.out,HC3.out⟩,by simp [intOf];omega⟩
    ·obtain rfl:i=m:=by omega
     have hlt':¬ (i:Int)<(i:Int):=by omega
     have HP:Hid (SmlP c w (.returned (.bool true)) wr):=⟨⟨true,rfl⟩,HK1.out.trans HKR.out,nr,HCR.out⟩
     clear HK HKR HCR
     go_wp2
     exact bodyPost_ret (v:=.bool true) (by simp [results,Tryz.results51,go_sem]) rfl HP.out
set_option maxHeartbeats 4000000 in
theorem small_any (x:Ez) (v:Value) (w:World) (hx:EzIn w.heap.size w x v) :
  Calls Tryz.prog 21 #[v] w fun e w'=>(e=.returned (.bool true)∨e=.returned (.bool false))∧Below w.heap.size w w':=by
 obtain ⟨k,s,n,kids,line⟩:=x
 have hx0:=hx
 obtain ⟨base,cap,rfl,_⟩:=hx.kid
 obtain ⟨w1,hw1⟩:∃w1,w1=w.alloc (ezO k s n base kids.length cap line):=⟨_,rfl⟩
 have hb1:Below w.heap.size w w1:=by rw [hw1];exact (Below.refl _ w).alloc (Nat.le_refl _) _
 have p1:w1.heap[w.heap.size]?=some (ezO k s n base kids.length cap line):=by rw [hw1];exact World.alloc_heap_new w _
 have hsz1:w1.heap.size=w.heap.size+1:=by rw [hw1];simp
 obtain ⟨w2,hw2⟩:∃w2,w2=w1.alloc (smO 0):=⟨_,rfl⟩
 have hb2:Below w1.heap.size w1 w2:=by rw [hw2];exact (Below.refl _ w1).alloc (Nat.le_refl _) _
 have p2:w2.heap[w1.heap.size]?=some (smO 0):=by rw [hw2];exact World.alloc_heap_new w1 _
 have hb12:Below w.heap.size w w2:=below_via' hb1 hb2
 have cs:=smallE_any w1.heap.size w.heap.size (by omega) (dpE (.mk k s n kids line)) _ _ 0 0 w2 (Nat.le_refl _) (by omega) hb12.size (hx0.kept hb12) p2
 have HPP:Hid (∀e w',SmlP w1.heap.size w2 e w'→(e=.returned (.bool true)∨e=.returned (.bool false))∧Below w.heap.size w w'):=fun e w' ⟨⟨b,he⟩,hk,_⟩=>by
  refine ⟨by cases b <;> simp [he],hb12.trans ?_⟩
  have:=hb12.size
  exact ⟨hk.os,hk.tape,hk.output,hk.size,fun j hj=>hk.block j (by omega) (by omega)⟩
 obtain ⟨c0,c1,c2,c3,c4⟩:=cellsZ ((hb2.block w.heap.size (by omega)).trans p1)
 have hw1':=hw1.symm
 have hw2':=hw2.symm
 obtain ⟨N,hN⟩:∃N,w1.heap.size=N:=⟨_,rfl⟩
 rw [hN] at cs HPP
 generalize kids.length=m at *
 clear hx hx0 hb1 p1 hw1 hb2 p2 hw2 hb12 hsz1
 go_enter Tryz.func21,Tryz.ntmps21
 go_wp2_with fail
 refine cs.mono ?_
 clear cs c0 c1 c2 c3 c4
 rintro e w3 hp
 obtain ⟨h1,h2⟩:=HPP.out _ _ hp
 have HB:Hid (Below w.heap.size w w3):=h2
 clear hp HPP h2
 rcases h1 with rfl | rfl
 ·go_wp2
  exact bodyPost_ret (v:=.bool true) (by simp [results,Tryz.results21,go_sem]) rfl ⟨.inl rfl,HB.out⟩
 ·go_wp2
  exact bodyPost_ret (v:=.bool false) (by simp [results,Tryz.results21,go_sem]) rfl ⟨.inr rfl,HB.out⟩
theorem nbL_of:∀{l:List Ez},(∀y∈l,nbE y=true)→nbL l=true
 | [],_=>rfl
 | x::xs,h=>by rw [nbL,Bool.and_eq_true];exact ⟨h x (by simp),nbL_of fun y hy=>h y (by simp [hy])⟩
theorem EzIn.nb {B:Nat} {w:World} {x:Ez} {v:Value} (h:EzIn B w x v):nbE x=true:=by
 induction h with
 | mk k s n kids line base cap b o us hs hn0 hn1 hbase hlen hc hm hcell hfive _ ih =>
  rw [nbE,Bool.and_eq_true]
  refine ⟨by simpa using hn1,?_⟩
  have key:∀y∈kids,nbE y=true:=fun y hy=>by
   obtain ⟨j,hj,rfl⟩:=List.getElem_of_mem hy
   exact ih j _ _ (List.getElem?_eq_getElem hj) (List.getElem?_eq_getElem (l:=us) (i:=j) (by omega))
  exact nbL_of key
theorem quoteB_len (s:List UInt8):(quoteB s).length≤2*s.length+30:=by
 have:=wrB_len 3 0 s (by omega) (by omega)
 unfold wrB at this
 rw [if_neg (by omega),if_pos rfl] at this
 exact this
theorem txK_len {k:Int} {s:List UInt8} {n:Int} {kids:List Ez} (hn:n≤9223372036854775807) (h:∀y∈kids,(txE y).length≤lnE y):(txK k s n kids (txL kids)).length≤2*s.length+120+lnL kids:=by
 have hj:(joinT (txL kids)).length≤lnL kids:=by
  have:=joinT_len kids h (txL kids).length
  rwa [List.take_length] at this
 have hq:=quoteB_len s
 have hd:=dec_len n.toNat (by omega)
 unfold txK
 split
 ·omega
 split
 ·split <;> simp <;> omega
 split
 ·omega
 split
 ·omega
 split
 ·simp only [List.length_append,List.length_cons,List.length_nil];omega
 split
 ·match kids,h with
  | [],_=>simp
  | a::r,h =>
   have h1:=h a (by simp)
   have h2:=withinT_len a 7 (txE a)
   simp only [txL,lnL,List.length_append]
   omega
 split
 ·match kids,h with
  | [],_=>simp
  | [a],_=>simp
  | a::b::r,h =>
   have h1:=h a (by simp)
   have h2:=withinT_len a (levelOf s) (txE a)
   have h3:=h b (by simp)
   have h4:=withinT_len b (levelOf s+1) (txE b)
   simp only [txL,lnL,List.length_append,List.length_cons,List.length_nil]
   omega
 split
 ·match kids,h with
  | [],_=>simp
  | [a],_=>simp [txL]
  | a::b::r,h =>
   have h1:=h a (by simp)
   have h2:=withinT_len a 8 (txE a)
   have h3:=h b (by simp)
   simp only [txL,lnL,List.length_append,List.length_cons,List.length_nil]
   omega
 split
 ·match kids,h with
  | [],_=>simp
  | a::r,h =>
   have h1:=h a (by simp)
   have h2:=withinT_len a 8 (txE a)
   simp only [txL,lnL,List.length_append,List.length_cons,List.length_nil]
   omega
 split
 ·simp only [List.length_append,List.length_cons,List.length_nil];omega
 ·simp only [List.length_append,List.length_cons,List.length_nil];omega
theorem txE_len:∀(N:Nat) (x:Ez),dpE x≤N→nbE x=true→(txE x).length≤lnE x
 | 0,.mk k s n kids line,hd,_=>by rw [dpE] at hd;omega
 | N+1,.mk k s n kids line,hd,hb=>by
  rw [dpE] at hd
  rw [nbE,Bool.and_eq_true,decide_eq_true_eq] at hb
  rw [txE,lnE]
  exact txK_len hb.1 fun y hy=>txE_len N y ((dpL_mem (d:=N)).1 (by omega) y hy) (nbL_mem hb.2 y hy)
theorem rgK_kind {k:Int} {s:List UInt8} {n:Int} {m:Nat} (h:rgK k s n m=true):k=1∨k=2∨k=3∨k=4∨k=5∨k=6∨k=7∨k=8∨k=9∨k=10∨k=11:=by
 refine Classical.byContradiction fun hno=>?_
 unfold rgK at h
 rw [if_neg (by omega),if_neg (by omega),if_neg (by omega),if_neg (by omega),if_neg (by omega),if_neg (by omega),if_neg (by omega),if_neg (by omega),if_neg (by omega),if_neg (by omega),if_neg (by omega)] at h
 cases h
theorem textR_any:∀(N:Nat),TextW N
 | 0=>by
  intro x v w hd
  obtain ⟨k,s,n,kids,line⟩:=x
  rw [dpE] at hd
  omega
 | N+1=>by
  have hT:=textR_any N
  intro x v w hd hr hln hx
  have hnb:=hx.nb
  obtain ⟨k,s,n,kids,line⟩:=x
  obtain ⟨base,cap,rfl,hc,hm,hs,hn0,hn1,hkid⟩:=hx.kid
  rw [dpE] at hd
  rw [rgE,Bool.and_eq_true] at hr
  rw [lnE] at hln
  rw [nbE,Bool.and_eq_true] at hnb
  have hd':dpL kids≤N:=by omega
  have htl:∀y∈kids,(txE y).length≤lnE y:=fun y hy=>txE_len N y ((dpL_mem (d:=N)).1 hd' y hy) (nbL_mem hnb.2 y hy)
  rw [txE]
  rcases rgK_kind hr.2 with rfl | rfl | rfl | rfl | rfl | rfl | rfl | rfl | rfl | rfl | rfl
  ·exact textK1 N hT s n kids line base cap w hs hn1 hc hm hd' hr.1 (by omega) htl hkid hr.2
  ·exact textK2 N hT s n kids line base cap w hs hn1 hc hm hd' hr.1 (by omega) htl hkid hr.2
  ·exact textK3 N hT s n kids line base cap w hs hn1 hc hm hd' hr.1 (by omega) htl hkid hr.2
  ·exact textK4 N hT s n kids line base cap w hs hn1 hc hm hd' hr.1 (by omega) htl hkid hr.2
  ·exact textK5 N hT s n kids line base cap w hs hn1 hc hm hd' hr.1 (by omega) htl hkid hr.2
  ·exact textK6 N hT s n kids line base cap w hs hn1 hc hm hd' hr.1 (by omega) htl hkid hr.2
  ·exact textK7 N hT s n kids line base cap w hs hn1 hc hm hd' hr.1 (by omega) htl hkid hr.2
  ·exact textK8 N hT s n kids line base cap w hs hn1 hc hm hd' hr.1 (by omega) htl hkid hr.2
  ·exact textK9 N hT s n kids line base cap w hs hn1 hc hm hd' hr.1 (by omega) htl hkid hr.2
  ·exact textK10 N hT s n kids line base cap w hs hn1 hc hm hd' hr.1 (by omega) htl hkid hr.2
  ·exact textK11 N hT s n kids line base cap w hs hn1 hc hm hd' hr.1 (by omega) htl hkid hr.2
set_option maxHeartbeats 8000000 in
theorem printR_any (x:Ez) (v:Value) (w:World) (hx:EzIn w.heap.size w x v) (hdp:dpE x≤1000000000) (hln:lnE x≤1000000000000) :
  Calls Tryz.prog 23 #[v] w fun e w'=>e=.returned (.tuple #[.string (strB (prR (prE 24 x)).1),.int .i64 ((prR (prE 24 x)).2:Int)])∧Below w.heap.size w w':=by
 rw [prE_tx 24 x hx.nb]
 have htl:(txE x).length≤1000000000000:=Nat.le_trans (txE_len _ x (Nat.le_refl _) hx.nb) hln
 obtain ⟨k,s,n,kids,line⟩:=x
 have hx0:=hx
 obtain ⟨base,cap,rfl,_⟩:=hx.kid
 obtain ⟨w1,hw1⟩:∃w1,w1=w.alloc (ezO k s n base kids.length cap line):=⟨_,rfl⟩
 have hb1:Below w.heap.size w w1:=by rw [hw1];exact (Below.refl _ w).alloc (Nat.le_refl _) _
 have p1:w1.heap[w.heap.size]?=some (ezO k s n base kids.length cap line):=by rw [hw1];exact World.alloc_heap_new w _
 have hsz1:w1.heap.size=w.heap.size+1:=by rw [hw1];simp
 have HX:Hid (∀W,Below w1.heap.size w1 W→EzIn W.heap.size W (.mk k s n kids line) (ezV k s n base kids.length cap line)):=fun W hW=>(hx0.kept (below_via' hb1 hW)).wide (below_via' hb1 hW).size
 have cr:=right_any _ _ _ w1 (Nat.le_refl _) (HX.out w1 (Below.refl _ _))
 have HD:Hid (∀W,Below w1.heap.size w1 W→Calls Tryz.prog 40 #[ezV k s n base kids.length cap line] W fun e w'=>e=.returned (.int .i64 (dpE (.mk k s n kids line):Int))∧Below W.heap.size W w'):=fun W hW=>depthR_any _ _ _ W (Nat.le_trans hdp (by omega)) (Nat.le_refl _) (HX.out W hW)
 have HT:Hid (∀W,Below w1.heap.size w1 W→rgE (.mk k s n kids line)=true→Calls Tryz.prog 55 #[ezV k s n base kids.length cap line] W fun e w'=>e=.returned (.string (strB (txE (.mk k s n kids line))))∧Below W.heap.size W w'):=fun W hW hr=>textR_any _ _ _ W (Nat.le_refl _) hr hln (HX.out W hW)
 have HP1:Hid (w1.heap[w.heap.size]?=some (ezO k s n base kids.length cap line)):=p1
 have HB1:Hid (Below w.heap.size w w1):=hb1
 have HLT:Hid (w.heap.size<w1.heap.size):=show _<_ by omega
 obtain ⟨c0,c1,c2,c3,c4⟩:=cellsZ p1
 have hw1':=hw1.symm
 obtain ⟨R,hR⟩:∃R,R=prR (if rgE (.mk k s n kids line)=true∧dpE (.mk k s n kids line)≤24 then some (txE (.mk k s n kids line)) else none):=⟨_,rfl⟩
 rw [←hR]
 generalize txE (.mk k s n kids line)=t at *
 generalize dpE (.mk k s n kids line)=d at *
 generalize rgE (.mk k s n kids line)=B at *
 generalize kids.length=m at *
 have HR:Hid (R=prR (if B=true∧d≤24 then some t else none)):=hR
 clear hx hx0 hb1 p1 hw1 HX hsz1 hR hln
 go_enter Tryz.func23,Tryz.ntmps23
 go_wp2_with fail
 refine cr.mono ?_
 clear cr c0 c1 c2 c3 c4
 rintro e w2 ⟨rfl,hb2⟩
 have HB2:Hid (Below w1.heap.size w1 w2):=hb2
 have HBW2:Hid (Below w.heap.size w w2):=below_via' HB1.out hb2
 clear hb2
 cases B with
 | false =>
  obtain rfl:R=([],2):=by rw [HR.out];simp [prR]
  clear HR HD HT
  go_wp2
  exact bodyPost_ret (v:=.tuple #[.string ⟨#[]⟩,.int .i64 2]) (by simp [results,Tryz.results23,go_sem]) rfl ⟨rfl,HBW2.out⟩
 | true =>
  have cd:=HD.out w2 HB2.out
  obtain ⟨c0,c1,c2,c3,c4⟩:=cellsZ ((HB2.out.block w.heap.size HLT.out).trans HP1.out)
  go_wp2_with fail
  refine cd.mono ?_
  clear cd c0 c1 c2 c3 c4
  rintro e w3 ⟨rfl,hb3⟩
  have HB3:Hid (Below w1.heap.size w1 w3):=below_via' HB2.out hb3
  have HBW3:Hid (Below w.heap.size w w3):=below_via' HB1.out HB3.out
  clear hb3 HB2 HBW2
  by_cases h24:d≤24
  ·have hd1:¬ (24:Int)<(d:Int):=by omega
   have ct:=HT.out w3 HB3.out trivial
   obtain ⟨c0,c1,c2,c3,c4⟩:=cellsZ ((HB3.out.block w.heap.size HLT.out).trans HP1.out)
   have HV:Hid (R=if 4096<t.length then ([],5) else (t,0)):=show _=_ by rw [HR.out,if_pos ⟨trivial,h24⟩];rfl
   clear HR HD HT
   go_wp2_with fail
   refine ct.mono ?_
   clear ct c0 c1 c2 c3 c4
   rintro e w4 ⟨rfl,hb4⟩
   have HB4:Hid (Below w.heap.size w w4):=below_via' HBW3.out hb4
   clear hb4
   have hsz:(strB t).size=t.length:=rfl
   by_cases h40:4096<t.length
   ·obtain rfl:R=([],5):=by rw [HV.out,if_pos h40]
    have h41:(4096:Int)<(t.length:Int):=by omega
    clear HV
    go_wp2
    exact bodyPost_ret (v:=.tuple #[.string ⟨#[]⟩,.int .i64 5]) (by simp [results,Tryz.results23,go_sem]) rfl ⟨rfl,HB4.out⟩
   ·obtain rfl:R=(t,0):=by rw [HV.out,if_neg h40]
    have h41:¬ (4096:Int)<(t.length:Int):=by omega
    clear HV
    go_wp2
    exact bodyPost_ret (v:=.tuple #[.string (strB t),.int .i64 0]) (by simp [results,Tryz.results23,go_sem]) rfl ⟨rfl,HB4.out⟩
  ·have hd1:(24:Int)<(d:Int):=by omega
   obtain rfl:R=([],2):=by rw [HR.out,if_neg (fun h9=>h24 h9.2)];rfl
   clear HR HD HT
   go_wp2
   exact bodyPost_ret (v:=.tuple #[.string ⟨#[]⟩,.int .i64 2]) (by simp [results,Tryz.results23,go_sem]) rfl ⟨rfl,HBW3.out⟩
set_option maxHeartbeats 8000000 in
theorem writes_any (x:Ez) (v:Value) (w:World) (hS:SynT w) (hx:EzIn w.heap.size w x v) (hdp:dpE x≤1000000000) (hln:lnE x≤1000000000000) :
  Calls Tryz.prog 6 #[v] w fun e w'=>e=.returned (.bool true)∧Below w.heap.size w w':=by
 obtain ⟨k,s,n,kids,line⟩:=x
 have hx0:=hx
 obtain ⟨base,cap,rfl,_⟩:=hx.kid
 obtain ⟨w1,hw1⟩:∃w1,w1=w.alloc (ezO k s n base kids.length cap line):=⟨_,rfl⟩
 have hb1:Below w.heap.size w w1:=by rw [hw1];exact (Below.refl _ w).alloc (Nat.le_refl _) _
 have p1:w1.heap[w.heap.size]?=some (ezO k s n base kids.length cap line):=by rw [hw1];exact World.alloc_heap_new w _
 have hsz1:w1.heap.size=w.heap.size+1:=by rw [hw1];simp
 have HX:Hid (∀W,Below w1.heap.size w1 W→EzIn W.heap.size W (.mk k s n kids line) (ezV k s n base kids.length cap line)):=fun W hW=>(hx0.kept (below_via' hb1 hW)).wide (below_via' hb1 hW).size
 have HS:Hid (∀W,Below w.heap.size w W→SynT W):=fun W hW=>hS.below hW
 have HP1:Hid (w1.heap[w.heap.size]?=some (ezO k s n base kids.length cap line)):=p1
 have HB1:Hid (Below w.heap.size w w1):=hb1
 have HLT:Hid (w.heap.size<w1.heap.size):=show _<_ by omega
 have HPX:Hid (∀W,Below w1.heap.size w1 W→Calls Tryz.prog 22 #[ezV k s n base kids.length cap line] W fun e w'=>e=.returned (.tuple #[.string (strB (prR (prE 24 (.mk k s n kids line))).1),.int .i64 ((prR (prE 24 (.mk k s n kids line))).2:Int)])∧Below W.heap.size W w'):=fun W hW=>by
  have hSW:=HS.out W (below_via' HB1.out hW)
  exact printExpr_any _ _ W (HX.out W hW) hSW.1 hSW.2.1 hSW.2.2
 have HPR:Hid (∀W,Below w1.heap.size w1 W→Calls Tryz.prog 23 #[ezV k s n base kids.length cap line] W fun e w'=>e=.returned (.tuple #[.string (strB (prR (prE 24 (.mk k s n kids line))).1),.int .i64 ((prR (prE 24 (.mk k s n kids line))).2:Int)])∧Below W.heap.size W w'):=fun W hW=>printR_any _ _ W (HX.out W hW) hdp hln
 have cs:=small_any _ _ w1 (HX.out w1 (Below.refl _ _))
 obtain ⟨c0,c1,c2,c3,c4⟩:=cellsZ p1
 have hw1':=hw1.symm
 generalize prR (prE 24 (.mk k s n kids line))=R at *
 generalize kids.length=m at *
 obtain ⟨u,er⟩:=R
 simp only at HPX HPR
 clear hx hx0 hb1 p1 hw1 HX hsz1 hS hdp hln
 go_enter Tryz.func6,Tryz.ntmps6
 go_wp2_with fail
 refine cs.mono ?_
 clear cs c0 c1 c2 c3 c4
 rintro e w2 ⟨hres,hb2⟩
 have HB2:Hid (Below w1.heap.size w1 w2):=hb2
 have HBW2:Hid (Below w.heap.size w w2):=below_via' HB1.out hb2
 clear hb2
 rcases hres with rfl | rfl
 ·have cx:=HPX.out w2 HB2.out
  obtain ⟨c0,c1,c2,c3,c4⟩:=cellsZ ((HB2.out.block w.heap.size HLT.out).trans HP1.out)
  go_wp2_with fail
  refine cx.mono ?_
  clear cx c0 c1 c2 c3 c4
  rintro e w3 ⟨rfl,hb3⟩
  have HB3:Hid (Below w1.heap.size w1 w3):=below_via' HB2.out hb3
  clear hb3 HB2
  have cr:=HPR.out w3 HB3.out
  obtain ⟨c0,c1,c2,c3,c4⟩:=cellsZ ((HB3.out.block w.heap.size HLT.out).trans HP1.out)
  go_wp2_with fail
  refine cr.mono ?_
  clear cr c0 c1 c2 c3 c4
  rintro e w4 ⟨rfl,hb4⟩
  have HB4:Hid (Below w1.heap.size w1 w4):=below_via' HB3.out hb4
  have HBW4:Hid (Below w.heap.size w w4):=below_via' HB1.out HB4.out
  clear hb4 HB3
  have cl:=lives04_any w4 (HS.out w4 HBW4.out)
  clear HPX HPR HP1
  go_wp2_with fail
  refine cl.mono ?_
  clear cl
  rintro e w5 ⟨rfl,hb5⟩
  have HB5:Hid (Below w.heap.size w w5):=below_via' HBW4.out hb5
  clear hb5
  go_wp2
  exact bodyPost_ret (v:=.bool true) (by simp [results,Tryz.results6,go_sem]) rfl ⟨rfl,HB5.out⟩
 ·have cl:=lives04_any w2 (HS.out w2 HBW2.out)
  clear HPX HPR HP1
  go_wp2_with fail
  refine cl.mono ?_
  clear cl
  rintro e w5 ⟨rfl,hb5⟩
  have HB5:Hid (Below w.heap.size w w5):=below_via' HBW2.out hb5
  clear hb5
  go_wp2
  exact bodyPost_ret (v:=.bool true) (by simp [results,Tryz.results6,go_sem]) rfl ⟨rfl,HB5.out⟩
end Go.Proofs.YtghhamgealkodaaGreatDoor
