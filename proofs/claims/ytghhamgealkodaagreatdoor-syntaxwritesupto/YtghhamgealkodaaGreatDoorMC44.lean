import Derived.Test.YtghhamgealkodaaGreatDoorMC43
namespace Go.Proofs.YtghhamgealkodaaGreatDoor
open Go.RowKit Go.Shelf
set_option maxRecDepth 100000
def inL (xs:List (List UInt8)) (l:List UInt8):Bool:=xs.contains l
set_option maxHeartbeats 2000000 in
theorem refIn_any (xs:List (List UInt8)) (l:List UInt8) (g cap:Nat) (w:World) (hx:xs.length≤1000) (hc:∀j (h:j<xs.length),w.cell? ⟨g,j,none⟩=some (.string (strB xs[j]))) :
  Calls Tryz.prog 146 #[.slice (some ⟨g,0,none⟩) xs.length cap,.string (strB l)] w fun e w'=>e=.returned (.bool (inL xs l))∧w=w':=by
 have HC:Hid (∀j (h:j<xs.length),w.cell? ⟨g,j,none⟩=some (.string (strB xs[j]))):=hc
 clear hc
 go_enter Tryz.func146,Tryz.ntmps146
 go_wp2
 go_loop [5] (fun v=>∃i:Nat,i≤xs.length∧v=.int .i64 i∧∀x∈xs.take i,x≠l) (fun v=>xs.length-(intOf v).toNat)
 case atStart=>exact ⟨0,Nat.zero_le _,rfl,fun x hx=>by simp at hx⟩
 case round =>
  obtain ⟨i,hi,rfl,hall⟩:=hrel
  have HA:Hid (∀x∈xs.take i,x≠l):=hall
  clear hall
  by_cases hlt:i<xs.length
  ·have hcell:=HC.out i hlt
   obtain ⟨x,hx⟩:∃x,x=xs[i]'hlt:=⟨_,rfl⟩
   rw [←hx] at hcell
   have HX:Hid (x=xs[i]'hlt):=hx
   clear hx
   by_cases he:x=l
   ·subst he
    have HW:Hid (inL xs x=true):=show xs.contains x=true by rw [List.contains_iff_mem,HX.out];exact List.getElem_mem hlt
    go_wp2
    go_ret
    rw [HW.out]
    exact ⟨rfl,rfl⟩
   ·have HE:Hid (x≠l):=he
    have hb:(x==l)=false:=by rw [beqL];exact decide_eq_false he
    clear he
    go_wp2
    refine ⟨⟨i+1,by omega,by go_num,fun y hy=>?_⟩,?_⟩
    ·rw [List.take_succ_eq_append_getElem hlt] at hy
     rcases List.mem_append.1 hy with h | h
     ·exact HA.out y h
     ·rw [List.mem_singleton] at h;rw [h,←HX.out];exact HE.out
    ·simp [intOf];omega
  ·obtain rfl:i=xs.length:=by omega
   have HW:Hid (inL xs l=false):=show xs.contains l=false by
    rw [Bool.eq_false_iff,ne_eq,List.contains_iff_mem]
    intro h
    exact HA.out l (by rw [List.take_length];exact h) rfl
   go_wp2
   go_ret
   rw [HW.out]
   exact ⟨rfl,rfl⟩
set_option maxHeartbeats 2000000 in
theorem refWords_any (w:World) :
  Calls Tryz.prog 147 #[] w fun e w'=>e=.returned (.slice (some ⟨w.heap.size,0,none⟩) 10 10)∧w'=w.alloc (.cells (wordsL.map fun x=>Value.string (strB x)).toArray 9):=by
 go_enter Tryz.func147,Tryz.ntmps147
 go_wp2
 go_ret
 exact ⟨rfl,rfl⟩
set_option maxHeartbeats 2000000 in
theorem refWord_any (l:List UInt8) (w:World) :
  Calls Tryz.prog 116 #[.string (strB l)] w fun e w'=>e=.returned (.bool (isWord l))∧Below w.heap.size w w':=by
 have hB:Below w.heap.size w (w.alloc (.cells (wordsL.map fun x=>Value.string (strB x)).toArray 9)):=(Below.refl _ w).alloc (Nat.le_refl _) _
 have HI:Hid (Calls Tryz.prog 146 #[.slice (some ⟨w.heap.size,0,none⟩) 10 10,.string (strB l)] (w.alloc (.cells (wordsL.map fun x=>Value.string (strB x)).toArray 9)) fun e w'=>e=.returned (.bool (inL wordsL l))∧(w.alloc (.cells (wordsL.map fun x=>Value.string (strB x)).toArray 9))=w') :=
  refIn_any wordsL l w.heap.size 10 _ (by decide) (fun j h=>by
   rw [cell_of_row _ _ _ _ _ _ (World.alloc_heap_new w _)]
   simp [h])
 have HB:Hid (Below w.heap.size w (w.alloc (.cells (wordsL.map fun x=>Value.string (strB x)).toArray 9))):=hB
 clear hB
 go_enter Tryz.func116,Tryz.ntmps116
 go_wp2_with fail
 refine (refWords_any w).mono ?_
 rintro e w1 ⟨rfl,rfl⟩
 go_wp2_with fail
 refine HI.out.mono ?_
 rintro e w2 ⟨rfl,rfl⟩
 go_wp2
 go_ret
 exact ⟨rfl,HB.out⟩
set_option maxHeartbeats 2000000 in
theorem refDigit_any (n:Nat) (w:World) (hn:n<256) :
  Calls Tryz.prog 115 #[.int .u8 n] w fun e w'=>e=.returned (.bool (digitN n))∧w=w':=by
 go_enter Tryz.func115,Tryz.ntmps115
 go_wp2
 all_goals go_ret
 all_goals refine ⟨retb ?_,rfl⟩
 all_goals (rw [Bool.eq_iff_iff];simp [digitN];try omega)
set_option maxHeartbeats 2000000 in
theorem refLetter_any (n:Nat) (w:World) (hn:n<256) :
  Calls Tryz.prog 114 #[.int .u8 n] w fun e w'=>e=.returned (.bool (letterN n))∧w=w':=by
 go_enter Tryz.func114,Tryz.ntmps114
 go_wp2
 all_goals go_ret
 all_goals refine ⟨retb ?_,rfl⟩
 all_goals (rw [Bool.eq_iff_iff];simp [letterN];try omega)
theorem valA_snoc (c:UInt8):∀(l:List UInt8) (a:Nat),valA a (l++[c])=valA a l*10+(c.toNat-48)
 | [],_=>rfl
 | x::l,a=>valA_snoc c l (a*10+(x.toNat-48))
end Go.Proofs.YtghhamgealkodaaGreatDoor
namespace Go.Proofs.YtghhamgealkodaaGreatDoor
open Go.RowKit
set_option maxRecDepth 100000
theorem best_key (l:List UInt8):∀(xs:List (List UInt8)) (b:List UInt8),b.length≤(xs.foldl (longer l) b).length∧(∀x∈xs,Lib.hasPrefix l x=true→x.length≤(xs.foldl (longer l) b).length) ∧
  (xs.foldl (longer l) b=b∨(xs.foldl (longer l) b∈xs∧Lib.hasPrefix l (xs.foldl (longer l) b)=true))
 | [],b=>⟨Nat.le_refl _,(fun x h=>by cases h),.inl rfl⟩
 | x::xs,b=>by
  rw [List.foldl_cons]
  obtain ⟨i1,i2,i3⟩:=best_key l xs (longer l b x)
  have hb:b.length≤(longer l b x).length:=by
   unfold longer
   split
   ·rename_i h;omega
   ·exact Nat.le_refl _
  refine ⟨Nat.le_trans hb i1,fun y hy hp=>?_,?_⟩
  ·rcases List.mem_cons.1 hy with rfl | hy
   ·refine Nat.le_trans ?_ i1
    unfold longer
    split
    ·exact Nat.le_refl _
    ·rename_i h
     rcases Nat.lt_or_ge b.length y.length with h9 | h9
     ·exact absurd ⟨h9,hp⟩ h
     ·exact h9
   ·exact i2 y hy hp
  ·rcases i3 with h | ⟨h1,h2⟩
   ·rw [h]
    unfold longer
    split
    ·rename_i h9;exact .inr ⟨List.mem_cons_self ..,h9.2⟩
    ·exact .inl rfl
   ·exact .inr ⟨List.mem_cons_of_mem _ h1,h2⟩
theorem best_all (l:List UInt8):(∀x∈signsL,Lib.hasPrefix l x=true→x.length≤(bestS l 25).length)∧(bestS l 25=[]∨(bestS l 25∈signsL∧Lib.hasPrefix l (bestS l 25)=true)):=by
 have h:=best_key l signsL []
 have e:bestS l 25=signsL.foldl (longer l) []:=by unfold bestS;rw [List.take_of_length_le (by decide)]
 rw [e]
 exact h.2
end Go.Proofs.YtghhamgealkodaaGreatDoor
