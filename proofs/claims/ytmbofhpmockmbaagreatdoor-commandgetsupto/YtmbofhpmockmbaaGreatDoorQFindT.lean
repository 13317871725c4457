import Derived.Test.YtmbofhpmockmbaaGreatDoorMC1
namespace Go.Proofs.YtmbofhpmockmbaaGreatDoor
open Go.RowKit Go.Shelf
set_option maxHeartbeats 16000000
set_option maxRecDepth 100000
theorem uH (p:Wq→Bool) (g:Nat) (w:World)
  (hk:∀r W,Below w.heap.size w W→Calls Tryz.prog 38 #[wV r,.pointer (some ⟨g,0,none⟩)] W fun e w'=>e=.returned (.bool (p r))∧Below W.heap.size W w') :
  Calls Tryz.prog 37 #[.func (.func 38) #[] #[.pointer (some ⟨g,0,none⟩)]] w fun e w'=>e=.returned (wV (findQ p))∧Below w.heap.size w w':=by
 have HK:Hid (∀r W,Below w.heap.size w W→Calls Tryz.prog 38 #[wV r,.pointer (some ⟨g,0,none⟩)] W fun e w'=>e=.returned (.bool (p r))∧Below W.heap.size W w'):=hk
 obtain ⟨w1,D⟩:∃w1,w1=w.alloc (.cells #[.int .i64 0,.string ⟨#[]⟩,.bool false,.int .i64 0,.bool false,.string ⟨#[]⟩] 55 (0,0)):=⟨_,rfl⟩;have ae:Below w.heap.size w w1:=by rw [D];exact (Below.refl _ w).alloc (Nat.le_refl _) _
 have O:w1.heap.size=w.heap.size+1:=by rw [D];simp
 have p1:w1.heap[w.heap.size]?=some (.cells #[.int .i64 0,.string ⟨#[]⟩,.bool false,.int .i64 0,.bool false,.string ⟨#[]⟩] 55 (0,0)):=by rw [D];exact World.alloc_heap_new w _
 have cw:=Xn w1;have ad:=D.symm;clear hk D
 go_enter Tryz.func37,Tryz.ntmps37
 go_wp2_with fail
 refine cw.mono ?_;clear cw ad;rintro e w2 ⟨rfl,J⟩;have y:w2.heap.size=w.heap.size+2:=by rw [J];simp [O]
 have o:Below w1.heap.size w1 w2:=by rw [J];exact (Below.refl _ w1).alloc (Nat.le_refl _) _
 have H:w2.heap[w1.heap.size]?=some yH:=by rw [J];exact World.alloc_heap_new w1 _
 have I:w2.heap[w.heap.size]?=some (.cells #[.int .i64 0,.string ⟨#[]⟩,.bool false,.int .i64 0,.bool false,.string ⟨#[]⟩] 55 (0,0)):=(o.block _ (by omega)).trans p1
 rw [O] at H ⊢;obtain ⟨B,M⟩:∃B,B=w.heap.size:=⟨_,rfl⟩;rw [←M] at H I y ⊢;have ag:Hid (Below w.heap.size w w2∧w.heap.size=B∧w2.heap.size=B+2):=⟨ZA ae o,M.symm,y⟩;have aa:Hid (w2.heap[B+1]?=some yH∧w2.heap[B]?=some (.cells #[.int .i64 0,.string ⟨#[]⟩,.bool false,.int .i64 0,.bool false,.string ⟨#[]⟩] 55 (0,0))):=⟨H,I⟩;clear ae O p1 J y o H I M;go_wp2_with fail
 go_loopw [7] (fun vi wr=>∃i:Nat,i≤17∧vi=.int .i64 i∧(∀j (h:j<tabQ.length),j<i→p tabQ[j]=false)∧Below w2.heap.size w2 wr) (fun vi _=>17-(intOf vi).toNat)
 case atStart=>exact ⟨0,Nat.zero_le _,rfl,fun j h hj=>by omega,Below.refl _ _⟩
 case round =>
  obtain ⟨i,hi,rfl,K,z⟩:=hrel;have HN:Hid (∀j (h:j<tabQ.length),j<i→p tabQ[j]=false):=K;have ah:Hid (Below w2.heap.size w2 wr):=z;obtain ⟨o,M,y⟩:=ag.out;obtain ⟨H,I⟩:=aa.out;have qr:wr.heap[B+1]?=some yH:=(z.block _ (by omega)).trans H
  have pr:wr.heap[B]?=some (.cells #[.int .i64 0,.string ⟨#[]⟩,.bool false,.int .i64 0,.bool false,.string ⟨#[]⟩] 55 (0,0)):=(z.block _ (by omega)).trans I
  by_cases hlt:i<17
  ·have aj:(i:Int)<17:=by omega
   obtain ⟨k,t,G,le,E,m,V,c0,c1,c2,c3,c4,c5⟩:=Xl qr i (by rw [YA];exact hlt)
   obtain ⟨w3,L⟩:∃w3,w3=wr.alloc (.cells #[.int .i64 k,.string (za t),.bool G,.int .i64 le,.bool E,.string (za m)] 55 (0,0)):=⟨_,rfl⟩;have A:Below wr.heap.size wr w3:=by rw [L];exact (Below.refl _ wr).alloc (Nat.le_refl _) _
   have Q:w3.heap[wr.heap.size]?=some (.cells #[.int .i64 k,.string (za t),.bool G,.int .i64 le,.bool E,.string (za m)] 55 (0,0)):=by rw [L];exact World.alloc_heap_new wr _
   have af:Below w.heap.size w w3:=ZA (ZA o z) A;have cc:=HK.out (k,t,G,le,E,m) w3 af;have HR:Hid (∃h:i<tabQ.length,tabQ[i]=(k,t,G,le,E,m)):=⟨_,V⟩;have ai:Hid (w3.heap[wr.heap.size]?=some (.cells #[.int .i64 k,.string (za t),.bool G,.int .i64 le,.bool E,.string (za m)] 55 (0,0))∧Below wr.heap.size wr w3):=⟨Q,A⟩;have ab:=L.symm;obtain ⟨d0,d1,d2,d3,d4,d5,-⟩:=zu Q;clear K z o M y H I qr pr V A Q af L
   unfold wV at cc
   simp only at cc;go_wp2_with fail
   refine cc.mono ?_;clear cc d0 d1 d2 d3 d4 d5 c0 c1 c2 c3 c4 c5 ab;rintro e w4 ⟨rfl,T⟩;obtain ⟨Q,A⟩:=ai.out;have U:w4.heap[wr.heap.size]?=some (.cells #[.int .i64 k,.string (za t),.bool G,.int .i64 le,.bool E,.string (za m)] 55 (0,0)):=(T.block _ (Zl Q)).trans Q;obtain ⟨d0,d1,d2,d3,d4,d5,-⟩:=zu U;have R:Hid (Below w2.heap.size w2 w4):=ZA ah.out (ZA A T);clear Q A T U;cases hp:p (k,t,G,le,E,m) with
   | true =>
    have HF:Hid (findQ p=(k,t,G,le,E,m)):=by
     obtain ⟨h,V⟩:=HR.out;rw [←V] at hp ⊢;exact Xm h HN.out hp
    obtain ⟨o,M,y⟩:=ag.out;obtain ⟨H,I⟩:=aa.out;have U:w4.heap[B]?=some (.cells #[.int .i64 0,.string ⟨#[]⟩,.bool false,.int .i64 0,.bool false,.string ⟨#[]⟩] 55 (0,0)):=(R.out.block _ (by omega)).trans I
    obtain ⟨e0,e1,e2,e3,e4,e5,ef⟩:=zu U;obtain ⟨z0,z1,z2,Y,X,Z,-⟩:=zu (ZW U (.int .i64 k) (.string (za t)) (.bool G) (.int .i64 le) (.bool E) (.string (za m)));have HZ:Hid (Below w.heap.size w (yM w4 B (.int .i64 k) (.string (za t)) (.bool G) (.int .i64 le) (.bool E) (.string (za m)))):=ZX (ZA o R.out) (by omega) _ _ _ _ _ _
    clear o M y H I U hp
    unfold yM at z0 z1 z2 Y X Z
    go_wp2
    exact bodyPost_ret (v:=.agg #[.int .i64 k,.string (za t),.bool G,.int .i64 le,.bool E,.string (za m)]) (by simp [results,Tryz.results37,go_sem,z0,z1,z2,Y,X,Z]) rfl ⟨by rw [HF.out];rfl,HZ.out⟩
   | false =>
    go_wp2
    refine ⟨⟨i+1,by omega,by go_num,fun j h hj=>?_,R.out⟩,by simp [intOf];omega⟩
    by_cases hji:j<i
    ·exact HN.out j h hji
    ·obtain rfl:j=i:=by omega
     obtain ⟨h',V⟩:=HR.out;rw [V];exact hp
  ·obtain rfl:i=17:=by omega
   obtain ⟨e0,e1,e2,e3,e4,e5,ef⟩:=zu pr;have HF:Hid (findQ p=yU):=xq fun j h=>K j h (by rw [YA] at h;exact h)
   obtain ⟨z0,z1,z2,Y,X,Z,-⟩:=zu (ZW pr (.int .i64 0) (.string ⟨#[]⟩) (.bool false) (.int .i64 0) (.bool false) (.string ⟨#[]⟩));have HZ:Hid (Below w.heap.size w (yM wr B (.int .i64 0) (.string ⟨#[]⟩) (.bool false) (.int .i64 0) (.bool false) (.string ⟨#[]⟩))):=ZX (ZA o z) (by omega) _ _ _ _ _ _
   clear K z o M y H I qr pr
   unfold yM at z0 z1 z2 Y X Z
   go_wp2
   exact bodyPost_ret (v:=.agg #[.int .i64 0,.string ⟨#[]⟩,.bool false,.int .i64 0,.bool false,.string ⟨#[]⟩]) (by simp [results,Tryz.results37,go_sem,z0,z1,z2,Y,X,Z]) rfl ⟨by rw [HF.out];rfl,HZ.out⟩
end Go.Proofs.YtmbofhpmockmbaaGreatDoor
