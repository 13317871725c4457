import Derived.Test.YtmbofhpmockmbaaGreatDoorMC1
namespace Go.Proofs.YtmbofhpmockmbaaGreatDoor
open Go.RowKit Go.Shelf
set_option maxHeartbeats 16000000
set_option maxRecDepth 100000
theorem VA (p:Wq→Bool) (g:Nat) (w:World)
  (hk:∀r W,Below w.heap.size w W→Calls Tryz.prog 38 #[wV r,.pointer (some ⟨g,0,none⟩)] W fun e w'=>e=.returned (.bool (p r))∧Below W.heap.size W w') :
  Calls Tryz.prog 37 #[.func (.func 38) #[] #[.pointer (some ⟨g,0,none⟩)]] w fun e w'=>e=.returned (wV (findQ p))∧Below w.heap.size w w':=by
 have HK:Hid (∀r W,Below w.heap.size w W→Calls Tryz.prog 38 #[wV r,.pointer (some ⟨g,0,none⟩)] W fun e w'=>e=.returned (.bool (p r))∧Below W.heap.size W w'):=hk
 obtain ⟨w1,G⟩:∃w1,w1=w.alloc (.cells #[.int .i64 0,.string ⟨#[]⟩,.bool false,.int .i64 0,.bool false,.string ⟨#[]⟩] 55 (0,0)):=⟨_,rfl⟩;have ad:Below w.heap.size w w1:=by rw [G];exact (Below.refl _ w).alloc (Nat.le_refl _) _
 have O:w1.heap.size=w.heap.size+1:=by rw [G];simp
 have p1:w1.heap[w.heap.size]?=some (.cells #[.int .i64 0,.string ⟨#[]⟩,.bool false,.int .i64 0,.bool false,.string ⟨#[]⟩] 55 (0,0)):=by rw [G];exact World.alloc_heap_new w _
 have cw:=xq w1;have ab:=G.symm;clear hk G
 go_enter Tryz.func37,Tryz.ntmps37
 go_wp2_with fail
 refine cw.mono ?_;clear cw ab;rintro e w2 ⟨rfl,L⟩;have y:w2.heap.size=w.heap.size+2:=by rw [L];simp [O]
 have o:Below w1.heap.size w1 w2:=by rw [L];exact (Below.refl _ w1).alloc (Nat.le_refl _) _
 have I:w2.heap[w1.heap.size]?=some yo:=by rw [L];exact World.alloc_heap_new w1 _
 have H:w2.heap[w.heap.size]?=some (.cells #[.int .i64 0,.string ⟨#[]⟩,.bool false,.int .i64 0,.bool false,.string ⟨#[]⟩] 55 (0,0)):=(o.block _ (by omega)).trans p1
 rw [O] at I ⊢;obtain ⟨B,M⟩:∃B,B=w.heap.size:=⟨_,rfl⟩;rw [←M] at I H y ⊢;have ae:Hid (Below w.heap.size w w2∧w.heap.size=B∧w2.heap.size=B+2):=⟨ZC ad o,M.symm,y⟩;have Z:Hid (w2.heap[B+1]?=some yo∧w2.heap[B]?=some (.cells #[.int .i64 0,.string ⟨#[]⟩,.bool false,.int .i64 0,.bool false,.string ⟨#[]⟩] 55 (0,0))):=⟨I,H⟩;clear ad O p1 L y o I H M;go_wp2_with fail
 go_loopw [7] (fun vi wr=>∃i:Nat,i≤17∧vi=.int .i64 i∧(∀j (h:j<tabQ.length),j<i→p tabQ[j]=false)∧Below w2.heap.size w2 wr) (fun vi _=>17-(intOf vi).toNat)
 case atStart=>exact ⟨0,Nat.zero_le _,rfl,fun j h hj=>by omega,Below.refl _ _⟩
 case round =>
  obtain ⟨i,hi,rfl,J,z⟩:=hrel;have HN:Hid (∀j (h:j<tabQ.length),j<i→p tabQ[j]=false):=J;have ag:Hid (Below w2.heap.size w2 wr):=z;obtain ⟨o,M,y⟩:=ae.out;obtain ⟨I,H⟩:=Z.out;have qr:wr.heap[B+1]?=some yo:=(z.block _ (by omega)).trans I
  have pr:wr.heap[B]?=some (.cells #[.int .i64 0,.string ⟨#[]⟩,.bool false,.int .i64 0,.bool false,.string ⟨#[]⟩] 55 (0,0)):=(z.block _ (by omega)).trans H
  by_cases hlt:i<17
  ·have ah:(i:Int)<17:=by omega
   obtain ⟨k,t,D,le,E,m,T,c0,c1,c2,c3,c4,c5⟩:=xo qr i (by rw [yX];exact hlt)
   obtain ⟨w3,K⟩:∃w3,w3=wr.alloc (.cells #[.int .i64 k,.string (za t),.bool D,.int .i64 le,.bool E,.string (za m)] 55 (0,0)):=⟨_,rfl⟩;have A:Below wr.heap.size wr w3:=by rw [K];exact (Below.refl _ wr).alloc (Nat.le_refl _) _
   have R:w3.heap[wr.heap.size]?=some (.cells #[.int .i64 k,.string (za t),.bool D,.int .i64 le,.bool E,.string (za m)] 55 (0,0)):=by rw [K];exact World.alloc_heap_new wr _
   have V:Below w.heap.size w w3:=ZC (ZC o z) A;have cc:=HK.out (k,t,D,le,E,m) w3 V;have HR:Hid (∃h:i<tabQ.length,tabQ[i]=(k,t,D,le,E,m)):=⟨_,T⟩;have af:Hid (w3.heap[wr.heap.size]?=some (.cells #[.int .i64 k,.string (za t),.bool D,.int .i64 le,.bool E,.string (za m)] 55 (0,0))∧Below wr.heap.size wr w3):=⟨R,A⟩;have aa:=K.symm;obtain ⟨d0,d1,d2,d3,d4,d5,-⟩:=zr R;clear J z o M y I H qr pr T A R V K
   unfold wV at cc
   simp only at cc;go_wp2_with fail
   refine cc.mono ?_;clear cc d0 d1 d2 d3 d4 d5 c0 c1 c2 c3 c4 c5 aa;rintro e w4 ⟨rfl,N⟩;obtain ⟨R,A⟩:=af.out;have S:w4.heap[wr.heap.size]?=some (.cells #[.int .i64 k,.string (za t),.bool D,.int .i64 le,.bool E,.string (za m)] 55 (0,0)):=(N.block _ (yj R)).trans R;obtain ⟨d0,d1,d2,d3,d4,d5,-⟩:=zr S;have Q:Hid (Below w2.heap.size w2 w4):=ZC ag.out (ZC A N);clear R A N S;cases hp:p (k,t,D,le,E,m) with
   | true =>
    have HF:Hid (findQ p=(k,t,D,le,E,m)):=by
     obtain ⟨h,T⟩:=HR.out;rw [←T] at hp ⊢;exact xp h HN.out hp
    obtain ⟨o,M,y⟩:=ae.out;obtain ⟨I,H⟩:=Z.out;have S:w4.heap[B]?=some (.cells #[.int .i64 0,.string ⟨#[]⟩,.bool false,.int .i64 0,.bool false,.string ⟨#[]⟩] 55 (0,0)):=(Q.out.block _ (by omega)).trans H
    obtain ⟨e0,e1,e2,e3,e4,e5,ef⟩:=zr S;obtain ⟨X,z1,U,z3,z4,Y,-⟩:=zr (ZK S (.int .i64 k) (.string (za t)) (.bool D) (.int .i64 le) (.bool E) (.string (za m)));have HZ:Hid (Below w.heap.size w (yt w4 B (.int .i64 k) (.string (za t)) (.bool D) (.int .i64 le) (.bool E) (.string (za m)))):=ZM (ZC o Q.out) (by omega) _ _ _ _ _ _
    clear o M y I H S hp
    unfold yt at X z1 U z3 z4 Y
    go_wp2
    exact bodyPost_ret (v:=.agg #[.int .i64 k,.string (za t),.bool D,.int .i64 le,.bool E,.string (za m)]) (by simp [results,Tryz.results37,go_sem,X,z1,U,z3,z4,Y]) rfl ⟨by rw [HF.out];rfl,HZ.out⟩
   | false =>
    go_wp2
    refine ⟨⟨i+1,by omega,by go_num,fun j h hj=>?_,Q.out⟩,by simp [intOf];omega⟩
    by_cases hji:j<i
    ·exact HN.out j h hji
    ·obtain rfl:j=i:=by omega
     obtain ⟨h',T⟩:=HR.out;rw [T];exact hp
  ·obtain rfl:i=17:=by omega
   obtain ⟨e0,e1,e2,e3,e4,e5,ef⟩:=zr pr;have HF:Hid (findQ p=yy):=YD fun j h=>J j h (by rw [yX] at h;exact h)
   obtain ⟨X,z1,U,z3,z4,Y,-⟩:=zr (ZK pr (.int .i64 0) (.string ⟨#[]⟩) (.bool false) (.int .i64 0) (.bool false) (.string ⟨#[]⟩));have HZ:Hid (Below w.heap.size w (yt wr B (.int .i64 0) (.string ⟨#[]⟩) (.bool false) (.int .i64 0) (.bool false) (.string ⟨#[]⟩))):=ZM (ZC o z) (by omega) _ _ _ _ _ _
   clear J z o M y I H qr pr
   unfold yt at X z1 U z3 z4 Y
   go_wp2
   exact bodyPost_ret (v:=.agg #[.int .i64 0,.string ⟨#[]⟩,.bool false,.int .i64 0,.bool false,.string ⟨#[]⟩]) (by simp [results,Tryz.results37,go_sem,X,z1,U,z3,z4,Y]) rfl ⟨by rw [HF.out];rfl,HZ.out⟩
end Go.Proofs.YtmbofhpmockmbaaGreatDoor
