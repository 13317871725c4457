import Derived.Test.YtmbofhpmockmbaaGreatDoorMC1
namespace Go.Proofs.YtmbofhpmockmbaaGreatDoor
open Go.RowKit Go.Shelf
set_option maxHeartbeats 16000000
set_option maxRecDepth 100000
theorem vA (p:Wq→Bool) (g:Nat) (w:World)
  (hk:∀r W,Below w.heap.size w W→Calls Tryz.prog 38 #[wV r,.pointer (some ⟨g,0,none⟩)] W fun e w'=>e=.returned (.bool (p r))∧Below W.heap.size W w') :
  Calls Tryz.prog 37 #[.func (.func 38) #[] #[.pointer (some ⟨g,0,none⟩)]] w fun e w'=>e=.returned (wV (findQ p))∧Below w.heap.size w w':=by
 have HK:Hid (∀r W,Below w.heap.size w W→Calls Tryz.prog 38 #[wV r,.pointer (some ⟨g,0,none⟩)] W fun e w'=>e=.returned (.bool (p r))∧Below W.heap.size W w'):=hk
 obtain ⟨w1,D⟩:∃w1,w1=w.alloc (.cells #[.int .i64 0,.string ⟨#[]⟩,.bool false,.int .i64 0,.bool false,.string ⟨#[]⟩] 55 (0,0)):=⟨_,rfl⟩;have aa:Below w.heap.size w w1:=by rw [D];exact (Below.refl _ w).alloc (Nat.le_refl _) _
 have N:w1.heap.size=w.heap.size+1:=by rw [D];simp
 have p1:w1.heap[w.heap.size]?=some (.cells #[.int .i64 0,.string ⟨#[]⟩,.bool false,.int .i64 0,.bool false,.string ⟨#[]⟩] 55 (0,0)):=by rw [D];exact World.alloc_heap_new w _
 have cw:=YR w1;have U:=D.symm;clear hk D
 go_enter Tryz.func37,Tryz.ntmps37
 go_wp2_with fail
 refine cw.mono ?_;clear cw U;rintro e w2 ⟨rfl,K⟩;have x:w2.heap.size=w.heap.size+2:=by rw [K];simp [N]
 have o:Below w1.heap.size w1 w2:=by rw [K];exact (Below.refl _ w1).alloc (Nat.le_refl _) _
 have G:w2.heap[w1.heap.size]?=some Z7:=by rw [K];exact World.alloc_heap_new w1 _
 have H:w2.heap[w.heap.size]?=some (.cells #[.int .i64 0,.string ⟨#[]⟩,.bool false,.int .i64 0,.bool false,.string ⟨#[]⟩] 55 (0,0)):=(o.block _ (by omega)).trans p1
 rw [N] at G ⊢;obtain ⟨B,L⟩:∃B,B=w.heap.size:=⟨_,rfl⟩;rw [←L] at G H x ⊢;have V:Hid (Below w.heap.size w w2∧w.heap.size=B∧w2.heap.size=B+2):=⟨Zs aa o,L.symm,x⟩;have Y:Hid (w2.heap[B+1]?=some Z7∧w2.heap[B]?=some (.cells #[.int .i64 0,.string ⟨#[]⟩,.bool false,.int .i64 0,.bool false,.string ⟨#[]⟩] 55 (0,0))):=⟨G,H⟩;clear aa N p1 K x o G H L;go_wp2_with fail
 go_loopw [7] (fun vi wr=>∃i:Nat,i≤17∧vi=.int .i64 i∧(∀j (h:j<tabQ.length),j<i→p tabQ[j]=false)∧Below w2.heap.size w2 wr) (fun vi _=>17-(intOf vi).toNat)
 case atStart=>exact ⟨0,Nat.zero_le _,rfl,fun j h hj=>by omega,Below.refl _ _⟩
 case round =>
  obtain ⟨i,hi,rfl,J,y⟩:=hrel;have HN:Hid (∀j (h:j<tabQ.length),j<i→p tabQ[j]=false):=J;have ad:Hid (Below w2.heap.size w2 wr):=y;obtain ⟨o,L,x⟩:=V.out;obtain ⟨G,H⟩:=Y.out;have qr:wr.heap[B+1]?=some Z7:=(y.block _ (by omega)).trans G
  have pr:wr.heap[B]?=some (.cells #[.int .i64 0,.string ⟨#[]⟩,.bool false,.int .i64 0,.bool false,.string ⟨#[]⟩] 55 (0,0)):=(y.block _ (by omega)).trans H
  by_cases hlt:i<17
  ·have af:(i:Int)<17:=by omega
   obtain ⟨k,t,A,le,E,m,S,c0,c1,c2,c3,c4,c5⟩:=YP qr i (by rw [yE];exact hlt)
   obtain ⟨w3,I⟩:∃w3,w3=wr.alloc (.cells #[.int .i64 k,.string (za t),.bool A,.int .i64 le,.bool E,.string (za m)] 55 (0,0)):=⟨_,rfl⟩;have z:Below wr.heap.size wr w3:=by rw [I];exact (Below.refl _ wr).alloc (Nat.le_refl _) _
   have O:w3.heap[wr.heap.size]?=some (.cells #[.int .i64 k,.string (za t),.bool A,.int .i64 le,.bool E,.string (za m)] 55 (0,0)):=by rw [I];exact World.alloc_heap_new wr _
   have ab:Below w.heap.size w w3:=Zs (Zs o y) z;have cc:=HK.out (k,t,A,le,E,m) w3 ab;have HR:Hid (∃h:i<tabQ.length,tabQ[i]=(k,t,A,le,E,m)):=⟨_,S⟩;have ae:Hid (w3.heap[wr.heap.size]?=some (.cells #[.int .i64 k,.string (za t),.bool A,.int .i64 le,.bool E,.string (za m)] 55 (0,0))∧Below wr.heap.size wr w3):=⟨O,z⟩;have Z:=I.symm;obtain ⟨d0,d1,d2,d3,d4,d5,-⟩:=zq O;clear J y o L x G H qr pr S z O ab I
   unfold wV at cc
   simp only at cc;go_wp2_with fail
   refine cc.mono ?_;clear cc d0 d1 d2 d3 d4 d5 c0 c1 c2 c3 c4 c5 Z;rintro e w4 ⟨rfl,Q⟩;obtain ⟨O,z⟩:=ae.out;have R:w4.heap[wr.heap.size]?=some (.cells #[.int .i64 k,.string (za t),.bool A,.int .i64 le,.bool E,.string (za m)] 55 (0,0)):=(Q.block _ (yq O)).trans O;obtain ⟨d0,d1,d2,d3,d4,d5,-⟩:=zq R;have M:Hid (Below w2.heap.size w2 w4):=Zs ad.out (Zs z Q);clear O z Q R;cases hp:p (k,t,A,le,E,m) with
   | true =>
    have HF:Hid (findQ p=(k,t,A,le,E,m)):=by
     obtain ⟨h,S⟩:=HR.out;rw [←S] at hp ⊢;exact YQ h HN.out hp
    obtain ⟨o,L,x⟩:=V.out;obtain ⟨G,H⟩:=Y.out;have R:w4.heap[B]?=some (.cells #[.int .i64 0,.string ⟨#[]⟩,.bool false,.int .i64 0,.bool false,.string ⟨#[]⟩] 55 (0,0)):=(M.out.block _ (by omega)).trans H
    obtain ⟨e0,e1,e2,e3,e4,e5,ef⟩:=zq R;obtain ⟨X,z1,z2,z3,T,z5,-⟩:=zq (Zz R (.int .i64 k) (.string (za t)) (.bool A) (.int .i64 le) (.bool E) (.string (za m)));have HZ:Hid (Below w.heap.size w (yc w4 B (.int .i64 k) (.string (za t)) (.bool A) (.int .i64 le) (.bool E) (.string (za m)))):=ZA (Zs o M.out) (by omega) _ _ _ _ _ _
    clear o L x G H R hp
    unfold yc at X z1 z2 z3 T z5
    go_wp2
    exact bodyPost_ret (v:=.agg #[.int .i64 k,.string (za t),.bool A,.int .i64 le,.bool E,.string (za m)]) (by simp [results,Tryz.results37,go_sem,X,z1,z2,z3,T,z5]) rfl ⟨by rw [HF.out];rfl,HZ.out⟩
   | false =>
    go_wp2
    refine ⟨⟨i+1,by omega,by go_num,fun j h hj=>?_,M.out⟩,by simp [intOf];omega⟩
    by_cases hji:j<i
    ·exact HN.out j h hji
    ·obtain rfl:j=i:=by omega
     obtain ⟨h',S⟩:=HR.out;rw [S];exact hp
  ·obtain rfl:i=17:=by omega
   obtain ⟨e0,e1,e2,e3,e4,e5,ef⟩:=zq pr;have HF:Hid (findQ p=yg):=Ye fun j h=>J j h (by rw [yE] at h;exact h)
   obtain ⟨X,z1,z2,z3,T,z5,-⟩:=zq (Zz pr (.int .i64 0) (.string ⟨#[]⟩) (.bool false) (.int .i64 0) (.bool false) (.string ⟨#[]⟩));have HZ:Hid (Below w.heap.size w (yc wr B (.int .i64 0) (.string ⟨#[]⟩) (.bool false) (.int .i64 0) (.bool false) (.string ⟨#[]⟩))):=ZA (Zs o y) (by omega) _ _ _ _ _ _
   clear J y o L x G H qr pr
   unfold yc at X z1 z2 z3 T z5
   go_wp2
   exact bodyPost_ret (v:=.agg #[.int .i64 0,.string ⟨#[]⟩,.bool false,.int .i64 0,.bool false,.string ⟨#[]⟩]) (by simp [results,Tryz.results37,go_sem,X,z1,z2,z3,T,z5]) rfl ⟨by rw [HF.out];rfl,HZ.out⟩
end Go.Proofs.YtmbofhpmockmbaaGreatDoor
