import Derived.Test.YtmbofhpmockmbaaGreatDoorMC1
import Derived.Test.YtmbofhpmockmbaaGreatDoorMC23
import Derived.Test.YtmbofhpmockmbaaGreatDoorQPrint
namespace Go.Proofs.YtmbofhpmockmbaaGreatDoor
open Go.RowKit Go.Shelf
set_option maxHeartbeats 16000000
set_option maxRecDepth 100000
theorem Qg (p:Wq→Bool) (g:Nat) (w:World)
  (hk:∀r W,Below w.heap.size w W→Calls Tryz.prog 38 #[wV r,.pointer (some ⟨g,0,none⟩)] W fun e w'=>e=.returned (.bool (p r))∧Below W.heap.size W w') :
  Calls Tryz.prog 37 #[.func (.func 38) #[] #[.pointer (some ⟨g,0,none⟩)]] w fun e w'=>e=.returned (wV (findQ p))∧Below w.heap.size w w':=by
 have HK:Hid (∀r W,Below w.heap.size w W→Calls Tryz.prog 38 #[wV r,.pointer (some ⟨g,0,none⟩)] W fun e w'=>e=.returned (.bool (p r))∧Below W.heap.size W w'):=hk
 obtain ⟨w1,G⟩:∃w1,w1=w.alloc (.cells #[.int .i64 0,.string ⟨#[]⟩,.bool false,.int .i64 0,.bool false,.string ⟨#[]⟩] 55 (0,0)):=⟨_,rfl⟩;have ae:Below w.heap.size w w1:=by rw [G];exact (Below.refl _ w).alloc (Nat.le_refl _) _
 have O:w1.heap.size=w.heap.size+1:=by rw [G];simp
 have p1:w1.heap[w.heap.size]?=some (.cells #[.int .i64 0,.string ⟨#[]⟩,.bool false,.int .i64 0,.bool false,.string ⟨#[]⟩] 55 (0,0)):=by rw [G];exact World.alloc_heap_new w _
 have cw:=Va w1;have aa:=G.symm;clear hk G
 go_enter Tryz.func37,Tryz.ntmps37
 go_wp2_with fail
 refine cw.mono ?_;clear cw aa;rintro e w2 ⟨rfl,K⟩;have y:w2.heap.size=w.heap.size+2:=by rw [K];simp [O]
 have o:Below w1.heap.size w1 w2:=by rw [K];exact (Below.refl _ w1).alloc (Nat.le_refl _) _
 have I:w2.heap[w1.heap.size]?=some YA:=by rw [K];exact World.alloc_heap_new w1 _
 have H:w2.heap[w.heap.size]?=some (.cells #[.int .i64 0,.string ⟨#[]⟩,.bool false,.int .i64 0,.bool false,.string ⟨#[]⟩] 55 (0,0)):=(o.block _ (by omega)).trans p1
 rw [O] at I ⊢;obtain ⟨B,M⟩:∃B,B=w.heap.size:=⟨_,rfl⟩;rw [←M] at I H y ⊢;have ad:Hid (Below w.heap.size w w2∧w.heap.size=B∧w2.heap.size=B+2):=⟨yb ae o,M.symm,y⟩;have V:Hid (w2.heap[B+1]?=some YA∧w2.heap[B]?=some (.cells #[.int .i64 0,.string ⟨#[]⟩,.bool false,.int .i64 0,.bool false,.string ⟨#[]⟩] 55 (0,0))):=⟨I,H⟩;clear ae O p1 K y o I H M;go_wp2_with fail
 go_loopw [7] (fun vi wr=>∃i:Nat,i≤17∧vi=.int .i64 i∧(∀j (h:j<tabQ.length),j<i→p tabQ[j]=false)∧Below w2.heap.size w2 wr) (fun vi _=>17-(intOf vi).toNat)
 case atStart=>exact ⟨0,Nat.zero_le _,rfl,fun j h hj=>by omega,Below.refl _ _⟩
 case round =>
  obtain ⟨i,hi,rfl,L,z⟩:=hrel;have HN:Hid (∀j (h:j<tabQ.length),j<i→p tabQ[j]=false):=L;have af:Hid (Below w2.heap.size w2 wr):=z;obtain ⟨o,M,y⟩:=ad.out;obtain ⟨I,H⟩:=V.out;have qr:wr.heap[B+1]?=some YA:=(z.block _ (by omega)).trans I
  have pr:wr.heap[B]?=some (.cells #[.int .i64 0,.string ⟨#[]⟩,.bool false,.int .i64 0,.bool false,.string ⟨#[]⟩] 55 (0,0)):=(z.block _ (by omega)).trans H
  by_cases hlt:i<17
  ·have ah:(i:Int)<17:=by omega
   obtain ⟨k,t,D,le,E,m,U,c0,c1,c2,c3,c4,c5⟩:=v7 qr i (by rw [xG];exact hlt)
   obtain ⟨w3,J⟩:∃w3,w3=wr.alloc (.cells #[.int .i64 k,.string (za t),.bool D,.int .i64 le,.bool E,.string (za m)] 55 (0,0)):=⟨_,rfl⟩;have A:Below wr.heap.size wr w3:=by rw [J];exact (Below.refl _ wr).alloc (Nat.le_refl _) _
   have R:w3.heap[wr.heap.size]?=some (.cells #[.int .i64 k,.string (za t),.bool D,.int .i64 le,.bool E,.string (za m)] 55 (0,0)):=by rw [J];exact World.alloc_heap_new wr _
   have ab:Below w.heap.size w w3:=yb (yb o z) A;have cc:=HK.out (k,t,D,le,E,m) w3 ab;have HR:Hid (∃h:i<tabQ.length,tabQ[i]=(k,t,D,le,E,m)):=⟨_,U⟩;have ag:Hid (w3.heap[wr.heap.size]?=some (.cells #[.int .i64 k,.string (za t),.bool D,.int .i64 le,.bool E,.string (za m)] 55 (0,0))∧Below wr.heap.size wr w3):=⟨R,A⟩;have X:=J.symm;obtain ⟨d0,d1,d2,d3,d4,d5,-⟩:=zG R;clear L z o M y I H qr pr U A R ab J
   unfold wV at cc
   simp only at cc;go_wp2_with fail
   refine cc.mono ?_;clear cc d0 d1 d2 d3 d4 d5 c0 c1 c2 c3 c4 c5 X;rintro e w4 ⟨rfl,N⟩;obtain ⟨R,A⟩:=ag.out;have T:w4.heap[wr.heap.size]?=some (.cells #[.int .i64 k,.string (za t),.bool D,.int .i64 le,.bool E,.string (za m)] 55 (0,0)):=(N.block _ (y7 R)).trans R;obtain ⟨d0,d1,d2,d3,d4,d5,-⟩:=zG T;have Q:Hid (Below w2.heap.size w2 w4):=yb af.out (yb A N);clear R A N T;cases hp:p (k,t,D,le,E,m) with
   | true =>
    have HF:Hid (findQ p=(k,t,D,le,E,m)):=by
     obtain ⟨h,U⟩:=HR.out;rw [←U] at hp ⊢;exact v8 h HN.out hp
    obtain ⟨o,M,y⟩:=ad.out;obtain ⟨I,H⟩:=V.out;have T:w4.heap[B]?=some (.cells #[.int .i64 0,.string ⟨#[]⟩,.bool false,.int .i64 0,.bool false,.string ⟨#[]⟩] 55 (0,0)):=(Q.out.block _ (by omega)).trans H
    obtain ⟨e0,e1,e2,e3,e4,e5,ef⟩:=zG T;obtain ⟨Y,z1,z2,z3,z4,Z,-⟩:=zG (yv T (.int .i64 k) (.string (za t)) (.bool D) (.int .i64 le) (.bool E) (.string (za m)));have HZ:Hid (Below w.heap.size w (YM w4 B (.int .i64 k) (.string (za t)) (.bool D) (.int .i64 le) (.bool E) (.string (za m)))):=yx (yb o Q.out) (by omega) _ _ _ _ _ _
    clear o M y I H T hp
    unfold YM at Y z1 z2 z3 z4 Z
    go_wp2
    exact bodyPost_ret (v:=.agg #[.int .i64 k,.string (za t),.bool D,.int .i64 le,.bool E,.string (za m)]) (by simp [results,Tryz.results37,go_sem,Y,z1,z2,z3,z4,Z]) rfl ⟨by rw [HF.out];rfl,HZ.out⟩
   | false =>
    go_wp2
    refine ⟨⟨i+1,by omega,by go_num,fun j h hj=>?_,Q.out⟩,by simp [intOf];omega⟩
    by_cases hji:j<i
    ·exact HN.out j h hji
    ·obtain rfl:j=i:=by omega
     obtain ⟨h',U⟩:=HR.out;rw [U];exact hp
  ·obtain rfl:i=17:=by omega
   obtain ⟨e0,e1,e2,e3,e4,e5,ef⟩:=zG pr;have HF:Hid (findQ p=y5):=XJ fun j h=>L j h (by rw [xG] at h;exact h)
   obtain ⟨Y,z1,z2,z3,z4,Z,-⟩:=zG (yv pr (.int .i64 0) (.string ⟨#[]⟩) (.bool false) (.int .i64 0) (.bool false) (.string ⟨#[]⟩));have HZ:Hid (Below w.heap.size w (YM wr B (.int .i64 0) (.string ⟨#[]⟩) (.bool false) (.int .i64 0) (.bool false) (.string ⟨#[]⟩))):=yx (yb o z) (by omega) _ _ _ _ _ _
   clear L z o M y I H qr pr
   unfold YM at Y z1 z2 z3 z4 Z
   go_wp2
   exact bodyPost_ret (v:=.agg #[.int .i64 0,.string ⟨#[]⟩,.bool false,.int .i64 0,.bool false,.string ⟨#[]⟩]) (by simp [results,Tryz.results37,go_sem,Y,z1,z2,z3,z4,Z]) rfl ⟨by rw [HF.out];rfl,HZ.out⟩
structure QJ (w wr:World) (R L W C:Nat) (l:List UInt8) (a:Int) (b:List UInt8) (c:Bool) (d:Int) (f:Bool) (g:List UInt8) (k n:Int) (s:List UInt8):Prop where
 below:Below w.heap.size w wr
 pr:wr.heap[R]?=some (.cells #[.int .i64 0,.int .i64 0,.string ⟨#[]⟩] 24 (0,0))
 pl:wr.heap[L]?=some (.cells #[.string (za l)] 9 (0,0))
 pw:wr.heap[W]?=some (.cells #[.int .i64 a,.string (za b),.bool c,.int .i64 d,.bool f,.string (za g)] 55 (0,0))
 pc:wr.heap[C]?=some (.cells #[.int .i64 k,.int .i64 n,.string (za s)] 24 (0,0))
 hR:w.heap.size≤R
 hL:R<L
 hW:L<W
 hC:W<C
section
variable {w wr wx:World} {R L W C:Nat} {l:List UInt8} {a:Int} {b:List UInt8} {c:Bool} {d:Int} {f:Bool} {g:List UInt8} {k n:Int} {s:List UInt8}
theorem QJ.step (h:QJ w wr R L W C l a b c d f g k n s) (hb:Below wr.heap.size wr wx):QJ w wx R L W C l a b c d f g k n s :=
 ⟨yb h.below hb,(hb.block _ (y7 h.pr)).trans h.pr,(hb.block _ (y7 h.pl)).trans h.pl,(hb.block _ (y7 h.pw)).trans h.pw,(hb.block _ (y7 h.pc)).trans h.pc,h.hR,h.hL,h.hW,h.hC⟩
theorem QJ.cut (h:QJ w wr R L W C l a b c d f g k n s) {l':List UInt8} (h1:wx.heap[L]?=some (.cells #[.string (za l')] 9 (0,0))) (h2:∀j,j<wr.heap.size→j≠L→wx.heap[j]?=wr.heap[j]?) (h3:Below L wr wx):QJ w wx R L W C l' a b c d f g k n s:=by
 have z:=h.hR;have y:=h.hL;have e:=h.hW;have o:=h.hC;exact ⟨h.below.trans (h3.mono (by omega)),(h2 _ (y7 h.pr) (by omega)).trans h.pr,h1,(h2 _ (y7 h.pw) (by omega)).trans h.pw,(h2 _ (y7 h.pc) (by omega)).trans h.pc,z,y,e,o⟩
theorem QJ.setC (h:QJ w wr R L W C l a b c d f g k n s) {k' n':Int} {s':List UInt8} (hx:wx.heap[C]?=some (.cells #[.int .i64 k',.int .i64 n',.string (za s')] 24 (0,0))) (h2:∀j,j≠C→wx.heap[j]?=wr.heap[j]?) (h3:Below C wr wx):QJ w wx R L W C l a b c d f g k' n' s':=by
 have z:=h.hR;have y:=h.hL;have e:=h.hW;have o:=h.hC;exact ⟨h.below.trans (h3.mono (by omega)),(h2 _ (by omega)).trans h.pr,(h2 _ (by omega)).trans h.pl,(h2 _ (by omega)).trans h.pw,hx,z,y,e,o⟩
theorem QJ.setN (h:QJ w wr R L W C l a b c d f g k n s) (n':Int):QJ w (wr.setCell ⟨C,1,none⟩ (.int .i64 n')) R L W C l a b c d f g k n' s :=
 h.setC (xR h.pc _) (fun _ hj=>Below.heap_setCell _ _ _ _ hj) ((Below.refl C wr).setCell (p:=⟨C,1,none⟩) (Nat.le_refl _) _)
theorem QJ.setS (h:QJ w wr R L W C l a b c d f g k n s) (s':List UInt8):QJ w (wr.setCell ⟨C,2,none⟩ (.string (za s'))) R L W C l a b c d f g k n s' :=
 h.setC (xR h.pc _) (fun _ hj=>Below.heap_setCell _ _ _ _ hj) ((Below.refl C wr).setCell (p:=⟨C,2,none⟩) (Nat.le_refl _) _)
end
theorem UT (t:List UInt8) (g:Nat) (r:Wq) (w:World) (h:w.cell? ⟨g,0,none⟩=some (.string (za t))) :
  Calls Tryz.prog 38 #[wV r,.pointer (some ⟨g,0,none⟩)] w fun e w'=>e=.returned (.bool (decide (r.2.1=t)))∧Below w.heap.size w w':=by
 obtain ⟨a,b,c,d,e,f⟩:=r
 unfold wV
 have y:g<w.heap.size:=World.block_lt_of_cell? w _ h;have A:∀o,(w.alloc o).cell? ⟨g,0,none⟩=some (.string (za t)):=fun o=>by rw [World.cell?_alloc_lt _ _ _ y];exact h
 clear h
 by_cases hbt:b=t
 ·subst hbt
  go_enter Tryz.func38,Tryz.ntmps38
  go_wp2
  go_ret
  exact ⟨by simp,(Below.refl _ w).alloc (Nat.le_refl _) _⟩
 ·have z:¬ (za b)=za t:=fun h=>hbt (by have:=congrArg (fun x=>x.data.toList) h;simpa using this)
  go_enter Tryz.func38,Tryz.ntmps38
  go_wp2
  go_ret
  exact ⟨by simp [hbt],(Below.refl _ w).alloc (Nat.le_refl _) _⟩
theorem vy (l:List UInt8) (w:World) (hl:l.length≤10000000) (hQ:QT w) :
  Calls Tryz.prog 14 #[.string (za l)] w fun e w'=>((∃k n s,zZ l=(k,n,s)∧Zt Zy k n s∧Zv k n s=l∧e=.returned (.tuple #[yJ k n s,.int .i64 0]))∨(∀k n s,zZ l=(k,n,s)→¬ (Zt Zy k n s∧Zv k n s=l))∧e=.returned (.tuple #[yJ 0 0 [],.int .i64 6]))∧Below w.heap.size w w':=by
 have HQ:Hid (QT w):=hQ;have HL:Hid (l.length≤10000000):=hl;have aI:∀(fn:Fn) (first cap:Array Value) (w:World),(Instr.makeFunc fn first cap).run Tryz.prog w=.ok (.func fn first cap) w:=fun _ _ _ _=>rfl
 obtain ⟨w1,aB,G,M,p0,p1⟩:=Qn w (.cells #[.int .i64 0,.int .i64 0,.string ⟨#[]⟩] 24 (0,0)) (.cells #[.string (za l)] 9 (0,0));have Y:=VN (w.heap.size+1) l w1 (by omega) p1
 have HP:Hid (Below w.heap.size w w1∧w1.heap.size=w.heap.size+2∧w1.heap[w.heap.size]?=some (.cells #[.int .i64 0,.int .i64 0,.string ⟨#[]⟩] 24 (0,0))):=⟨G,M,p0⟩;have an:=aB.symm;clear hQ hl G aB p0 M p1
 go_enter Tryz.func14,Tryz.ntmps14
 go_wp2_with fail
 refine Y.mono ?_;clear Y an;rintro e w2 ⟨rfl,ah,ak,ae⟩;obtain ⟨G,M,p0⟩:=HP.out;have aC:=ae.size;have ag:w2.heap[w.heap.size]?=_:=(ak _ (by omega) (by omega)).trans p0
 obtain ⟨w3,al,y,aF,p3⟩:=y8 w2 (.cells #[.string (za (Zm l).1)] 9 (0,0));have cf:=Qg (fun r=>decide (r.2.1=(Zm l).1)) w2.heap.size w3 fun r W hW=>UT (Zm l).1 w2.heap.size r W ((Xe hW (by omega)).trans (Zq p3).1)
 have aA:Hid (Below w.heap.size w w3∧w3.heap[w.heap.size]?=some (.cells #[.int .i64 0,.int .i64 0,.string ⟨#[]⟩] 24 (0,0))∧w3.heap[w.heap.size+1]?=some (.cells #[.string (za (Zm l).2)] 9 (0,0))) :=
  ⟨yb (G.trans (ae.mono (by omega))) y,(y.block _ (y7 ag)).trans ag,(y.block _ (y7 ah)).trans ah⟩
 have aj:=al.symm;clear ah ak ae G M p0 aC ag al y aF p3 HP;go_wp2_with fail
 refine cf.mono ?_;clear cf aj;rintro e w4 ⟨rfl,ad⟩;have E:Hid (zZ l=(let r:=ofWord (Zm l).1;let D:=(Zm l).2;let n:=if r.2.2.1=true then Yn (Zm D).1 else 0;let H:=if r.2.2.1=true then (Zm D).2 else D;let I:=if r.2.2.2.2.2≠[] then (Zm H).2 else H;(r.1,n,if r.2.2.2.2.1=true then I else []))):=rfl
 obtain ⟨P,hP⟩:∃P,P=(Zm l).2:=⟨_,rfl⟩;have L:Hid (P.length≤10000000):=by show _≤_;have:=(XH l).2;have:=HL.out;rw [hP];omega
 have am:=aA.out;rw [←hP] at E am;have aq:(findQ fun r=>decide (r.2.1=(Zm l).1))=ofWord (Zm l).1:=rfl
 rw [aq];generalize ofWord (Zm l).1=r at E ⊢;generalize w2.heap.size=F at *;obtain ⟨a,b,c,d,f,g⟩:=r
 unfold wV
 simp only at E ⊢;obtain ⟨y,pr,pl⟩:=am;obtain ⟨w5,ay,av,aE,p5,p6⟩:=Qn w4 (.cells #[.int .i64 a,.string (za b),.bool c,.int .i64 d,.bool f,.string (za g)] 55 (0,0)) (.cells #[.int .i64 a,.int .i64 0,.string ⟨#[]⟩] 24 (0,0));have z:=yb ad av
 have J:QJ w w5 w.heap.size (w.heap.size+1) w4.heap.size (w4.heap.size+1) P a b c d f g a 0 [] :=
  ⟨yb y z,(z.block _ (y7 pr)).trans pr,(z.block _ (y7 pl)).trans pl,p5,p6,Nat.le_refl _,by omega,by have:=y7 pl;have:=ad.size;omega,by omega⟩
 have o:Hid (QJ w w5 w.heap.size (w.heap.size+1) w4.heap.size (w4.heap.size+1) P a b c d f g a 0 []):=J;have aw:Hid (w5=(w4.alloc (.cells #[.int .i64 a,.string (za b),.bool c,.int .i64 d,.bool f,.string (za g)] 55 (0,0))).alloc (.cells #[.int .i64 a,.int .i64 0,.string ⟨#[]⟩] 24 (0,0))):=ay;clear aA hP aq ad y pr pl ay av aE p5 p6 z J
 go_upto_if 21 with fail
 rw [←aw.out];clear aw;generalize w4.heap.size=W at *;generalize HR:w.heap.size=R at *
 go_cut [22] (fun _ wx=>QJ w wx R (R+1) W (W+1) (if c=true then (Zm P).2 else P) a b c d f g a (if c=true then Yn (Zm P).1 else 0) [])
 case first =>
  cases c with
  | true =>
   have J:=o.out;obtain ⟨V,D,H,I,X,r5,-⟩:=zG J.pw;have Y:=VN (R+1) P w5 (by have:=L.out;omega) J.pl
   clear J;go_wp2_with fail
   refine Y.mono ?_;clear Y V D H I X r5;rintro e w6 ⟨rfl,h1,h2,h3⟩;have J6:=o.out.cut h1 h2 h3;have ca:=qM (Zm P).1 w6 (by have:=(XH P).1;have:=L.out;omega) (HQ.out.below J6.below)
   have aG:Hid (QJ w w6 R (R+1) W (W+1) (Zm P).2 a b true d f g a 0 []):=J6;clear h1 h2 h3 J6;go_wp2_with fail
   refine ca.mono ?_;clear ca;rintro e w7 ⟨v,rfl,ao⟩;have J7:=aG.out.step ao;have aH:Hid (QJ w w7 R (R+1) W (W+1) (Zm P).2 a b true d f g a 0 []):=J7;obtain ⟨q0,q1,q2,qf⟩:=zw J7.pc;clear ao J7;go_wp2_with fail
   go_meet
   exact aH.out.setN _
  | false =>
   have J:=o.out;obtain ⟨V,D,H,I,X,r5,-⟩:=zG J.pw;clear J;go_wp2_with fail
   go_meet
   exact o.out
 case rest =>
  clear o;obtain ⟨P2,O⟩:∃P2,P2=if c=true then (Zm P).2 else P:=⟨_,rfl⟩
  obtain ⟨N,hN⟩:∃N,N=if c=true then Yn (Zm P).1 else 0:=⟨_,rfl⟩
  have aa:Hid (P2.length≤10000000):=by
   show _≤_
   have:=(XH P).2;have:=L.out
   rw [O];split <;> omega
  have au:Hid (zZ l=(a,N,if f=true then (if g≠[] then (Zm P2).2 else P2) else [])):=by
   show _=_
   rw [E.out,O,hN]
  rw [←O,←hN] at hcut;have o:Hid (QJ w wc R (R+1) W (W+1) P2 a b c d f g a N []):=hcut;obtain ⟨V,D,H,I,X,r5,-⟩:=zG hcut.pw;clear hcut O hN E L
  go_upto_if 31 with fail
  go_cut [32] (fun _ wx=>QJ w wx R (R+1) W (W+1) (if g≠[] then (Zm P2).2 else P2) a b c d f g a N [])
  case first =>
   clear V D H I X r5;cases g with
   | nil =>
    have HF:Hid (QJ w wc R (R+1) W (W+1) (if ([]:List UInt8)≠[] then (Zm P2).2 else P2) a b c d f [] a N []):=by
     show QJ _ _ _ _ _ _ _ _ _ _ _ _ _ _ _ _
     rw [if_neg (by simp)];exact o.out
    go_wp2_with fail
    go_meet
    exact HF.out
   | cons g0 gs =>
    have Y:=VN (R+1) P2 wc (by have:=aa.out;omega) o.out.pl
    go_wp2_with fail
    refine Y.mono ?_;clear Y;rintro e w6 ⟨rfl,h1,h2,h3⟩
    have HF:Hid (QJ w w6 R (R+1) W (W+1) (if (g0::gs:List UInt8)≠[] then (Zm P2).2 else P2) a b c d f (g0::gs) a N []):=by
     show QJ _ _ _ _ _ _ _ _ _ _ _ _ _ _ _ _
     rw [if_pos (by simp)];exact o.out.cut h1 h2 h3
    clear h1 h2 h3;go_wp2_with fail
    go_meet
    exact HF.out
  case rest =>
   clear o V D H I X r5;obtain ⟨K,ab⟩:∃K,K=if g≠[] then (Zm P2).2 else P2:=⟨_,rfl⟩
   have az:Hid (zZ l=(a,N,if f=true then K else [])):=by
    show _=_
    rw [au.out,ab]
   rw [←ab] at hcut;have o:Hid (QJ w wc R (R+1) W (W+1) K a b c d f g a N []):=hcut;obtain ⟨V,D,H,I,X,r5,-⟩:=zG hcut.pw;clear hcut ab au aa
   go_upto_if 35 with fail
   go_cut [36] (fun _ wx=>QJ w wx R (R+1) W (W+1) K a b c d f g a N (if f=true then K else []))
   case first =>
    clear V D H I X r5;cases f with
    | false =>
     go_wp2_with fail
     go_meet
     exact o.out
    | true =>
     have J:=o.out;obtain ⟨l0,-⟩:=Zq J.pl;obtain ⟨q0,q1,q2,qf⟩:=zw J.pc;clear J;go_wp2_with fail
     go_meet
     exact o.out.setS _
   case rest =>
    clear o V D H I X r5;obtain ⟨S,hS⟩:∃S,S=if f=true then K else []:=⟨_,rfl⟩
    have af:Hid (zZ l=(a,N,S)):=by
     show _=_
     rw [az.out,hS]
    rw [←hS] at hcut;have o:Hid (QJ w wc R (R+1) W (W+1) K a b c d f g a N S):=hcut;obtain ⟨q0,q1,q2,-⟩:=zw hcut.pc;have cp:=vx a N S wc (HQ.out.below hcut.below).1
    unfold yJ at cp
    clear hcut hS az;go_wp2_with fail
    refine cp.mono ?_;clear cp q0 q1 q2;rintro e wd ⟨⟨ai,rfl⟩ | ⟨ax,rfl⟩,Q⟩
    ·have A:Hid (QJ w wd R (R+1) W (W+1) K a b c d f g a N S):=o.out.step Q
     have ar:Hid (Zt Zy a N S):=ai;obtain ⟨T,hT⟩:∃T,T=Zv a N S:=⟨_,rfl⟩;have HT:Hid (T=Zv a N S):=hT;rw [←hT];clear Q ai hT o
     by_cases htl:T=l
     ·have aD:T=l:=htl
      subst htl;have aK:Hid (T.length≤10000000):=HL.out;obtain ⟨q0,q1,q2,-⟩:=zw A.out.pc;have ck:=vw S wd (by have:=Xd ar.out;omega)
      clear aD;go_wp2_with fail
      refine ck.mono ?_;clear ck q0 q1 q2;rintro e we ⟨rfl,ap⟩;have J3:=A.out.step ap;have J4:=J3.setS S;obtain ⟨q0,q1,q2,qf⟩:=zw J3.pc;obtain ⟨m0,m1,m2,-⟩:=zw J4.pc;obtain ⟨e0,e1,e2,ef⟩:=zw J4.pr;obtain ⟨U,Z,z2,-⟩:=zw (yu J4.pr (.int .i64 a) (.int .i64 N) (.string (za S)));have HZ:Hid (Below w.heap.size w (YL (we.setCell ⟨W+1,2,none⟩ (.string (za S))) R (.int .i64 a) (.int .i64 N) (.string (za S)))):=yw J4.below J4.hR _ _ _
      unfold YL at U Z z2
      clear J3 J4 ap A;go_wp2
      exact bodyPost_ret (v:=.tuple #[.agg #[.int .i64 a,.int .i64 N,.string (za S)],.int .i64 0]) (by simp [results,Tryz.results14,go_sem,U,Z,z2]) rfl ⟨.inl ⟨a,N,S,af.out,ar.out,HT.out.symm,rfl⟩,HZ.out⟩
     ·have aJ:(T==l)=false:=beq_eq_false_iff_ne.2 htl
      have HN:Hid (∀k n s,zZ l=(k,n,s)→¬ (Zt Zy k n s∧Zv k n s=l)):=fun k n s h ⟨_,h2⟩=>by
       rw [af.out] at h;obtain ⟨rfl,rfl,rfl⟩:a=k∧N=n∧S=s:=by simpa using h
       exact htl (HT.out.trans h2)
      have J:=A.out;obtain ⟨U,Z,z2,-⟩:=zw (yu J.pr (.int .i64 0) (.int .i64 0) (.string ⟨#[]⟩));have HZ:Hid (Below w.heap.size w (YL wd R (.int .i64 0) (.int .i64 0) (.string ⟨#[]⟩))):=yw J.below J.hR _ _ _;obtain ⟨e0,e1,e2,ef⟩:=zw J.pr
      unfold YL at U Z z2
      clear J;go_wp2
      exact bodyPost_ret (v:=.tuple #[.agg #[.int .i64 0,.int .i64 0,.string ⟨#[]⟩],.int .i64 6]) (by simp [results,Tryz.results14,go_sem,U,Z,z2]) rfl ⟨.inr ⟨HN.out,rfl⟩,HZ.out⟩
    ·have A:Hid (QJ w wd R (R+1) W (W+1) K a b c d f g a N S):=o.out.step Q
     have HN:Hid (∀k n s,zZ l=(k,n,s)→¬ (Zt Zy k n s∧Zv k n s=l)):=fun k n s h ⟨h1,_⟩=>by
      rw [af.out] at h;obtain ⟨rfl,rfl,rfl⟩:a=k∧N=n∧S=s:=by simpa using h
      exact ax h1
     clear Q ax o;have J:=A.out;obtain ⟨U,Z,z2,-⟩:=zw (yu J.pr (.int .i64 0) (.int .i64 0) (.string ⟨#[]⟩));have HZ:Hid (Below w.heap.size w (YL wd R (.int .i64 0) (.int .i64 0) (.string ⟨#[]⟩))):=yw J.below J.hR _ _ _;obtain ⟨e0,e1,e2,ef⟩:=zw J.pr
     unfold YL at U Z z2
     clear J;go_wp2
     exact bodyPost_ret (v:=.tuple #[.agg #[.int .i64 0,.int .i64 0,.string ⟨#[]⟩],.int .i64 6]) (by simp [results,Tryz.results14,go_sem,U,Z,z2]) rfl ⟨.inr ⟨HN.out,rfl⟩,HZ.out⟩
end Go.Proofs.YtmbofhpmockmbaaGreatDoor
