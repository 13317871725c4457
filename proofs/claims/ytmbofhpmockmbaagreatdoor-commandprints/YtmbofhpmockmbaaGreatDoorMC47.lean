import Derived.Test.YtmbofhpmockmbaaGreatDoorMC1
import Derived.Test.YtmbofhpmockmbaaGreatDoorMC24
import Derived.Test.YtmbofhpmockmbaaGreatDoorQPrint
namespace Go.Proofs.YtmbofhpmockmbaaGreatDoor
open Go.RowKit Go.Shelf
set_option maxHeartbeats 16000000
set_option maxRecDepth 100000
theorem qN (p:Wq→Bool) (g:Nat) (w:World)
  (hk:∀r W,Below w.heap.size w W→Calls Tryz.prog 38 #[wV r,.pointer (some ⟨g,0,none⟩)] W fun e w'=>e=.returned (.bool (p r))∧Below W.heap.size W w') :
  Calls Tryz.prog 37 #[.func (.func 38) #[] #[.pointer (some ⟨g,0,none⟩)]] w fun e w'=>e=.returned (wV (findQ p))∧Below w.heap.size w w':=by
 have HK:Hid (∀r W,Below w.heap.size w W→Calls Tryz.prog 38 #[wV r,.pointer (some ⟨g,0,none⟩)] W fun e w'=>e=.returned (.bool (p r))∧Below W.heap.size W w'):=hk
 obtain ⟨w1,G⟩:∃w1,w1=w.alloc (.cells #[.int .i64 0,.string ⟨#[]⟩,.bool false,.int .i64 0,.bool false,.string ⟨#[]⟩] 55 (0,0)):=⟨_,rfl⟩;have ad:Below w.heap.size w w1:=by rw [G];exact (Below.refl _ w).alloc (Nat.le_refl _) _
 have O:w1.heap.size=w.heap.size+1:=by rw [G];simp
 have p1:w1.heap[w.heap.size]?=some (.cells #[.int .i64 0,.string ⟨#[]⟩,.bool false,.int .i64 0,.bool false,.string ⟨#[]⟩] 55 (0,0)):=by rw [G];exact World.alloc_heap_new w _
 have cw:=vK w1;have ab:=G.symm;clear hk G
 go_enter Tryz.func37,Tryz.ntmps37
 go_wp2_with fail
 refine cw.mono ?_;clear cw ab;rintro e w2 ⟨rfl,K⟩;have y:w2.heap.size=w.heap.size+2:=by rw [K];simp [O]
 have o:Below w1.heap.size w1 w2:=by rw [K];exact (Below.refl _ w1).alloc (Nat.le_refl _) _
 have I:w2.heap[w1.heap.size]?=some Yt:=by rw [K];exact World.alloc_heap_new w1 _
 have H:w2.heap[w.heap.size]?=some (.cells #[.int .i64 0,.string ⟨#[]⟩,.bool false,.int .i64 0,.bool false,.string ⟨#[]⟩] 55 (0,0)):=(o.block _ (by omega)).trans p1
 rw [O] at I ⊢;obtain ⟨B,M⟩:∃B,B=w.heap.size:=⟨_,rfl⟩;rw [←M] at I H y ⊢;have aa:Hid (Below w.heap.size w w2∧w.heap.size=B∧w2.heap.size=B+2):=⟨Z8 ad o,M.symm,y⟩;have V:Hid (w2.heap[B+1]?=some Yt∧w2.heap[B]?=some (.cells #[.int .i64 0,.string ⟨#[]⟩,.bool false,.int .i64 0,.bool false,.string ⟨#[]⟩] 55 (0,0))):=⟨I,H⟩;clear ad O p1 K y o I H M;go_wp2_with fail
 go_loopw [7] (fun vi wr=>∃i:Nat,i≤17∧vi=.int .i64 i∧(∀j (h:j<tabQ.length),j<i→p tabQ[j]=false)∧Below w2.heap.size w2 wr) (fun vi _=>17-(intOf vi).toNat)
 case atStart=>exact ⟨0,Nat.zero_le _,rfl,fun j h hj=>by omega,Below.refl _ _⟩
 case round =>
  obtain ⟨i,hi,rfl,J,z⟩:=hrel;have HN:Hid (∀j (h:j<tabQ.length),j<i→p tabQ[j]=false):=J;have af:Hid (Below w2.heap.size w2 wr):=z;obtain ⟨o,M,y⟩:=aa.out;obtain ⟨I,H⟩:=V.out;have qr:wr.heap[B+1]?=some Yt:=(z.block _ (by omega)).trans I
  have pr:wr.heap[B]?=some (.cells #[.int .i64 0,.string ⟨#[]⟩,.bool false,.int .i64 0,.bool false,.string ⟨#[]⟩] 55 (0,0)):=(z.block _ (by omega)).trans H
  by_cases hlt:i<17
  ·have ah:(i:Int)<17:=by omega
   obtain ⟨k,t,D,le,E,m,T,c0,c1,c2,c3,c4,c5⟩:=vI qr i (by rw [xu];exact hlt)
   obtain ⟨w3,L⟩:∃w3,w3=wr.alloc (.cells #[.int .i64 k,.string (za t),.bool D,.int .i64 le,.bool E,.string (za m)] 55 (0,0)):=⟨_,rfl⟩;have A:Below wr.heap.size wr w3:=by rw [L];exact (Below.refl _ wr).alloc (Nat.le_refl _) _
   have Q:w3.heap[wr.heap.size]?=some (.cells #[.int .i64 k,.string (za t),.bool D,.int .i64 le,.bool E,.string (za m)] 55 (0,0)):=by rw [L];exact World.alloc_heap_new wr _
   have X:Below w.heap.size w w3:=Z8 (Z8 o z) A;have cc:=HK.out (k,t,D,le,E,m) w3 X;have HR:Hid (∃h:i<tabQ.length,tabQ[i]=(k,t,D,le,E,m)):=⟨_,T⟩;have ag:Hid (w3.heap[wr.heap.size]?=some (.cells #[.int .i64 k,.string (za t),.bool D,.int .i64 le,.bool E,.string (za m)] 55 (0,0))∧Below wr.heap.size wr w3):=⟨Q,A⟩;have ae:=L.symm;obtain ⟨d0,d1,d2,d3,d4,d5,-⟩:=zE Q;clear J z o M y I H qr pr T A Q X L
   unfold wV at cc
   simp only at cc;go_wp2_with fail
   refine cc.mono ?_;clear cc d0 d1 d2 d3 d4 d5 c0 c1 c2 c3 c4 c5 ae;rintro e w4 ⟨rfl,R⟩;obtain ⟨Q,A⟩:=ag.out;have U:w4.heap[wr.heap.size]?=some (.cells #[.int .i64 k,.string (za t),.bool D,.int .i64 le,.bool E,.string (za m)] 55 (0,0)):=(R.block _ (Yf Q)).trans Q;obtain ⟨d0,d1,d2,d3,d4,d5,-⟩:=zE U;have N:Hid (Below w2.heap.size w2 w4):=Z8 af.out (Z8 A R);clear Q A R U;cases hp:p (k,t,D,le,E,m) with
   | true =>
    have HF:Hid (findQ p=(k,t,D,le,E,m)):=by
     obtain ⟨h,T⟩:=HR.out;rw [←T] at hp ⊢;exact vJ h HN.out hp
    obtain ⟨o,M,y⟩:=aa.out;obtain ⟨I,H⟩:=V.out;have U:w4.heap[B]?=some (.cells #[.int .i64 0,.string ⟨#[]⟩,.bool false,.int .i64 0,.bool false,.string ⟨#[]⟩] 55 (0,0)):=(N.out.block _ (by omega)).trans H
    obtain ⟨e0,e1,e2,e3,e4,e5,ef⟩:=zE U;obtain ⟨z0,z1,z2,Y,z4,Z,-⟩:=zE (yq U (.int .i64 k) (.string (za t)) (.bool D) (.int .i64 le) (.bool E) (.string (za m)));have HZ:Hid (Below w.heap.size w (YD w4 B (.int .i64 k) (.string (za t)) (.bool D) (.int .i64 le) (.bool E) (.string (za m)))):=yr (Z8 o N.out) (by omega) _ _ _ _ _ _
    clear o M y I H U hp
    unfold YD at z0 z1 z2 Y z4 Z
    go_wp2
    exact bodyPost_ret (v:=.agg #[.int .i64 k,.string (za t),.bool D,.int .i64 le,.bool E,.string (za m)]) (by simp [results,Tryz.results37,go_sem,z0,z1,z2,Y,z4,Z]) rfl ⟨by rw [HF.out];rfl,HZ.out⟩
   | false =>
    go_wp2
    refine ⟨⟨i+1,by omega,by go_num,fun j h hj=>?_,N.out⟩,by simp [intOf];omega⟩
    by_cases hji:j<i
    ·exact HN.out j h hji
    ·obtain rfl:j=i:=by omega
     obtain ⟨h',T⟩:=HR.out;rw [T];exact hp
  ·obtain rfl:i=17:=by omega
   obtain ⟨e0,e1,e2,e3,e4,e5,ef⟩:=zE pr;have HF:Hid (findQ p=yT):=Xw fun j h=>J j h (by rw [xu] at h;exact h)
   obtain ⟨z0,z1,z2,Y,z4,Z,-⟩:=zE (yq pr (.int .i64 0) (.string ⟨#[]⟩) (.bool false) (.int .i64 0) (.bool false) (.string ⟨#[]⟩));have HZ:Hid (Below w.heap.size w (YD wr B (.int .i64 0) (.string ⟨#[]⟩) (.bool false) (.int .i64 0) (.bool false) (.string ⟨#[]⟩))):=yr (Z8 o z) (by omega) _ _ _ _ _ _
   clear J z o M y I H qr pr
   unfold YD at z0 z1 z2 Y z4 Z
   go_wp2
   exact bodyPost_ret (v:=.agg #[.int .i64 0,.string ⟨#[]⟩,.bool false,.int .i64 0,.bool false,.string ⟨#[]⟩]) (by simp [results,Tryz.results37,go_sem,z0,z1,z2,Y,z4,Z]) rfl ⟨by rw [HF.out];rfl,HZ.out⟩
structure QJ (w wr:World) (R L W C:Nat) (l:List UInt8) (a:Int) (b:List UInt8) (c:Bool) (d:Int) (f:Bool) (g:List UInt8) (k n:Int) (s:List UInt8):Prop where
 below:Below w.heap.size w wr
 pr:wr.heap[R]?=some (.cells #[.int .i64 0,.int .i64 0,.string ⟨#[]⟩] 24 (0,0))
 pl:wr.heap[L]?=some (.cells #[.string (za l)] 9 (0,0))
 pw:wr.heap[W]?=some (.cells #[.int .i64 a,.string (za b),.bool c,.int .i64 d,.bool f,.string (za g)] 55 (0,0))
 pc:wr.heap[C]?=some (.cells #[.int .i64 k,.int .i64 n,.string (za s)] 24 (0,0))
 hR:w.heap.size≤R
 hL:R<L
 hW:L<W
 hC:W<C
section
variable {w wr wx:World} {R L W C:Nat} {l:List UInt8} {a:Int} {b:List UInt8} {c:Bool} {d:Int} {f:Bool} {g:List UInt8} {k n:Int} {s:List UInt8}
theorem QJ.step (h:QJ w wr R L W C l a b c d f g k n s) (hb:Below wr.heap.size wr wx):QJ w wx R L W C l a b c d f g k n s :=
 ⟨Z8 h.below hb,(hb.block _ (Yf h.pr)).trans h.pr,(hb.block _ (Yf h.pl)).trans h.pl,(hb.block _ (Yf h.pw)).trans h.pw,(hb.block _ (Yf h.pc)).trans h.pc,h.hR,h.hL,h.hW,h.hC⟩
theorem QJ.cut (h:QJ w wr R L W C l a b c d f g k n s) {l':List UInt8} (h1:wx.heap[L]?=some (.cells #[.string (za l')] 9 (0,0))) (h2:∀j,j<wr.heap.size→j≠L→wx.heap[j]?=wr.heap[j]?) (h3:Below L wr wx):QJ w wx R L W C l' a b c d f g k n s:=by
 have o:=h.hR;have e:=h.hL;have z:=h.hW;have y:=h.hC;exact ⟨h.below.trans (h3.mono (by omega)),(h2 _ (Yf h.pr) (by omega)).trans h.pr,h1,(h2 _ (Yf h.pw) (by omega)).trans h.pw,(h2 _ (Yf h.pc) (by omega)).trans h.pc,o,e,z,y⟩
theorem QJ.setC (h:QJ w wr R L W C l a b c d f g k n s) {k' n':Int} {s':List UInt8} (hx:wx.heap[C]?=some (.cells #[.int .i64 k',.int .i64 n',.string (za s')] 24 (0,0))) (h2:∀j,j≠C→wx.heap[j]?=wr.heap[j]?) (h3:Below C wr wx):QJ w wx R L W C l a b c d f g k' n' s':=by
 have o:=h.hR;have e:=h.hL;have z:=h.hW;have y:=h.hC;exact ⟨h.below.trans (h3.mono (by omega)),(h2 _ (by omega)).trans h.pr,(h2 _ (by omega)).trans h.pl,(h2 _ (by omega)).trans h.pw,hx,o,e,z,y⟩
theorem QJ.setN (h:QJ w wr R L W C l a b c d f g k n s) (n':Int):QJ w (wr.setCell ⟨C,1,none⟩ (.int .i64 n')) R L W C l a b c d f g k n' s :=
 h.setC (xH h.pc _) (fun _ hj=>Below.heap_setCell _ _ _ _ hj) ((Below.refl C wr).setCell (p:=⟨C,1,none⟩) (Nat.le_refl _) _)
theorem QJ.setS (h:QJ w wr R L W C l a b c d f g k n s) (s':List UInt8):QJ w (wr.setCell ⟨C,2,none⟩ (.string (za s'))) R L W C l a b c d f g k n s' :=
 h.setC (xH h.pc _) (fun _ hj=>Below.heap_setCell _ _ _ _ hj) ((Below.refl C wr).setCell (p:=⟨C,2,none⟩) (Nat.le_refl _) _)
end
theorem UA (t:List UInt8) (g:Nat) (r:Wq) (w:World) (h:w.cell? ⟨g,0,none⟩=some (.string (za t))) :
  Calls Tryz.prog 38 #[wV r,.pointer (some ⟨g,0,none⟩)] w fun e w'=>e=.returned (.bool (decide (r.2.1=t)))∧Below w.heap.size w w':=by
 obtain ⟨a,b,c,d,e,f⟩:=r
 unfold wV
 have y:g<w.heap.size:=World.block_lt_of_cell? w _ h;have A:∀o,(w.alloc o).cell? ⟨g,0,none⟩=some (.string (za t)):=fun o=>by rw [World.cell?_alloc_lt _ _ _ y];exact h
 clear h
 by_cases hbt:b=t
 ·subst hbt
  go_enter Tryz.func38,Tryz.ntmps38
  go_wp2
  go_ret
  exact ⟨by simp,(Below.refl _ w).alloc (Nat.le_refl _) _⟩
 ·have z:¬ (za b)=za t:=fun h=>hbt (by have:=congrArg (fun x=>x.data.toList) h;simpa using this)
  go_enter Tryz.func38,Tryz.ntmps38
  go_wp2
  go_ret
  exact ⟨by simp [hbt],(Below.refl _ w).alloc (Nat.le_refl _) _⟩
theorem UB (l:List UInt8) (w:World) (hl:l.length≤10000000) (hQ:QT w) :
  Calls Tryz.prog 14 #[.string (za l)] w fun e w'=>((∃k n s,Zy l=(k,n,s)∧ZP ZE k n s∧y7 k n s=l∧e=.returned (.tuple #[yi k n s,.int .i64 0]))∨(∀k n s,Zy l=(k,n,s)→¬ (ZP ZE k n s∧y7 k n s=l))∧e=.returned (.tuple #[yi 0 0 [],.int .i64 6]))∧Below w.heap.size w w':=by
 have HQ:Hid (QT w):=hQ;have HL:Hid (l.length≤10000000):=hl;have aJ:∀(fn:Fn) (first cap:Array Value) (w:World),(Instr.makeFunc fn first cap).run Tryz.prog w=.ok (.func fn first cap) w:=fun _ _ _ _=>rfl
 obtain ⟨w1,aB,H,O,p0,p1⟩:=qW w (.cells #[.int .i64 0,.int .i64 0,.string ⟨#[]⟩] 24 (0,0)) (.cells #[.string (za l)] 9 (0,0));have cc:=Vs (w.heap.size+1) l w1 (by omega) p1
 have HP:Hid (Below w.heap.size w w1∧w1.heap.size=w.heap.size+2∧w1.heap[w.heap.size]?=some (.cells #[.int .i64 0,.int .i64 0,.string ⟨#[]⟩] 24 (0,0))):=⟨H,O,p0⟩;have au:=aB.symm;clear hQ hl H aB p0 O p1
 go_enter Tryz.func14,Tryz.ntmps14
 go_wp2_with fail
 refine cc.mono ?_;clear cc au;rintro e w2 ⟨rfl,ab,av,ag⟩;obtain ⟨H,O,p0⟩:=HP.out;have aH:=ag.size;have ad:w2.heap[w.heap.size]?=_:=(av _ (by omega) (by omega)).trans p0
 obtain ⟨w3,az,y,aF,p3⟩:=Yg w2 (.cells #[.string (za (Zp l).1)] 9 (0,0));have cf:=qN (fun r=>decide (r.2.1=(Zp l).1)) w2.heap.size w3 fun r W hW=>UA (Zp l).1 w2.heap.size r W ((xX hW (by omega)).trans (Zm p3).1)
 have ak:Hid (Below w.heap.size w w3∧w3.heap[w.heap.size]?=some (.cells #[.int .i64 0,.int .i64 0,.string ⟨#[]⟩] 24 (0,0))∧w3.heap[w.heap.size+1]?=some (.cells #[.string (za (Zp l).2)] 9 (0,0))) :=
  ⟨Z8 (H.trans (ag.mono (by omega))) y,(y.block _ (Yf ad)).trans ad,(y.block _ (Yf ab)).trans ab⟩
 have aA:=az.symm;clear ab av ag H O p0 aH ad az y aF p3 HP;go_wp2_with fail
 refine cf.mono ?_;clear cf aA;rintro e w4 ⟨rfl,ah⟩;have E:Hid (Zy l=(let r:=ofWord (Zp l).1;let D:=(Zp l).2;let n:=if r.2.2.1=true then YI (Zp D).1 else 0;let G:=if r.2.2.1=true then (Zp D).2 else D;let I:=if r.2.2.2.2.2≠[] then (Zp G).2 else G;(r.1,n,if r.2.2.2.2.1=true then I else []))):=rfl
 obtain ⟨P,hP⟩:∃P,P=(Zp l).2:=⟨_,rfl⟩;have M:Hid (P.length≤10000000):=by show _≤_;have:=(Xu l).2;have:=HL.out;rw [hP];omega
 have al:=ak.out;rw [←hP] at E al;have am:(findQ fun r=>decide (r.2.1=(Zp l).1))=ofWord (Zp l).1:=rfl
 rw [am];generalize ofWord (Zp l).1=r at E ⊢;generalize w2.heap.size=F at *;obtain ⟨a,b,c,d,f,g⟩:=r
 unfold wV
 simp only at E ⊢;obtain ⟨y,pr,pl⟩:=al;obtain ⟨w5,an,aj,aE,p5,p6⟩:=qW w4 (.cells #[.int .i64 a,.string (za b),.bool c,.int .i64 d,.bool f,.string (za g)] 55 (0,0)) (.cells #[.int .i64 a,.int .i64 0,.string ⟨#[]⟩] 24 (0,0));have z:=Z8 ah aj
 have J:QJ w w5 w.heap.size (w.heap.size+1) w4.heap.size (w4.heap.size+1) P a b c d f g a 0 [] :=
  ⟨Z8 y z,(z.block _ (Yf pr)).trans pr,(z.block _ (Yf pl)).trans pl,p5,p6,Nat.le_refl _,by omega,by have:=Yf pl;have:=ah.size;omega,by omega⟩
 have o:Hid (QJ w w5 w.heap.size (w.heap.size+1) w4.heap.size (w4.heap.size+1) P a b c d f g a 0 []):=J;have aw:Hid (w5=(w4.alloc (.cells #[.int .i64 a,.string (za b),.bool c,.int .i64 d,.bool f,.string (za g)] 55 (0,0))).alloc (.cells #[.int .i64 a,.int .i64 0,.string ⟨#[]⟩] 24 (0,0))):=an;clear ak hP am ah y pr pl an aj aE p5 p6 z J
 go_upto_if 21 with fail
 rw [←aw.out];clear aw;generalize w4.heap.size=W at *;generalize HR:w.heap.size=R at *
 go_cut [22] (fun _ wx=>QJ w wx R (R+1) W (W+1) (if c=true then (Zp P).2 else P) a b c d f g a (if c=true then YI (Zp P).1 else 0) [])
 case first =>
  cases c with
  | true =>
   have J:=o.out;obtain ⟨X,D,G,I,U,V,-⟩:=zE J.pw;have cc:=Vs (R+1) P w5 (by have:=M.out;omega) J.pl
   clear J;go_wp2_with fail
   refine cc.mono ?_;clear cc X D G I U V;rintro e w6 ⟨rfl,h1,h2,h3⟩;have J6:=o.out.cut h1 h2 h3;have ca:=qo (Zp P).1 w6 (by have:=(Xu P).1;have:=M.out;omega) (HQ.out.below J6.below)
   have aD:Hid (QJ w w6 R (R+1) W (W+1) (Zp P).2 a b true d f g a 0 []):=J6;clear h1 h2 h3 J6;go_wp2_with fail
   refine ca.mono ?_;clear ca;rintro e w7 ⟨v,rfl,aq⟩;have J7:=aD.out.step aq;have aC:Hid (QJ w w7 R (R+1) W (W+1) (Zp P).2 a b true d f g a 0 []):=J7;obtain ⟨q0,q1,q2,qf⟩:=zv J7.pc;clear aq J7;go_wp2_with fail
   go_meet
   exact aC.out.setN _
  | false =>
   have J:=o.out;obtain ⟨X,D,G,I,U,V,-⟩:=zE J.pw;clear J;go_wp2_with fail
   go_meet
   exact o.out
 case rest =>
  clear o;obtain ⟨P2,Q⟩:∃P2,P2=if c=true then (Zp P).2 else P:=⟨_,rfl⟩
  obtain ⟨N,hN⟩:∃N,N=if c=true then YI (Zp P).1 else 0:=⟨_,rfl⟩
  have aa:Hid (P2.length≤10000000):=by
   show _≤_
   have:=(Xu P).2;have:=M.out
   rw [Q];split <;> omega
  have ap:Hid (Zy l=(a,N,if f=true then (if g≠[] then (Zp P2).2 else P2) else [])):=by
   show _=_
   rw [E.out,Q,hN]
  rw [←Q,←hN] at hcut;have o:Hid (QJ w wc R (R+1) W (W+1) P2 a b c d f g a N []):=hcut;obtain ⟨X,D,G,I,U,V,-⟩:=zE hcut.pw;clear hcut Q hN E M
  go_upto_if 31 with fail
  go_cut [32] (fun _ wx=>QJ w wx R (R+1) W (W+1) (if g≠[] then (Zp P2).2 else P2) a b c d f g a N [])
  case first =>
   clear X D G I U V;cases g with
   | nil =>
    have HF:Hid (QJ w wc R (R+1) W (W+1) (if ([]:List UInt8)≠[] then (Zp P2).2 else P2) a b c d f [] a N []):=by
     show QJ _ _ _ _ _ _ _ _ _ _ _ _ _ _ _ _
     rw [if_neg (by simp)];exact o.out
    go_wp2_with fail
    go_meet
    exact HF.out
   | cons g0 gs =>
    have cc:=Vs (R+1) P2 wc (by have:=aa.out;omega) o.out.pl
    go_wp2_with fail
    refine cc.mono ?_;clear cc;rintro e w6 ⟨rfl,h1,h2,h3⟩
    have HF:Hid (QJ w w6 R (R+1) W (W+1) (if (g0::gs:List UInt8)≠[] then (Zp P2).2 else P2) a b c d f (g0::gs) a N []):=by
     show QJ _ _ _ _ _ _ _ _ _ _ _ _ _ _ _ _
     rw [if_pos (by simp)];exact o.out.cut h1 h2 h3
    clear h1 h2 h3;go_wp2_with fail
    go_meet
    exact HF.out
  case rest =>
   clear o X D G I U V;obtain ⟨K,af⟩:∃K,K=if g≠[] then (Zp P2).2 else P2:=⟨_,rfl⟩
   have ai:Hid (Zy l=(a,N,if f=true then K else [])):=by
    show _=_
    rw [ap.out,af]
   rw [←af] at hcut;have o:Hid (QJ w wc R (R+1) W (W+1) K a b c d f g a N []):=hcut;obtain ⟨X,D,G,I,U,V,-⟩:=zE hcut.pw;clear hcut af ap aa
   go_upto_if 35 with fail
   go_cut [36] (fun _ wx=>QJ w wx R (R+1) W (W+1) K a b c d f g a N (if f=true then K else []))
   case first =>
    clear X D G I U V;cases f with
    | false =>
     go_wp2_with fail
     go_meet
     exact o.out
    | true =>
     have J:=o.out;obtain ⟨l0,-⟩:=Zm J.pl;obtain ⟨q0,q1,q2,qf⟩:=zv J.pc;clear J;go_wp2_with fail
     go_meet
     exact o.out.setS _
   case rest =>
    clear o X D G I U V;obtain ⟨S,hS⟩:∃S,S=if f=true then K else []:=⟨_,rfl⟩
    have ae:Hid (Zy l=(a,N,S)):=by
     show _=_
     rw [ai.out,hS]
    rw [←hS] at hcut;have o:Hid (QJ w wc R (R+1) W (W+1) K a b c d f g a N S):=hcut;obtain ⟨q0,q1,q2,-⟩:=zv hcut.pc;have cp:=xt a N S wc (HQ.out.below hcut.below).1
    unfold yi at cp
    clear hcut hS ai;go_wp2_with fail
    refine cp.mono ?_;clear cp q0 q1 q2;rintro e wd ⟨⟨ay,rfl⟩ | ⟨ar,rfl⟩,L⟩
    ·have A:Hid (QJ w wd R (R+1) W (W+1) K a b c d f g a N S):=o.out.step L
     have ax:Hid (ZP ZE a N S):=ay;obtain ⟨T,hT⟩:∃T,T=y7 a N S:=⟨_,rfl⟩;have HT:Hid (T=y7 a N S):=hT;rw [←hT];clear L ay hT o
     by_cases htl:T=l
     ·have aG:T=l:=htl
      subst htl;have aI:Hid (T.length≤10000000):=HL.out;obtain ⟨q0,q1,q2,-⟩:=zv A.out.pc;have ck:=X3 S wd (by have:=xW ax.out;omega)
      clear aG;go_wp2_with fail
      refine ck.mono ?_;clear ck q0 q1 q2;rintro e we ⟨rfl,ao⟩;have J3:=A.out.step ao;have J4:=J3.setS S;obtain ⟨q0,q1,q2,qf⟩:=zv J3.pc;obtain ⟨m0,m1,m2,-⟩:=zv J4.pc;obtain ⟨e0,e1,e2,ef⟩:=zv J4.pr;obtain ⟨Z,Y,z2,-⟩:=zv (YK J4.pr (.int .i64 a) (.int .i64 N) (.string (za S)));have HZ:Hid (Below w.heap.size w (xY (we.setCell ⟨W+1,2,none⟩ (.string (za S))) R (.int .i64 a) (.int .i64 N) (.string (za S)))):=YL J4.below J4.hR _ _ _
      unfold xY at Z Y z2
      clear J3 J4 ao A;go_wp2
      exact bodyPost_ret (v:=.tuple #[.agg #[.int .i64 a,.int .i64 N,.string (za S)],.int .i64 0]) (by simp [results,Tryz.results14,go_sem,Z,Y,z2]) rfl ⟨.inl ⟨a,N,S,ae.out,ax.out,HT.out.symm,rfl⟩,HZ.out⟩
     ·have aK:(T==l)=false:=beq_eq_false_iff_ne.2 htl
      have HN:Hid (∀k n s,Zy l=(k,n,s)→¬ (ZP ZE k n s∧y7 k n s=l)):=fun k n s h ⟨_,h2⟩=>by
       rw [ae.out] at h;obtain ⟨rfl,rfl,rfl⟩:a=k∧N=n∧S=s:=by simpa using h
       exact htl (HT.out.trans h2)
      have J:=A.out;obtain ⟨Z,Y,z2,-⟩:=zv (YK J.pr (.int .i64 0) (.int .i64 0) (.string ⟨#[]⟩));have HZ:Hid (Below w.heap.size w (xY wd R (.int .i64 0) (.int .i64 0) (.string ⟨#[]⟩))):=YL J.below J.hR _ _ _;obtain ⟨e0,e1,e2,ef⟩:=zv J.pr
      unfold xY at Z Y z2
      clear J;go_wp2
      exact bodyPost_ret (v:=.tuple #[.agg #[.int .i64 0,.int .i64 0,.string ⟨#[]⟩],.int .i64 6]) (by simp [results,Tryz.results14,go_sem,Z,Y,z2]) rfl ⟨.inr ⟨HN.out,rfl⟩,HZ.out⟩
    ·have A:Hid (QJ w wd R (R+1) W (W+1) K a b c d f g a N S):=o.out.step L
     have HN:Hid (∀k n s,Zy l=(k,n,s)→¬ (ZP ZE k n s∧y7 k n s=l)):=fun k n s h ⟨h1,_⟩=>by
      rw [ae.out] at h;obtain ⟨rfl,rfl,rfl⟩:a=k∧N=n∧S=s:=by simpa using h
      exact ar h1
     clear L ar o;have J:=A.out;obtain ⟨Z,Y,z2,-⟩:=zv (YK J.pr (.int .i64 0) (.int .i64 0) (.string ⟨#[]⟩));have HZ:Hid (Below w.heap.size w (xY wd R (.int .i64 0) (.int .i64 0) (.string ⟨#[]⟩))):=YL J.below J.hR _ _ _;obtain ⟨e0,e1,e2,ef⟩:=zv J.pr
     unfold xY at Z Y z2
     clear J;go_wp2
     exact bodyPost_ret (v:=.tuple #[.agg #[.int .i64 0,.int .i64 0,.string ⟨#[]⟩],.int .i64 6]) (by simp [results,Tryz.results14,go_sem,Z,Y,z2]) rfl ⟨.inr ⟨HN.out,rfl⟩,HZ.out⟩
end Go.Proofs.YtmbofhpmockmbaaGreatDoor
