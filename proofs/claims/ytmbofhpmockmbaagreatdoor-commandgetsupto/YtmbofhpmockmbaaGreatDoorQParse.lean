import Derived.Test.YtmbofhpmockmbaaGreatDoorMC40
import Derived.Test.YtmbofhpmockmbaaGreatDoorQPrint
import Derived.Test.YtmbofhpmockmbaaGreatDoorQFindT
namespace Go.Proofs.YtmbofhpmockmbaaGreatDoor
open Go.RowKit Go.Shelf
set_option maxHeartbeats 16000000
set_option maxRecDepth 100000
structure QJ (w wr:World) (R L W C:Nat) (l:List UInt8) (a:Int) (b:List UInt8) (c:Bool) (d:Int) (f:Bool) (g:List UInt8) (k n:Int) (s:List UInt8):Prop where
 below:Below w.heap.size w wr
 pr:wr.heap[R]?=some (.cells #[.int .i64 0,.int .i64 0,.string ⟨#[]⟩] 24 (0,0))
 pl:wr.heap[L]?=some (.cells #[.string (za l)] 9 (0,0))
 pw:wr.heap[W]?=some (.cells #[.int .i64 a,.string (za b),.bool c,.int .i64 d,.bool f,.string (za g)] 55 (0,0))
 pc:wr.heap[C]?=some (.cells #[.int .i64 k,.int .i64 n,.string (za s)] 24 (0,0))
 hR:w.heap.size≤R
 hL:R<L
 hW:L<W
 hC:W<C
section
variable {w wr wx:World} {R L W C:Nat} {l:List UInt8} {a:Int} {b:List UInt8} {c:Bool} {d:Int} {f:Bool} {g:List UInt8} {k n:Int} {s:List UInt8}
theorem QJ.step (h:QJ w wr R L W C l a b c d f g k n s) (hb:Below wr.heap.size wr wx):QJ w wx R L W C l a b c d f g k n s :=
 ⟨ZA h.below hb,(hb.block _ (Zl h.pr)).trans h.pr,(hb.block _ (Zl h.pl)).trans h.pl,(hb.block _ (Zl h.pw)).trans h.pw,(hb.block _ (Zl h.pc)).trans h.pc,h.hR,h.hL,h.hW,h.hC⟩
theorem QJ.cut (h:QJ w wr R L W C l a b c d f g k n s) {l':List UInt8} (h1:wx.heap[L]?=some (.cells #[.string (za l')] 9 (0,0))) (h2:∀j,j<wr.heap.size→j≠L→wx.heap[j]?=wr.heap[j]?) (h3:Below L wr wx):QJ w wx R L W C l' a b c d f g k n s:=by
 have z:=h.hR;have y:=h.hL;have A:=h.hW;have o:=h.hC;exact ⟨h.below.trans (h3.mono (by omega)),(h2 _ (Zl h.pr) (by omega)).trans h.pr,h1,(h2 _ (Zl h.pw) (by omega)).trans h.pw,(h2 _ (Zl h.pc) (by omega)).trans h.pc,z,y,A,o⟩
theorem QJ.setC (h:QJ w wr R L W C l a b c d f g k n s) {k' n':Int} {s':List UInt8} (hx:wx.heap[C]?=some (.cells #[.int .i64 k',.int .i64 n',.string (za s')] 24 (0,0))) (h2:∀j,j≠C→wx.heap[j]?=wr.heap[j]?) (h3:Below C wr wx):QJ w wx R L W C l a b c d f g k' n' s':=by
 have z:=h.hR;have y:=h.hL;have A:=h.hW;have o:=h.hC;exact ⟨h.below.trans (h3.mono (by omega)),(h2 _ (by omega)).trans h.pr,(h2 _ (by omega)).trans h.pl,(h2 _ (by omega)).trans h.pw,hx,z,y,A,o⟩
theorem QJ.setN (h:QJ w wr R L W C l a b c d f g k n s) (n':Int):QJ w (wr.setCell ⟨C,1,none⟩ (.int .i64 n')) R L W C l a b c d f g k n' s :=
 h.setC (YH h.pc _) (fun _ hj=>Below.heap_setCell _ _ _ _ hj) ((Below.refl C wr).setCell (p:=⟨C,1,none⟩) (Nat.le_refl _) _)
theorem QJ.setS (h:QJ w wr R L W C l a b c d f g k n s) (s':List UInt8):QJ w (wr.setCell ⟨C,2,none⟩ (.string (za s'))) R L W C l a b c d f g k n s' :=
 h.setC (YH h.pc _) (fun _ hj=>Below.heap_setCell _ _ _ _ hj) ((Below.refl C wr).setCell (p:=⟨C,2,none⟩) (Nat.le_refl _) _)
end
theorem Vy (t:List UInt8) (g:Nat) (r:Wq) (w:World) (h:w.cell? ⟨g,0,none⟩=some (.string (za t))) :
  Calls Tryz.prog 38 #[wV r,.pointer (some ⟨g,0,none⟩)] w fun e w'=>e=.returned (.bool (decide (r.2.1=t)))∧Below w.heap.size w w':=by
 obtain ⟨a,b,c,d,e,f⟩:=r
 unfold wV
 have y:g<w.heap.size:=World.block_lt_of_cell? w _ h;have A:∀o,(w.alloc o).cell? ⟨g,0,none⟩=some (.string (za t)):=fun o=>by rw [World.cell?_alloc_lt _ _ _ y];exact h
 clear h
 by_cases hbt:b=t
 ·subst hbt
  go_enter Tryz.func38,Tryz.ntmps38
  go_wp2
  go_ret
  exact ⟨by simp,(Below.refl _ w).alloc (Nat.le_refl _) _⟩
 ·have z:¬ (za b)=za t:=fun h=>hbt (by have:=congrArg (fun x=>x.data.toList) h;simpa using this)
  go_enter Tryz.func38,Tryz.ntmps38
  go_wp2
  go_ret
  exact ⟨by simp [hbt],(Below.refl _ w).alloc (Nat.le_refl _) _⟩
theorem Vz (l:List UInt8) (w:World) (hl:l.length≤10000000) (hQ:QT w) :
  Calls Tryz.prog 14 #[.string (za l)] w fun e w'=>((∃k n s,Zf l=(k,n,s)∧yP yC k n s∧yV k n s=l∧e=.returned (.tuple #[ZH k n s,.int .i64 0]))∨(∀k n s,Zf l=(k,n,s)→¬ (yP yC k n s∧yV k n s=l))∧e=.returned (.tuple #[ZH 0 0 [],.int .i64 6]))∧Below w.heap.size w w':=by
 have HQ:Hid (QT w):=hQ;have HL:Hid (l.length≤10000000):=hl;have aJ:∀(fn:Fn) (first cap:Array Value) (w:World),(Instr.makeFunc fn first cap).run Tryz.prog w=.ok (.func fn first cap) w:=fun _ _ _ _=>rfl
 obtain ⟨w1,ap,H,L,p0,p1⟩:=vu w (.cells #[.int .i64 0,.int .i64 0,.string ⟨#[]⟩] 24 (0,0)) (.cells #[.string (za l)] 9 (0,0));have X:=XV (w.heap.size+1) l w1 (by omega) p1
 have HP:Hid (Below w.heap.size w w1∧w1.heap.size=w.heap.size+2∧w1.heap[w.heap.size]?=some (.cells #[.int .i64 0,.int .i64 0,.string ⟨#[]⟩] 24 (0,0))):=⟨H,L,p0⟩;have aw:=ap.symm;clear hQ hl H ap p0 L p1
 go_enter Tryz.func14,Tryz.ntmps14
 go_wp2_with fail
 refine X.mono ?_;clear X aw;rintro e w2 ⟨rfl,ad,aq,ab⟩;obtain ⟨H,L,p0⟩:=HP.out;have aH:=ab.size;have ah:w2.heap[w.heap.size]?=_:=(aq _ (by omega) (by omega)).trans p0
 obtain ⟨w3,aA,y,aD,p3⟩:=ZY w2 (.cells #[.string (za (zW l).1)] 9 (0,0));have cf:=uH (fun r=>decide (r.2.1=(zW l).1)) w2.heap.size w3 fun r W hW=>Vy (zW l).1 w2.heap.size r W ((YW hW (by omega)).trans (zV p3).1)
 have al:Hid (Below w.heap.size w w3∧w3.heap[w.heap.size]?=some (.cells #[.int .i64 0,.int .i64 0,.string ⟨#[]⟩] 24 (0,0))∧w3.heap[w.heap.size+1]?=some (.cells #[.string (za (zW l).2)] 9 (0,0))) :=
  ⟨ZA (H.trans (ab.mono (by omega))) y,(y.block _ (Zl ah)).trans ah,(y.block _ (Zl ad)).trans ad⟩
 have az:=aA.symm;clear ad aq ab H L p0 aH ah aA y aD p3 HP;go_wp2_with fail
 refine cf.mono ?_;clear cf az;rintro e w4 ⟨rfl,ag⟩;have G:Hid (Zf l=(let r:=ofWord (zW l).1;let D:=(zW l).2;let n:=if r.2.2.1=true then yT (zW D).1 else 0;let E:=if r.2.2.1=true then (zW D).2 else D;let I:=if r.2.2.2.2.2≠[] then (zW E).2 else E;(r.1,n,if r.2.2.2.2.1=true then I else []))):=rfl
 obtain ⟨P,hP⟩:∃P,P=(zW l).2:=⟨_,rfl⟩;have M:Hid (P.length≤10000000):=by show _≤_;have:=(xp l).2;have:=HL.out;rw [hP];omega
 have ai:=al.out;rw [←hP] at G ai;have au:(findQ fun r=>decide (r.2.1=(zW l).1))=ofWord (zW l).1:=rfl
 rw [au];generalize ofWord (zW l).1=r at G ⊢;generalize w2.heap.size=F at *;obtain ⟨a,b,c,d,f,g⟩:=r
 unfold wV
 simp only at G ⊢;obtain ⟨y,pr,pl⟩:=ai;obtain ⟨w5,ar,aB,aF,p5,p6⟩:=vu w4 (.cells #[.int .i64 a,.string (za b),.bool c,.int .i64 d,.bool f,.string (za g)] 55 (0,0)) (.cells #[.int .i64 a,.int .i64 0,.string ⟨#[]⟩] 24 (0,0));have z:=ZA ag aB
 have J:QJ w w5 w.heap.size (w.heap.size+1) w4.heap.size (w4.heap.size+1) P a b c d f g a 0 [] :=
  ⟨ZA y z,(z.block _ (Zl pr)).trans pr,(z.block _ (Zl pl)).trans pl,p5,p6,Nat.le_refl _,by omega,by have:=Zl pl;have:=ag.size;omega,by omega⟩
 have o:Hid (QJ w w5 w.heap.size (w.heap.size+1) w4.heap.size (w4.heap.size+1) P a b c d f g a 0 []):=J;have av:Hid (w5=(w4.alloc (.cells #[.int .i64 a,.string (za b),.bool c,.int .i64 d,.bool f,.string (za g)] 55 (0,0))).alloc (.cells #[.int .i64 a,.int .i64 0,.string ⟨#[]⟩] 24 (0,0))):=ar;clear al hP au ag y pr pl ar aB aF p5 p6 z J
 go_upto_if 21 with fail
 rw [←av.out];clear av;generalize w4.heap.size=W at *;generalize HR:w.heap.size=R at *
 go_cut [22] (fun _ wx=>QJ w wx R (R+1) W (W+1) (if c=true then (zW P).2 else P) a b c d f g a (if c=true then yT (zW P).1 else 0) [])
 case first =>
  cases c with
  | true =>
   have J:=o.out;obtain ⟨r0,D,E,I,V,U,-⟩:=zu J.pw;have X:=XV (R+1) P w5 (by have:=M.out;omega) J.pl
   clear J;go_wp2_with fail
   refine X.mono ?_;clear X r0 D E I V U;rintro e w6 ⟨rfl,h1,h2,h3⟩;have J6:=o.out.cut h1 h2 h3;have ca:=uG (zW P).1 w6 (by have:=(xp P).1;have:=M.out;omega) (HQ.out.below J6.below)
   have aG:Hid (QJ w w6 R (R+1) W (W+1) (zW P).2 a b true d f g a 0 []):=J6;clear h1 h2 h3 J6;go_wp2_with fail
   refine ca.mono ?_;clear ca;rintro e w7 ⟨v,rfl,aj⟩;have J7:=aG.out.step aj;have aC:Hid (QJ w w7 R (R+1) W (W+1) (zW P).2 a b true d f g a 0 []):=J7;obtain ⟨q0,q1,q2,qf⟩:=ze J7.pc;clear aj J7;go_wp2_with fail
   go_meet
   exact aC.out.setN _
  | false =>
   have J:=o.out;obtain ⟨r0,D,E,I,V,U,-⟩:=zu J.pw;clear J;go_wp2_with fail
   go_meet
   exact o.out
 case rest =>
  clear o;obtain ⟨P2,O⟩:∃P2,P2=if c=true then (zW P).2 else P:=⟨_,rfl⟩
  obtain ⟨N,hN⟩:∃N,N=if c=true then yT (zW P).1 else 0:=⟨_,rfl⟩
  have aa:Hid (P2.length≤10000000):=by
   show _≤_
   have:=(xp P).2;have:=M.out
   rw [O];split <;> omega
  have am:Hid (Zf l=(a,N,if f=true then (if g≠[] then (zW P2).2 else P2) else [])):=by
   show _=_
   rw [G.out,O,hN]
  rw [←O,←hN] at hcut;have o:Hid (QJ w wc R (R+1) W (W+1) P2 a b c d f g a N []):=hcut;obtain ⟨r0,D,E,I,V,U,-⟩:=zu hcut.pw;clear hcut O hN G M
  go_upto_if 31 with fail
  go_cut [32] (fun _ wx=>QJ w wx R (R+1) W (W+1) (if g≠[] then (zW P2).2 else P2) a b c d f g a N [])
  case first =>
   clear r0 D E I V U;cases g with
   | nil =>
    have HF:Hid (QJ w wc R (R+1) W (W+1) (if ([]:List UInt8)≠[] then (zW P2).2 else P2) a b c d f [] a N []):=by
     show QJ _ _ _ _ _ _ _ _ _ _ _ _ _ _ _ _
     rw [if_neg (by simp)];exact o.out
    go_wp2_with fail
    go_meet
    exact HF.out
   | cons g0 gs =>
    have X:=XV (R+1) P2 wc (by have:=aa.out;omega) o.out.pl
    go_wp2_with fail
    refine X.mono ?_;clear X;rintro e w6 ⟨rfl,h1,h2,h3⟩
    have HF:Hid (QJ w w6 R (R+1) W (W+1) (if (g0::gs:List UInt8)≠[] then (zW P2).2 else P2) a b c d f (g0::gs) a N []):=by
     show QJ _ _ _ _ _ _ _ _ _ _ _ _ _ _ _ _
     rw [if_pos (by simp)];exact o.out.cut h1 h2 h3
    clear h1 h2 h3;go_wp2_with fail
    go_meet
    exact HF.out
  case rest =>
   clear o r0 D E I V U;obtain ⟨K,af⟩:∃K,K=if g≠[] then (zW P2).2 else P2:=⟨_,rfl⟩
   have an:Hid (Zf l=(a,N,if f=true then K else [])):=by
    show _=_
    rw [am.out,af]
   rw [←af] at hcut;have o:Hid (QJ w wc R (R+1) W (W+1) K a b c d f g a N []):=hcut;obtain ⟨r0,D,E,I,V,U,-⟩:=zu hcut.pw;clear hcut af am aa
   go_upto_if 35 with fail
   go_cut [36] (fun _ wx=>QJ w wx R (R+1) W (W+1) K a b c d f g a N (if f=true then K else []))
   case first =>
    clear r0 D E I V U;cases f with
    | false =>
     go_wp2_with fail
     go_meet
     exact o.out
    | true =>
     have J:=o.out;obtain ⟨l0,-⟩:=zV J.pl;obtain ⟨q0,q1,q2,qf⟩:=ze J.pc;clear J;go_wp2_with fail
     go_meet
     exact o.out.setS _
   case rest =>
    clear o r0 D E I V U;obtain ⟨S,hS⟩:∃S,S=if f=true then K else []:=⟨_,rfl⟩
    have ae:Hid (Zf l=(a,N,S)):=by
     show _=_
     rw [an.out,hS]
    rw [←hS] at hcut;have o:Hid (QJ w wc R (R+1) W (W+1) K a b c d f g a N S):=hcut;obtain ⟨q0,q1,q2,-⟩:=ze hcut.pc;have cp:=xO a N S wc (HQ.out.below hcut.below).1
    unfold ZH at cp
    clear hcut hS an;go_wp2_with fail
    refine cp.mono ?_;clear cp q0 q1 q2;rintro e wd ⟨⟨ao,rfl⟩ | ⟨ay,rfl⟩,Q⟩
    ·have A:Hid (QJ w wd R (R+1) W (W+1) K a b c d f g a N S):=o.out.step Q
     have ak:Hid (yP yC a N S):=ao;obtain ⟨T,hT⟩:∃T,T=yV a N S:=⟨_,rfl⟩;have HT:Hid (T=yV a N S):=hT;rw [←hT];clear Q ao hT o
     by_cases htl:T=l
     ·have aE:T=l:=htl
      subst htl;have aI:Hid (T.length≤10000000):=HL.out;obtain ⟨q0,q1,q2,-⟩:=ze A.out.pc;have ck:=xN S wd (by have:=XC ak.out;omega)
      clear aE;go_wp2_with fail
      refine ck.mono ?_;clear ck q0 q1 q2;rintro e we ⟨rfl,ax⟩;have J3:=A.out.step ax;have J4:=J3.setS S;obtain ⟨q0,q1,q2,qf⟩:=ze J3.pc;obtain ⟨m0,m1,m2,-⟩:=ze J4.pc;obtain ⟨e0,e1,e2,ef⟩:=ze J4.pr;obtain ⟨z0,Y,Z,-⟩:=ze (zI J4.pr (.int .i64 a) (.int .i64 N) (.string (za S)));have HZ:Hid (Below w.heap.size w (zM (we.setCell ⟨W+1,2,none⟩ (.string (za S))) R (.int .i64 a) (.int .i64 N) (.string (za S)))):=zN J4.below J4.hR _ _ _
      unfold zM at z0 Y Z
      clear J3 J4 ax A;go_wp2
      exact bodyPost_ret (v:=.tuple #[.agg #[.int .i64 a,.int .i64 N,.string (za S)],.int .i64 0]) (by simp [results,Tryz.results14,go_sem,z0,Y,Z]) rfl ⟨.inl ⟨a,N,S,ae.out,ak.out,HT.out.symm,rfl⟩,HZ.out⟩
     ·have aK:(T==l)=false:=beq_eq_false_iff_ne.2 htl
      have HN:Hid (∀k n s,Zf l=(k,n,s)→¬ (yP yC k n s∧yV k n s=l)):=fun k n s h ⟨_,h2⟩=>by
       rw [ae.out] at h;obtain ⟨rfl,rfl,rfl⟩:a=k∧N=n∧S=s:=by simpa using h
       exact htl (HT.out.trans h2)
      have J:=A.out;obtain ⟨z0,Y,Z,-⟩:=ze (zI J.pr (.int .i64 0) (.int .i64 0) (.string ⟨#[]⟩));have HZ:Hid (Below w.heap.size w (zM wd R (.int .i64 0) (.int .i64 0) (.string ⟨#[]⟩))):=zN J.below J.hR _ _ _;obtain ⟨e0,e1,e2,ef⟩:=ze J.pr
      unfold zM at z0 Y Z
      clear J;go_wp2
      exact bodyPost_ret (v:=.tuple #[.agg #[.int .i64 0,.int .i64 0,.string ⟨#[]⟩],.int .i64 6]) (by simp [results,Tryz.results14,go_sem,z0,Y,Z]) rfl ⟨.inr ⟨HN.out,rfl⟩,HZ.out⟩
    ·have A:Hid (QJ w wd R (R+1) W (W+1) K a b c d f g a N S):=o.out.step Q
     have HN:Hid (∀k n s,Zf l=(k,n,s)→¬ (yP yC k n s∧yV k n s=l)):=fun k n s h ⟨h1,_⟩=>by
      rw [ae.out] at h;obtain ⟨rfl,rfl,rfl⟩:a=k∧N=n∧S=s:=by simpa using h
      exact ay h1
     clear Q ay o;have J:=A.out;obtain ⟨z0,Y,Z,-⟩:=ze (zI J.pr (.int .i64 0) (.int .i64 0) (.string ⟨#[]⟩));have HZ:Hid (Below w.heap.size w (zM wd R (.int .i64 0) (.int .i64 0) (.string ⟨#[]⟩))):=zN J.below J.hR _ _ _;obtain ⟨e0,e1,e2,ef⟩:=ze J.pr
     unfold zM at z0 Y Z
     clear J;go_wp2
     exact bodyPost_ret (v:=.tuple #[.agg #[.int .i64 0,.int .i64 0,.string ⟨#[]⟩],.int .i64 6]) (by simp [results,Tryz.results14,go_sem,z0,Y,Z]) rfl ⟨.inr ⟨HN.out,rfl⟩,HZ.out⟩
end Go.Proofs.YtmbofhpmockmbaaGreatDoor
