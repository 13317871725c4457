import Derived.Test.YtmbofhpmockmbaaGreatDoorQAtoi
import Derived.Test.YtmbofhpmockmbaaGreatDoorQPrint
import Derived.Test.YtmbofhpmockmbaaGreatDoorQFindT
namespace Go.Proofs.YtmbofhpmockmbaaGreatDoor
open Go.RowKit Go.Shelf
set_option maxHeartbeats 16000000
set_option maxRecDepth 100000
structure QJ (w wr:World) (R L W C:Nat) (l:List UInt8) (a:Int) (b:List UInt8) (c:Bool) (d:Int) (f:Bool) (g:List UInt8) (k n:Int) (s:List UInt8):Prop where
 below:Below w.heap.size w wr
 pr:wr.heap[R]?=some (.cells #[.int .i64 0,.int .i64 0,.string ⟨#[]⟩] 24 (0,0))
 pl:wr.heap[L]?=some (.cells #[.string (za l)] 9 (0,0))
 pw:wr.heap[W]?=some (.cells #[.int .i64 a,.string (za b),.bool c,.int .i64 d,.bool f,.string (za g)] 55 (0,0))
 pc:wr.heap[C]?=some (.cells #[.int .i64 k,.int .i64 n,.string (za s)] 24 (0,0))
 hR:w.heap.size≤R
 hL:R<L
 hW:L<W
 hC:W<C
section
variable {w wr wx:World} {R L W C:Nat} {l:List UInt8} {a:Int} {b:List UInt8} {c:Bool} {d:Int} {f:Bool} {g:List UInt8} {k n:Int} {s:List UInt8}
theorem QJ.step (h:QJ w wr R L W C l a b c d f g k n s) (hb:Below wr.heap.size wr wx):QJ w wx R L W C l a b c d f g k n s :=
 ⟨Zw h.below hb,(hb.block _ (ZW h.pr)).trans h.pr,(hb.block _ (ZW h.pl)).trans h.pl,(hb.block _ (ZW h.pw)).trans h.pw,(hb.block _ (ZW h.pc)).trans h.pc,h.hR,h.hL,h.hW,h.hC⟩
theorem QJ.cut (h:QJ w wr R L W C l a b c d f g k n s) {l':List UInt8} (h1:wx.heap[L]?=some (.cells #[.string (za l')] 9 (0,0))) (h2:∀j,j<wr.heap.size→j≠L→wx.heap[j]?=wr.heap[j]?) (h3:Below L wr wx):QJ w wx R L W C l' a b c d f g k n s:=by
 have z:=h.hR;have o:=h.hL;have e:=h.hW;have y:=h.hC;exact ⟨h.below.trans (h3.mono (by omega)),(h2 _ (ZW h.pr) (by omega)).trans h.pr,h1,(h2 _ (ZW h.pw) (by omega)).trans h.pw,(h2 _ (ZW h.pc) (by omega)).trans h.pc,z,o,e,y⟩
theorem QJ.setC (h:QJ w wr R L W C l a b c d f g k n s) {k' n':Int} {s':List UInt8} (hx:wx.heap[C]?=some (.cells #[.int .i64 k',.int .i64 n',.string (za s')] 24 (0,0))) (h2:∀j,j≠C→wx.heap[j]?=wr.heap[j]?) (h3:Below C wr wx):QJ w wx R L W C l a b c d f g k' n' s':=by
 have z:=h.hR;have o:=h.hL;have e:=h.hW;have y:=h.hC;exact ⟨h.below.trans (h3.mono (by omega)),(h2 _ (by omega)).trans h.pr,(h2 _ (by omega)).trans h.pl,(h2 _ (by omega)).trans h.pw,hx,z,o,e,y⟩
theorem QJ.setN (h:QJ w wr R L W C l a b c d f g k n s) (n':Int):QJ w (wr.setCell ⟨C,1,none⟩ (.int .i64 n')) R L W C l a b c d f g k n' s :=
 h.setC (Yk h.pc _) (fun _ hj=>Below.heap_setCell _ _ _ _ hj) ((Below.refl C wr).setCell (p:=⟨C,1,none⟩) (Nat.le_refl _) _)
theorem QJ.setS (h:QJ w wr R L W C l a b c d f g k n s) (s':List UInt8):QJ w (wr.setCell ⟨C,2,none⟩ (.string (za s'))) R L W C l a b c d f g k n s' :=
 h.setC (Yk h.pc _) (fun _ hj=>Below.heap_setCell _ _ _ _ hj) ((Below.refl C wr).setCell (p:=⟨C,2,none⟩) (Nat.le_refl _) _)
end
theorem vM (t:List UInt8) (g:Nat) (r:Wq) (w:World) (h:w.cell? ⟨g,0,none⟩=some (.string (za t))) :
  Calls Tryz.prog 38 #[wV r,.pointer (some ⟨g,0,none⟩)] w fun e w'=>e=.returned (.bool (decide (r.2.1=t)))∧Below w.heap.size w w':=by
 obtain ⟨a,b,c,d,e,f⟩:=r
 unfold wV
 have y:g<w.heap.size:=World.block_lt_of_cell? w _ h;have A:∀o,(w.alloc o).cell? ⟨g,0,none⟩=some (.string (za t)):=fun o=>by rw [World.cell?_alloc_lt _ _ _ y];exact h
 clear h
 by_cases hbt:b=t
 ·subst hbt
  go_enter Tryz.func38,Tryz.ntmps38
  go_wp2
  go_ret
  exact ⟨by simp,(Below.refl _ w).alloc (Nat.le_refl _) _⟩
 ·have z:¬ (za b)=za t:=fun h=>hbt (by have:=congrArg (fun x=>x.data.toList) h;simpa using this)
  go_enter Tryz.func38,Tryz.ntmps38
  go_wp2
  go_ret
  exact ⟨by simp [hbt],(Below.refl _ w).alloc (Nat.le_refl _) _⟩
theorem vN (l:List UInt8) (w:World) (hl:l.length≤10000000) (hQ:QT w) :
  Calls Tryz.prog 14 #[.string (za l)] w fun e w'=>((∃k n s,z7 l=(k,n,s)∧yG yt k n s∧yJ k n s=l∧e=.returned (.tuple #[Zz k n s,.int .i64 0]))∨(∀k n s,z7 l=(k,n,s)→¬ (yG yt k n s∧yJ k n s=l))∧e=.returned (.tuple #[Zz 0 0 [],.int .i64 6]))∧Below w.heap.size w w':=by
 have HQ:Hid (QT w):=hQ;have HL:Hid (l.length≤10000000):=hl;have aI:∀(fn:Fn) (first cap:Array Value) (w:World),(Instr.makeFunc fn first cap).run Tryz.prog w=.ok (.func fn first cap) w:=fun _ _ _ _=>rfl
 obtain ⟨w1,aj,E,Q,p0,p1⟩:=XN w (.cells #[.int .i64 0,.int .i64 0,.string ⟨#[]⟩] 24 (0,0)) (.cells #[.string (za l)] 9 (0,0));have U:=Xo (w.heap.size+1) l w1 (by omega) p1
 have HP:Hid (Below w.heap.size w w1∧w1.heap.size=w.heap.size+2∧w1.heap[w.heap.size]?=some (.cells #[.int .i64 0,.int .i64 0,.string ⟨#[]⟩] 24 (0,0))):=⟨E,Q,p0⟩;have aw:=aj.symm;clear hQ hl E aj p0 Q p1
 go_enter Tryz.func14,Tryz.ntmps14
 go_wp2_with fail
 refine U.mono ?_;clear U aw;rintro e w2 ⟨rfl,ag,av,aa⟩;obtain ⟨E,Q,p0⟩:=HP.out;have aF:=aa.size;have ae:w2.heap[w.heap.size]?=_:=(av _ (by omega) (by omega)).trans p0
 obtain ⟨w3,al,y,aD,p3⟩:=yn w2 (.cells #[.string (za (zP l).1)] 9 (0,0));have cf:=V0 (fun r=>decide (r.2.1=(zP l).1)) w2.heap.size w3 fun r W hW=>vM (zP l).1 w2.heap.size r W ((Yx hW (by omega)).trans (zN p3).1)
 have ao:Hid (Below w.heap.size w w3∧w3.heap[w.heap.size]?=some (.cells #[.int .i64 0,.int .i64 0,.string ⟨#[]⟩] 24 (0,0))∧w3.heap[w.heap.size+1]?=some (.cells #[.string (za (zP l).2)] 9 (0,0))) :=
  ⟨Zw (E.trans (aa.mono (by omega))) y,(y.block _ (ZW ae)).trans ae,(y.block _ (ZW ag)).trans ag⟩
 have ax:=al.symm;clear ag av aa E Q p0 aF ae al y aD p3 HP;go_wp2_with fail
 refine cf.mono ?_;clear cf ax;rintro e w4 ⟨rfl,ab⟩;have G:Hid (z7 l=(let r:=ofWord (zP l).1;let D:=(zP l).2;let n:=if r.2.2.1=true then yH (zP D).1 else 0;let H:=if r.2.2.1=true then (zP D).2 else D;let K:=if r.2.2.2.2.2≠[] then (zP H).2 else H;(r.1,n,if r.2.2.2.2.1=true then K else []))):=rfl
 obtain ⟨P,hP⟩:∃P,P=(zP l).2:=⟨_,rfl⟩;have L:Hid (P.length≤10000000):=by show _≤_;have:=(YT l).2;have:=HL.out;rw [hP];omega
 have ai:=ao.out;rw [←hP] at G ai;have au:(findQ fun r=>decide (r.2.1=(zP l).1))=ofWord (zP l).1:=rfl
 rw [au];generalize ofWord (zP l).1=r at G ⊢;generalize w2.heap.size=F at *;obtain ⟨a,b,c,d,f,g⟩:=r
 unfold wV
 simp only at G ⊢;obtain ⟨y,pr,pl⟩:=ai;obtain ⟨w5,ak,ah,aE,p5,p6⟩:=XN w4 (.cells #[.int .i64 a,.string (za b),.bool c,.int .i64 d,.bool f,.string (za g)] 55 (0,0)) (.cells #[.int .i64 a,.int .i64 0,.string ⟨#[]⟩] 24 (0,0));have z:=Zw ab ah
 have J:QJ w w5 w.heap.size (w.heap.size+1) w4.heap.size (w4.heap.size+1) P a b c d f g a 0 [] :=
  ⟨Zw y z,(z.block _ (ZW pr)).trans pr,(z.block _ (ZW pl)).trans pl,p5,p6,Nat.le_refl _,by omega,by have:=ZW pl;have:=ab.size;omega,by omega⟩
 have o:Hid (QJ w w5 w.heap.size (w.heap.size+1) w4.heap.size (w4.heap.size+1) P a b c d f g a 0 []):=J;have ay:Hid (w5=(w4.alloc (.cells #[.int .i64 a,.string (za b),.bool c,.int .i64 d,.bool f,.string (za g)] 55 (0,0))).alloc (.cells #[.int .i64 a,.int .i64 0,.string ⟨#[]⟩] 24 (0,0))):=ak;clear ao hP au ab y pr pl ak ah aE p5 p6 z J
 go_upto_if 21 with fail
 rw [←ay.out];clear ay;generalize w4.heap.size=W at *;generalize HR:w.heap.size=R at *
 go_cut [22] (fun _ wx=>QJ w wx R (R+1) W (W+1) (if c=true then (zP P).2 else P) a b c d f g a (if c=true then yH (zP P).1 else 0) [])
 case first =>
  cases c with
  | true =>
   have J:=o.out;obtain ⟨V,D,H,K,r4,Z,-⟩:=zr J.pw;have U:=Xo (R+1) P w5 (by have:=L.out;omega) J.pl
   clear J;go_wp2_with fail
   refine U.mono ?_;clear U V D H K r4 Z;rintro e w6 ⟨rfl,h1,h2,h3⟩;have J6:=o.out.cut h1 h2 h3;have ca:=VZ (zP P).1 w6 (by have:=(YT P).1;have:=L.out;omega) (HQ.out.below J6.below)
   have aC:Hid (QJ w w6 R (R+1) W (W+1) (zP P).2 a b true d f g a 0 []):=J6;clear h1 h2 h3 J6;go_wp2_with fail
   refine ca.mono ?_;clear ca;rintro e w7 ⟨v,rfl,ar⟩;have J7:=aC.out.step ar;have aB:Hid (QJ w w7 R (R+1) W (W+1) (zP P).2 a b true d f g a 0 []):=J7;obtain ⟨q0,q1,q2,qf⟩:=zh J7.pc;clear ar J7;go_wp2_with fail
   go_meet
   exact aB.out.setN _
  | false =>
   have J:=o.out;obtain ⟨V,D,H,K,r4,Z,-⟩:=zr J.pw;clear J;go_wp2_with fail
   go_meet
   exact o.out
 case rest =>
  clear o;obtain ⟨P2,M⟩:∃P2,P2=if c=true then (zP P).2 else P:=⟨_,rfl⟩
  obtain ⟨N,hN⟩:∃N,N=if c=true then yH (zP P).1 else 0:=⟨_,rfl⟩
  have X:Hid (P2.length≤10000000):=by
   show _≤_
   have:=(YT P).2;have:=L.out
   rw [M];split <;> omega
  have az:Hid (z7 l=(a,N,if f=true then (if g≠[] then (zP P2).2 else P2) else [])):=by
   show _=_
   rw [G.out,M,hN]
  rw [←M,←hN] at hcut;have o:Hid (QJ w wc R (R+1) W (W+1) P2 a b c d f g a N []):=hcut;obtain ⟨V,D,H,K,r4,Z,-⟩:=zr hcut.pw;clear hcut M hN G L
  go_upto_if 31 with fail
  go_cut [32] (fun _ wx=>QJ w wx R (R+1) W (W+1) (if g≠[] then (zP P2).2 else P2) a b c d f g a N [])
  case first =>
   clear V D H K r4 Z;cases g with
   | nil =>
    have HF:Hid (QJ w wc R (R+1) W (W+1) (if ([]:List UInt8)≠[] then (zP P2).2 else P2) a b c d f [] a N []):=by
     show QJ _ _ _ _ _ _ _ _ _ _ _ _ _ _ _ _
     rw [if_neg (by simp)];exact o.out
    go_wp2_with fail
    go_meet
    exact HF.out
   | cons g0 gs =>
    have U:=Xo (R+1) P2 wc (by have:=X.out;omega) o.out.pl
    go_wp2_with fail
    refine U.mono ?_;clear U;rintro e w6 ⟨rfl,h1,h2,h3⟩
    have HF:Hid (QJ w w6 R (R+1) W (W+1) (if (g0::gs:List UInt8)≠[] then (zP P2).2 else P2) a b c d f (g0::gs) a N []):=by
     show QJ _ _ _ _ _ _ _ _ _ _ _ _ _ _ _ _
     rw [if_pos (by simp)];exact o.out.cut h1 h2 h3
    clear h1 h2 h3;go_wp2_with fail
    go_meet
    exact HF.out
  case rest =>
   clear o V D H K r4 Z;obtain ⟨I,af⟩:∃I,I=if g≠[] then (zP P2).2 else P2:=⟨_,rfl⟩
   have an:Hid (z7 l=(a,N,if f=true then I else [])):=by
    show _=_
    rw [az.out,af]
   rw [←af] at hcut;have o:Hid (QJ w wc R (R+1) W (W+1) I a b c d f g a N []):=hcut;obtain ⟨V,D,H,K,r4,Z,-⟩:=zr hcut.pw;clear hcut af az X
   go_upto_if 35 with fail
   go_cut [36] (fun _ wx=>QJ w wx R (R+1) W (W+1) I a b c d f g a N (if f=true then I else []))
   case first =>
    clear V D H K r4 Z;cases f with
    | false =>
     go_wp2_with fail
     go_meet
     exact o.out
    | true =>
     have J:=o.out;obtain ⟨l0,-⟩:=zN J.pl;obtain ⟨q0,q1,q2,qf⟩:=zh J.pc;clear J;go_wp2_with fail
     go_meet
     exact o.out.setS _
   case rest =>
    clear o V D H K r4 Z;obtain ⟨S,hS⟩:∃S,S=if f=true then I else []:=⟨_,rfl⟩
    have ad:Hid (z7 l=(a,N,S)):=by
     show _=_
     rw [an.out,hS]
    rw [←hS] at hcut;have o:Hid (QJ w wc R (R+1) W (W+1) I a b c d f g a N S):=hcut;obtain ⟨q0,q1,q2,-⟩:=zh hcut.pc;have cp:=xk a N S wc (HQ.out.below hcut.below).1
    unfold Zz at cp
    clear hcut hS an;go_wp2_with fail
    refine cp.mono ?_;clear cp q0 q1 q2;rintro e wd ⟨⟨ap,rfl⟩ | ⟨aA,rfl⟩,O⟩
    ·have A:Hid (QJ w wd R (R+1) W (W+1) I a b c d f g a N S):=o.out.step O
     have aq:Hid (yG yt a N S):=ap;obtain ⟨T,hT⟩:∃T,T=yJ a N S:=⟨_,rfl⟩;have HT:Hid (T=yJ a N S):=hT;rw [←hT];clear O ap hT o
     by_cases htl:T=l
     ·have aG:T=l:=htl
      subst htl;have aH:Hid (T.length≤10000000):=HL.out;obtain ⟨q0,q1,q2,-⟩:=zh A.out.pc;have ck:=xj S wd (by have:=xY aq.out;omega)
      clear aG;go_wp2_with fail
      refine ck.mono ?_;clear ck q0 q1 q2;rintro e we ⟨rfl,am⟩;have J3:=A.out.step am;have J4:=J3.setS S;obtain ⟨q0,q1,q2,qf⟩:=zh J3.pc;obtain ⟨m0,m1,m2,-⟩:=zh J4.pc;obtain ⟨e0,e1,e2,ef⟩:=zh J4.pr;obtain ⟨Y,z1,z2,-⟩:=zh (ZO J4.pr (.int .i64 a) (.int .i64 N) (.string (za S)));have HZ:Hid (Below w.heap.size w (ZI (we.setCell ⟨W+1,2,none⟩ (.string (za S))) R (.int .i64 a) (.int .i64 N) (.string (za S)))):=yd J4.below J4.hR _ _ _
      unfold ZI at Y z1 z2
      clear J3 J4 am A;go_wp2
      exact bodyPost_ret (v:=.tuple #[.agg #[.int .i64 a,.int .i64 N,.string (za S)],.int .i64 0]) (by simp [results,Tryz.results14,go_sem,Y,z1,z2]) rfl ⟨.inl ⟨a,N,S,ad.out,aq.out,HT.out.symm,rfl⟩,HZ.out⟩
     ·have aJ:(T==l)=false:=beq_eq_false_iff_ne.2 htl
      have HN:Hid (∀k n s,z7 l=(k,n,s)→¬ (yG yt k n s∧yJ k n s=l)):=fun k n s h ⟨_,h2⟩=>by
       rw [ad.out] at h;obtain ⟨rfl,rfl,rfl⟩:a=k∧N=n∧S=s:=by simpa using h
       exact htl (HT.out.trans h2)
      have J:=A.out;obtain ⟨Y,z1,z2,-⟩:=zh (ZO J.pr (.int .i64 0) (.int .i64 0) (.string ⟨#[]⟩));have HZ:Hid (Below w.heap.size w (ZI wd R (.int .i64 0) (.int .i64 0) (.string ⟨#[]⟩))):=yd J.below J.hR _ _ _;obtain ⟨e0,e1,e2,ef⟩:=zh J.pr
      unfold ZI at Y z1 z2
      clear J;go_wp2
      exact bodyPost_ret (v:=.tuple #[.agg #[.int .i64 0,.int .i64 0,.string ⟨#[]⟩],.int .i64 6]) (by simp [results,Tryz.results14,go_sem,Y,z1,z2]) rfl ⟨.inr ⟨HN.out,rfl⟩,HZ.out⟩
    ·have A:Hid (QJ w wd R (R+1) W (W+1) I a b c d f g a N S):=o.out.step O
     have HN:Hid (∀k n s,z7 l=(k,n,s)→¬ (yG yt k n s∧yJ k n s=l)):=fun k n s h ⟨h1,_⟩=>by
      rw [ad.out] at h;obtain ⟨rfl,rfl,rfl⟩:a=k∧N=n∧S=s:=by simpa using h
      exact aA h1
     clear O aA o;have J:=A.out;obtain ⟨Y,z1,z2,-⟩:=zh (ZO J.pr (.int .i64 0) (.int .i64 0) (.string ⟨#[]⟩));have HZ:Hid (Below w.heap.size w (ZI wd R (.int .i64 0) (.int .i64 0) (.string ⟨#[]⟩))):=yd J.below J.hR _ _ _;obtain ⟨e0,e1,e2,ef⟩:=zh J.pr
     unfold ZI at Y z1 z2
     clear J;go_wp2
     exact bodyPost_ret (v:=.tuple #[.agg #[.int .i64 0,.int .i64 0,.string ⟨#[]⟩],.int .i64 6]) (by simp [results,Tryz.results14,go_sem,Y,z1,z2]) rfl ⟨.inr ⟨HN.out,rfl⟩,HZ.out⟩
end Go.Proofs.YtmbofhpmockmbaaGreatDoor
