import Derived.Test.YtmbofhpmockmbaaGreatDoorQAtoi
import Derived.Test.YtmbofhpmockmbaaGreatDoorQPrint
import Derived.Test.YtmbofhpmockmbaaGreatDoorQFindT
namespace Go.Proofs.YtmbofhpmockmbaaGreatDoor
open Go.RowKit Go.Shelf
set_option maxHeartbeats 16000000
set_option maxRecDepth 100000
structure QJ (w wr:World) (R L W C:Nat) (l:List UInt8) (a:Int) (b:List UInt8) (c:Bool) (d:Int) (f:Bool) (g:List UInt8) (k n:Int) (s:List UInt8):Prop where
 below:Below w.heap.size w wr
 pr:wr.heap[R]?=some (.cells #[.int .i64 0,.int .i64 0,.string ⟨#[]⟩] 24 (0,0))
 pl:wr.heap[L]?=some (.cells #[.string (za l)] 9 (0,0))
 pw:wr.heap[W]?=some (.cells #[.int .i64 a,.string (za b),.bool c,.int .i64 d,.bool f,.string (za g)] 55 (0,0))
 pc:wr.heap[C]?=some (.cells #[.int .i64 k,.int .i64 n,.string (za s)] 24 (0,0))
 hR:w.heap.size≤R
 hL:R<L
 hW:L<W
 hC:W<C
section
variable {w wr wx:World} {R L W C:Nat} {l:List UInt8} {a:Int} {b:List UInt8} {c:Bool} {d:Int} {f:Bool} {g:List UInt8} {k n:Int} {s:List UInt8}
theorem QJ.step (h:QJ w wr R L W C l a b c d f g k n s) (hb:Below wr.heap.size wr wx):QJ w wx R L W C l a b c d f g k n s :=
 ⟨Zs h.below hb,(hb.block _ (yq h.pr)).trans h.pr,(hb.block _ (yq h.pl)).trans h.pl,(hb.block _ (yq h.pw)).trans h.pw,(hb.block _ (yq h.pc)).trans h.pc,h.hR,h.hL,h.hW,h.hC⟩
theorem QJ.cut (h:QJ w wr R L W C l a b c d f g k n s) {l':List UInt8} (h1:wx.heap[L]?=some (.cells #[.string (za l')] 9 (0,0))) (h2:∀j,j<wr.heap.size→j≠L→wx.heap[j]?=wr.heap[j]?) (h3:Below L wr wx):QJ w wx R L W C l' a b c d f g k n s:=by
 have y:=h.hR;have x:=h.hL;have e:=h.hW;have o:=h.hC;exact ⟨h.below.trans (h3.mono (by omega)),(h2 _ (yq h.pr) (by omega)).trans h.pr,h1,(h2 _ (yq h.pw) (by omega)).trans h.pw,(h2 _ (yq h.pc) (by omega)).trans h.pc,y,x,e,o⟩
theorem QJ.setC (h:QJ w wr R L W C l a b c d f g k n s) {k' n':Int} {s':List UInt8} (hx:wx.heap[C]?=some (.cells #[.int .i64 k',.int .i64 n',.string (za s')] 24 (0,0))) (h2:∀j,j≠C→wx.heap[j]?=wr.heap[j]?) (h3:Below C wr wx):QJ w wx R L W C l a b c d f g k' n' s':=by
 have y:=h.hR;have x:=h.hL;have e:=h.hW;have o:=h.hC;exact ⟨h.below.trans (h3.mono (by omega)),(h2 _ (by omega)).trans h.pr,(h2 _ (by omega)).trans h.pl,(h2 _ (by omega)).trans h.pw,hx,y,x,e,o⟩
theorem QJ.setN (h:QJ w wr R L W C l a b c d f g k n s) (n':Int):QJ w (wr.setCell ⟨C,1,none⟩ (.int .i64 n')) R L W C l a b c d f g k n' s :=
 h.setC (yL h.pc _) (fun _ hj=>Below.heap_setCell _ _ _ _ hj) ((Below.refl C wr).setCell (p:=⟨C,1,none⟩) (Nat.le_refl _) _)
theorem QJ.setS (h:QJ w wr R L W C l a b c d f g k n s) (s':List UInt8):QJ w (wr.setCell ⟨C,2,none⟩ (.string (za s'))) R L W C l a b c d f g k n s' :=
 h.setC (yL h.pc _) (fun _ hj=>Below.heap_setCell _ _ _ _ hj) ((Below.refl C wr).setCell (p:=⟨C,2,none⟩) (Nat.le_refl _) _)
end
theorem Xz (t:List UInt8) (g:Nat) (r:Wq) (w:World) (h:w.cell? ⟨g,0,none⟩=some (.string (za t))) :
  Calls Tryz.prog 38 #[wV r,.pointer (some ⟨g,0,none⟩)] w fun e w'=>e=.returned (.bool (decide (r.2.1=t)))∧Below w.heap.size w w':=by
 obtain ⟨a,b,c,d,e,f⟩:=r
 unfold wV
 have z:g<w.heap.size:=World.block_lt_of_cell? w _ h;have A:∀o,(w.alloc o).cell? ⟨g,0,none⟩=some (.string (za t)):=fun o=>by rw [World.cell?_alloc_lt _ _ _ z];exact h
 clear h
 by_cases hbt:b=t
 ·subst hbt
  go_enter Tryz.func38,Tryz.ntmps38
  go_wp2
  go_ret
  exact ⟨by simp,(Below.refl _ w).alloc (Nat.le_refl _) _⟩
 ·have y:¬ (za b)=za t:=fun h=>hbt (by have:=congrArg (fun x=>x.data.toList) h;simpa using this)
  go_enter Tryz.func38,Tryz.ntmps38
  go_wp2
  go_ret
  exact ⟨by simp [hbt],(Below.refl _ w).alloc (Nat.le_refl _) _⟩
theorem yC (l:List UInt8) (w:World) (hl:l.length≤10000000) (hQ:QT w) :
  Calls Tryz.prog 14 #[.string (za l)] w fun e w'=>((∃k n s,zB l=(k,n,s)∧ZG ZN k n s∧Zt k n s=l∧e=.returned (.tuple #[ZS k n s,.int .i64 0]))∨(∀k n s,zB l=(k,n,s)→¬ (ZG ZN k n s∧Zt k n s=l))∧e=.returned (.tuple #[ZS 0 0 [],.int .i64 6]))∧Below w.heap.size w w':=by
 have HQ:Hid (QT w):=hQ;have HL:Hid (l.length≤10000000):=hl;have aI:∀(fn:Fn) (first cap:Array Value) (w:World),(Instr.makeFunc fn first cap).run Tryz.prog w=.ok (.func fn first cap) w:=fun _ _ _ _=>rfl
 obtain ⟨w1,am,D,K,p0,p1⟩:=vU w (.cells #[.int .i64 0,.int .i64 0,.string ⟨#[]⟩] 24 (0,0)) (.cells #[.string (za l)] 9 (0,0));have cc:=xr (w.heap.size+1) l w1 (by omega) p1
 have HP:Hid (Below w.heap.size w w1∧w1.heap.size=w.heap.size+2∧w1.heap[w.heap.size]?=some (.cells #[.int .i64 0,.int .i64 0,.string ⟨#[]⟩] 24 (0,0))):=⟨D,K,p0⟩;have aA:=am.symm;clear hQ hl D am p0 K p1
 go_enter Tryz.func14,Tryz.ntmps14
 go_wp2_with fail
 refine cc.mono ?_;clear cc aA;rintro e w2 ⟨rfl,af,av,ab⟩;obtain ⟨D,K,p0⟩:=HP.out;have aF:=ab.size;have ae:w2.heap[w.heap.size]?=_:=(av _ (by omega) (by omega)).trans p0
 obtain ⟨w3,ai,x,aC,p3⟩:=yd w2 (.cells #[.string (za (zH l).1)] 9 (0,0));have cf:=vA (fun r=>decide (r.2.1=(zH l).1)) w2.heap.size w3 fun r W hW=>Xz (zH l).1 w2.heap.size r W ((yU hW (by omega)).trans (zL p3).1)
 have aq:Hid (Below w.heap.size w w3∧w3.heap[w.heap.size]?=some (.cells #[.int .i64 0,.int .i64 0,.string ⟨#[]⟩] 24 (0,0))∧w3.heap[w.heap.size+1]?=some (.cells #[.string (za (zH l).2)] 9 (0,0))) :=
  ⟨Zs (D.trans (ab.mono (by omega))) x,(x.block _ (yq ae)).trans ae,(x.block _ (yq af)).trans af⟩
 have ar:=ai.symm;clear af av ab D K p0 aF ae ai x aC p3 HP;go_wp2_with fail
 refine cf.mono ?_;clear cf ar;rintro e w4 ⟨rfl,ad⟩;have E:Hid (zB l=(let r:=ofWord (zH l).1;let A:=(zH l).2;let n:=if r.2.2.1=true then Z1 (zH A).1 else 0;let G:=if r.2.2.1=true then (zH A).2 else A;let H:=if r.2.2.2.2.2≠[] then (zH G).2 else G;(r.1,n,if r.2.2.2.2.1=true then H else []))):=rfl
 obtain ⟨P,hP⟩:∃P,P=(zH l).2:=⟨_,rfl⟩;have O:Hid (P.length≤10000000):=by show _≤_;have:=(Yc l).2;have:=HL.out;rw [hP];omega
 have aw:=aq.out;rw [←hP] at E aw;have ay:(findQ fun r=>decide (r.2.1=(zH l).1))=ofWord (zH l).1:=rfl
 rw [ay];generalize ofWord (zH l).1=r at E ⊢;generalize w2.heap.size=F at *;obtain ⟨a,b,c,d,f,g⟩:=r
 unfold wV
 simp only at E ⊢;obtain ⟨x,pr,pl⟩:=aw;obtain ⟨w5,ao,ap,aD,p5,p6⟩:=vU w4 (.cells #[.int .i64 a,.string (za b),.bool c,.int .i64 d,.bool f,.string (za g)] 55 (0,0)) (.cells #[.int .i64 a,.int .i64 0,.string ⟨#[]⟩] 24 (0,0));have y:=Zs ad ap
 have J:QJ w w5 w.heap.size (w.heap.size+1) w4.heap.size (w4.heap.size+1) P a b c d f g a 0 [] :=
  ⟨Zs x y,(y.block _ (yq pr)).trans pr,(y.block _ (yq pl)).trans pl,p5,p6,Nat.le_refl _,by omega,by have:=yq pl;have:=ad.size;omega,by omega⟩
 have o:Hid (QJ w w5 w.heap.size (w.heap.size+1) w4.heap.size (w4.heap.size+1) P a b c d f g a 0 []):=J;have al:Hid (w5=(w4.alloc (.cells #[.int .i64 a,.string (za b),.bool c,.int .i64 d,.bool f,.string (za g)] 55 (0,0))).alloc (.cells #[.int .i64 a,.int .i64 0,.string ⟨#[]⟩] 24 (0,0))):=ao;clear aq hP ay ad x pr pl ao ap aD p5 p6 y J
 go_upto_if 21 with fail
 rw [←al.out];clear al;generalize w4.heap.size=W at *;generalize HR:w.heap.size=R at *
 go_cut [22] (fun _ wx=>QJ w wx R (R+1) W (W+1) (if c=true then (zH P).2 else P) a b c d f g a (if c=true then Z1 (zH P).1 else 0) [])
 case first =>
  cases c with
  | true =>
   have J:=o.out;obtain ⟨r0,A,G,H,Z,V,-⟩:=zq J.pw;have cc:=xr (R+1) P w5 (by have:=O.out;omega) J.pl
   clear J;go_wp2_with fail
   refine cc.mono ?_;clear cc r0 A G H Z V;rintro e w6 ⟨rfl,h1,h2,h3⟩;have J6:=o.out.cut h1 h2 h3;have ca:=vz (zH P).1 w6 (by have:=(Yc P).1;have:=O.out;omega) (HQ.out.below J6.below)
   have aG:Hid (QJ w w6 R (R+1) W (W+1) (zH P).2 a b true d f g a 0 []):=J6;clear h1 h2 h3 J6;go_wp2_with fail
   refine ca.mono ?_;clear ca;rintro e w7 ⟨v,rfl,an⟩;have J7:=aG.out.step an;have aE:Hid (QJ w w7 R (R+1) W (W+1) (zH P).2 a b true d f g a 0 []):=J7;obtain ⟨q0,q1,q2,qf⟩:=zp J7.pc;clear an J7;go_wp2_with fail
   go_meet
   exact aE.out.setN _
  | false =>
   have J:=o.out;obtain ⟨r0,A,G,H,Z,V,-⟩:=zq J.pw;clear J;go_wp2_with fail
   go_meet
   exact o.out
 case rest =>
  clear o;obtain ⟨P2,M⟩:∃P2,P2=if c=true then (zH P).2 else P:=⟨_,rfl⟩
  obtain ⟨N,hN⟩:∃N,N=if c=true then Z1 (zH P).1 else 0:=⟨_,rfl⟩
  have Y:Hid (P2.length≤10000000):=by
   show _≤_
   have:=(Yc P).2;have:=O.out
   rw [M];split <;> omega
  have ah:Hid (zB l=(a,N,if f=true then (if g≠[] then (zH P2).2 else P2) else [])):=by
   show _=_
   rw [E.out,M,hN]
  rw [←M,←hN] at hcut;have o:Hid (QJ w wc R (R+1) W (W+1) P2 a b c d f g a N []):=hcut;obtain ⟨r0,A,G,H,Z,V,-⟩:=zq hcut.pw;clear hcut M hN E O
  go_upto_if 31 with fail
  go_cut [32] (fun _ wx=>QJ w wx R (R+1) W (W+1) (if g≠[] then (zH P2).2 else P2) a b c d f g a N [])
  case first =>
   clear r0 A G H Z V;cases g with
   | nil =>
    have HF:Hid (QJ w wc R (R+1) W (W+1) (if ([]:List UInt8)≠[] then (zH P2).2 else P2) a b c d f [] a N []):=by
     show QJ _ _ _ _ _ _ _ _ _ _ _ _ _ _ _ _
     rw [if_neg (by simp)];exact o.out
    go_wp2_with fail
    go_meet
    exact HF.out
   | cons g0 gs =>
    have cc:=xr (R+1) P2 wc (by have:=Y.out;omega) o.out.pl
    go_wp2_with fail
    refine cc.mono ?_;clear cc;rintro e w6 ⟨rfl,h1,h2,h3⟩
    have HF:Hid (QJ w w6 R (R+1) W (W+1) (if (g0::gs:List UInt8)≠[] then (zH P2).2 else P2) a b c d f (g0::gs) a N []):=by
     show QJ _ _ _ _ _ _ _ _ _ _ _ _ _ _ _ _
     rw [if_pos (by simp)];exact o.out.cut h1 h2 h3
    clear h1 h2 h3;go_wp2_with fail
    go_meet
    exact HF.out
  case rest =>
   clear o r0 A G H Z V;obtain ⟨I,aa⟩:∃I,I=if g≠[] then (zH P2).2 else P2:=⟨_,rfl⟩
   have az:Hid (zB l=(a,N,if f=true then I else [])):=by
    show _=_
    rw [ah.out,aa]
   rw [←aa] at hcut;have o:Hid (QJ w wc R (R+1) W (W+1) I a b c d f g a N []):=hcut;obtain ⟨r0,A,G,H,Z,V,-⟩:=zq hcut.pw;clear hcut aa ah Y
   go_upto_if 35 with fail
   go_cut [36] (fun _ wx=>QJ w wx R (R+1) W (W+1) I a b c d f g a N (if f=true then I else []))
   case first =>
    clear r0 A G H Z V;cases f with
    | false =>
     go_wp2_with fail
     go_meet
     exact o.out
    | true =>
     have J:=o.out;obtain ⟨l0,-⟩:=zL J.pl;obtain ⟨q0,q1,q2,qf⟩:=zp J.pc;clear J;go_wp2_with fail
     go_meet
     exact o.out.setS _
   case rest =>
    clear o r0 A G H Z V;obtain ⟨S,hS⟩:∃S,S=if f=true then I else []:=⟨_,rfl⟩
    have ag:Hid (zB l=(a,N,S)):=by
     show _=_
     rw [az.out,hS]
    rw [←hS] at hcut;have o:Hid (QJ w wc R (R+1) W (W+1) I a b c d f g a N S):=hcut;obtain ⟨q0,q1,q2,-⟩:=zp hcut.pc;have cp:=yb a N S wc (HQ.out.below hcut.below).1
    unfold ZS at cp
    clear hcut hS az;go_wp2_with fail
    refine cp.mono ?_;clear cp q0 q1 q2;rintro e wd ⟨⟨aj,rfl⟩ | ⟨ak,rfl⟩,L⟩
    ·have z:Hid (QJ w wd R (R+1) W (W+1) I a b c d f g a N S):=o.out.step L
     have au:Hid (ZG ZN a N S):=aj;obtain ⟨T,hT⟩:∃T,T=Zt a N S:=⟨_,rfl⟩;have HT:Hid (T=Zt a N S):=hT;rw [←hT];clear L aj hT o
     by_cases htl:T=l
     ·have aB:T=l:=htl
      subst htl;have aJ:Hid (T.length≤10000000):=HL.out;obtain ⟨q0,q1,q2,-⟩:=zp z.out.pc;have ck:=Yx S wd (by have:=yS au.out;omega)
      clear aB;go_wp2_with fail
      refine ck.mono ?_;clear ck q0 q1 q2;rintro e we ⟨rfl,ax⟩;have J3:=z.out.step ax;have J4:=J3.setS S;obtain ⟨q0,q1,q2,qf⟩:=zp J3.pc;obtain ⟨m0,m1,m2,-⟩:=zp J4.pc;obtain ⟨e0,e1,e2,ef⟩:=zp J4.pr;obtain ⟨U,Q,X,-⟩:=zp (yj J4.pr (.int .i64 a) (.int .i64 N) (.string (za S)));have HZ:Hid (Below w.heap.size w (yV (we.setCell ⟨W+1,2,none⟩ (.string (za S))) R (.int .i64 a) (.int .i64 N) (.string (za S)))):=yk J4.below J4.hR _ _ _
      unfold yV at U Q X
      clear J3 J4 ax z;go_wp2
      exact bodyPost_ret (v:=.tuple #[.agg #[.int .i64 a,.int .i64 N,.string (za S)],.int .i64 0]) (by simp [results,Tryz.results14,go_sem,U,Q,X]) rfl ⟨.inl ⟨a,N,S,ag.out,au.out,HT.out.symm,rfl⟩,HZ.out⟩
     ·have aH:(T==l)=false:=beq_eq_false_iff_ne.2 htl
      have HN:Hid (∀k n s,zB l=(k,n,s)→¬ (ZG ZN k n s∧Zt k n s=l)):=fun k n s h ⟨_,h2⟩=>by
       rw [ag.out] at h;obtain ⟨rfl,rfl,rfl⟩:a=k∧N=n∧S=s:=by simpa using h
       exact htl (HT.out.trans h2)
      have J:=z.out;obtain ⟨U,Q,X,-⟩:=zp (yj J.pr (.int .i64 0) (.int .i64 0) (.string ⟨#[]⟩));have HZ:Hid (Below w.heap.size w (yV wd R (.int .i64 0) (.int .i64 0) (.string ⟨#[]⟩))):=yk J.below J.hR _ _ _;obtain ⟨e0,e1,e2,ef⟩:=zp J.pr
      unfold yV at U Q X
      clear J;go_wp2
      exact bodyPost_ret (v:=.tuple #[.agg #[.int .i64 0,.int .i64 0,.string ⟨#[]⟩],.int .i64 6]) (by simp [results,Tryz.results14,go_sem,U,Q,X]) rfl ⟨.inr ⟨HN.out,rfl⟩,HZ.out⟩
    ·have z:Hid (QJ w wd R (R+1) W (W+1) I a b c d f g a N S):=o.out.step L
     have HN:Hid (∀k n s,zB l=(k,n,s)→¬ (ZG ZN k n s∧Zt k n s=l)):=fun k n s h ⟨h1,_⟩=>by
      rw [ag.out] at h;obtain ⟨rfl,rfl,rfl⟩:a=k∧N=n∧S=s:=by simpa using h
      exact ak h1
     clear L ak o;have J:=z.out;obtain ⟨U,Q,X,-⟩:=zp (yj J.pr (.int .i64 0) (.int .i64 0) (.string ⟨#[]⟩));have HZ:Hid (Below w.heap.size w (yV wd R (.int .i64 0) (.int .i64 0) (.string ⟨#[]⟩))):=yk J.below J.hR _ _ _;obtain ⟨e0,e1,e2,ef⟩:=zp J.pr
     unfold yV at U Q X
     clear J;go_wp2
     exact bodyPost_ret (v:=.tuple #[.agg #[.int .i64 0,.int .i64 0,.string ⟨#[]⟩],.int .i64 6]) (by simp [results,Tryz.results14,go_sem,U,Q,X]) rfl ⟨.inr ⟨HN.out,rfl⟩,HZ.out⟩
end Go.Proofs.YtmbofhpmockmbaaGreatDoor
