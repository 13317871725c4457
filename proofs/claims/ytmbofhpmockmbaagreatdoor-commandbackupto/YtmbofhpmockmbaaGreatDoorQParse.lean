import Derived.Test.YtmbofhpmockmbaaGreatDoorQAtoi
import Derived.Test.YtmbofhpmockmbaaGreatDoorQPrint
import Derived.Test.YtmbofhpmockmbaaGreatDoorQFindT
namespace Go.Proofs.YtmbofhpmockmbaaGreatDoor
open Go.RowKit Go.Shelf
set_option maxHeartbeats 16000000
set_option maxRecDepth 100000
structure QJ (w wr:World) (R L W C:Nat) (l:List UInt8) (a:Int) (b:List UInt8) (c:Bool) (d:Int) (f:Bool) (g:List UInt8) (k n:Int) (s:List UInt8):Prop where
 below:Below w.heap.size w wr
 pr:wr.heap[R]?=some (.cells #[.int .i64 0,.int .i64 0,.string ⟨#[]⟩] 24 (0,0))
 pl:wr.heap[L]?=some (.cells #[.string (za l)] 9 (0,0))
 pw:wr.heap[W]?=some (.cells #[.int .i64 a,.string (za b),.bool c,.int .i64 d,.bool f,.string (za g)] 55 (0,0))
 pc:wr.heap[C]?=some (.cells #[.int .i64 k,.int .i64 n,.string (za s)] 24 (0,0))
 hR:w.heap.size≤R
 hL:R<L
 hW:L<W
 hC:W<C
section
variable {w wr wx:World} {R L W C:Nat} {l:List UInt8} {a:Int} {b:List UInt8} {c:Bool} {d:Int} {f:Bool} {g:List UInt8} {k n:Int} {s:List UInt8}
theorem QJ.step (h:QJ w wr R L W C l a b c d f g k n s) (hb:Below wr.heap.size wr wx):QJ w wx R L W C l a b c d f g k n s :=
 ⟨Zs h.below hb,(hb.block _ (yq h.pr)).trans h.pr,(hb.block _ (yq h.pl)).trans h.pl,(hb.block _ (yq h.pw)).trans h.pw,(hb.block _ (yq h.pc)).trans h.pc,h.hR,h.hL,h.hW,h.hC⟩
theorem QJ.cut (h:QJ w wr R L W C l a b c d f g k n s) {l':List UInt8} (h1:wx.heap[L]?=some (.cells #[.string (za l')] 9 (0,0))) (h2:∀j,j<wr.heap.size→j≠L→wx.heap[j]?=wr.heap[j]?) (h3:Below L wr wx):QJ w wx R L W C l' a b c d f g k n s:=by
 have e:=h.hR;have o:=h.hL;have x:=h.hW;have y:=h.hC;exact ⟨h.below.trans (h3.mono (by omega)),(h2 _ (yq h.pr) (by omega)).trans h.pr,h1,(h2 _ (yq h.pw) (by omega)).trans h.pw,(h2 _ (yq h.pc) (by omega)).trans h.pc,e,o,x,y⟩
theorem QJ.setC (h:QJ w wr R L W C l a b c d f g k n s) {k' n':Int} {s':List UInt8} (hx:wx.heap[C]?=some (.cells #[.int .i64 k',.int .i64 n',.string (za s')] 24 (0,0))) (h2:∀j,j≠C→wx.heap[j]?=wr.heap[j]?) (h3:Below C wr wx):QJ w wx R L W C l a b c d f g k' n' s':=by
 have e:=h.hR;have o:=h.hL;have x:=h.hW;have y:=h.hC;exact ⟨h.below.trans (h3.mono (by omega)),(h2 _ (by omega)).trans h.pr,(h2 _ (by omega)).trans h.pl,(h2 _ (by omega)).trans h.pw,hx,e,o,x,y⟩
theorem QJ.setN (h:QJ w wr R L W C l a b c d f g k n s) (n':Int):QJ w (wr.setCell ⟨C,1,none⟩ (.int .i64 n')) R L W C l a b c d f g k n' s :=
 h.setC (yL h.pc _) (fun _ hj=>Below.heap_setCell _ _ _ _ hj) ((Below.refl C wr).setCell (p:=⟨C,1,none⟩) (Nat.le_refl _) _)
theorem QJ.setS (h:QJ w wr R L W C l a b c d f g k n s) (s':List UInt8):QJ w (wr.setCell ⟨C,2,none⟩ (.string (za s'))) R L W C l a b c d f g k n s' :=
 h.setC (yL h.pc _) (fun _ hj=>Below.heap_setCell _ _ _ _ hj) ((Below.refl C wr).setCell (p:=⟨C,2,none⟩) (Nat.le_refl _) _)
end
theorem Xz (t:List UInt8) (g:Nat) (r:Wq) (w:World) (h:w.cell? ⟨g,0,none⟩=some (.string (za t))) :
  Calls Tryz.prog 38 #[wV r,.pointer (some ⟨g,0,none⟩)] w fun e w'=>e=.returned (.bool (decide (r.2.1=t)))∧Below w.heap.size w w':=by
 obtain ⟨a,b,c,d,e,f⟩:=r
 unfold wV
 have y:g<w.heap.size:=World.block_lt_of_cell? w _ h;have A:∀o,(w.alloc o).cell? ⟨g,0,none⟩=some (.string (za t)):=fun o=>by rw [World.cell?_alloc_lt _ _ _ y];exact h
 clear h
 by_cases hbt:b=t
 ·subst hbt
  go_enter Tryz.func38,Tryz.ntmps38
  go_wp2
  go_ret
  exact ⟨by simp,(Below.refl _ w).alloc (Nat.le_refl _) _⟩
 ·have z:¬ (za b)=za t:=fun h=>hbt (by have:=congrArg (fun x=>x.data.toList) h;simpa using this)
  go_enter Tryz.func38,Tryz.ntmps38
  go_wp2
  go_ret
  exact ⟨by simp [hbt],(Below.refl _ w).alloc (Nat.le_refl _) _⟩
theorem yC (l:List UInt8) (w:World) (hl:l.length≤10000000) (hQ:QT w) :
  Calls Tryz.prog 14 #[.string (za l)] w fun e w'=>((∃k n s,zB l=(k,n,s)∧ZG ZN k n s∧Zt k n s=l∧e=.returned (.tuple #[ZS k n s,.int .i64 0]))∨(∀k n s,zB l=(k,n,s)→¬ (ZG ZN k n s∧Zt k n s=l))∧e=.returned (.tuple #[ZS 0 0 [],.int .i64 6]))∧Below w.heap.size w w':=by
 have HQ:Hid (QT w):=hQ;have HL:Hid (l.length≤10000000):=hl;have aJ:∀(fn:Fn) (first cap:Array Value) (w:World),(Instr.makeFunc fn first cap).run Tryz.prog w=.ok (.func fn first cap) w:=fun _ _ _ _=>rfl
 obtain ⟨w1,ap,E,O,p0,p1⟩:=vU w (.cells #[.int .i64 0,.int .i64 0,.string ⟨#[]⟩] 24 (0,0)) (.cells #[.string (za l)] 9 (0,0));have Z:=xr (w.heap.size+1) l w1 (by omega) p1
 have HP:Hid (Below w.heap.size w w1∧w1.heap.size=w.heap.size+2∧w1.heap[w.heap.size]?=some (.cells #[.int .i64 0,.int .i64 0,.string ⟨#[]⟩] 24 (0,0))):=⟨E,O,p0⟩;have ai:=ap.symm;clear hQ hl E ap p0 O p1
 go_enter Tryz.func14,Tryz.ntmps14
 go_wp2_with fail
 refine Z.mono ?_;clear Z ai;rintro e w2 ⟨rfl,ae,aq,ad⟩;obtain ⟨E,O,p0⟩:=HP.out;have aF:=ad.size;have aa:w2.heap[w.heap.size]?=_:=(aq _ (by omega) (by omega)).trans p0
 obtain ⟨w3,am,x,aE,p3⟩:=yd w2 (.cells #[.string (za (zH l).1)] 9 (0,0));have cf:=vA (fun r=>decide (r.2.1=(zH l).1)) w2.heap.size w3 fun r W hW=>Xz (zH l).1 w2.heap.size r W ((yU hW (by omega)).trans (zL p3).1)
 have az:Hid (Below w.heap.size w w3∧w3.heap[w.heap.size]?=some (.cells #[.int .i64 0,.int .i64 0,.string ⟨#[]⟩] 24 (0,0))∧w3.heap[w.heap.size+1]?=some (.cells #[.string (za (zH l).2)] 9 (0,0))) :=
  ⟨Zs (E.trans (ad.mono (by omega))) x,(x.block _ (yq aa)).trans aa,(x.block _ (yq ae)).trans ae⟩
 have au:=am.symm;clear ae aq ad E O p0 aF aa am x aE p3 HP;go_wp2_with fail
 refine cf.mono ?_;clear cf au;rintro e w4 ⟨rfl,ag⟩;have G:Hid (zB l=(let r:=ofWord (zH l).1;let A:=(zH l).2;let n:=if r.2.2.1=true then Z1 (zH A).1 else 0;let D:=if r.2.2.1=true then (zH A).2 else A;let I:=if r.2.2.2.2.2≠[] then (zH D).2 else D;(r.1,n,if r.2.2.2.2.1=true then I else []))):=rfl
 obtain ⟨P,hP⟩:∃P,P=(zH l).2:=⟨_,rfl⟩;have K:Hid (P.length≤10000000):=by show _≤_;have:=(Yc l).2;have:=HL.out;rw [hP];omega
 have ar:=az.out;rw [←hP] at G ar;have aA:(findQ fun r=>decide (r.2.1=(zH l).1))=ofWord (zH l).1:=rfl
 rw [aA];generalize ofWord (zH l).1=r at G ⊢;generalize w2.heap.size=F at *;obtain ⟨a,b,c,d,f,g⟩:=r
 unfold wV
 simp only at G ⊢;obtain ⟨x,pr,pl⟩:=ar;obtain ⟨w5,al,ah,aG,p5,p6⟩:=vU w4 (.cells #[.int .i64 a,.string (za b),.bool c,.int .i64 d,.bool f,.string (za g)] 55 (0,0)) (.cells #[.int .i64 a,.int .i64 0,.string ⟨#[]⟩] 24 (0,0));have y:=Zs ag ah
 have J:QJ w w5 w.heap.size (w.heap.size+1) w4.heap.size (w4.heap.size+1) P a b c d f g a 0 [] :=
  ⟨Zs x y,(y.block _ (yq pr)).trans pr,(y.block _ (yq pl)).trans pl,p5,p6,Nat.le_refl _,by omega,by have:=yq pl;have:=ag.size;omega,by omega⟩
 have o:Hid (QJ w w5 w.heap.size (w.heap.size+1) w4.heap.size (w4.heap.size+1) P a b c d f g a 0 []):=J;have ax:Hid (w5=(w4.alloc (.cells #[.int .i64 a,.string (za b),.bool c,.int .i64 d,.bool f,.string (za g)] 55 (0,0))).alloc (.cells #[.int .i64 a,.int .i64 0,.string ⟨#[]⟩] 24 (0,0))):=al;clear az hP aA ag x pr pl al ah aG p5 p6 y J
 go_upto_if 21 with fail
 rw [←ax.out];clear ax;generalize w4.heap.size=W at *;generalize HR:w.heap.size=R at *
 go_cut [22] (fun _ wx=>QJ w wx R (R+1) W (W+1) (if c=true then (zH P).2 else P) a b c d f g a (if c=true then Z1 (zH P).1 else 0) [])
 case first =>
  cases c with
  | true =>
   have J:=o.out;obtain ⟨r0,A,D,I,V,U,-⟩:=zq J.pw;have Z:=xr (R+1) P w5 (by have:=K.out;omega) J.pl
   clear J;go_wp2_with fail
   refine Z.mono ?_;clear Z r0 A D I V U;rintro e w6 ⟨rfl,h1,h2,h3⟩;have J6:=o.out.cut h1 h2 h3;have ca:=vz (zH P).1 w6 (by have:=(Yc P).1;have:=K.out;omega) (HQ.out.below J6.below)
   have aD:Hid (QJ w w6 R (R+1) W (W+1) (zH P).2 a b true d f g a 0 []):=J6;clear h1 h2 h3 J6;go_wp2_with fail
   refine ca.mono ?_;clear ca;rintro e w7 ⟨v,rfl,ak⟩;have J7:=aD.out.step ak;have aB:Hid (QJ w w7 R (R+1) W (W+1) (zH P).2 a b true d f g a 0 []):=J7;obtain ⟨q0,q1,q2,qf⟩:=zp J7.pc;clear ak J7;go_wp2_with fail
   go_meet
   exact aB.out.setN _
  | false =>
   have J:=o.out;obtain ⟨r0,A,D,I,V,U,-⟩:=zq J.pw;clear J;go_wp2_with fail
   go_meet
   exact o.out
 case rest =>
  clear o;obtain ⟨P2,M⟩:∃P2,P2=if c=true then (zH P).2 else P:=⟨_,rfl⟩
  obtain ⟨N,hN⟩:∃N,N=if c=true then Z1 (zH P).1 else 0:=⟨_,rfl⟩
  have Q:Hid (P2.length≤10000000):=by
   show _≤_
   have:=(Yc P).2;have:=K.out
   rw [M];split <;> omega
  have an:Hid (zB l=(a,N,if f=true then (if g≠[] then (zH P2).2 else P2) else [])):=by
   show _=_
   rw [G.out,M,hN]
  rw [←M,←hN] at hcut;have o:Hid (QJ w wc R (R+1) W (W+1) P2 a b c d f g a N []):=hcut;obtain ⟨r0,A,D,I,V,U,-⟩:=zq hcut.pw;clear hcut M hN G K
  go_upto_if 31 with fail
  go_cut [32] (fun _ wx=>QJ w wx R (R+1) W (W+1) (if g≠[] then (zH P2).2 else P2) a b c d f g a N [])
  case first =>
   clear r0 A D I V U;cases g with
   | nil =>
    have HF:Hid (QJ w wc R (R+1) W (W+1) (if ([]:List UInt8)≠[] then (zH P2).2 else P2) a b c d f [] a N []):=by
     show QJ _ _ _ _ _ _ _ _ _ _ _ _ _ _ _ _
     rw [if_neg (by simp)];exact o.out
    go_wp2_with fail
    go_meet
    exact HF.out
   | cons g0 gs =>
    have Z:=xr (R+1) P2 wc (by have:=Q.out;omega) o.out.pl
    go_wp2_with fail
    refine Z.mono ?_;clear Z;rintro e w6 ⟨rfl,h1,h2,h3⟩
    have HF:Hid (QJ w w6 R (R+1) W (W+1) (if (g0::gs:List UInt8)≠[] then (zH P2).2 else P2) a b c d f (g0::gs) a N []):=by
     show QJ _ _ _ _ _ _ _ _ _ _ _ _ _ _ _ _
     rw [if_pos (by simp)];exact o.out.cut h1 h2 h3
    clear h1 h2 h3;go_wp2_with fail
    go_meet
    exact HF.out
  case rest =>
   clear o r0 A D I V U;obtain ⟨H,ab⟩:∃H,H=if g≠[] then (zH P2).2 else P2:=⟨_,rfl⟩
   have ao:Hid (zB l=(a,N,if f=true then H else [])):=by
    show _=_
    rw [an.out,ab]
   rw [←ab] at hcut;have o:Hid (QJ w wc R (R+1) W (W+1) H a b c d f g a N []):=hcut;obtain ⟨r0,A,D,I,V,U,-⟩:=zq hcut.pw;clear hcut ab an Q
   go_upto_if 35 with fail
   go_cut [36] (fun _ wx=>QJ w wx R (R+1) W (W+1) H a b c d f g a N (if f=true then H else []))
   case first =>
    clear r0 A D I V U;cases f with
    | false =>
     go_wp2_with fail
     go_meet
     exact o.out
    | true =>
     have J:=o.out;obtain ⟨l0,-⟩:=zL J.pl;obtain ⟨q0,q1,q2,qf⟩:=zp J.pc;clear J;go_wp2_with fail
     go_meet
     exact o.out.setS _
   case rest =>
    clear o r0 A D I V U;obtain ⟨S,hS⟩:∃S,S=if f=true then H else []:=⟨_,rfl⟩
    have af:Hid (zB l=(a,N,S)):=by
     show _=_
     rw [ao.out,hS]
    rw [←hS] at hcut;have o:Hid (QJ w wc R (R+1) W (W+1) H a b c d f g a N S):=hcut;obtain ⟨q0,q1,q2,-⟩:=zp hcut.pc;have cp:=yb a N S wc (HQ.out.below hcut.below).1
    unfold ZS at cp
    clear hcut hS ao;go_wp2_with fail
    refine cp.mono ?_;clear cp q0 q1 q2;rintro e wd ⟨⟨av,rfl⟩ | ⟨ay,rfl⟩,L⟩
    ·have z:Hid (QJ w wd R (R+1) W (W+1) H a b c d f g a N S):=o.out.step L
     have aj:Hid (ZG ZN a N S):=av;obtain ⟨T,hT⟩:∃T,T=Zt a N S:=⟨_,rfl⟩;have HT:Hid (T=Zt a N S):=hT;rw [←hT];clear L av hT o
     by_cases htl:T=l
     ·have aC:T=l:=htl
      subst htl;have aI:Hid (T.length≤10000000):=HL.out;obtain ⟨q0,q1,q2,-⟩:=zp z.out.pc;have ck:=Yx S wd (by have:=yS aj.out;omega)
      clear aC;go_wp2_with fail
      refine ck.mono ?_;clear ck q0 q1 q2;rintro e we ⟨rfl,aw⟩;have J3:=z.out.step aw;have J4:=J3.setS S;obtain ⟨q0,q1,q2,qf⟩:=zp J3.pc;obtain ⟨m0,m1,m2,-⟩:=zp J4.pc;obtain ⟨e0,e1,e2,ef⟩:=zp J4.pr;obtain ⟨X,Y,z2,-⟩:=zp (yj J4.pr (.int .i64 a) (.int .i64 N) (.string (za S)));have HZ:Hid (Below w.heap.size w (yV (we.setCell ⟨W+1,2,none⟩ (.string (za S))) R (.int .i64 a) (.int .i64 N) (.string (za S)))):=yk J4.below J4.hR _ _ _
      unfold yV at X Y z2
      clear J3 J4 aw z;go_wp2
      exact bodyPost_ret (v:=.tuple #[.agg #[.int .i64 a,.int .i64 N,.string (za S)],.int .i64 0]) (by simp [results,Tryz.results14,go_sem,X,Y,z2]) rfl ⟨.inl ⟨a,N,S,af.out,aj.out,HT.out.symm,rfl⟩,HZ.out⟩
     ·have aH:(T==l)=false:=beq_eq_false_iff_ne.2 htl
      have HN:Hid (∀k n s,zB l=(k,n,s)→¬ (ZG ZN k n s∧Zt k n s=l)):=fun k n s h ⟨_,h2⟩=>by
       rw [af.out] at h;obtain ⟨rfl,rfl,rfl⟩:a=k∧N=n∧S=s:=by simpa using h
       exact htl (HT.out.trans h2)
      have J:=z.out;obtain ⟨X,Y,z2,-⟩:=zp (yj J.pr (.int .i64 0) (.int .i64 0) (.string ⟨#[]⟩));have HZ:Hid (Below w.heap.size w (yV wd R (.int .i64 0) (.int .i64 0) (.string ⟨#[]⟩))):=yk J.below J.hR _ _ _;obtain ⟨e0,e1,e2,ef⟩:=zp J.pr
      unfold yV at X Y z2
      clear J;go_wp2
      exact bodyPost_ret (v:=.tuple #[.agg #[.int .i64 0,.int .i64 0,.string ⟨#[]⟩],.int .i64 6]) (by simp [results,Tryz.results14,go_sem,X,Y,z2]) rfl ⟨.inr ⟨HN.out,rfl⟩,HZ.out⟩
    ·have z:Hid (QJ w wd R (R+1) W (W+1) H a b c d f g a N S):=o.out.step L
     have HN:Hid (∀k n s,zB l=(k,n,s)→¬ (ZG ZN k n s∧Zt k n s=l)):=fun k n s h ⟨h1,_⟩=>by
      rw [af.out] at h;obtain ⟨rfl,rfl,rfl⟩:a=k∧N=n∧S=s:=by simpa using h
      exact ay h1
     clear L ay o;have J:=z.out;obtain ⟨X,Y,z2,-⟩:=zp (yj J.pr (.int .i64 0) (.int .i64 0) (.string ⟨#[]⟩));have HZ:Hid (Below w.heap.size w (yV wd R (.int .i64 0) (.int .i64 0) (.string ⟨#[]⟩))):=yk J.below J.hR _ _ _;obtain ⟨e0,e1,e2,ef⟩:=zp J.pr
     unfold yV at X Y z2
     clear J;go_wp2
     exact bodyPost_ret (v:=.tuple #[.agg #[.int .i64 0,.int .i64 0,.string ⟨#[]⟩],.int .i64 6]) (by simp [results,Tryz.results14,go_sem,X,Y,z2]) rfl ⟨.inr ⟨HN.out,rfl⟩,HZ.out⟩
end Go.Proofs.YtmbofhpmockmbaaGreatDoor
